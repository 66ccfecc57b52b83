import PyProof.Rows.All
import Wide.All
import OpenK.AllK
import Wide.FinOn
import KE.SortData
import KE.SortKeyHeap
import KE.KeyNested
import PyProof.DictRoadsH
import PyProof.DictMoreH
import HandS.Base
import HandS.Call
import HandS.List
import HandS.Dict
import HandS.Iter
import HandS.DictTup
import HandS.TupLen
import HandS.OwnEq
import KE.KDictWalk
import HandS.DictComp
import HandS.Comp
import HandS.Conv
import KE.DataCmp
import HandS.ForMost
import HandS.Text
import HandS.Exc
import HandS.WordsExc
import HandS.ExcInit
import HandS.FStr
import HandS.ClsMeth
import HandS.ExcCtx
import KE.KExcIs
import HandS.ExcField
import HandS.IsInst
import HandS.Wide
import HandS.Words
import HandS.More
import HandS.Codes
import HandS.Walk
import HandS.RaiseMore
import HandS.TupAny
import HandS.Deep
import HandS.AnyAll
import KE.GoesNew
import KE.GoesMore
import PyProof.ListStr
import HandS.ExcOwn
import HandS.Defaults
import HandS.HotCalls
import HandS.Replace
import KE.KRevSl
import HandS.Ends
import PySem.Challenge.RW_figurehold_k06_texts_of_polynomials
set_option Elab.async false
set_option linter.all false
set_option maxRecDepth 100000
set_option maxHeartbeats 4000000
set_option autoImplicit false
/-! sorted over tuples, some of them perhaps empty; no program here. -/
namespace K6
open PySem PySem.Spec PySem.Calls PyProof.Rows PySem.W PySem.SeqAt
section
variable {prog : Program} {w : World} {A : Around} {s : Shared} {E : Value → Shared → Prop}
/-- tuple's own less-than -/
theorem tup_less {Q : Value → Shared → Prop} {p q : Addr} {us vs : Array Value} {e r : Nat → Bool} (hp : s.heap.IsTuple p us) (hq : s.heap.IsTuple q vs)
    (he : ∀ j (g1 : j < us.size) (g2 : j < vs.size), EqAt A.in1 s us[j] vs[j] (e j)) (hr : ∀ j (g1 : j < us.size) (g2 : j < vs.size), e j = false → RcLt A.in1 s us[j] vs[j] (r j))
    (fin : Q (.bool (firstLt e r (decide (us.size < vs.size)) (List.range (min us.size vs.size)))) s) : wpAny (model prog w) A (call (.builtin "tuple.__lt__") [.ref p, .ref q]) Q E s := by
  obtain ⟨⟨c1, d1, t1, l1⟩, m1, e1, n1, f1⟩ := id hp
  obtain ⟨⟨c2, d2, t2, l2⟩, m2, e2, n2, f2⟩ := id hq
  simp only at e1 f1 e2 f2
  subst e1 f1 e2 f2
  exact call_meets F.slot_tuple_lt ⟨_, m1, rfl⟩ F.entry_tuple_lt (F.args_tuple_lt_2 _ _) (tuple_ltAt p q us vs n1 n2 d1 d2 l1 l2 e r) ⟨m1, m2, he, hr, fin⟩
theorem tup_one {xs ys : List PyData} {a b : Value} {as bs : List Addr} {Q : Bool → Shared → Prop} (ra : Reads s.heap a (.tuple xs) as) (rb : Reads s.heap b (.tuple ys) bs) (al : alikeAll xs ys = true)
    (hu : A.units + min (PyData.tuple xs).depth (PyData.tuple ys).depth < cLine) (hq : Q (dataLt (.tuple xs) (.tuple ys)) s) : wpAny (model prog w) A (oneLt' true a b) Q E s := by
  cases ra with
  | @tuple l o us n _ as1 g1 g2 g3 g4 =>
    cases rb with
    | @tuple l' o' vs n' _ bs1 k1 k2 k3 k4 =>
      have z1 : us.size = xs.length := by simpa using ReadsAll.length _ _ _ g4
      have z2 : vs.size = ys.length := by simpa using ReadsAll.length _ _ _ k4
      rw [dataLt_tuple, ← firstLt_toks xs ys al, ← z1, ← z2] at hq
      rw [oneLt'_eq]
      simp only [if_true]
      refine wpAny_bind (wpAny_cRoomFor (room_here hu) (wpAny_bind (wpAny_callSpecialIfBound?_slot (T := "tuple") ⟨_, g1, g2⟩ F.slot_tuple_lt ?_)))
      refine tup_less (e := pairEq xs ys) (r := fun j => dataLt (xs.getD j .none) (ys.getD j .none)) ⟨_, g1, g2, _, g3⟩ ⟨_, k1, k2, _, k3⟩ (fun j j1 j2 => ?_) (fun j j1 j2 hj => ?_) (wpAny_truthy_bool hq)
      · have q := eqAt_alikeAll xs ys A.in1 s us.toList vs.toList _ _ g4 k4 al (room_in hu) j (by simpa using j1) (by simpa using j2)
        simpa using q
      · have q := rcLt_alikeAll xs ys A.in1 s us.toList vs.toList _ _ g4 k4 al (room_in hu) j (by simpa using j1) (by simpa using j2) hj
        simpa using q
def TupHd (h : Heap) (v : Value) (f : Option Value) : Prop := ∃ a o xs n, v = .ref a ∧ h.get? a = some o ∧ o.cls = .type "tuple" ∧ o.data = .seq xs n ∧ xs[0]? = f
theorem tups_firsts {M : Model} : ∀ (vs : List Value) (fs : List (Option Value)) {Q : List (Option Value) → Shared → Prop}, EachIs (TupHd s.heap) vs fs → Q fs s → wpAny M A (vs.mapM firstOfTuple') Q E s
  | _, _, _, .nil, h => by rw [List.mapM_nil]; exact wpAny_pure h
  | v :: vs, f :: fs, Q, .cons ⟨a, o, xs, n, ev, ho, hc, hd, hf⟩ t, h => by
    subst ev
    rw [List.mapM_cons]
    refine wpAny_bind ?_
    rw [kas_first_eq]
    refine wpAny_bind ((show Looks M s.heap (typeOf (.ref a)) o.cls from (Looks.ld ho).andThen .now).here ?_)
    rw [hc, if_neg (by decide)]
    refine wpAny_bind (listItems_at ho hd (wpAny_pure ?_))
    rw [hf]
    exact wpAny_bind (tups_firsts vs fs (Q := fun zs s' => wpAny M A (pure (f :: zs)) Q E s') t (wpAny_pure h))
theorem tups_looks {M : Model} : ∀ {vs : List Value} {fs : List (Option Value)}, EachIs (TupHd s.heap) vs fs → ∀ v ∈ vs, Looks M s.heap (typeOf v) (.type "tuple")
  | _, _, .cons ⟨a, o, xs, n, ev, ho, hc, hd, hf⟩ t, v, h => by
    rcases List.mem_cons.mp h with e | h
    · subst e ev
      exact hc ▸ (Looks.ld ho).andThen .now
    · exact tups_looks t v h
theorem tups_kind {M : Model} {vs : List Value} {fs : List (Option Value)} {Q : SortKind → Shared → Prop} (t : EachIs (TupHd s.heap) vs fs) (h2 : 2 ≤ vs.length) (nn : fs.all (·.isSome) = false)
    (h : Q (if (fs.head?.bind id).isSome = true then general' else oneType') s) : wpAny M A (keyKind' vs.toArray) Q E s := by
  rw [kat_kind_eq, List.mapM_toArray, map_eq_pure_bind]
  refine wpAny_bind (wpAny_bind (tups_firsts vs fs t (wpAny_pure ?_)))
  rw [if_neg (by rw [List.all_toArray, nn]; exact Bool.false_ne_true)]
  have e0 : fs.toArray[0]? = fs.head? := by rw [List.getElem?_toArray, List.head?_eq_getElem?]
  rw [e0]
  by_cases q : (fs.head?.bind id).isSome = true
  · rw [if_pos q] at h ⊢
    exact wpAny_pure h
  · rw [if_neg q] at h ⊢
    rw [oneTypeOnly'_eq, List.mapM_toArray, map_eq_pure_bind]
    refine wpAny_bind (wpAny_bind (wpAny_bind (kas_mapM (r := Value.type "tuple") _ (fun v hv Q' hq => (tups_looks t v hv).here hq) (wpAny_pure ?_))))
    have ha : ((vs.map fun _ => Value.type "tuple").toArray.all fun x => x == Value.type "tuple") = true := by
      simp only [List.all_toArray, List.all_map, List.all_eq_true]
      exact fun _ _ => rfl
    have h0 : (vs.map fun _ => Value.type "tuple").toArray[0]? = some (Value.type "tuple") := by
      cases vs with
      | nil => exact absurd h2 (by simp)
      | cons v r => simp
    rw [h0]
    simp only [ha, if_true]
    exact wpAny_pure (wpAny_pure h)
theorem tups_hd {h : Heap} : ∀ {vs : List Value} {ds : List PyData}, EachIs (fun v d => ∃ as, Reads h v d as) vs ds → (∀ d ∈ ds, ∃ xs, d = .tuple xs) → ∃ fs, EachIs (TupHd h) vs fs ∧ fs.length = ds.length ∧ ∀ (j : Nat) (f : Option Value), fs[j]? = some f → ∃ xs, ds[j]? = some (.tuple xs) ∧ f.isSome = !xs.isEmpty
  | _, _, .nil, _ => ⟨[], .nil, rfl, fun j f hf => by simp at hf⟩
  | _, _, .cons (b := d) ⟨as, r⟩ t, ht => by
    obtain ⟨fs, h1, h2, h3⟩ := tups_hd t fun d hd => ht d (List.mem_cons_of_mem _ hd)
    obtain ⟨xs, rfl⟩ := ht d (List.mem_cons_self ..)
    cases r with
    | @tuple a o us n _ _ ho hc hd hr =>
      refine ⟨us[0]? :: fs, .cons ⟨a, o, us, n, rfl, ho, hc, hd, rfl⟩ h1, by rw [List.length_cons, List.length_cons, h2], fun j f hf => ?_⟩
      cases j with
      | zero =>
        cases hf
        refine ⟨xs, rfl, ?_⟩
        have z : us.size = xs.length := by simpa using ReadsAll.length _ _ _ hr
        cases xs with
        | nil =>
          have : us.size = 0 := z
          rw [Array.getElem?_eq_none (by omega)]
          rfl
        | cons x xs =>
          have : 0 < us.size := by rw [z]; exact Nat.succ_pos _
          rw [Array.getElem?_eq_getElem this]
          rfl
      | succ j => exact h3 j f hf
/-- tuples that are alike can be sorted -/
theorem sorts_tups {vs : List Value} {ds : List PyData} (e : EachIs (fun v d => ∃ as, Reads s.heap v d as) vs ds) (hal : AllAlike ds) (ht : ∀ d ∈ ds, ∃ xs, d = .tuple xs) (hu : ∀ d, d ∈ ds → A.units + d.depth < cLine) : SortsAt prog w A s (dataKind s.heap ds) vs := by
  obtain ⟨fs, t1, t2, t3⟩ := tups_hd e ht
  cases q : fs.all (·.isSome) with
  | true =>
    refine SortsAt.data e hal (.inl fun d hd => ?_) hu
    obtain ⟨j, hj, ej⟩ := List.mem_iff_getElem.mp hd
    have hf : fs[j]? = some (fs[j]'(by omega)) := List.getElem?_eq_getElem _
    obtain ⟨xs, h1, h2⟩ := t3 j _ hf
    rw [List.getElem?_eq_getElem hj, ej] at h1
    rw [List.all_eq_true.mp q _ (List.mem_of_getElem? hf)] at h2
    cases xs with
    | nil => cases h2
    | cons x r => exact ⟨x, r, Option.some.inj h1⟩
  | false =>
    refine ⟨fun v hv => ?_, (if (fs.head?.bind id).isSome = true then general' else oneType'), ?_, fun h2 E Q hq => tups_kind t1 h2 q hq⟩
    · obtain ⟨d, hd, as, r⟩ := e.left v hv
      exact ⟨_, dataKind_some hal hd r⟩
    · intro E x y a b Q ha hb hq
      obtain ⟨d, as, hd, ra, rfl⟩ := dataKind_inv ha
      obtain ⟨d', as', hd', rb, rfl⟩ := dataKind_inv hb
      have al := hal d hd d' hd'
      have room : A.units + min d.depth d'.depth < cLine := Nat.lt_of_le_of_lt (Nat.add_le_add_left (Nat.min_le_left _ _) _) (hu d hd)
      obtain ⟨xs, rfl⟩ := ht d hd
      obtain ⟨ys, rfl⟩ := ht d' hd'
      split
      · exact oneLt_alike (f := false) (fun z => by cases z) ra rb al (fun z => by cases z) room hq
      · rw [keyLt'_oneType]
        exact tup_one ra rb (by simpa [alike] using al) room hq
variable {β : Type} {R : Value → β → Prop} {enc : β → PyData} {vs : List Value} {bs : List β}
theorem sorted_tups {l : Addr} {Q : Value → Shared → Prop} (hl : s.heap.IsList l vs.toArray) (e : EachIs R vs bs) (er : EachIs (fun v b => ∃ as, Reads s.heap v (enc b) as) vs bs) (hal : AllAlike (bs.map enc)) (hk : ∀ b, ∃ xs, enc b = .tuple xs) (hL : bs.length ≤ sizeLine)
    (hu : ∀ b, b ∈ bs → A.units + 2 + (enc b).depth < cLine) (h : ∀ out, out.length = bs.length → EachIs R out (bs.mergeSort (dataLe false enc)) → Q (.ref (s.heap.objs.size + 1)) { s with heap := sortedAll s.heap vs (List.toArray out) }) :
    wpAny (model prog w) A (call (.builtin "sorted") [.ref l]) Q E s := by
  have er' : EachIs (fun v b => ∃ as, Reads (sortingHeap (copyHeap s.heap vs) (s.heap.objs.size + 1) vs) v (enc b) as) vs bs := er.mono fun _ _ ⟨as, r⟩ => ⟨as, PyProof.Rows.Reads.keeps (fun _ _ => sorting_copy_old) r⟩
  refine sorted_vals hl (sorts_tups (s := { s with heap := sortingHeap (copyHeap s.heap vs) (s.heap.objs.size + 1) vs }) (each_map enc er') hal (fun d hd => ?_) (bound_map hu)) (by rw [e.length]; exact hL) ?_
  · obtain ⟨b, _, rfl⟩ := List.mem_map.mp hd
    exact hk b
  · exact h _ ((sortVals_length false rfl).trans e.length) (sortVals_data false e er' hal)
end
end K6

set_option Elab.async false
set_option linter.all false
set_option maxRecDepth 100000
set_option maxHeartbeats 4000000
/-! Dicts whose keys are tuples of any depth (nested keys), for the hand layer. Speaks of no program. -/
namespace K1D
open PySem PySem.Spec PyProof.Rows L2

/-! ### keys that stand -/
mutual
inductive KeyV (K : PySem.W.Frag) (H : Hp) : NestedKey → V → Prop
  | non : KeyV K H .none .non
  | int (i : Int) : KeyV K H (.num i) (.int i)
  | str (x : Str) : KeyV K H (.text x) (.str x)
  | tup {a : Addr} {xs : List V} {ks : List NestedKey} : H a = some (.tup xs) → KeyVs K H ks xs → KeyV K H (.tup ks) (.ref a)
inductive KeyVs (K : PySem.W.Frag) (H : Hp) : List NestedKey → List V → Prop
  | nil : KeyVs K H [] []
  | cons {k : NestedKey} {v : V} {ks : List NestedKey} {vs : List V} : KeyV K H k v → KeyVs K H ks vs → KeyVs K H (k :: ks) (v :: vs)
end
section
variable {K : PySem.W.Frag} {H H' : Hp}
/-- what stands in both: tuples -/
def Tups (K : PySem.W.Frag) (H H' : Hp) : Prop := ∀ a xs, H a = some (.tup xs) → H' a = some (.tup xs)
mutual
theorem KeyV.up (t : Tups K H H') : ∀ (k : NestedKey) (v : V), KeyV K H k v → KeyV K H' k v
  | .none, _, h => by cases h; exact .non
  | .num i, _, h => by cases h; exact .int i
  | .text x, _, h => by cases h; exact .str x
  | .tup ks, _, h => by
    cases h with
    | tup h1 h2 => exact .tup (t _ _ h1) (KeyVs.up t ks _ h2)
theorem KeyVs.up (t : Tups K H H') : ∀ (ks : List NestedKey) (vs : List V), KeyVs K H ks vs → KeyVs K H' ks vs
  | [], _, h => by cases h; exact .nil
  | k :: ks, _, h => by
    cases h with
    | cons h1 h2 => exact .cons (KeyV.up t k _ h1) (KeyVs.up t ks _ h2)
end
mutual
/-- .. is data -/
theorem KeyV.dp : ∀ (k : NestedKey) (v : V), KeyV K H k v → Dp K H v k.data
  | .none, _, h => by cases h; exact .non
  | .num i, _, h => by cases h; exact .int i
  | .text x, _, h => by cases h; exact .str x
  | .tup ks, _, h => by
    cases h with
    | tup h1 h2 => exact .tup (SqT.of h1) (KeyVs.dp ks _ h2)
theorem KeyVs.dp : ∀ (ks : List NestedKey) (vs : List V), KeyVs K H ks vs → DpAll K H vs (NestedKey.datas ks)
  | [], _, h => by cases h; exact .nil
  | k :: ks, _, h => by
    cases h with
    | cons h1 h2 => exact .cons (KeyV.dp k _ h1) (KeyVs.dp ks _ h2)
end
end
section
variable {X : Cx} {pins : List (Addr × Obj)} {σ : L2.St} {H : Hp} {s : Shared}
mutual
theorem KeyV.is (I : Inv X pins σ H s) : ∀ (k : NestedKey) (v : V) (u : Value), KeyV X.K H k v → RelV v u → NestedIs s.heap k u
  | .none, _, _, h, r => by cases h; cases r; exact .none
  | .num i, _, _, h, r => by
    cases h
    obtain ⟨t, rfl⟩ := r
    exact .int i t
  | .text x, _, _, h, r => by
    cases h
    obtain ⟨t, rfl⟩ := r
    exact .text x t
  | .tup ks, _, _, h, r => by
    cases h with
    | tup h1 h2 =>
      cases r
      obtain ⟨its, rv, ⟨o, ho, hc, n, hd⟩, _⟩ := I.tuple (SqT.of h1)
      exact .tup ho hc hd (KeyVs.is I ks _ _ h2 rv)
theorem KeyVs.is (I : Inv X pins σ H s) : ∀ (ks : List NestedKey) (vs : List V) (us : List Value), KeyVs X.K H ks vs → Vals vs us → NestedAll s.heap ks us
  | [], _, _, h, r => by cases h; cases r; exact .nil
  | k :: ks, _, _, h, r => by
    cases h with
    | cons h1 h2 =>
      cases r with
      | cons r1 r2 => exact .cons (KeyV.is I k _ _ h1 r1) (KeyVs.is I ks _ _ h2 r2)
end
end

/-! ### the dict -/
/-- an entry: its key, where the key stands, its value -/
abbrev NE := NestedKey × Addr × V
abbrev NR : List NE → List (NestedKey × Addr × Value) → Prop := Paired fun (p : NE) q => p.1 = q.1 ∧ p.2.1 = q.2.1 ∧ RelV p.2.2 q.2.2
def entN (w : World) (x : NestedKey × Addr × Value) : DictEntry := ⟨x.1.hash w, .ref x.2.1, x.2.2⟩
def NIn (w : World) (d : Addr) (kvs : List NE) (h : Heap) : Prop :=
  kvs.length ≤ sizeLine ∧ (d == sysModules) = false ∧ ∃ xs : List (NestedKey × Addr × Value), NR kvs xs ∧ ∃ o es ep, h.get? d = some o ∧ o.ExactDict ∧ o.data = .dict es ep ∧ es.toList = xs.map (entN w) ∧ (xs.map (·.1)).Nodup
def dN (w : World) (d : Addr) (kvs : List NE) : HO := .ext (NIn w d kvs)
/-- all its keys stand -/
def KeysN (K : PySem.W.Frag) (H : Hp) (kvs : List NE) : Prop := ∀ x ∈ kvs, KeyV K H x.1 (.ref x.2.1) ∧ x.1.depth ≤ 8
theorem KeysN.up {K : PySem.W.Frag} {H H' : Hp} {kvs : List NE} (k : KeysN K H kvs) (t : Tups K H H') : KeysN K H' kvs := fun x hx => ⟨(k x hx).1.up t _ _, (k x hx).2⟩
theorem Tups.ext {K : PySem.W.Frag} {H H' : Hp} (e : ∀ a o, H a = some o → H' a = some o) : Tups K H H' := fun a xs h => e _ _ h
/-- an object that is no tuple is changed, or a new one laid -/
theorem Tups.put {K : PySem.W.Frag} {H : Hp} {a : Addr} {o : HO} (h : ∀ xs, ¬ Rd H a (.tup xs)) : Tups K H (upd H a o) := fun b xs q =>
  (upd_ne (fun z => h xs (.inl (by rw [← z]; exact q)))).trans q
theorem Tups.refl {K : PySem.W.Frag} {H : Hp} : Tups K H H := fun _ _ h => h
theorem Tups.trans {K : PySem.W.Frag} {H H1 H2 : Hp} (a : Tups K H H1) (b : Tups K H1 H2) : Tups K H H2 := fun p xs h => b p xs (a p xs h)
theorem not_tup_dN {H : Hp} {w : World} {d : Addr} {kvs : List NE} (h : H d = some (dN w d kvs)) : ∀ xs, ¬ Rd H d (.tup xs) := fun xs q => by
  rcases q with q | ⟨o, q⟩
  · rw [h] at q; cases q
  · rw [h] at q; cases q
theorem not_tup_none {H : Hp} {d : Addr} (h : H d = none) : ∀ xs, ¬ Rd H d (.tup xs) := fun xs q => by
  rcases q with q | ⟨o, q⟩
  · rw [h] at q; cases q
  · rw [h] at q; cases q

/-- the value at k -/
def valN (kvs : List NE) (k : NestedKey) : Option V := (kvs.find? fun x => decide (x.1 = k)).map (·.2.2)
/-- k's value made v; a new key at the end, standing at b -/
def putN (kvs : List NE) (k : NestedKey) (b : Addr) (v : V) : List NE :=
  if (valN kvs k).isSome then kvs.map fun x => if x.1 = k then (x.1, x.2.1, v) else x else kvs ++ [(k, b, v)]
def dropN (kvs : List NE) (k : NestedKey) : List NE := kvs.filter fun x => decide (x.1 ≠ k)
section
variable {w : World} {K : PySem.W.Frag} {H : Hp}
theorem NR.val {kvs : List NE} {xs : List (NestedKey × Addr × Value)} (r : NR kvs xs) (k : NestedKey) : RelO (valN kvs k) ((atKey xs k).map (·.2)) := by
  induction r with
  | nil => exact True.intro
  | @cons p q ps qs h t ih =>
    obtain ⟨h1, _, h2⟩ := h
    by_cases e : p.1 = k
    · have e' : q.1 = k := h1.symm.trans e
      have b : atKey (q :: qs) k = some q.2 := by simp [atKey, List.find?_cons, e']
      have c : valN (p :: ps) k = some p.2.2 := by simp [valN, List.find?_cons, e]
      rw [b, c]; exact h2
    · have e' : ¬ q.1 = k := fun z => e (h1.trans z)
      have b : atKey (q :: qs) k = atKey qs k := by simp [atKey, List.find?_cons, e']
      have c : valN (p :: ps) k = valN ps k := by simp [valN, List.find?_cons, e]
      rw [b, c]; exact ih
theorem NR.repl {kvs : List NE} {xs : List (NestedKey × Addr × Value)} (r : NR kvs xs) (k : NestedKey) {y : V} {u : Value} (ry : RelV y u) :
    NR (kvs.map fun x => if x.1 = k then (x.1, x.2.1, y) else x) (xs.map (putAt k u)) := by
  induction r with
  | nil => exact .nil
  | @cons p q ps qs h t ih =>
    rw [List.map_cons, List.map_cons]
    refine .cons ?_ ih
    obtain ⟨h1, h2, h3⟩ := h
    unfold putAt
    by_cases e : p.1 = k
    · rw [if_pos e, if_pos (h1.symm.trans e)]; exact ⟨h1, h2, ry⟩
    · rw [if_neg e, if_neg (fun z => e (h1.trans z))]; exact ⟨h1, h2, h3⟩
theorem NR.put {kvs : List NE} {xs : List (NestedKey × Addr × Value)} (r : NR kvs xs) (k : NestedKey) {b : Addr} {y : V} {u : Value} (ry : RelV y u) :
    NR (putN kvs k b y) (storedH xs k b u) := by
  have e : (valN kvs k).isSome = (atKey xs k).isSome := by
    rw [(r.val k).isSome_eq, Option.isSome_map]
  unfold putN storedH
  rw [e]
  by_cases q : (atKey xs k).isSome = true
  · rw [if_pos q, if_pos q]; exact r.repl k ry
  · rw [if_neg q, if_neg q]; exact Paired.snoc r ⟨rfl, rfl, ry⟩
theorem NR.drop {kvs : List NE} {xs : List (NestedKey × Addr × Value)} (r : NR kvs xs) (k : NestedKey) : NR (dropN kvs k) (withoutH xs k) := by
  induction r with
  | nil => exact .nil
  | @cons p q ps qs h t ih =>
    unfold dropN withoutH
    rw [List.filter_cons, List.filter_cons]
    by_cases e : p.1 = k
    · rw [if_neg (by simp [e]), if_neg (by simp [← h.1, e])]; exact ih
    · rw [if_pos (by simp [e]), if_pos (by simp [← h.1, e])]; exact .cons h ih
theorem length_putN (kvs : List NE) (k : NestedKey) (b : Addr) (v : V) : (putN kvs k b v).length ≤ kvs.length + 1 := by
  unfold putN
  split
  · rw [List.length_map]; omega
  · rw [List.length_append]; exact Nat.le_refl _
theorem length_dropN (kvs : List NE) (k : NestedKey) : (dropN kvs k).length ≤ kvs.length := List.length_filter_le _ _
theorem KeysN.put {kvs : List NE} {k : NestedKey} {b : Addr} {v : V} (h : KeysN K H kvs) (hk : KeyV K H k (.ref b)) (hd : k.depth ≤ 8) : KeysN K H (putN kvs k b v) := fun x hx => by
  unfold putN at hx
  split at hx
  · obtain ⟨y, hy, e⟩ := List.mem_map.mp hx
    split at e
    · subst e; exact h y hy
    · subst e; exact h y hy
  · rcases List.mem_append.mp hx with hx | hx
    · exact h x hx
    · rw [List.mem_singleton] at hx
      subst hx
      exact ⟨hk, hd⟩
theorem KeysN.drop {kvs : List NE} {k : NestedKey} (h : KeysN K H kvs) : KeysN K H (dropN kvs k) := fun x hx => h x (List.mem_filter.mp hx).1
end

section
variable {X : Cx} {pins : List (Addr × Obj)} {σ : L2.St} {H : Hp} {s : Shared} {d : Addr} {kvs : List NE}
theorem dn_ok {P : Program} {w : World} {H : Hp} {h : Heap} {d : Addr} {kvs : List NE} (x : NIn w d kvs h) : ObjOk P w H h d (dN w d kvs) :=
  ⟨x, let ⟨_, _, _, _, o, _, _, ho, _⟩ := x; ⟨o, ho⟩, fun h1 h2 x k => let ⟨z, y, xs, r, o, es, ep, ho, q⟩ := x; ⟨z, y, xs, r, o, es, ep, k o ho, q⟩⟩
/-- in the heap itself -/
theorem dn_rd (I : Inv X pins σ H s) (e : Rd H d (dN X.w d kvs)) (ks : KeysN X.K H kvs) : kvs.length ≤ sizeLine ∧ (d == sysModules) = false ∧
    ∃ xs, NR kvs xs ∧ s.heap.DictOfH (nestedKind X.prog X.w) d xs := by
  obtain ⟨⟨z, y, xs, r, o, es, ep, h1, h2, h3, h4, h5⟩, _, _⟩ := (show ObjOk X.prog X.w H s.heap d (dN X.w d kvs) from rd_of I.hok e)
  refine ⟨z, y, xs, r, o, es, ep, h1, h2, h3, h4, fun x hx => ?_, h5⟩
  have all : ∀ {l : List NE} {m : List (NestedKey × Addr × Value)}, NR l m → KeysN X.K H l → ∀ x ∈ m, (nestedKind X.prog X.w).is s.heap x.1 x.2.1 := by
    intro l m q
    induction q with
    | nil => intro _ x hx; exact nomatch hx
    | @cons p q ps qs hq t ih =>
      intro hl x hx
      rcases List.mem_cons.mp hx with e | hx
      · subst e
        obtain ⟨a, b⟩ := hl p (List.mem_cons_self ..)
        refine ⟨?_, by rw [← hq.1]; exact b⟩
        rw [← hq.1, ← hq.2.1]
        exact a.is I _ _ _ rfl
      · exact ih (fun y hy => hl y (List.mem_cons_of_mem _ hy)) x hx
  exact all r ks x hx
theorem NIn.of {P : Program} {w : World} {h : Heap} {d : Addr} {kvs : List NE} {xs : List (NestedKey × Addr × Value)} (z : kvs.length ≤ sizeLine) (y : (d == sysModules) = false) (r : NR kvs xs) (dd : h.DictOfH (nestedKind P w) d xs) : NIn w d kvs h := by
  obtain ⟨o, es, ep, h1, h2, h3, h4, _, h5⟩ := dd
  exact ⟨z, y, xs, r, o, es, ep, h1, h2, h3, h4, h5⟩
end

/-! ### what is done with it -/
section
variable {X : Cx} {pins : List (Addr × Obj)} {σ : L2.St} {H : Hp} {s : Shared} {a b : Addr} {kvs : List NE} {k : NestedKey} {v : V} {r : Value} {A : Around} {E : Value → Shared → Prop}
theorem nis (I : Inv X pins σ H s) (hk : KeyV X.K H k (.ref b)) (hd : k.depth ≤ 8) : (nestedKind X.prog X.w).is s.heap k b := ⟨hk.is I _ _ _ rfl, hd⟩
theorem nroom {P : Program} {w : World} (hu : A.units + 9 < cLine) : (nestedKind P w).room A.in1 := show A.in1.units + 8 < cLine by rw [Around.in1_units]; omega
theorem nroom0 {P : Program} {w : World} (hu : A.units + 8 < cLine) : (nestedKind P w).room A := hu
theorem n_getItem {Q : Value → Shared → Prop} (hu : A.units + 9 < cLine) (I : Inv X pins σ H s) (e : Rd H a (dN X.w a kvs)) (ks : KeysN X.K H kvs) (hk : KeyV X.K H k (.ref b)) (hd : k.depth ≤ 8) (hv : valN kvs k = some v)
    (h : ∀ w' s', Inv X pins σ H s' → RelV v w' → Q w' s') : wpAny (model X.prog X.w) A (getItem (.ref a) (.ref b)) Q E s := by
  obtain ⟨z, hs, xs, rel, dd⟩ := dn_rd I e ks
  obtain ⟨w', hw, rw'⟩ := RelO.some_of (v := v) (o := (atKey xs k).map (·.2)) (by rw [← hv]; exact rel.val k)
  obtain ⟨p, hp, hp2⟩ := Option.map_eq_some_iff.mp hw
  refine wpAny_getItem_heap (knd := nestedKind X.prog X.w) (nroom hu) (nis I hk hd) dd hp ?_
  rw [hp2]
  exact h w' _ (I.tok _) rw'
theorem n_setItem {Q : Unit → Shared → Prop} (hu : A.units + 9 < cLine) (I : Inv X pins σ H s) (e : H a = some (dN X.w a kvs)) (ks : KeysN X.K H kvs) (hl : kvs.length < sizeLine) (hk : KeyV X.K H k (.ref b)) (hd : k.depth ≤ 8) (rv : RelV v r)
    (h : ∀ s', Inv X pins σ (upd H a (dN X.w a (putN kvs k b v))) s' → Q () s') : wpAny (model X.prog X.w) A (setItem (.ref a) (.ref b) r) Q E s := by
  obtain ⟨z, hs, xs, rel, dd⟩ := dn_rd I (.inl e) ks
  have hz : xs.length ≤ sizeLine := by rw [← Paired.length rel]; exact z
  refine wpAny_setItem_heap (knd := nestedKind X.prog X.w) (hsz := hz) (nroom hu) (nis I hk hd) dd fun h' dd' hs' => h _ ?_
  have he : ∃ q, h'.get? a = some q := let ⟨q, _, _, hq, _⟩ := dd'; ⟨q, hq⟩
  refine d_write I (by rw [e]; exact True.intro) hs' he (dn_ok (NIn.of ?_ hs (rel.put k rv) dd'))
  have := length_putN kvs k b v
  omega
theorem n_dictSet {Q : Unit → Shared → Prop} (hu : A.units + 8 < cLine) (I : Inv X pins σ H s) (e : H a = some (dN X.w a kvs)) (ks : KeysN X.K H kvs) (hl : kvs.length < sizeLine) (hk : KeyV X.K H k (.ref b)) (hd : k.depth ≤ 8) (rv : RelV v r)
    (h : ∀ s', Inv X pins σ (upd H a (dN X.w a (putN kvs k b v))) s' → Q () s') : wpAny (model X.prog X.w) A (dictSet a (.ref b) r) Q E s := by
  obtain ⟨z, hs, xs, rel, dd⟩ := dn_rd I (.inl e) ks
  have hz : xs.length ≤ sizeLine := by rw [← Paired.length rel]; exact z
  refine wpAny_dictSet_heap (knd := nestedKind X.prog X.w) (hsz := hz) (nroom0 hu) (nis I hk hd) dd fun h' dd' hs' => h _ ?_
  have he : ∃ q, h'.get? a = some q := let ⟨q, _, _, hq, _⟩ := dd'; ⟨q, hq⟩
  refine d_write I (by rw [e]; exact True.intro) hs' he (dn_ok (NIn.of ?_ hs (rel.put k rv) dd'))
  have := length_putN kvs k b v
  omega
theorem n_delItem {Q : Unit → Shared → Prop} (hu : A.units + 9 < cLine) (I : Inv X pins σ H s) (e : H a = some (dN X.w a kvs)) (ks : KeysN X.K H kvs) (hk : KeyV X.K H k (.ref b)) (hd : k.depth ≤ 8) (hv : (valN kvs k).isSome = true)
    (h : ∀ s', Inv X pins σ (upd H a (dN X.w a (dropN kvs k))) s' → Q () s') : wpAny (model X.prog X.w) A (delItem (.ref a) (.ref b)) Q E s := by
  obtain ⟨z, hs, xs, rel, dd⟩ := dn_rd I (.inl e) ks
  have hz : xs.length ≤ sizeLine := by rw [← Paired.length rel]; exact z
  have q := (rel.val k).isSome_eq
  rw [hv, Option.isSome_map] at q
  obtain ⟨p, hp⟩ := Option.isSome_iff_exists.mp q.symm
  refine wpAny_delItem_heap (knd := nestedKind X.prog X.w) (hsz := hz) (nroom hu) (nis I hk hd) hs dd hp fun h' dd' hs' => h _ ?_
  have he : ∃ q, h'.get? a = some q := let ⟨q, _, _, hq, _⟩ := dd'; ⟨q, hq⟩
  exact d_write I (by rw [e]; exact True.intro) hs' he (dn_ok (NIn.of (Nat.le_trans (length_dropN kvs k) z) hs (rel.drop k) dd'))
theorem n_get2 {y : V} {u : Value} {Q : Value → Shared → Prop} (hu : A.units + 9 < cLine) (I : Inv X pins σ H s) (e : Rd H a (dN X.w a kvs)) (ks : KeysN X.K H kvs) (hk : KeyV X.K H k (.ref b)) (hd : k.depth ≤ 8) (ry : RelV y u)
    (h : ∀ w' s', Inv X pins σ H s' → RelV ((valN kvs k).getD y) w' → Q w' s') : wpAny (model X.prog X.w) A (call (.builtin "dict.get") [.ref a, .ref b, u]) Q E s := by
  obtain ⟨z, hs, xs, rel, dd⟩ := dn_rd I e ks
  refine call_meetsIn PySem.F.slot_dict_get dd.typeIs PySem.F.entry_dict_get (PySem.F.args_dict_get_3 _ _ _) (meetsH_dict_get_default (nestedKind X.prog X.w) a b hs u) ⟨nroom hu, k, xs, (nis I hk hd), dd, h _ _ (I.tok _) ?_⟩
  exact (rel.val k).getD ry
end

/-! ### readings and rules -/
/-- d[y] -/
def tNGet (K : PySem.W.Frag) (w : World) (td ty : TE) : TE := fun σ H Q => td σ H fun x H1 => ty σ H1 fun y H2 => ∃ a b kvs k v, x = .ref a ∧ y = .ref b ∧ Rd H2 a (dN w a kvs) ∧ KeysN K H2 kvs ∧ KeyV K H2 k (.ref b) ∧ k.depth ≤ 8 ∧ valN kvs k = some v ∧ Q v H2
/-- d.get(y, z) -/
def tNGet2 (K : PySem.W.Frag) (w : World) (td ty tz : TE) : TE := fun σ H Q => td σ H fun x H1 => ∃ a kvs, x = .ref a ∧ Rd H1 a (dN w a kvs) ∧ KeysN K H1 kvs ∧ ty σ H1 fun y H2 => tz σ H2 fun z H3 => ∃ b k, y = .ref b ∧ Rd H3 a (dN w a kvs) ∧ KeysN K H3 kvs ∧ KeyV K H3 k (.ref b) ∧ k.depth ≤ 8 ∧ Q ((valN kvs k).getD z) H3
/-- d[y] = v -/
def sNPut (K : PySem.W.Frag) (w : World) (td ty tv : TE) : TS := fun D σ H => tv σ H fun v H1 => td σ H1 fun x H2 => ty σ H2 fun y H3 => ∃ a b kvs k, x = .ref a ∧ y = .ref b ∧ H3 a = some (dN w a kvs) ∧ KeysN K H3 kvs ∧ kvs.length < sizeLine ∧ KeyV K H3 k (.ref b) ∧ k.depth ≤ 8 ∧ D.nx σ (upd H3 a (dN w a (putN kvs k b v)))
/-- del d[y] -/
def sNDel (K : PySem.W.Frag) (w : World) (td ty : TE) : TS := fun D σ H => td σ H fun x H1 => ty σ H1 fun y H2 => ∃ a b kvs k, x = .ref a ∧ y = .ref b ∧ H2 a = some (dN w a kvs) ∧ KeysN K H2 kvs ∧ KeyV K H2 k (.ref b) ∧ k.depth ≤ 8 ∧ (valN kvs k).isSome = true ∧ D.nx σ (upd H2 a (dN w a (dropN kvs k)))
/-- {} -/
def tNNew (w : World) : TE := fun _ H Q => ∀ p, H p = none → Q (.ref p) (upd H p (dN w p []))
def rNLen (K : PySem.W.Frag) (w : World) : List V → Hp → VK → Prop := fun xs H Q => ∃ (p : Addr) (kvs : List NE), xs = [.ref p] ∧ Rd H p (dN w p kvs) ∧ KeysN K H kvs ∧ Q (.int ((kvs.length : Nat) : Int)) H
theorem dn_empty {P : Program} {w : World} {H : Hp} (h : Heap) (hb : sysModules < h.objs.size) : ObjOk P w H (h.push { cls := .type "dict", data := .dict #[] }) h.objs.size (dN w h.objs.size []) :=
  dn_ok ⟨Nat.zero_le _, beq_eq_false_iff_ne.mpr (Ne.symm (Nat.ne_of_lt hb)), [], .nil, _, #[], 0, Heap.get?_push_size _ rfl, ⟨rfl, rfl, rfl⟩, rfl, rfl, List.nodup_nil⟩
section
variable {X : Cx} {o i e f value : Expr} {pos pos' tpos apos cpos : Pos} {td ty tv tx : TE}
theorem dn_type {pins : List (Addr × Obj)} {σ : L2.St} {H : Hp} {s : Shared} {a : Addr} {kvs : List NE} (I : Inv X pins σ H s) (e : Rd H a (dN X.w a kvs)) :
    s.TypeIs (.ref a) "dict" ∧ (∀ b, Value.ref a = .ref b → ∃ ob, s.heap.get? b = some ob ∧ ob.dict = none) ∧ (a == sysModules) = false := by
  obtain ⟨⟨z, y, xs, r, ob, es, ep, h1, h2, h3, h4, h5⟩, _, _⟩ := (show ObjOk X.prog X.w H s.heap a (dN X.w a kvs) from rd_of I.hok e)
  refine ⟨⟨ob, h1, h2.1⟩, fun b q => ?_, y⟩
  cases q
  exact ⟨ob, h1, h2.2.1⟩
theorem pe_nget (hu : X.A.units + 9 < cLine) (ho : PE X o td) (hi : PE X i ty) (hs : NoSl i) : PE X (.Subscript o i pos) (tNGet X.K X.w td ty) := by
  refine ⟨fun pins s σ H Q I h => ?_⟩
  refine subD_of PySem.F.slot_dict_getitem.lookup hs (thn (ho.run pins s σ H _ I h) fun u s1 ⟨x, H1, I1, rx, q1⟩ => thn (hi.run pins s1 σ H1 _ I1 q1) fun iv s2 ⟨y, H2, I2, ry, a, b, kvs, k, v, ex, ey, g, ks, hk, hd, hv, q2⟩ => ?_)
  subst ex ey
  obtain rfl : u = Value.ref a := rx
  obtain rfl : iv = Value.ref b := ry
  exact ⟨(dn_type I2 g).1, n_getItem hu I2 g ks hk hd hv fun w' s3 I3 rw' => ⟨v, H2, I3, rw', q2⟩⟩
theorem ps_nput (hu : X.A.units + 9 < cLine) (ho : PE X o td) (hi : PE X i ty) (hv : PE X value tv) (hs : swapsWith value (some (.Subscript o i pos')) pos.line X.env = pure false) :
    PS X (.Assign [.Subscript o i pos'] value pos) (sNPut X.K X.w td ty tv) := by
  refine ⟨fun pins s σ H D I h => ?_⟩
  refine wpAny_Assign_Subscript (thn (hv.run pins s σ H _ I h) fun r s1 ⟨v, H1, I1, rv, q1⟩ => thn (ho.run pins s1 σ H1 _ I1 q1) fun u s2 ⟨x, H2, I2, rx, q2⟩ => thn (hi.run pins s2 σ H2 _ I2 q2) fun iv s3 ⟨y, H3, I3, ry, a, b, kvs, k, ex, ey, g, ks, hl, hk, hd, q3⟩ => ?_) hs
  subst ex ey
  obtain rfl : u = Value.ref a := rx
  obtain rfl : iv = Value.ref b := ry
  exact n_setItem hu I3 g ks hl hk hd rv fun s4 I4 => ⟨σ, _, I4, q3⟩
theorem ps_ndel (hu : X.A.units + 9 < cLine) (ho : PE X o td) (hi : PE X i ty) : PS X (.Delete [.Subscript o i tpos] pos) (sNDel X.K X.w td ty) := by
  refine ⟨fun pins s σ H D I h => ?_⟩
  refine wpAny_Delete (wpAny_deleteEach_cons (wpAny_delete_Subscript (thn (ho.run pins s σ H _ I h) fun u s1 ⟨x, H1, I1, rx, q1⟩ => thn (hi.run pins s1 σ H1 _ I1 q1) fun iv s2 ⟨y, H2, I2, ry, a, b, kvs, k, ex, ey, g, ks, hk, hd, hv, q2⟩ => ?_)))
  subst ex ey
  obtain rfl : u = Value.ref a := rx
  obtain rfl : iv = Value.ref b := ry
  exact n_delItem hu I2 g ks hk hd hv fun s3 I3 => wpAny_deleteEach_nil ⟨σ, _, I3, q2⟩
theorem pe_nget2 (hu : X.A.units + 9 < cLine) (ho : PE X o td) (he : PE X e ty) (hf : PE X f tx) (m : M2 X o "get" apos e f cpos) : PE X (.Call (.Attribute o "get" apos) [e, f] [] cpos) (tNGet2 X.K X.w td ty tx) := by
  refine ⟨fun pins s σ H Q I h => ?_⟩
  refine wpAny_Call_method m.base m.few m.line PySem.F.plainAttrs_dict PySem.F.slot_dict_get PySem.F.type_dict_get (thn (ho.run pins s σ H _ I h) fun u s1 ⟨x, H1, I1, rx, a, kvs, ex, d, ks, q1⟩ => ?_)
  subst ex
  obtain rfl : u = Value.ref a := rx
  obtain ⟨t1, t2, _⟩ := dn_type I1 d
  refine ⟨t1, t2, ?_⟩
  rw [m.trees]
  refine Calls.callWith_builtin rfl (Calls.evalArgs_plain (Calls.spliced_cons (thn (he.run pins s1 σ H1 _ I1 q1) fun iv s2 ⟨y, H2, I2, ry, q2⟩ =>
    Calls.spliced_cons (thn (hf.run pins s2 σ H2 _ I2 q2) fun fv s3 ⟨z, H3, I3, rz, b, k, ey, g, ks3, hk, hd, q3⟩ => Calls.spliced_nil ?_))))
  subst ey
  obtain rfl : iv = Value.ref b := ry
  exact n_get2 hu I3 g ks3 hk hd rz fun w' s4 I4 rw' => ⟨_, H3, I4, rw', q3⟩
theorem pe_nnew : PE X (.Dict [] [] pos) (tNNew X.w) := ⟨fun pins s σ H Q I h =>
  wpAny_Dict_empty ⟨.ref s.heap.objs.size, _, I.laid (a := s.heap.objs.size) (o := dN X.w s.heap.objs.size []) (t' := s.toks) (fun _ _ q => Heap.get?_push_of_some _ q) (Nat.le_refl _) (dn_empty s.heap I.big), rfl, h _ (I.hok.fresh (Nat.le_refl _))⟩⟩
theorem call_len_dn : CallR X (.builtin "len") (rNLen X.K X.w) := by
  intro pins s σ H xs us Q I r h
  obtain ⟨p, kvs, rfl, hp, ks, q⟩ := h
  obtain ⟨u, rfl, rx⟩ := vals1 r
  obtain rfl : u = .ref p := rx
  obtain ⟨z, hd, ys, rel, dd⟩ := dn_rd I hp ks
  have hl : kvs.length = ys.length := Paired.length rel
  refine call_len_dictH hd dd (by rw [← hl]; rw [sizeLine_eq] at z; omega) ?_
  rw [← hl]
  exact ⟨.int ((kvs.length : Nat) : Int), H, I.tok _, ⟨_, rfl⟩, q⟩
end
end K1D

set_option Elab.async false
set_option linter.all false
set_option maxRecDepth 100000
set_option maxHeartbeats 4000000
/-! Walks over a dict of nested keys: for k in d, d.values(), d.items(). Speaks of no program. -/
namespace K1D
open PySem PySem.Spec PyProof.Rows L2
theorem nr_get {kvs : List NE} {xs : List (NestedKey × Addr × Value)} (h : NR kvs xs) {i : Nat} {x : NE} (e : kvs[i]? = some x) : ∃ u, xs[i]? = some (x.1, x.2.1, u) ∧ RelV x.2.2 u := by
  obtain ⟨b, hb, h1, h2, h3⟩ := paired_get h e
  exact ⟨b.2.2, by rw [hb, h1, h2], h3⟩
section
variable {X : Cx} {pins : List (Addr × Obj)} {σ : L2.St} {H : Hp} {s : Shared} {d : Addr} {o : Obj} {kvs : List NE}
/-- what is known of a locked one -/
theorem Inv.frzN (I : Inv X pins σ H s) (h : H d = some (.frz o (dN X.w d kvs))) :
    (d == sysModules) = false ∧ kvs.length ≤ sizeLine ∧ ∃ (es : Array DictEntry) (ep : Nat), o.data = .dict es ep ∧ s.heap.DictRaw d es ep ∧ es.size = kvs.length ∧
      ∀ (i : Nat) (x : NE) (hi : i < es.size), kvs[i]? = some x → es[i].key = .ref x.2.1 ∧ RelV x.2.2 es[i].val := by
  obtain ⟨hd, ⟨z, hs, xs, r, o', es, ep, ho, hx, hdt, he, _⟩, _⟩ := I.hok d _ h
  rw [hd] at ho
  cases ho
  refine ⟨hs, z, es, ep, hdt, ⟨o, hd, hx, hdt⟩, ?_, fun i x hi e => ?_⟩
  · have l1 : es.toList.length = xs.length := by rw [he, List.length_map]
    have l2 : kvs.length = xs.length := Paired.length r
    rw [Array.length_toList] at l1
    omega
  · obtain ⟨u, hu, ru⟩ := nr_get r e
    have q : es.toList[i]? = some (entN X.w (x.1, x.2.1, u)) := by rw [he, List.getElem?_map, hu]; rfl
    have q2 : es[i] = entN X.w (x.1, x.2.1, u) := by
      rw [List.getElem?_eq_getElem (by simpa using hi)] at q
      simpa using q
    rw [q2]
    exact ⟨rfl, ru⟩
end
/-- the keys of the locked dict at d, in their order: where they stand -/
def Itnk (w : World) (d : Addr) (o : Obj) (kvs : List NE) : It :=
  ⟨fun i H => H d = some (.frz o (dN w d kvs)) ∧ i < kvs.length, fun i H x H' => H' = H ∧ ∃ e, kvs[i]? = some e ∧ x = .ref e.2.1, fun i H => H d = some (.frz o (dN w d kvs)) ∧ kvs.length ≤ i⟩
/-- the values -/
def Itnv (w : World) (d : Addr) (o : Obj) (kvs : List NE) : It :=
  ⟨fun i H => H d = some (.frz o (dN w d kvs)) ∧ i < kvs.length, fun i H x H' => H' = H ∧ ∃ e, kvs[i]? = some e ∧ x = e.2.2, fun i H => H d = some (.frz o (dN w d kvs)) ∧ kvs.length ≤ i⟩
/-- the pairs, each a new tuple -/
def Itni (w : World) (d : Addr) (o : Obj) (kvs : List NE) : It :=
  ⟨fun i H => H d = some (.frz o (dN w d kvs)) ∧ i < kvs.length, fun i H x H' => ∃ T e, kvs[i]? = some e ∧ x = .ref T ∧ H T = none ∧ H' = upd H T (.tup [.ref e.2.1, e.2.2]), fun i H => H d = some (.frz o (dN w d kvs)) ∧ kvs.length ≤ i⟩
section
variable {P : Program} {w : World} {K : PySem.W.Frag} {tg : Expr} {d : Addr} {o : Obj} {es : Array DictEntry} {ep : Nat}
theorem turn_nkeys {kvs : List NE} (it : Addr) (hod : o.data = .dict es ep) (hsz : es.size = kvs.length) : Turn P w K tg (Itnk w d o kvs) [it] it (fun i h => h.IsKeyIter it d i es.size ep) where
  mem := by simp
  obj := fun i h st b hb => by
    have e : b = it := by simpa using hb
    subst e
    obtain ⟨oi, e, c, dd⟩ := st
    exact ⟨oi, e, fun v z => by rw [dd] at z; cases z⟩
  keep := fun i h h' st k => st.at fun oi e => k it (by simp) oi e
  item := by
    intro X hP hw hK hc i pins s σ H E I hf st hg
    subst hP hw hK
    obtain ⟨hd, hi⟩ := hg
    obtain ⟨f0, f1, f2, f3, f4, f5⟩ := hf it (by simp)
    obtain ⟨hs, hz, es', ep', hdt, raw, _, ent⟩ := Inv.frzN I hd
    obtain ⟨rfl, rfl⟩ := dict_ep hod hdt
    have hkv : kvs[i]? = some kvs[i] := List.getElem?_eq_getElem hi
    have hlt : i < es'.size := by rw [hsz]; exact hi
    obtain ⟨hkey, _⟩ := ent i _ hlt hkv
    refine wpAny_pyNext_keys_item_raw st raw hlt fun h' st' sb => ?_
    have I1 : Inv X pins σ H { s with heap := h' } := I.turned (t' := s.toks) (fun b ob hb e => (sb.2 b hb).trans e) f0 f1 f3 f4 f5
    obtain ⟨oi, e, c, dd⟩ := id st'
    exact ⟨es'[i].key, rfl, go_of (s := { s with heap := h' }) e c dd (by decide) ⟨.ref kvs[i].2.1, H, I1, hkey, ⟨rfl, _, hkv, rfl⟩, st', fun b hb => (hf b hb).1⟩⟩
  done := by
    intro X hP hw hK hc i pins s σ H E I hf st hg
    subst hP hw hK
    obtain ⟨hd, hi⟩ := hg
    obtain ⟨f0, f1, f2, f3, f4, f5⟩ := hf it (by simp)
    obtain ⟨hs, hz, es', ep', hdt, raw, _, ent⟩ := Inv.frzN I hd
    obtain ⟨rfl, rfl⟩ := dict_ep hod hdt
    exact wpAny_pyNext_keys_end_raw (I.ok.hd hc) st raw (by rw [hsz]; exact hi) fun h' eb => ⟨rfl, I.turned (t' := s.toks) (fun b ob hb e => eb b ob hb e) f0 f1 f3 f4 f5⟩
  self := fun A i s Q E st h => by
    refine wpAny_pyIter_slot st.typeIs F.slot_dict_keyiterator_iter (wpAny_call_entry F.slot_dict_keyiterator_iter st.typeIs F.entry_dict_keyiterator_iter ?_ (F.args_dict_keyiterator_iter_1 _))
    show wpAny _ _ (ret (.ref it)) _ _ s
    exact wpAny_pure ⟨_, rfl, "dict_keyiterator", _, st.typeIs, F.slot_dict_keyiterator_next.lookup, h⟩
theorem turn_nvals {kvs : List NE} (it : Addr) (hod : o.data = .dict es ep) (hsz : es.size = kvs.length) : Turn P w K tg (Itnv w d o kvs) [it] it (fun i h => h.IsValIter it d i es.size ep) where
  mem := by simp
  obj := fun i h st b hb => by
    have e : b = it := by simpa using hb
    subst e
    obtain ⟨oi, e, c, dd⟩ := st
    exact ⟨oi, e, fun v z => by rw [dd] at z; cases z⟩
  keep := fun i h h' st k => st.at fun oi e => k it (by simp) oi e
  item := by
    intro X hP hw hK hc i pins s σ H E I hf st hg
    subst hP hw hK
    obtain ⟨hd, hi⟩ := hg
    obtain ⟨f0, f1, f2, f3, f4, f5⟩ := hf it (by simp)
    obtain ⟨hs, hz, es', ep', hdt, raw, _, ent⟩ := Inv.frzN I hd
    obtain ⟨rfl, rfl⟩ := dict_ep hod hdt
    have hkv : kvs[i]? = some kvs[i] := List.getElem?_eq_getElem hi
    have hlt : i < es'.size := by rw [hsz]; exact hi
    obtain ⟨_, hval⟩ := ent i _ hlt hkv
    refine wpAny_pyNext_values_item_raw st raw hlt fun h' st' sb => ?_
    have I1 : Inv X pins σ H { s with heap := h' } := I.turned (t' := s.toks) (fun b ob hb e => (sb.2 b hb).trans e) f0 f1 f3 f4 f5
    obtain ⟨oi, e, c, dd⟩ := id st'
    exact ⟨es'[i].val, rfl, go_of (s := { s with heap := h' }) e c dd (by decide) ⟨kvs[i].2.2, H, I1, hval, ⟨rfl, _, hkv, rfl⟩, st', fun b hb => (hf b hb).1⟩⟩
  done := by
    intro X hP hw hK hc i pins s σ H E I hf st hg
    subst hP hw hK
    obtain ⟨hd, hi⟩ := hg
    obtain ⟨f0, f1, f2, f3, f4, f5⟩ := hf it (by simp)
    obtain ⟨hs, hz, es', ep', hdt, raw, _, ent⟩ := Inv.frzN I hd
    obtain ⟨rfl, rfl⟩ := dict_ep hod hdt
    exact wpAny_pyNext_values_end_raw (I.ok.hd hc) st raw (by rw [hsz]; exact hi) fun h' eb => ⟨rfl, I.turned (t' := s.toks) (fun b ob hb e => eb b ob hb e) f0 f1 f3 f4 f5⟩
  self := fun A i s Q E st h => wpAny_pyIter_valiter st h
theorem turn_nitems {kvs : List NE} {elts : List Expr} {kk : Nat} {tpos : Pos} (it : Addr) (hod : o.data = .dict es ep) (hsz : es.size = kvs.length) :
    Turn P w K (.Tuple elts kk tpos) (Itni w d o kvs) [it] it (fun i h => ∃ ok ov, IsItemIter h it d i es.size ep ok ov) where
  mem := by simp
  obj := fun i h st b hb => by
    have e : b = it := by simpa using hb
    subst e
    obtain ⟨ok, ov, e⟩ := st
    exact ⟨_, e, fun v z => nomatch z⟩
  keep := fun i h h' st k => let ⟨ok, ov, e⟩ := st; ⟨ok, ov, k it (by simp) _ e⟩
  item := by
    intro X hP hw hK hc i pins s σ H E I hf st hg
    subst hP hw hK
    obtain ⟨hd, hi⟩ := hg
    obtain ⟨hs, hz, es', ep', hdt, raw, _, ent⟩ := Inv.frzN I hd
    obtain ⟨rfl, rfl⟩ := dict_ep hod hdt
    have hkv : kvs[i]? = some kvs[i] := List.getElem?_eq_getElem hi
    have hlt : i < es'.size := by rw [hsz]; exact hi
    obtain ⟨hkey, hval⟩ := ent i _ hlt hkv
    obtain ⟨ok, ov, he⟩ := st
    have hlt' : it < s.heap.objs.size := Heap.lt_size he
    refine wpAny_pyNext_items_item_raw he raw hlt fun h' ho hT hz' hk => ?_
    refine ⟨_, rfl, wpAny_letOwnedTupleGo_items (s := { s with heap := h' }) ho fun h'' he' sb => ?_⟩
    have hT2 : h''.get? s.heap.objs.size = some { cls := .type "tuple", data := .seq #[es'[i].key, es'[i].val] } := (sb.2 _ (Nat.ne_of_gt hlt')).trans hT
    have new : ObjOk X.prog X.w (upd H s.heap.objs.size (.tup [.ref kvs[i].2.1, kvs[i].2.2])) h'' s.heap.objs.size (.tup [.ref kvs[i].2.1, kvs[i].2.2]) :=
      ⟨by show 2 ≤ sizeLine; decide, [es'[i].key, es'[i].val], .cons hkey (.cons hval .nil), ⟨_, hT2, rfl, _, rfl⟩⟩
    have I1 : Inv X pins σ (upd H s.heap.objs.size (.tup [.ref kvs[i].2.1, kvs[i].2.2])) { s with heap := h'' } :=
      I.turnedNew (t' := s.toks) (ch := [it]) (fun b ob hb e => (sb.2 b (by simpa using hb)).trans (hk b ob (by simpa using hb) e)) hf (Nat.le_refl _) new
    refine ⟨.ref s.heap.objs.size, _, I1, rfl, ⟨_, _, hkv, rfl, I.hok.fresh (Nat.le_refl _), rfl⟩, ⟨es'[i].key, es'[i].val, he'⟩, fun b hb => ?_⟩
    have e : b = it := by simpa using hb
    rw [e, upd_ne (Nat.ne_of_lt hlt')]
    exact (hf it (by simp)).1
  done := by
    intro X hP hw hK hc i pins s σ H E I hf st hg
    subst hP hw hK
    obtain ⟨hd, hi⟩ := hg
    obtain ⟨f0, f1, f2, f3, f4, f5⟩ := hf it (by simp)
    obtain ⟨hs, hz, es', ep', hdt, raw, _, ent⟩ := Inv.frzN I hd
    obtain ⟨rfl, rfl⟩ := dict_ep hod hdt
    obtain ⟨ok, ov, he⟩ := st
    exact wpAny_pyNext_items_end_raw (I.ok.hd hc) he raw (by rw [hsz]; exact hi) fun h' eb => ⟨rfl, I.turned (t' := s.toks) (fun b ob hb e => eb b ob hb e) f0 f1 f3 f4 f5⟩
  self := fun A i s Q E st h => let ⟨_, _, e⟩ := st; PySem.W.kcp_self e h
end
/-- the dict is locked -/
def iNKeys (w : World) (td : TE) : TI := fun σ H R => td σ H fun x H1 => ∃ d o kvs, x = .ref d ∧ H1 d = some (.frz o (dN w d kvs)) ∧ R (Itnk w d o kvs) H1
def iNVals (w : World) (td : TE) : TI := fun σ H R => td σ H fun x H1 => ∃ d o kvs, x = .ref d ∧ H1 d = some (.frz o (dN w d kvs)) ∧ R (Itnv w d o kvs) H1
def iNItems (w : World) (td : TE) : TI := fun σ H R => td σ H fun x H1 => ∃ d o kvs, x = .ref d ∧ H1 d = some (.frz o (dN w d kvs)) ∧ R (Itni w d o kvs) H1
section
variable {X : Cx} {tg e : Expr} {td : TE} {apos cpos : Pos}
theorem pi_nkeys (he : PE X e td) : PI X tg e (iNKeys X.w td) := by
  refine ⟨fun pins s σ H R I h => ?_⟩
  refine thn (he.run pins s σ H _ I h) fun u s1 ⟨x, H1, I1, rx, d, o, kvs, ex, hd, q⟩ => ?_
  subst ex
  obtain rfl : u = Value.ref d := rx
  obtain ⟨hs, hz, es, ep, hdt, raw, hsz, ent⟩ := Inv.frzN I1 hd
  exact wpAny_pyIter_dict_raw hs raw (pi_one (tk := s1.toks) I1 _ (turn_nkeys _ hdt hsz) ⟨_, Heap.get?_push_size _ rfl, rfl, rfl⟩ q)
theorem pi_nvalues (he : PE X e td) (hbase : attributeBase e "values" X.env (eval e X.env) = eval e X.env := by rfl) (hline : (apos.endLine == cpos.line) = true := by rfl) : PI X tg (.Call (.Attribute e "values" apos) [] [] cpos) (iNVals X.w td) := by
  refine ⟨fun pins s σ H R I h => ?_⟩
  refine wpAny_Call_method (T := "dict") (id := "dict.values") hbase rfl hline F.plainAttrs_dict F.slot_dict_values F.type_dict_values (thn (he.run pins s σ H _ I h) fun u s1 ⟨x, H1, I1, rx, d, o, kvs, ex, hd, q⟩ => ?_)
  subst ex
  obtain rfl : u = Value.ref d := rx
  obtain ⟨hs, hz, es, ep, hdt, raw, hsz, ent⟩ := Inv.frzN I1 hd
  refine ⟨raw.typeIs, fun b q => ?_, ?_⟩
  · cases q
    obtain ⟨ob, h1, h2, _⟩ := raw
    exact ⟨ob, h1, h2.2.1⟩
  have I2 : Inv X pins σ H1 { s1 with heap := s1.heap.push { cls := .type "dict_values", data := .fields #[.ref d] } } := I1.kept (t' := s1.toks) fun b ob q => Heap.get?_push_of_some _ q
  have fin : wpAny (model X.prog X.w) X.A (pyIter (.ref s1.heap.objs.size)) (PIE X pins σ tg R) X.xe { s1 with heap := s1.heap.push { cls := .type "dict_values", data := .fields #[.ref d] } } :=
    wpAny_pyIter_values_raw (d := d) ⟨_, Heap.get?_push_size _ rfl, rfl, rfl⟩ (raw.at fun o q => Heap.get?_push_of_some _ q) (pi_one (tk := s1.toks) I2 _ (turn_nvals _ hdt hsz) ⟨_, Heap.get?_push_size _ rfl, rfl, rfl⟩ q)
  show wpAny _ _ (callWith cpos (.builtin "dict.values") [.ref d] [] []) _ X.xe s1
  exact method_meetsIn F.slot_dict_values F.entry_dict_values rfl (PySem.evalArgs_none ⟨rfl, raw.typeIs, F.args_dict_values_1 _, _, meets_dict_values_raw d hs, ⟨es, ep, raw⟩, fin⟩)
theorem pi_nitems {elts : List Expr} {kk : Nat} {tpos : Pos} (he : PE X e td) (hbase : attributeBase e "items" X.env (eval e X.env) = eval e X.env := by rfl) (hline : (apos.endLine == cpos.line) = true := by rfl) :
    PI X (.Tuple elts kk tpos) (.Call (.Attribute e "items" apos) [] [] cpos) (iNItems X.w td) := by
  refine ⟨fun pins s σ H R I h => ?_⟩
  refine wpAny_Call_method (T := "dict") (id := "dict.items") hbase rfl hline F.plainAttrs_dict F.slot_dict_items F.type_dict_items (thn (he.run pins s σ H _ I h) fun u s1 ⟨x, H1, I1, rx, d, o, kvs, ex, hd, q⟩ => ?_)
  subst ex
  obtain rfl : u = Value.ref d := rx
  obtain ⟨hs, hz, es, ep, hdt, raw, hsz, ent⟩ := Inv.frzN I1 hd
  refine ⟨raw.typeIs, fun b q => ?_, ?_⟩
  · cases q
    obtain ⟨ob, h1, h2, _⟩ := raw
    exact ⟨ob, h1, h2.2.1⟩
  have I2 : Inv X pins σ H1 { s1 with heap := s1.heap.push { cls := .type "dict_items", data := .fields #[.ref d] } } := I1.kept (t' := s1.toks) fun b ob q => Heap.get?_push_of_some _ q
  have fin : wpAny (model X.prog X.w) X.A (pyIter (.ref s1.heap.objs.size)) (PIE X pins σ (.Tuple elts kk tpos) R) X.xe { s1 with heap := s1.heap.push { cls := .type "dict_items", data := .fields #[.ref d] } } := 
    wpAny_pyIter_items_raw (d := d) ⟨_, Heap.get?_push_size _ rfl, rfl, rfl⟩ (raw.at fun o q => Heap.get?_push_of_some _ q) (pi_one (tk := s1.toks) I2 _ (turn_nitems _ hdt hsz) ⟨.none, .none, Heap.get?_push_size _ rfl⟩ q)
  show wpAny _ _ (callWith cpos (.builtin "dict.items") [.ref d] [] []) _ X.xe s1
  exact method_meetsIn F.slot_dict_items F.entry_dict_items rfl (PySem.evalArgs_none ⟨rfl, raw.typeIs, F.args_dict_items_1 _, _, meets_dict_items_raw d hs, ⟨es, ep, raw⟩, fin⟩)
end
end K1D

set_option Elab.async false
set_option linter.all false
set_option maxRecDepth 100000
set_option maxHeartbeats 4000000
/-! {k: v for .. in ..} where the keys are nested. Speaks of no program. -/
namespace K1D
open PySem PySem.Spec PyProof.Rows L2
/-- what one pair does to the new dict at D -/
def PutAt (K : PySem.W.Frag) (w : World) (D : Addr) (y z : V) (G : Hp) (go : Hp → Prop) : Prop :=
  ∃ kvs k b, y = .ref b ∧ G D = some (dN w D kvs) ∧ KeysN K G kvs ∧ kvs.length < sizeLine ∧ KeyV K G k (.ref b) ∧ k.depth ≤ 8 ∧ go (upd G D (dN w D (putN kvs k b z)))
/-- {k: v for target in iter if ..}: D the new dict -/
def tNDc (K : PySem.W.Frag) (w : World) (wi : TI) (g : TG) (tt : TT) (tk tv : TE) (vs : List Nat) : TE := fun σ H Q => wi σ H fun J G => ∀ D, G D = none →
  ∃ W : Nat → Nat → Hp → Prop, (∃ m, W 0 m (upd G D (dN w D []))) ∧ ∀ i m F, W i m F →
    (J.stop i F ∧ Q (.ref D) F) ∨
    (J.go i F ∧ ∃ Nx : Hp → Prop, (∀ F', Nx F' → ∃ m', m' < m ∧ W (i + 1) m' F') ∧ ∀ x F', J.yld i F x F' → g x (wipe σ vs) F' fun σ2 F2 => wipe σ2 vs = wipe σ vs ∧ tt σ2 F2 fun b F3 =>
      if b = true then tk σ2 F3 fun y F4 => tv σ2 F4 fun z F5 => PutAt K w D y z F5 Nx else Nx F3)
section
variable {X : Cx}
theorem ndc_core {pn : List (Addr × Obj)} {s : Shared} {τ : L2.St} {H : Hp} {Q : VK} {kx vx tg iter : Expr} {ifs : List Expr} {scope : Scope} {own : List (Str × Nat)} {pos pos' : Pos} {wi : TI} {g : TG} {tt : TT} {tk tv : TE} {use : Option (Value → Sem Unit)} {Qf : Value → Shared → Prop}
    (hu : X.A.units + 8 < cLine) (hc : X.calm = true) (hN : X.N.Nodup) (I : Inv X pn τ H s) (hi : PI X tg iter wi) (ok : BlkOk X.N X.env.scope scope own)
    (hg : ∀ (s : Shared) (H : Hp) (C : Addr) (cl : List (Str × Addr)) (fp : List Addr), PG (X.blk s H scope (compEnvC scope cl C X.env) fp) tg g)
    (ht : ∀ (s : Shared) (H : Hp) (C : Addr) (cl : List (Str × Addr)) (fp : List Addr), PTs (X.blk s H scope (compEnvC scope cl C X.env) fp) ifs tt)
    (hk : ∀ (s : Shared) (H : Hp) (C : Addr) (cl : List (Str × Addr)) (fp : List Addr), PE (X.blk s H scope (compEnvC scope cl C X.env) fp) kx tk)
    (hv : ∀ (s : Shared) (H : Hp) (C : Addr) (cl : List (Str × Addr)) (fp : List Addr), PE (X.blk s H scope (compEnvC scope cl C X.env) fp) vx tv)
    (hs : ∀ x, foldedSetIterable iter X.env x = pure x) (h : tNDc X.K X.w wi g tt tk tv (own.map (·.2)) τ H Q)
    (back : ∀ D C s' m G, Inv X pn τ G s' → Q (.ref D) G → s'.heap.Ns C m → FpOk X pn G C → compPost (model X.prog X.w) X.A X.xe use Qf (.ref D) C (.ok .next) s') :
    wpAny (model X.prog X.w) X.A (comprehension (.DictComp kx vx [⟨tg, iter, ifs, 0⟩] scope pos) scope X.env pos' newDict false (eval iter X.env) use) Qf X.xe s := by
  have free : ∀ y ∈ scope.names, y.2 = .free → ∃ c, X.env.cells.lookup y.1 = some c := fun y hy e => (ok.free y hy e).elim (fun k => I.ok.has _ (.inl k)) fun k => I.ok.has _ (.inr k)
  refine wpAny_comprehension_free (use := use) rfl hs (closure_ok free) ok.kind (fun y hy e => by rw [ok.uniq y hy, e]) ?_
  refine thn (hi.run pn s τ H _ I h) fun xv s1 got => thn got fun itv s2 z => ?_
  obtain ⟨it, fp, tn, J, G, rfl, I2, T, sa, fa, turn0⟩ := z
  refine wpAny_newObj_type (newEnv_comp ?_)
  generalize hD : s2.heap.objs.size = D
  obtain ⟨W, ⟨m0, w0⟩, turn⟩ := turn0 D (I2.hok.fresh (Nat.le_of_eq hD))
  generalize e3 : ({ s2 with heap := s2.heap.push { cls := .type "dict", data := .dict #[] } } : Shared) = s3
  have p3 : s3.heap = s2.heap.push { cls := .type "dict", data := .dict #[] } := by rw [← e3]
  have I3 : Inv X pn τ (upd G D (dN X.w D [])) s3 := by
    rw [← e3]
    refine I2.laid (t' := s2.toks) (fun b o q => Heap.get?_push_of_some _ q) (Nat.le_of_eq hD) ?_
    rw [← hD]
    exact dn_empty s2.heap I2.big
  have low : ∀ b ∈ fp, b < s2.heap.objs.size := fun b hb => let ⟨o, q, _⟩ := T.obj _ _ sa b hb; Heap.lt_size q
  have fb : ∀ b ∈ fp, FpOk X pn (upd G D (dN X.w D [])) b ∧ b < s3.heap.objs.size := fun b hb => by
    have lt := low b hb
    refine ⟨⟨?_, (fa b hb).2⟩, by rw [p3, Heap.size_push]; exact Nat.lt_succ_of_lt lt⟩
    rw [upd_ne (by rw [← hD]; exact Nat.ne_of_lt lt)]
    exact (fa b hb).1
  have sb : tn 0 s3.heap := T.keep _ _ _ sa fun b _ o q => by rw [p3]; exact Heap.get?_push_of_some _ q
  have I4 := block_start I3 ok hN fb
  -- the block's own context
  let cl := cellsFrom (s3.heap.objs.size + 1) scope.names (cloFrom X.env.cells scope.names [])
  have rg := hg s3 (upd G D (dN X.w D [])) s3.heap.objs.size cl fp
  have rt := ht s3 (upd G D (dN X.w D [])) s3.heap.objs.size cl fp
  have rk := hk s3 (upd G D (dN X.w D [])) s3.heap.objs.size cl fp
  have rv := hv s3 (upd G D (dN X.w D [])) s3.heap.objs.size cl fp
  show codeAny _ _ (.compStart (.DictComp kx vx [⟨tg, iter, ifs, 0⟩] scope pos) 0 (.ref it) (.ref D) (compEnvC scope cl s3.heap.objs.size X.env)) (compPost (model X.prog X.w) X.A X.xe use Qf (.ref D) s3.heap.objs.size) { s3 with heap := pushCells (s3.heap.push { cls := .type "dict", data := .dict #[] }) scope.names }
  generalize hce : compEnvC scope cl s3.heap.objs.size X.env = ce at I4 rg rt rk rv ⊢
  have cL : ce.locals = s3.heap.objs.size := by subst hce; rfl
  have nfp : ∀ b ∈ fp, (upd G D (dN X.w D [])) b = none := fun b hb => (fb b hb).1.1
  generalize hG3 : upd G D (dN X.w D []) = G3 at I3 I4 rg rt rk rv w0 nfp fb
  generalize e4 : ({ s3 with heap := pushCells (s3.heap.push { cls := .type "dict", data := .dict #[] }) scope.names } : Shared) = s4 at I4 ⊢
  have sc : tn 0 s4.heap := T.keep _ _ _ sb fun b _ o q => by rw [← e4]; exact pushCells_keeps _ _ _ _ (Heap.get?_push_of_some _ q)
  have apart : ∀ {τ' : L2.St} {F : Hp} {s' : Shared}, Inv (X.blk s3 G3 scope ce fp) [] τ' F s' → (∀ b ∈ fp, F b = none) → ∀ b ∈ fp, FpOk (X.blk s3 G3 scope ce fp) [] F b := fun {τ' F s'} J' hn b hb =>
    ⟨hn b hb, (J'.ok.exf b hb).1, J'.ok.exfs b hb, .inl hb, fun x c q => (J'.ok.exf b hb).2 x c q, fun p hp => absurd (show p ∈ ([] : List (Addr × Obj)) ++ [] from hp) (by simp)⟩
  refine codeAny_compStart_dict ?loop (T.self X.A 0 _ _ _ sc ?loop)
  refine compLoop_anyD (fun n s' => ∃ i F, Inv (X.blk s3 G3 scope ce fp) [] (wipe τ (own.map (·.2))) F s' ∧ tn i s'.heap ∧ (∀ b ∈ fp, F b = none) ∧ W i n F) ?_ m0 ⟨0, G3, I4, sc, nfp, w0⟩
  rintro n s5 ⟨i, F5, I5, s5a, n5, w5⟩
  rcases turn i n F5 w5 with ⟨halt, fin0⟩ | ⟨go, Nx, less, step⟩
  · -- no further one: back in the def
    refine thnF (T.done (X.blk s3 G3 scope ce fp) rfl rfl rfl hc i [] s5 _ F5 (fun _ _ => False) I5 (apart I5 n5) s5a halt) fun r s6 ⟨hr, I6⟩ => ?_
    subst hr
    have I7 : Inv X pn τ F5 s6 := I3.call' (ch := fp) I6.os I6.base I6.hok I6.bare fun b hb => let ⟨_, q1, q2, q3, q4, q5⟩ := (fb b hb).1; ⟨q3, q1, q4, q5⟩
    have nC : F5 s3.heap.objs.size = none := by
      rw [← cL]
      exact I6.free
    obtain ⟨m, hn, _⟩ := I6.loc
    have hn' : s6.heap.Ns ce.locals m := hn
    rw [cL] at hn'
    exact back D s3.heap.objs.size s6 m F5 I7 fin0 hn' (I3.fpOk (Nat.le_refl _) nC)
  · refine thnF (T.item (X.blk s3 G3 scope ce fp) rfl rfl rfl hc i [] s5 _ F5 (fun _ _ => False) I5 (apart I5 n5) s5a go) fun r s6 ⟨u, hr, h6⟩ => ?_
    subst hr
    refine thnF h6 fun _ s7 ⟨x, F7, I7, r7, y7, s7a, n7⟩ => ?_
    have I7' := I7.pinned (apart I7 n7) (T.obj _ _ s7a)
    refine thnF (rg.run _ s7 _ F7 x u _ I7' r7 (step x F7 y7)) fun _ s8 ⟨τ8, F8, I8, hw8, q8⟩ => ?_
    refine thnF (rt.run _ s8 τ8 F8 _ I8 q8) fun b s9 ⟨F9, I9, q9⟩ => ?_
    have fin : ∀ {s' : Shared} {F' : Hp}, Inv (X.blk s3 G3 scope ce fp) ([] ++ pinsAt fp s7.heap) τ8 F' s' → Nx F' → ∃ m, m < n ∧ ∃ i F', Inv (X.blk s3 G3 scope ce fp) [] (wipe τ (own.map (·.2))) F' s' ∧ tn i s'.heap ∧ (∀ b ∈ fp, F' b = none) ∧ W i m F' := fun {s' F'} J' nx => by
      obtain ⟨m', lt, w'⟩ := less F' nx
      have pin' : ∀ b ∈ fp, ∀ o, s7.heap.get? b = some o → s'.heap.get? b = some o ∧ F' b = none := fun b hb o q =>
        let z := J'.pin (b, o) (List.mem_append_right _ (List.mem_append_right _ (mem_pinsAt hb q)))
        ⟨z.1, z.2.1⟩
      have hl : (wipe τ (own.map (·.2))).length = τ8.length := by rw [← hw8, wipe_length]
      refine ⟨m', lt, i + 1, F', (J'.unpinned (pins := [])).weak hl (fun j v q => ?_), T.keep _ _ _ s7a fun b hb o q => (pin' b hb o q).1, fun b hb => ?_, w'⟩
      · rw [← hw8] at q
        exact (wipe_some q).1
      · obtain ⟨o, q, _⟩ := T.obj _ _ s7a b hb
        exact (pin' b hb o q).2
    cases b with
    | false =>
      simp only [Bool.false_eq_true, if_false] at q9 ⊢
      exact fin I9 q9
    | true =>
      simp only [if_true] at q9 ⊢
      refine thnF (rk.run _ s9 τ8 F9 _ I9 q9) fun kw s10 ⟨y, F10, I10, r10, q10⟩ => ?_
      refine thnF (rv.run _ s10 τ8 F10 _ I10 q10) fun vw s11 ⟨z, F11, I11, r11, kvs, k, p, ey, hat, ks, lt, key, dep, nx⟩ => ?_
      subst ey
      obtain rfl : kw = Value.ref p := r10
      exact n_dictSet (X := X.blk s3 G3 scope ce fp) hu I11 hat ks lt key dep r11 fun s12 I12 => fin I12 nx
theorem pe_ndc {kx vx tg iter : Expr} {ifs : List Expr} {scope : Scope} {own : List (Str × Nat)} {pos : Pos} {wi : TI} {g : TG} {tt : TT} {tk tv : TE} (hu : X.A.units + 8 < cLine) (hc : X.calm = true) (hN : X.N.Nodup) (hi : PI X tg iter wi) (ok : BlkOk X.N X.env.scope scope own)
    (hg : ∀ (s : Shared) (H : Hp) (C : Addr) (cl : List (Str × Addr)) (fp : List Addr), PG (X.blk s H scope (compEnvC scope cl C X.env) fp) tg g)
    (ht : ∀ (s : Shared) (H : Hp) (C : Addr) (cl : List (Str × Addr)) (fp : List Addr), PTs (X.blk s H scope (compEnvC scope cl C X.env) fp) ifs tt)
    (hk : ∀ (s : Shared) (H : Hp) (C : Addr) (cl : List (Str × Addr)) (fp : List Addr), PE (X.blk s H scope (compEnvC scope cl C X.env) fp) kx tk)
    (hv : ∀ (s : Shared) (H : Hp) (C : Addr) (cl : List (Str × Addr)) (fp : List Addr), PE (X.blk s H scope (compEnvC scope cl C X.env) fp) vx tv) (hs : ∀ x, foldedSetIterable iter X.env x = pure x := by intro _; rfl) :
    PE X (.DictComp kx vx [⟨tg, iter, ifs, 0⟩] scope pos) (tNDc X.K X.w wi g tt tk tv (own.map (·.2))) := ⟨fun pn s τ H Q I h => by
  rw [arm_eval_DictComp]
  refine ndc_core hu hc hN I hi ok hg ht hk hv hs h fun D C s' m G I' q hn ⟨f0, f1, f2, f3, f4, f5⟩ => ⟨m, hn, fun h2 same => ?_⟩
  exact ⟨.ref D, G, I'.turned (t' := s'.toks) (fun b o hb e => (same.2 b hb).trans e) f0 f1 f3 f4 f5, rfl, q⟩⟩

/-- name = {..} on one line, the name a local -/
theorem ps_setNdc {i : Nat} {y : Str} {py : Pos} {kx vx tg iter : Expr} {ifs : List Expr} {scope : Scope} {own : List (Str × Nat)} {pos sp : Pos} {wi : TI} {g : TG} {tt : TT} {tk tv : TE} (hu : X.A.units + 8 < cLine) (hc : X.calm = true) (hN : X.N.Nodup) (hy : X.N[i]? = some y) (loc : X.env.scope.names.lookup y = some .local)
    (sw : swapsWith (.DictComp kx vx [⟨tg, iter, ifs, 0⟩] scope pos) (some (.Name y py)) sp.line X.env = pure true) (hi : PI X tg iter wi) (ok : BlkOk X.N X.env.scope scope own)
    (hg : ∀ (s : Shared) (H : Hp) (C : Addr) (cl : List (Str × Addr)) (fp : List Addr), PG (X.blk s H scope (compEnvC scope cl C X.env) fp) tg g)
    (ht : ∀ (s : Shared) (H : Hp) (C : Addr) (cl : List (Str × Addr)) (fp : List Addr), PTs (X.blk s H scope (compEnvC scope cl C X.env) fp) ifs tt)
    (hk : ∀ (s : Shared) (H : Hp) (C : Addr) (cl : List (Str × Addr)) (fp : List Addr), PE (X.blk s H scope (compEnvC scope cl C X.env) fp) kx tk)
    (hv : ∀ (s : Shared) (H : Hp) (C : Addr) (cl : List (Str × Addr)) (fp : List Addr), PE (X.blk s H scope (compEnvC scope cl C X.env) fp) vx tv) (hs : ∀ x, foldedSetIterable iter X.env x = pure x := by intro _; rfl) :
    PS X (.Assign [.Name y py] (.DictComp kx vx [⟨tg, iter, ifs, 0⟩] scope pos) sp) (tAsg (tNDc X.K X.w wi g tt tk tv (own.map (·.2))) (gName i)) := ⟨fun pn s τ H D I h => by
  rw [exec_Assign_Name_used _ _ _ _ sw]
  refine wpAny_bind (wpAny_standAt (wpAny_bind ?_))
  have h' : tNDc X.K X.w wi g tt tk tv (own.map (·.2)) τ H (fun x G => gName i x τ G D.nx) := h
  show wpAny _ X.A (do let _ ← comprehension (.DictComp kx vx [⟨tg, iter, ifs, 0⟩] scope pos) scope X.env (firstIterPos [⟨tg, iter, ifs, 0⟩] pos) newDict false (eval iter X.env) (some (assign (.Name y py) X.env))) _ _ s
  refine wpAny_bind (thn (ndc_core (Qf := fun _ s' => SP X pn D .next s') hu hc hN I hi ok hg ht hk hv hs h' fun L C s' m G I' q hn ⟨f0, f1, f2, f3, f4, f5⟩ => ?_) fun _ s' hq => wpAny_pure (wpAny_pure hq))
  show wpAny _ _ (assign (.Name y py) X.env (.ref L)) _ _ _
  refine wpAny_assign_Name (store_ok2 (v := V.ref L) I' hN hy (.inl loc) rfl (fun s2 I2 ⟨a, same, ha⟩ => ?_) (.inr loc))
  have ne : C ≠ a := ha.elim (fun z => by rw [z]; exact f1) fun z q => f4 y a z q.symm
  exact ⟨m, hn.sameBut same ne, fun h3 sm3 => ⟨_, G, I2.turned (t' := s2.toks) (fun b o hb e => (sm3.2 b hb).trans e) f0 f1 f3 f4 f5, q⟩⟩⟩

/-! ### the loops -/
/-- a block over n things, of any iterator that knows its turns -/
theorem blk_n {J : It} {n : Nat} {G : Hp} {o : Addr → HO} {D : Addr} {Qd : Hp → Prop} {body : V → Hp → (Hp → Prop) → Prop} (Pv : Nat → Hp → Prop) (h0 : Pv 0 (upd G D (o D))) (go : ∀ i F, i < n → Pv i F → J.go i F) (halt : ∀ F, Pv n F → J.stop n F)
    (hs : ∀ i F x F', i < n → Pv i F → J.yld i F x F' → body x F' (Pv (i + 1))) (hd : ∀ F, Pv n F → Qd F) :
    ∃ W : Nat → Nat → Hp → Prop, (∃ m, W 0 m (upd G D (o D))) ∧ ∀ i m F, W i m F → (J.stop i F ∧ Qd F) ∨ (J.go i F ∧ ∃ Nx : Hp → Prop, (∀ F', Nx F' → ∃ m', m' < m ∧ W (i + 1) m' F') ∧ ∀ x F', J.yld i F x F' → body x F' Nx) := by
  refine ⟨fun i m F => m = n - i ∧ i ≤ n ∧ Pv i F, ⟨n, (Nat.sub_zero n).symm, Nat.zero_le _, h0⟩, ?_⟩
  rintro i m F ⟨rfl, hi, p⟩
  rcases Nat.lt_or_ge i n with lt | ge
  · exact .inr ⟨go i F lt p, Pv (i + 1), fun F' p' => ⟨n - (i + 1), by omega, rfl, lt, p'⟩, fun x F' y => hs i F x F' lt p y⟩
  · obtain rfl : i = n := by omega
    exact .inl ⟨halt F p, hd F p⟩
/-- a for statement over n things -/
theorem for_n {J : It} {n : Nat} {g : TG} {tb : TS} {D : Ends} {σ : L2.St} {H : Hp} (Pv : Nat → L2.St → Hp → Prop) (h0 : Pv 0 σ H) (go : ∀ i σ F, i < n → Pv i σ F → J.go i F) (halt : ∀ σ F, Pv n σ F → J.stop n F)
    (hs : ∀ i σ F x F', i < n → Pv i σ F → J.yld i F x F' → g x σ F' fun σ2 H2 => tb { D with nx := Pv (i + 1), ct := Pv (i + 1), bk := D.nx } σ2 H2) (hd : ∀ σ F, Pv n σ F → D.nx σ F) :
    ∃ W : Nat → Nat → L2.St → Hp → Prop, (∃ m, W 0 m σ H) ∧ ∀ i m σ F, W i m σ F →
      (J.stop i F ∧ D.nx σ F) ∨ (J.go i F ∧ ∃ N : L2.St → Hp → Prop, (∀ σ' F', N σ' F' → ∃ m', m' < m ∧ W (i + 1) m' σ' F') ∧ ∀ x F', J.yld i F x F' → g x σ F' fun σ2 H2 => tb { D with nx := N, ct := N, bk := D.nx } σ2 H2) := by
  refine ⟨fun i m σ F => m = n - i ∧ i ≤ n ∧ Pv i σ F, ⟨n, (Nat.sub_zero n).symm, Nat.zero_le _, h0⟩, ?_⟩
  rintro i m σ F ⟨rfl, hi, p⟩
  rcases Nat.lt_or_ge i n with lt | ge
  · exact .inr ⟨go i σ F lt p, Pv (i + 1), fun σ' F' p' => ⟨n - (i + 1), by omega, rfl, lt, p'⟩, fun x F' y => hs i σ F x F' lt p y⟩
  · obtain rfl : i = n := by omega
    exact .inl ⟨halt σ F p, hd σ F p⟩
end
end K1D

set_option Elab.async false
set_option linter.all false
set_option maxRecDepth 100000
set_option maxHeartbeats 4000000
/-! list(d) and sorted(d.items()) of a dict with nested keys. Speaks of no program. -/
namespace K1D
open PySem PySem.Spec PyProof.Rows L2
section
variable {X : Cx} {pn : List (Addr × Obj)} {σ : L2.St} {H : Hp} {s : Shared}
mutual
/-- read as data: no list on the way -/
theorem KeyV.reads (I : Inv X pn σ H s) : ∀ (k : NestedKey) (v : V) (u : Value), KeyV X.K H k v → RelV v u → Reads s.heap u k.data []
  | .none, _, _, h, r => by cases h; cases r; exact Reads.none
  | .num i, _, _, h, r => by
    cases h
    obtain ⟨t, rfl⟩ := r
    exact Reads.int i t
  | .text x, _, _, h, r => by
    cases h
    obtain ⟨t, rfl⟩ := r
    exact Reads.str x t
  | .tup ks, _, _, h, r => by
    cases h with
    | tup h1 h2 =>
      cases r
      obtain ⟨its, rv, ⟨o, ho, hc, n, hd⟩, _⟩ := I.tuple (SqT.of h1)
      exact Reads.tuple ho hc hd (KeyVs.reads I ks _ _ h2 rv)
theorem KeyVs.reads (I : Inv X pn σ H s) : ∀ (ks : List NestedKey) (vs : List V) (us : List Value), KeyVs X.K H ks vs → Vals vs us → ReadsAll s.heap us (NestedKey.datas ks) []
  | [], _, _, h, r => by cases h; cases r; exact ReadsAll.nil
  | k :: ks, _, _, h, r => by
    cases h with
    | cons h1 h2 =>
      cases r with
      | cons r1 r2 => exact ReadsAll.cons (KeyV.reads I k _ _ h1 r1) (KeyVs.reads I ks _ _ h2 r2)
end
/-! reading off a heap that keeps all objects -/
mutual
theorem Reads.kept0 {h h' : Heap} (kp : ∀ b o, h.get? b = some o → h'.get? b = some o) : ∀ (k : NestedKey) (u : Value), Reads h u k.data [] → Reads h' u k.data []
  | .none, _, r => by cases r; exact Reads.none
  | .num i, _, r => by cases r; exact Reads.int i _
  | .text x, _, r => by cases r; exact Reads.str x _
  | .tup ks, _, r => by
    have r' : Reads h _ (.tuple (NestedKey.datas ks)) [] := r
    cases r' with
    | tuple h1 h2 h3 h4 => exact Reads.tuple (kp _ _ h1) h2 h3 (ReadsAll.kept0 kp ks _ h4)
theorem ReadsAll.kept0 {h h' : Heap} (kp : ∀ b o, h.get? b = some o → h'.get? b = some o) : ∀ (ks : List NestedKey) (us : List Value), ReadsAll h us (NestedKey.datas ks) [] → ReadsAll h' us (NestedKey.datas ks) []
  | [], _, r => by
    have r' : ReadsAll h _ [] [] := r
    cases r'
    exact ReadsAll.nil
  | k :: ks, us, r => by
    have r' : ReadsAll h us (k.data :: NestedKey.datas ks) [] := r
    generalize hz : ([] : List Addr) = z at r'
    cases r' with
    | @cons v vs d ds as bs h1 h2 =>
      have e1 : as = [] := (List.append_eq_nil_iff.mp hz.symm).1
      have e2 : bs = [] := (List.append_eq_nil_iff.mp hz.symm).2
      subst e1 e2
      exact ReadsAll.cons (Reads.kept0 kp k _ h1) (ReadsAll.kept0 kp ks _ h2)
end
end
section
variable {X : Cx}
/-- list(d) -/
theorem call_list_dN (hc : X.calm = true) : CallR X (.type "list") (fun xs H Q => ∃ d kvs, xs = [V.ref d] ∧ Rd H d (dN X.w d kvs) ∧ ∀ p, H p = none → Q (.ref p) (upd H p (.lst (kvs.map fun x => V.ref x.2.1)))) := by
  intro pn s σ H xs us Q I r h
  obtain ⟨d, kvs, rfl, hd, q⟩ := h
  obtain ⟨u, rfl, rx⟩ := r.one
  cases rx
  obtain ⟨⟨z, hs, ks, rel, o, es, ep, ho, hx, hdt, he, _⟩, _⟩ := (show ObjOk X.prog X.w H s.heap d (dN X.w d kvs) from hd.ok I.hok)
  have l1 : es.toList.length = ks.length := by rw [he, List.length_map]
  rw [Array.length_toList] at l1
  have l2 : kvs.length = ks.length := Paired.length rel
  refine PySem.W.kdl_call (kdl_raw hs hx hdt) (I.ok.hd hc) ho (by omega) fun h' tk acc' c' kp e it => ?_
  have ent : ∀ (j : Nat) (en : DictEntry), es[j]? = some en → ∃ x : NE, kvs[j]? = some x ∧ en.key = Value.ref x.2.1 := by
    intro j en hj
    rw [← Array.getElem?_toList, he, List.getElem?_map] at hj
    obtain ⟨b, hb, eb⟩ := Option.map_eq_some_iff.mp hj
    have hjl : j < kvs.length := by rw [l2]; exact (List.getElem?_eq_some_iff.mp hb).1
    obtain ⟨u, hu, _⟩ := nr_get rel (List.getElem?_eq_getElem hjl)
    rw [hb] at hu
    refine ⟨_, List.getElem?_eq_getElem hjl, ?_⟩
    rw [← eb, Option.some.inj hu]
    all_goals rfl
  have ea : acc'.toList = (kvs.map fun x => x.2.1).map Value.ref := by
    have hl : acc'.toList.length = kvs.length := by rw [Array.length_toList, it.1]; omega
    apply List.ext_getElem?
    intro j
    rw [List.getElem?_map, List.getElem?_map]
    cases hj : acc'.toList[j]? with
    | none =>
      have h1 := List.getElem?_eq_none_iff.mp hj
      rw [List.getElem?_eq_none (by omega)]
      all_goals rfl
    | some v =>
      obtain ⟨en, hen, hv⟩ := it.2 j v (by rw [← Array.getElem?_toList]; exact hj)
      obtain ⟨x, hx', hk⟩ := ent j en hen
      rw [hx', hv, hk]
      all_goals rfl
  have rv : Vals ((kvs.map fun x => x.2.1).map V.ref) acc'.toList := by rw [ea]; exact vals_refs _
  have em : ((kvs.map fun x => x.2.1).map V.ref) = kvs.map fun x => V.ref x.2.1 := by rw [List.map_map]; all_goals rfl
  rw [em] at rv
  refine ⟨.ref s.heap.objs.size, _, I.laid (t' := tk) (o := .lst (kvs.map fun x => V.ref x.2.1)) kp (Nat.le_refl _) ?_, rfl, q _ (I.hok.fresh (Nat.le_refl _))⟩
  exact ⟨by rw [List.length_map]; exact z, acc'.toList, c', rv, by rw [Array.toArray_toList]; exact e⟩

/-! ### sorted(d.items()) -/
mutual
theorem key_depth : ∀ k : NestedKey, k.data.depth = k.depth
  | .none => rfl
  | .num _ => rfl
  | .text _ => rfl
  | .tup ks => by
    show PyData.depth (.tuple (NestedKey.datas ks)) = _
    simp only [PyData.depth, NestedKey.depth, keys_depth ks]
theorem keys_depth : ∀ ks : List NestedKey, PyData.depthAll (NestedKey.datas ks) = NestedKey.depthAll ks
  | [] => rfl
  | k :: ks => by
    show PyData.depthAll (k.data :: NestedKey.datas ks) = _
    simp only [PyData.depthAll, NestedKey.depthAll, key_depth k, keys_depth ks]
end
/-- the pairs of a dict whose values are ints -/
abbrev NI := NestedKey × Int
def pairK (x : NI) : NestedKey := .tup [x.1, .num x.2]
/-- d's pairs in their order, the places of the keys left out -/
def IntsN (kvs : List NE) (m : List NI) : Prop := kvs.map (fun x => (x.1, x.2.2)) = m.map fun x => (x.1, V.int x.2)
def rItemsN (w : World) : V → List V → Hp → VK → Prop := fun x xs H Q => ∃ (a : Addr) (kvs : List NE), x = .ref a ∧ xs = [] ∧ Rd H a (dN w a kvs) ∧ ∀ p, H p = none → Q (.ref p) (upd H p (DX.itemsO p a))
theorem mt_itemsN : MtR X "dict.items" (rItemsN X.w) := by
  intro pn s σ H x xs v us Q I rx rxs h
  obtain ⟨a, kvs, rfl, rfl, ha, q⟩ := h
  cases rx
  cases rxs
  obtain ⟨⟨z, hd, xs', rel, o, es, ep, ho, hx, hdat, _⟩, _⟩ := (show ObjOk X.prog X.w H s.heap a (dN X.w a kvs) from ha.ok I.hok)
  refine DT.callItems (es := es) (ep := ep) hd ⟨o, ho, hx, hdat⟩ ?_
  exact ⟨.ref s.heap.objs.size, _, I.laid (t' := s.toks) (fun b u e => Heap.get?_push_of_some _ e) (Nat.le_refl _) (DX.itemsO_ok (Heap.get?_push_size _ rfl)), rfl, q _ (I.hok.fresh (Nat.le_refl _))⟩
/-- sorted(d.items()), the values ints, the keys of one kind: the pairs, rising -/
def rSortN (K : PySem.W.Frag) (w : World) : List V → Hp → VK → Prop := fun vs H Q => ∃ (p a : Addr) (kvs : List NE) (m : List NI), vs = [.ref p] ∧ H p = some (DX.itemsO p a) ∧ Rd H a (dN w a kvs) ∧ KeysN K H kvs ∧ IntsN kvs m ∧
  (∀ x ∈ m, ∀ y ∈ m, PySem.W.alike x.1.data y.1.data = true) ∧
  ∀ (H' : Hp) (l : Addr) (xs : List V), (∀ b o, H b = some o → H' b = some o) → H' l = some (.lst xs) → KeyVs K H' ((m.mergeSort (PySem.W.dataLe false fun x => (pairK x).data)).map pairK) xs → Q (.ref l) H'
theorem ints_len {kvs : List NE} {m : List NI} (h : IntsN kvs m) : kvs.length = m.length := by
  have := congrArg List.length h
  simpa using this
theorem ints_at {kvs : List NE} {m : List NI} (h : IntsN kvs m) {j : Nat} {x : NE} (e : kvs[j]? = some x) : ∃ c, m[j]? = some (x.1, c) ∧ x.2.2 = V.int c := by
  have q : (kvs.map fun x => (x.1, x.2.2))[j]? = (m.map fun x => (x.1, V.int x.2))[j]? := by rw [h]
  rw [List.getElem?_map, List.getElem?_map, e] at q
  cases hm : m[j]? with
  | none => rw [hm] at q; cases q
  | some y =>
    rw [hm] at q
    have q2 : (x.1, x.2.2) = (y.1, V.int y.2) := Option.some.inj q
    obtain ⟨q3, q4⟩ := Prod.mk.inj q2
    exact ⟨y.2, by rw [q3], q4⟩
theorem each_of {α β : Type} {R : α → β → Prop} : ∀ {as : List α} {bs : List β}, as.length = bs.length → (∀ (j : Nat) (a : α) (b : β), as[j]? = some a → bs[j]? = some b → R a b) → PySem.W.EachIs R as bs
  | [], [], _, _ => .nil
  | a :: as, b :: bs, hl, h => .cons (h 0 a b rfl rfl) (each_of (by simpa using hl) fun j x y hx hy => h (j + 1) x y hx hy)
  | [], _ :: _, hl, _ => by simp at hl
  | _ :: _, [], hl, _ => by simp at hl
/-- the places of the items -/
theorem each_addr {β : Type} {T : Addr → β → Prop} : ∀ {vs : List Value} {bs : List β}, PySem.W.EachIs (fun v y => ∃ b : Addr, v = .ref b ∧ T b y) vs bs → ∃ cs : List Addr, vs = cs.map Value.ref ∧ PySem.W.EachIs T cs bs
  | _, _, .nil => ⟨[], rfl, .nil⟩
  | _, _, .cons ⟨c, e, hc⟩ t => by
    obtain ⟨cs, ecs, ht⟩ := each_addr t
    exact ⟨c :: cs, by rw [e, ecs]; rfl, .cons hc ht⟩
theorem each_keys {K : PySem.W.Frag} {H : Hp} {β : Type} (f : β → NestedKey) : ∀ {cs : List Addr} {bs : List β}, PySem.W.EachIs (fun c y => KeyV K H (f y) (.ref c)) cs bs → KeyVs K H (bs.map f) (cs.map V.ref)
  | _, _, .nil => .nil
  | _, _, .cons h t => .cons h (each_keys f t)
end
section
variable {X : Cx}
theorem cr_sortN (hc : X.calm = true) (hu : X.A.units + 64 < cLine) : CallR X (.builtin "sorted") (rSortN X.K X.w) := by
  intro pn s σ H xs us Q I r h
  obtain ⟨p, a, kvs, m, rfl, hp, ha, ks, hm, al, q⟩ := h
  obtain rfl := Vals.ref1 r
  have view : s.heap.IsItemsView p a := (show ObjOk X.prog X.w H s.heap p (DX.itemsO p a) from I.hok p _ hp).1
  obtain ⟨⟨z, hd, xs', rel, o, es, ep, ho, hx, hdat, he, _⟩, _⟩ := (show ObjOk X.prog X.w H s.heap a (dN X.w a kvs) from ha.ok I.hok)
  have l1 : es.toList.length = xs'.length := by rw [he, List.length_map]
  rw [Array.length_toList] at l1
  have l2 : kvs.length = xs'.length := Paired.length rel
  have l3 := ints_len hm
  refine DT.sortedI (es := es) (ep := ep) (I.ok.hd hc) view ⟨o, ho, hx, hdat⟩ (by omega) fun h' tk as hk hlt hl hG => ?_
  have nd : as.Nodup := List.Pairwise.imp (fun h => Nat.ne_of_lt h) hG.rise
  have lam : as.length = m.length := by omega
  -- each pair that was made
  have pr : ∀ (j : Nat) (b : Addr) (y : NI), as[j]? = some b → m[j]? = some y → ∃ (kq : Addr) (t : Tok), KeyV X.K H y.1 (.ref kq) ∧ y.1.depth ≤ 8 ∧ h'.get? b = some { cls := .type "tuple", data := .seq #[Value.ref kq, Value.int y.2 t] } := by
    intro j b y hj hy
    obtain ⟨en, hen, hg⟩ := hG.pairs j b hj
    have hjl : j < kvs.length := by rw [l3]; exact (List.getElem?_eq_some_iff.mp hy).1
    have hkv : kvs[j]? = some kvs[j] := List.getElem?_eq_getElem hjl
    obtain ⟨u, hxu, ru⟩ := nr_get rel hkv
    obtain ⟨c, hc', hv⟩ := ints_at hm hkv
    rw [hy] at hc'
    have ey : y = (kvs[j].1, c) := Option.some.inj hc'
    rw [hv] at ru
    obtain ⟨t, rfl⟩ := ru
    rw [← Array.getElem?_toList, he, List.getElem?_map, hxu] at hen
    have een : entN X.w (kvs[j].1, kvs[j].2.1, Value.int c t) = en := Option.some.inj hen
    obtain ⟨k1, k2⟩ := ks _ (List.getElem_mem hjl)
    refine ⟨kvs[j].2.1, t, by rw [ey]; exact k1, by rw [ey]; exact k2, ?_⟩
    rw [hg, ← een, ey]
    all_goals rfl
  have hob : (h'.push { cls := .type "list", data := .seq (as.map Value.ref).toArray }).get? h'.objs.size = some (seqObj "list" (as.map Value.ref).toArray 0) := Heap.get?_push_size _ rfl
  have ka : ∀ b o, h'.get? b = some o → (h'.push { cls := .type "list", data := .seq (as.map Value.ref).toArray }).get? b = some o := fun b o e => Heap.get?_push_of_some _ e
  have ne0 : ∀ b o, h'.get? b = some o → b ≠ h'.objs.size := fun b o e => Nat.ne_of_lt (Heap.lt_size e)
  generalize hh2 : h'.push { cls := .type "list", data := .seq (as.map Value.ref).toArray } = h2 at hob ka ⊢
  have kb : ∀ b o, s.heap.get? b = some o → h2.get? b = some o := fun b o e => ka b o (hk b o e)
  -- what an item stands for
  let Rt : Value → NI → Prop := fun v y => ∃ (j : Nat) (b : Addr), v = .ref b ∧ as[j]? = some b ∧ m[j]? = some y
  have e1 : PySem.W.EachIs Rt (as.map Value.ref) m := each_of (by rw [List.length_map]; exact lam) fun j v y hv hy => by
    rw [List.getElem?_map] at hv
    obtain ⟨b, hb, rfl⟩ := Option.map_eq_some_iff.mp hv
    exact ⟨j, b, rfl, hb, hy⟩
  have e2 : PySem.W.EachIs (fun v y => ∃ as', Reads h2 v (pairK y).data as' ∧ h'.objs.size ∉ as') (as.map Value.ref) m := e1.mono fun v y ⟨j, b, ev, hb, hy⟩ => by
    obtain ⟨kq, t, k1, k2, hg⟩ := pr j b y hb hy
    subst ev
    have r1 : Reads h2 (.ref kq) y.1.data [] := Reads.kept0 kb y.1 _ (k1.reads I _ _ _ rfl)
    have r2 : ReadsAll h2 [Value.ref kq, Value.int y.2 t] [y.1.data, .int y.2] [] := ReadsAll.cons r1 (ReadsAll.cons (Reads.int y.2 t) ReadsAll.nil)
    exact ⟨[], Reads.tuple (ka _ _ hg) rfl rfl r2, by simp⟩
  have hal : PySem.W.AllAlike (m.map fun x => (pairK x).data) := by
    intro d1 h1 d2 h2'
    obtain ⟨y1, m1, rfl⟩ := List.mem_map.mp h1
    obtain ⟨y2, m2, rfl⟩ := List.mem_map.mp h2'
    show PySem.W.alike (.tuple [y1.1.data, .int y1.2]) (.tuple [y2.1.data, .int y2.2]) = true
    simp only [PySem.W.alike, PySem.W.alikeAll, al y1 m1 y2 m2, Bool.and_self]
  have dep : ∀ y ∈ m, (pairK y).data.depth ≤ 9 := by
    intro y hy
    obtain ⟨j, hj⟩ := List.mem_iff_getElem?.mp hy
    have hjl : j < as.length := by rw [lam]; exact (List.getElem?_eq_some_iff.mp hj).1
    obtain ⟨_, _, _, k2, _⟩ := pr j _ y (List.getElem?_eq_getElem hjl) hj
    have e : ∀ k : NestedKey, k.data.depth = k.depth := key_depth
    show (PyData.tuple [y.1.data, .int y.2]).depth ≤ 9
    simp only [PyData.depth, PyData.depthAll, e]
    omega
  refine PySem.W.list_sort_data (s := { s with heap := h2, toks := tk }) hob e1 e2 hal (PySem.W.Sortable.tuples fun y => ⟨_, _, rfl⟩) (by omega) (fun y hy => ?_) fun out ol oe => ?_
  · have := dep y hy
    rw [Around.in1_units]
    omega
  · show EP X pn σ Q (.ref h'.objs.size) { s with heap := sortedHeap h2 h'.objs.size (as.map Value.ref) out.toArray, toks := tk }
    have kF : ∀ b o, b ≠ h'.objs.size → h2.get? b = some o → (sortedHeap h2 h'.objs.size (as.map Value.ref) out.toArray).get? b = some o := fun b o hb e => (PyProof.Rows.sortedHeap_old hb (Heap.lt_size e)).trans e
    have kS : ∀ b o, s.heap.get? b = some o → (sortedHeap h2 h'.objs.size (as.map Value.ref) out.toArray).get? b = some o := fun b o e => kF b o (ne0 _ _ (hk b o e)) (kb b o e)
    obtain ⟨eF, heF⟩ := PyProof.Rows.sortedHeap_at (vs := as.map Value.ref) (out := out.toArray) hob
    generalize hF : sortedHeap h2 h'.objs.size (as.map Value.ref) out.toArray = hf at kF kS heF ⊢
    have I1 : Inv X pn σ H { s with heap := hf, toks := tk } := I.kept (t' := tk) kS
    have hn0 : H h'.objs.size = none := I.hok.fresh (Nat.le_of_lt hlt)
    obtain ⟨cs, ecs, ecm⟩ := each_addr (T := fun b y => ∃ j : Nat, as[j]? = some b ∧ m[j]? = some y) (oe.mono fun v y ⟨j, b, ev, hb, hy⟩ => ⟨b, ev, j, hb, hy⟩)
    have lcs : cs.length = m.length := by rw [ecm.length, List.length_mergeSort]
    have I2 : Inv X pn σ (upd H h'.objs.size (.lst (cs.map V.ref))) { s with heap := hf, toks := tk } :=
      I1.take (h' := hf) (t' := tk) (fun b ob _ e => e) (I.fpOk (Nat.le_of_lt hlt) hn0) ⟨by rw [List.length_map]; omega, out, eF, by rw [ecs]; exact vals_refs _, heF⟩
    obtain ⟨H2, I3, g, qt⟩ := DX.takeT (P := fun b vs => ∃ (j : Nat) (y : NI) (kq : Addr), as[j]? = some b ∧ m[j]? = some y ∧ vs = [.ref kq, .int y.2] ∧ KeyV X.K H y.1 (.ref kq)) I as _ I2 nd fun b hb => by
      obtain ⟨j, hj⟩ := List.mem_iff_getElem?.mp hb
      have hjl : j < m.length := by rw [← lam]; exact (List.getElem?_eq_some_iff.mp hj).1
      have hy : m[j]? = some m[j] := List.getElem?_eq_getElem hjl
      obtain ⟨kq, t, k1, _, hg⟩ := pr j b _ hj hy
      have hbl : s.heap.objs.size ≤ b := Nat.le_of_lt (hG.above b hb)
      refine ⟨hbl, ?_, [.ref kq, .int m[j].2], ⟨j, m[j], kq, hj, hy, rfl, k1⟩, fun H3 => ⟨(by rw [sizeLine_eq]; show 2 ≤ 16777216; omega), [Value.ref kq, Value.int m[j].2 t], .cons rfl (.cons ⟨t, rfl⟩ .nil), ⟨_, kF _ _ (ne0 _ _ hg) (ka _ _ hg), rfl, 0, rfl⟩⟩⟩
      rw [upd_ne (ne0 _ _ hg)]
      exact I.hok.fresh hbl
    have gr : ∀ b o, H b = some o → H2 b = some o := fun b o e => g b o (by rw [upd_ne (ne_of_none e hn0)]; exact e)
    refine ⟨.ref h'.objs.size, H2, I3, rfl, q H2 h'.objs.size (cs.map V.ref) gr (g _ _ upd_same) (each_keys pairK (ecm.mono fun b y ⟨j, hb, hy⟩ => ?_))⟩
    obtain ⟨vs, ⟨j', y', kq, j1, j2, ev, k1⟩, hH⟩ := qt b (List.mem_of_getElem? hb)
    have eij : j = j' := (List.getElem?_inj (List.getElem?_eq_some_iff.mp hb).1 nd).mp (hb.trans j1.symm)
    subst eij
    have ee : y' = y := Option.some.inj (j2.symm.trans hy)
    rw [ee] at ev k1
    rw [ev] at hH
    exact .tup hH (.cons (k1.up (Tups.ext gr) _ _) (.cons (.int y.2) .nil))
end
/-- d.items(), a view -/
def tNItems (w : World) (td : TE) : TE := fun σ H Q => td σ H fun x G => ∃ (d : Addr) (kvs : List NE), x = .ref d ∧ Rd G d (dN w d kvs) ∧ ∀ p, G p = none → Q (.ref p) (upd G p (DX.itemsO p d))
theorem pe_nitemsV {X : Cx} {e : Expr} {td : TE} {ap cp : Pos} (he : PE X e td) (hbase : attributeBase e "items" X.env (eval e X.env) = eval e X.env := by rfl) (hline : (ap.endLine == cp.line) = true := by rfl) :
    PE X (.Call (.Attribute e "items" ap) [] [] cp) (tNItems X.w td) := ⟨fun pn s τ H Q I h => by
  refine wpAny_Call_method (T := "dict") (id := "dict.items") hbase rfl hline F.plainAttrs_dict F.slot_dict_items F.type_dict_items (thn (he.run pn s τ H _ I h) fun u s1 ⟨x, G, I1, rx, d, kvs, ex, hd, q⟩ => ?_)
  subst ex
  obtain rfl : u = Value.ref d := rx
  obtain ⟨⟨z, hs, xs', rel, o, es, ep, ho, hx, hdat, _⟩, _⟩ := (show ObjOk X.prog X.w G s1.heap d (dN X.w d kvs) from hd.ok I1.hok)
  have raw : s1.heap.DictRaw d es ep := ⟨o, ho, hx, hdat⟩
  refine ⟨raw.typeIs, fun b q => ?_, ?_⟩
  · cases q
    exact ⟨o, ho, hx.2.1⟩
  show wpAny _ _ (callWith cp (.builtin "dict.items") [.ref d] [] []) _ X.xe s1
  refine method_meetsIn F.slot_dict_items F.entry_dict_items rfl (PySem.evalArgs_none ⟨rfl, raw.typeIs, F.args_dict_items_1 _, _, meets_dict_items_raw d hs, ⟨es, ep, raw⟩, ?_⟩)
  exact ⟨.ref s1.heap.objs.size, _, I1.laid (t' := s1.toks) (fun b u e => Heap.get?_push_of_some _ e) (Nat.le_refl _) (DX.itemsO_ok (Heap.get?_push_size _ rfl)), rfl, q _ (I1.hok.fresh (Nat.le_refl _))⟩⟩
end K1D

set_option Elab.async false
set_option linter.all false
set_option maxRecDepth 100000
set_option maxHeartbeats 4000000
set_option autoImplicit false
/-! Nested keys: their order, comparisons, sorted over rows of them; no program here. -/
namespace K6
open PySem PySem.Spec PyProof.Rows L2 K1D
open PySem.W (alike alikeAll dataLt keyToks keyToksAll EachIs AllAlike dataLe)
open PyProof.Rows (itemOrd)
mutual
theorem eqv_key : ∀ a b : NestedKey, PyData.eqv a.data b.data = NestedKey.beq a b
  | .none, .none => by simp [NestedKey.data, NestedKey.beq, PyData.eqv]
  | .none, .num _ => by simp [NestedKey.data, NestedKey.beq, PyData.eqv]
  | .none, .text _ => by simp [NestedKey.data, NestedKey.beq, PyData.eqv]
  | .none, .tup _ => by simp [NestedKey.data, NestedKey.beq, PyData.eqv]
  | .num _, .none => by simp [NestedKey.data, NestedKey.beq, PyData.eqv]
  | .num a, .num b => by simp only [NestedKey.data, NestedKey.beq, PyData.eqv]; rfl
  | .num _, .text _ => by simp [NestedKey.data, NestedKey.beq, PyData.eqv]
  | .num _, .tup _ => by simp [NestedKey.data, NestedKey.beq, PyData.eqv]
  | .text _, .none => by simp [NestedKey.data, NestedKey.beq, PyData.eqv]
  | .text _, .num _ => by simp [NestedKey.data, NestedKey.beq, PyData.eqv]
  | .text a, .text b => by simp only [NestedKey.data, NestedKey.beq, PyData.eqv]; rfl
  | .text _, .tup _ => by simp [NestedKey.data, NestedKey.beq, PyData.eqv]
  | .tup _, .none => by simp [NestedKey.data, NestedKey.beq, PyData.eqv]
  | .tup _, .num _ => by simp [NestedKey.data, NestedKey.beq, PyData.eqv]
  | .tup _, .text _ => by simp [NestedKey.data, NestedKey.beq, PyData.eqv]
  | .tup a, .tup b => by
    simp only [NestedKey.data, NestedKey.beq, PyData.eqv]
    exact eqv_keys a b
theorem eqv_keys : ∀ a b : List NestedKey, PyData.eqvAll (NestedKey.datas a) (NestedKey.datas b) = NestedKey.beqAll a b
  | [], [] => by simp [NestedKey.datas, NestedKey.beqAll, PyData.eqvAll]
  | [], _ :: _ => by simp [NestedKey.datas, NestedKey.beqAll, PyData.eqvAll]
  | _ :: _, [] => by simp [NestedKey.datas, NestedKey.beqAll, PyData.eqvAll]
  | x :: a, y :: b => by
    simp only [NestedKey.datas, NestedKey.beqAll, PyData.eqvAll, eqv_key x y, eqv_keys a b]
end
theorem eqv_iff (a b : NestedKey) : PyData.eqv a.data b.data = true ↔ a = b := by
  rw [eqv_key]
  exact ⟨NestedKey.eq_of_beq a b, fun e => by rw [e]; exact NestedKey.beq_self b⟩
theorem lex_lone (x : List (Int ⊕ List Nat)) : PyProof.Rows.lexLt itemOrd (x ++ []) (x ++ [Sum.inl 0]) = true := by
  rw [PySem.W.lex_pre]
  rfl
theorem eqv_of_toks {x y : PyData} (h : alike x y = true) (e : keyToks x = keyToks y) : PyData.eqv x y = true := by
  cases q : PyData.eqv x y with
  | true => rfl
  | false =>
    have z := (PySem.W.toks_eqv x y h).2 q [] [Sum.inl 0]
    rw [e, lex_lone, PyProof.Rows.lex_irrefl] at z
    cases z
/-- one key ahead of another -/
def ltK (a b : NestedKey) : Bool := dataLt a.data b.data
theorem ltK_irr (a : NestedKey) : ltK a a = false := PyProof.Rows.lex_irrefl (O := itemOrd) _
theorem ltK_trans {a b c : NestedKey} (h : ltK a b = true) (g : ltK b c = true) : ltK a c = true := PyProof.Rows.lex_trans (O := itemOrd) _ _ _ h g
theorem ltK_asymm {a b : NestedKey} (h : ltK a b = true) : ltK b a = false := by
  cases q : ltK b a with
  | false => rfl
  | true =>
    have := ltK_trans h q
    rw [ltK_irr] at this
    cases this

def AlK (ks : List NestedKey) : Prop := ∀ a ∈ ks, ∀ b ∈ ks, alike a.data b.data = true
theorem ltK_tot {a b : NestedKey} (al : alike a.data b.data = true) (ne : a ≠ b) (h : ltK a b = false) : ltK b a = true := by
  cases q : ltK b a with
  | true => rfl
  | false => exact absurd ((eqv_iff _ _).mp (eqv_of_toks al (PyProof.Rows.lex_total (O := itemOrd) _ _ h q))) ne
/-! ### a polynomial's parts as keys -/
abbrev Fac := Str × Int
abbrev Mon := List Fac
abbrev Term := Mon × Int
abbrev Poly := List Term
def facK (x : Fac) : NestedKey := .tup [.text x.1, .num x.2]
def monK (m : Mon) : NestedKey := .tup (m.map facK)
def termK (t : Term) : NestedKey := .tup [monK t.1, .num t.2]
def polyK (p : Poly) : NestedKey := .tup (p.map termK)
theorem facK_inj {x y : Fac} (h : facK x = facK y) : x = y := by
  obtain ⟨a, b⟩ := x
  obtain ⟨c, d⟩ := y
  unfold facK at h
  simp only [NestedKey.tup.injEq, List.cons.injEq, NestedKey.text.injEq, NestedKey.num.injEq, and_true] at h
  rw [h.1, h.2]
theorem map_inj {α β : Type} {f : α → β} (hf : ∀ x y, f x = f y → x = y) : ∀ {l m : List α}, l.map f = m.map f → l = m
  | [], [], _ => rfl
  | [], _ :: _, h => by simp at h
  | _ :: _, [], h => by simp at h
  | a :: l, b :: m, h => by
    rw [List.map_cons, List.map_cons, List.cons.injEq] at h
    rw [hf _ _ h.1, map_inj hf h.2]
theorem monK_inj {x y : Mon} (h : monK x = monK y) : x = y := by
  unfold monK at h
  exact map_inj (fun _ _ => facK_inj) (NestedKey.tup.inj h)
theorem datas_map : ∀ ks : List NestedKey, NestedKey.datas ks = ks.map NestedKey.data
  | [] => rfl
  | k :: ks => by rw [NestedKey.datas, datas_map ks]; rfl
theorem al_facs : ∀ x y : Mon, alikeAll (NestedKey.datas (x.map facK)) (NestedKey.datas (y.map facK)) = true
  | [], _ => by simp [NestedKey.datas, alikeAll]
  | _ :: _, [] => by simp [NestedKey.datas, alikeAll]
  | a :: x, b :: y => by
    simp only [List.map_cons, NestedKey.datas, alikeAll, al_facs x y, Bool.and_true]
    simp [facK, NestedKey.data, NestedKey.datas, alike, alikeAll]
theorem al_fac (x y : Fac) : alike (facK x).data (facK y).data = true := by simp [facK, NestedKey.data, NestedKey.datas, alike, alikeAll]
theorem al_mon (x y : Mon) : alike (monK x).data (monK y).data = true := by
  unfold monK
  rw [NestedKey.data, NestedKey.data, alike]
  exact al_facs x y
theorem al_term (x y : Term) : alike (termK x).data (termK y).data = true := by
  have := al_mon x.1 y.1
  unfold termK
  simp [NestedKey.data, NestedKey.datas, alike, alikeAll, this]
def ltM (a b : Mon) : Prop := ltK (monK a) (monK b) = true
theorem ltM_irr (a : Mon) : ¬ ltM a a := fun h => by rw [ltM, ltK_irr] at h; cases h
theorem ltM_trans {a b c : Mon} (h : ltM a b) (g : ltM b c) : ltM a c := ltK_trans h g
theorem ltM_asy {a b : Mon} (h : ltM a b) : ¬ ltM b a := fun g => ltM_irr a (ltM_trans h g)
theorem ltM_tot {a b : Mon} (ne : a ≠ b) (h : ¬ ltM a b) : ltM b a := ltK_tot (al_mon a b) (fun e => ne (monK_inj e)) (by rw [ltM] at h; exact Bool.eq_false_iff.mpr h)
def ltF (a b : Fac) : Prop := ltK (facK a) (facK b) = true
theorem ltF_irr (a : Fac) : ¬ ltF a a := fun h => by rw [ltF, ltK_irr] at h; cases h
theorem ltF_tot {a b : Fac} (ne : a ≠ b) (h : ¬ ltF a b) : ltF b a := ltK_tot (al_fac a b) (fun e => ne (facK_inj e)) (by rw [ltF] at h; exact Bool.eq_false_iff.mpr h)
/-- factors of unlike names: their names' order -/
theorem ltF_names {a b : Fac} (ne : a.1 ≠ b.1) : ltF a b ↔ a.1.cps.toList < b.1.cps.toList := by
  have e : ltK (facK a) (facK b) = dataLt (.tuple [.str a.1, .int a.2]) (.tuple [.str b.1, .int b.2]) := by simp [ltK, facK, NestedKey.data, NestedKey.datas]
  have nq : PyData.eqv (.str a.1) (.str b.1) = false := by simp [PyData.eqv, ne]
  rw [ltF, e, PySem.W.dataLt_pair (by simp [alike]) (by simp [alike]), nq, if_neg Bool.false_ne_true, PySem.W.dataLt_str, decide_eq_true_eq]
/-! ### depths -/
theorem dep_facs : ∀ l : Mon, NestedKey.depthAll (l.map facK) ≤ 1
  | [] => Nat.zero_le _
  | x :: l => by
    show max (facK x).depth (NestedKey.depthAll (l.map facK)) ≤ 1
    exact Nat.max_le.mpr ⟨by simp [facK, NestedKey.depth, NestedKey.depthAll], dep_facs l⟩
theorem dep_mon (m : Mon) : (monK m).depth ≤ 2 := by
  show NestedKey.depthAll (m.map facK) + 1 ≤ 2
  have := dep_facs m
  omega
theorem dep_term (t : Term) : (termK t).depth ≤ 3 := by
  have := dep_mon t.1
  show max (monK t.1).depth (max (NestedKey.num t.2).depth 0) + 1 ≤ 3
  have e : (NestedKey.num t.2).depth = 0 := by simp [NestedKey.depth]
  rw [e]
  omega
/-! ### a >= b, a < b of keys -/
def rGeN (K : PySem.W.Frag) : R2 := fun x y H Q => ∃ k k', KeyV K H k x ∧ KeyV K H k' y ∧ alike k.data k'.data = true ∧ k ≠ .none ∧ k.depth ≤ 8 ∧ Q (.bl (!ltK k k')) H
theorem op_geN {X : Cx} (hu : X.A.units + 64 < cLine) : OpR X (compareOp .GtE) (rGeN X.K) := by
  intro pn s σ H x y v u Q I rx ry h
  obtain ⟨k, k', hk, hk', al, nn, dp, q⟩ := h
  have nd : k.data ≠ .none := fun z => by
    cases k with
    | none => exact nn rfl
    | num _ => cases z
    | text _ => cases z
    | tup _ => cases z
  have room : X.A.units + min k.data.depth k'.data.depth < cLine := by
    rw [key_depth, key_depth]
    omega
  exact PySem.W.rcGe_alike k.data k'.data X.A s v u [] [] (hk.reads I _ _ _ rx) (hk'.reads I _ _ _ ry) al nd room X.prog X.w X.xe _ ⟨.bl _, H, I, rfl, q⟩
section
variable {K : PySem.W.Frag} {H : Hp}
theorem each_of_ks {β : Type} (enc : β → NestedKey) : ∀ {bs : List β} {xs : List V} {us : List Value}, KeyVs K H (bs.map enc) xs → Vals xs us → EachIs (fun v b => ∃ x, RelV x v ∧ KeyV K H (enc b) x) us bs
  | [], _, _, h, r => by cases h; cases r; exact .nil
  | b :: bs, _, _, h, r => by
    cases h with
    | cons h1 h2 =>
      cases r with
      | cons r1 r2 => exact .cons ⟨_, r1, h1⟩ (each_of_ks enc h2 r2)
theorem ks_of_each {β : Type} (enc : β → NestedKey) : ∀ {us : List Value} {bs : List β}, EachIs (fun v b => ∃ x, RelV x v ∧ KeyV K H (enc b) x) us bs → ∃ zs, Vals zs us ∧ KeyVs K H (bs.map enc) zs
  | _, _, .nil => ⟨[], .nil, .nil⟩
  | _, _, .cons ⟨x, r, k⟩ t => by
    obtain ⟨zs, h1, h2⟩ := ks_of_each enc t
    exact ⟨x :: zs, .cons r h1, .cons k h2⟩
end
/-- sorted(xs), the items nested tuples of one kind -/
def rSortT (K : PySem.W.Frag) {β : Type} (enc : β → NestedKey) : List V → Hp → VK → Prop := fun vs H Q => ∃ (bs : List β) (a : Addr) (xs : List V), vs = [V.ref a] ∧ SqL K H a xs ∧ KeyVs K H (bs.map enc) xs ∧
  ∀ (zs : List V) (p : Addr), KeyVs K H ((bs.mergeSort (dataLe false fun b => (enc b).data)).map enc) zs → H p = none → Q (.ref p) (upd H p (.lst zs))
theorem cr_sortT {X : Cx} (hu : X.A.units + 64 < cLine) {β : Type} {enc : β → NestedKey} (al : ∀ a b, alike (enc a).data (enc b).data = true) (tp : ∀ b, ∃ ks, enc b = .tup ks) (dp : ∀ b, (enc b).depth ≤ 9) : CallR X (.builtin "sorted") (rSortT X.K enc) := by
  intro pins s σ H vs us Q I r h
  obtain ⟨bs, a, xs, rfl, hs, hk, q⟩ := h
  obtain ⟨its, rv, hl, hz⟩ := I.list hs
  rw [Vals.ref1 r]
  have e1 := each_of_ks enc hk rv
  have lb : its.length = bs.length := e1.length
  have lx : xs.length = its.length := rv.length
  have er : EachIs (fun v b => ∃ as, Reads s.heap v ((fun b => (enc b).data) b) as) its bs := e1.mono fun v b ⟨x, rx, kx⟩ => ⟨[], KeyV.reads I _ _ _ kx rx⟩
  have all : AllAlike (bs.map fun b => (enc b).data) := by
    intro d1 h1 d2 h2
    obtain ⟨y1, m1, rfl⟩ := List.mem_map.mp h1
    obtain ⟨y2, m2, rfl⟩ := List.mem_map.mp h2
    exact al _ _
  have ls : bs.length ≤ sizeLine := by rw [← lb, ← lx]; exact hz
  refine sorted_tups (enc := fun b => (enc b).data) hl.isList e1 er all (fun b => ?_) ls (fun b hb => ?_) fun out ol oe => ?_
  · obtain ⟨ks, e⟩ := tp b
    exact ⟨NestedKey.datas ks, by rw [e, NestedKey.data]⟩
  · have := dp b
    rw [key_depth]
    omega
  · obtain ⟨zs, vz, kz⟩ := ks_of_each enc oe
    obtain ⟨ep, he'⟩ := PyProof.Rows.sortedAll_at s.heap its out.toArray
    have lz : zs.length ≤ sizeLine := by rw [vz.length, ol]; exact ls
    exact ⟨.ref _, upd H (s.heap.objs.size + 1) (.lst zs), I.laid (t' := s.toks) (fun _ _ => PyProof.Rows.sortedAll_old) (Nat.le_succ _) ⟨lz, out, ep, vz, by rw [← he']⟩, rfl, q zs _ kz (I.hok.fresh (Nat.le_succ _))⟩
end K6

set_option Elab.async false
set_option linter.all false
set_option maxRecDepth 100000
set_option maxHeartbeats 4000000
set_option autoImplicit false
/-! Numbers, names and factors as texts; no program here. -/
namespace K6
open PySem L2 TL
def lets : List Nat := tl ("abcdefghijklmnopqrstuvwxyz" : Str)
def caps : List Nat := tl ("ABCDEFGHIJKLMNOPQRSTUVWXYZ" : Str)
def figs : List Nat := tl ("0123456789" : Str)
theorem figs_iff (c : Nat) : c ∈ figs ↔ 48 ≤ c ∧ c ≤ 57 := by
  have e : figs = (List.range 10).map (· + 48) := by decide +kernel
  rw [e, List.mem_map]
  constructor
  · rintro ⟨k, hk, rfl⟩
    have := List.mem_range.mp hk
    omega
  · intro h
    exact ⟨c - 48, List.mem_range.mpr (by omega), by omega⟩
theorem lets_iff (c : Nat) : c ∈ lets ↔ 97 ≤ c ∧ c ≤ 122 := by
  have e : lets = (List.range 26).map (· + 97) := by decide +kernel
  rw [e, List.mem_map]
  constructor
  · rintro ⟨k, hk, rfl⟩
    have := List.mem_range.mp hk
    omega
  · intro h
    exact ⟨c - 97, List.mem_range.mpr (by omega), by omega⟩
theorem caps_iff (c : Nat) : c ∈ caps ↔ 65 ≤ c ∧ c ≤ 90 := by
  have e : caps = (List.range 26).map (· + 65) := by decide +kernel
  rw [e, List.mem_map]
  constructor
  · rintro ⟨k, hk, rfl⟩
    have := List.mem_range.mp hk
    omega
  · intro h
    exact ⟨c - 65, List.mem_range.mpr (by omega), by omega⟩
/-! ### figures -/
def isFgs (k : Nat) (l : List Nat) : Bool := ((decide (1 ≤ l.length) && decide (l.length ≤ k)) && l.all fun c => decide (c ∈ figs)) && decide (l.head? ≠ some 48)
def numOf (x : Str) : Nat := NumText.digitsVal (tl x)
def strI (i : Int) : Str := Str.ofString (toString i)
structure Fgs (k : Nat) (l : List Nat) : Prop where
  dg : NumText.AllDigits l
  ne : l ≠ []
  le : l.length ≤ k
  hd : l.head? ≠ some 48
theorem fgs_iff {k : Nat} {l : List Nat} : isFgs k l = true ↔ Fgs k l := by
  unfold isFgs
  simp only [Bool.and_eq_true, decide_eq_true_eq, List.all_eq_true]
  constructor
  · rintro ⟨⟨⟨h1, h2⟩, h3⟩, h4⟩
    exact ⟨fun c hc => (figs_iff c).mp (h3 c hc), fun z => by rw [z] at h1; simp at h1, h2, h4⟩
  · intro h
    refine ⟨⟨⟨?_, h.le⟩, fun c hc => (figs_iff c).mpr (h.dg c hc)⟩, h.hd⟩
    cases e : l with
    | nil => exact absurd e h.ne
    | cons a r => exact Nat.succ_pos _
theorem digits_snoc (l : List Nat) (d : Nat) : NumText.digitsVal (l ++ [d]) = NumText.digitsVal l * 10 + (d - 48) := by
  unfold NumText.digitsVal
  rw [List.foldl_append]
  rfl
/-- a row of figures without a nought ahead is its number's -/
theorem num_back : ∀ (n : Nat) (l : List Nat), l.length = n → NumText.AllDigits l → l ≠ [] → l.head? ≠ some 48 → numL (NumText.digitsVal l) = l ∧ 0 < NumText.digitsVal l ∧ NumText.digitsVal l < 10 ^ n
  | 0, l, hl, _, ne, _ => absurd (List.length_eq_zero_iff.mp hl) ne
  | n + 1, l, hl, dg, ne, hd => by
    have e : l = l.dropLast ++ [l.getLast ne] := (List.dropLast_concat_getLast ne).symm
    have dd := dg (l.getLast ne) (List.getLast_mem ne)
    generalize hq : l.getLast ne = d at e dd
    generalize hm : l.dropLast = m at e
    have lm : m.length = n := by rw [← hm, List.length_dropLast]; omega
    rw [e, digits_snoc]
    by_cases m0 : m = []
    · subst m0
      have d0 : d ≠ 48 := fun z => hd (by rw [e, z]; rfl)
      have n0 : n = 0 := by rw [← lm]; rfl
      subst n0
      have v0 : NumText.digitsVal [] = 0 := rfl
      rw [v0, Nat.zero_mul, Nat.zero_add]
      refine ⟨?_, by omega, by omega⟩
      rw [numL_lt (by omega)]
      show [48 + (d - 48)] = [d]
      rw [show 48 + (d - 48) = d by omega]
    · have hd' : m.head? ≠ some 48 := fun z => hd (by
        rw [e]
        cases m with
        | nil => exact absurd rfl m0
        | cons a r => exact z)
      obtain ⟨h1, h2, h3⟩ := num_back n m lm (fun c hc => dg c (by rw [e]; exact List.mem_append_left _ hc)) m0 hd'
      refine ⟨?_, by omega, by rw [Nat.pow_succ]; omega⟩
      rw [numL_step (by omega), show (NumText.digitsVal m * 10 + (d - 48)) / 10 = NumText.digitsVal m by omega, show (NumText.digitsVal m * 10 + (d - 48)) % 10 = d - 48 by omega, h1, show 48 + (d - 48) = d by omega]
theorem tl_strI (n : Nat) : tl (strI (n : Int)) = numL n := tl_num n
theorem num_str {k : Nat} {x : Str} (h : isFgs k (tl x) = true) : strI (numOf x : Int) = x ∧ 0 < numOf x ∧ numOf x < 10 ^ k := by
  have f := fgs_iff.mp h
  obtain ⟨h1, h2, h3⟩ := num_back _ (tl x) rfl f.dg f.ne f.hd
  exact ⟨ext_tl (by rw [tl_strI]; exact h1), h2, Nat.lt_of_lt_of_le h3 (Nat.pow_le_pow_right (by decide) f.le)⟩
theorem num_int {k : Nat} {x : Str} (h : isFgs k (tl x) = true) (k4 : k ≤ 4300) : PySem.intText? x = some (numOf x : Int) := by
  have f := fgs_iff.mp h
  exact PySem.intText_digits f.dg f.ne (by have := f.le; rw [len_tl]; omega)
theorem numL_head {n : Nat} (h : 0 < n) : (numL n).head? ≠ some 48 := by
  induction n using Nat.strongRecOn with
  | _ n ih =>
    by_cases h9 : n < 10
    · rw [numL_lt h9]
      simp
      omega
    · rw [numL_step (by omega)]
      have := ih (n / 10) (by omega) (by omega)
      cases e : numL (n / 10) with
      | nil => exact absurd e (numL_ne _)
      | cons a r =>
        rw [e] at this
        exact this
theorem str_num {k n : Nat} (h : 0 < n) (hk : 0 < k) (h9 : n < 10 ^ k) : isFgs k (tl (strI (n : Int))) = true ∧ numOf (strI (n : Int)) = n := by
  unfold numOf
  rw [tl_strI, numL_val]
  exact ⟨fgs_iff.mpr ⟨numL_digits n, numL_ne n, numL_len hk h9, numL_head h⟩, rfl⟩
theorem fgs_le {k k' : Nat} {l : List Nat} (h : isFgs k l = true) (hl : l.length ≤ k') : isFgs k' l = true := by
  have f := fgs_iff.mp h
  exact fgs_iff.mpr ⟨f.dg, f.ne, hl, f.hd⟩
/-! ### variables -/
def isNmL (l : List Nat) : Bool := (decide (1 ≤ l.length) && decide (l.length ≤ 4)) && l.all fun c => decide (c ∈ lets)
def isVarL : List Nat → Bool
  | a :: b :: r => ((decide (a ∈ lets) || decide (a ∈ caps)) && decide (b = 95)) && isNmL r
  | _ => false
theorem var_signs {l : List Nat} (h : isVarL l = true) : (∀ c ∈ l, (97 ≤ c ∧ c ≤ 122) ∨ (65 ≤ c ∧ c ≤ 90) ∨ c = 95) ∧ (∃ a r, l = a :: r ∧ ((97 ≤ a ∧ a ≤ 122) ∨ (65 ≤ a ∧ a ≤ 90))) ∧ 3 ≤ l.length ∧ l.length ≤ 6 := by
  match l, h with
  | a :: b :: r, h =>
    unfold isVarL isNmL at h
    simp only [Bool.and_eq_true, Bool.or_eq_true, decide_eq_true_eq, List.all_eq_true] at h
    obtain ⟨⟨h1, h2⟩, ⟨h3, h4⟩, h5⟩ := h
    have ha : (97 ≤ a ∧ a ≤ 122) ∨ (65 ≤ a ∧ a ≤ 90) := h1.imp (lets_iff a).mp (caps_iff a).mp
    refine ⟨fun c hc => ?_, ⟨a, b :: r, rfl, ha⟩, by simp only [List.length_cons]; omega, by simp only [List.length_cons]; omega⟩
    rcases List.mem_cons.mp hc with e | hc
    · subst e; omega
    · rcases List.mem_cons.mp hc with e | hc
      · subst e; omega
      · exact .inl ((lets_iff c).mp (h5 c hc))
theorem var_free {l : List Nat} (h : isVarL l = true) {s : Nat} (hs : s < 65) : s ∉ l := fun q => by
  have := (var_signs h).1 s q
  omega
theorem var_free94 {l : List Nat} (h : isVarL l = true) : 94 ∉ l := fun q => by
  have := (var_signs h).1 94 q
  omega
/-! ### factors -/
def fT (f : Fac) : Str := if 1 < f.2 then f.1 ++ ("^" ++ strI f.2) else f.1
structure OkF (f : Fac) : Prop where
  v : isVarL (tl f.1) = true
  e1 : 1 ≤ f.2
  e40 : f.2 ≤ 40
theorem OkF.nat {f : Fac} (h : OkF f) : ∃ n : Nat, f.2 = (n : Int) ∧ 1 ≤ n ∧ n ≤ 40 := ⟨f.2.toNat, by have := h.e1; omega, by have := h.e1; omega, by have := h.e40; omega⟩
theorem tl_hat : tl ("^" : Str) = [94] := by decide +kernel
theorem tl_fT (f : Fac) : tl (fT f) = if 1 < f.2 then tl f.1 ++ (94 :: tl (strI f.2)) else tl f.1 := by
  unfold fT
  split
  · rw [tl_append, tl_append, tl_hat]
    rfl
  · rfl
theorem fT_free {f : Fac} (h : OkF f) {s : Nat} (hs : s < 48) : s ∉ tl (fT f) := by
  obtain ⟨n, e, h1, h2⟩ := h.nat
  rw [tl_fT, e, tl_strI]
  split
  · intro q
    rcases List.mem_append.mp q with q | q
    · exact var_free h.v (by omega) q
    · rcases List.mem_cons.mp q with q | q
      · omega
      · exact numL_free (.inl hs) q
  · exact var_free h.v (by omega)
theorem fT_head {f : Fac} (h : OkF f) : ∃ a r, tl (fT f) = a :: r ∧ 65 ≤ a := by
  obtain ⟨a, r, e, ha⟩ := (var_signs h.v).2.1
  rw [tl_fT, e]
  split
  · exact ⟨a, _, rfl, by omega⟩
  · exact ⟨a, _, rfl, by omega⟩
theorem fT_len {f : Fac} (h : OkF f) : (tl (fT f)).length ≤ 9 := by
  obtain ⟨n, e, h1, h2⟩ := h.nat
  have := (var_signs h.v).2.2.2
  rw [tl_fT, e, tl_strI]
  split
  · have l2 : (numL n).length ≤ 2 := numL_len (by decide) (by omega)
    rw [List.length_append, List.length_cons]
    omega
  · omega
/-- a factor as the program reads it -/
def rFac (x : Str) : Option Fac :=
  if isVarL (tl (Txt.partition x "^").1) = true then
    (if (Txt.partition x "^").2.1 = "" then some ((Txt.partition x "^").1, 1)
      else if isFgs 2 (tl (Txt.partition x "^").2.2) = true ∧ (2 ≤ numOf (Txt.partition x "^").2.2 ∧ numOf (Txt.partition x "^").2.2 ≤ 40) then some ((Txt.partition x "^").1, (numOf (Txt.partition x "^").2.2 : Int)) else none)
  else none
theorem hat_cases (x : Str) : (Txt.partition x "^" = (x, Str.empty, Str.empty)) ∨ ∃ a b, Txt.partition x "^" = (a, ("^" : Str), b) ∧ x = a ++ ("^" ++ b) := by
  have sm := PySem.StrLaws.partition_sum x "^"
  rcases PyProof.Rows.partition_whole x "^" with ⟨e, _⟩ | ⟨i, e, _⟩
  · exact .inl e
  · refine .inr ⟨_, _, e, ?_⟩
    rw [e] at sm
    refine sm.symm.trans (ext_tl ?_)
    simp only [tl_append, List.append_assoc]
theorem empty_eq : (Str.empty : Str) = "" := by decide +kernel
theorem hat_ne : ¬ (("^" : Str) = "") := by decide +kernel
theorem rFac_some {x : Str} {f : Fac} (h : rFac x = some f) : OkF f ∧ fT f = x := by
  unfold rFac at h
  rcases hat_cases x with e | ⟨a, b, e, ex⟩
  · rw [e] at h
    simp only [empty_eq, if_true] at h
    split at h
    · rename_i hv
      cases h
      refine ⟨⟨hv, Int.le_refl 1, by show (1 : Int) ≤ 40; decide⟩, ?_⟩
      unfold fT
      rw [if_neg (by show ¬ (1 : Int) < 1; decide)]
    · cases h
  · rw [e] at h
    simp only [hat_ne, if_false] at h
    split at h
    · rename_i hv
      split at h
      · rename_i hc
        cases h
        refine ⟨⟨hv, by show (1 : Int) ≤ (numOf b : Int); omega, by show (numOf b : Int) ≤ 40; omega⟩, ?_⟩
        unfold fT
        rw [if_pos (by show (1 : Int) < (numOf b : Int); omega), (num_str hc.1).1, ex]
      · cases h
    · cases h
theorem rFac_text {f : Fac} (h : OkF f) : rFac (fT f) = some f := by
  obtain ⟨n, e, h1, h2⟩ := h.nat
  obtain ⟨v, m⟩ := f
  simp only at e
  subst e
  have hv := h.v
  unfold rFac fT
  by_cases n1 : 1 < (n : Int)
  · have e2 : Txt.partition (v ++ ("^" ++ strI (n : Int))) "^" = (v, ("^" : Str), strI (n : Int)) := by
      rw [show v ++ ("^" ++ strI (n : Int)) = v ++ "^" ++ strI (n : Int) from ext_tl (by simp only [tl_append, List.append_assoc])]
      exact partition_app (s := 94) (S := []) tl_hat (var_free94 hv)
    obtain ⟨g1, g2⟩ := str_num (k := 2) (n := n) (by omega) (by decide) (by omega)
    simp only [if_pos n1, e2]
    rw [if_pos hv, if_neg hat_ne, g2, if_pos ⟨g1, by omega, h2⟩]
  · have e2 : Txt.partition v "^" = (v, Str.empty, Str.empty) := partition_none (s := 94) (S := []) tl_hat (var_free94 hv)
    simp only [if_neg n1, e2]
    rw [if_pos hv, if_pos empty_eq, show (n : Int) = 1 by omega]
/-- .. as the law reads it -/
def lFac (x : Str) : Option Fac :=
  match Txt.split x "^" with
  | [] => none
  | n :: r => if isVarL (tl n) = true ∧ r.length ≤ 1 then
      (match r with
        | [] => some (n, 1)
        | e :: _ => if (isFgs 200 (tl e) = true ∧ (tl e).length ≤ 2) ∧ numOf e ≤ 40 then some (n, (numOf e : Int)) else none)
    else none
theorem lFac_some {x : Str} {f : Fac} (h : lFac x = some f) : OkF f := by
  unfold lFac at h
  split at h
  · cases h
  · split at h
    · rename_i hv
      split at h
      · cases h
        exact ⟨hv.1, Int.le_refl 1, by show (1 : Int) ≤ 40; decide⟩
      · split at h
        · rename_i hc
          cases h
          have := (num_str hc.1.1).2.1
          exact ⟨hv.1, by show (1 : Int) ≤ (numOf _ : Int); omega, by show (numOf _ : Int) ≤ 40; omega⟩
        · cases h
    · cases h
theorem lFac_text {f : Fac} (h : OkF f) : lFac (fT f) = some f := by
  obtain ⟨n, e, h1, h2⟩ := h.nat
  obtain ⟨v, m⟩ := f
  simp only at e
  subst e
  have hv := h.v
  unfold lFac fT
  by_cases n1 : 1 < (n : Int)
  · obtain ⟨g1, g2⟩ := str_num (k := 200) (n := n) (by omega) (by decide) (Nat.lt_of_lt_of_le (show n < 10 ^ 2 by omega) (Nat.pow_le_pow_right (by decide) (by decide)))
    have l2 : (tl (strI (n : Int))).length ≤ 2 := by rw [tl_strI]; exact numL_len (by decide) (by omega)
    have f94 : 94 ∉ tl (strI (n : Int)) := by rw [tl_strI]; exact numL_free (.inr (by decide))
    have e2 : Txt.split (v ++ ("^" ++ strI (n : Int))) "^" = [v, strI (n : Int)] := by
      have ej : v ++ ("^" ++ strI (n : Int)) = Txt.join "^" [v, strI (n : Int)] := ext_tl (by
        rw [join_eq, tl_join, tl_append, tl_append]
        rfl)
      rw [ej]
      refine split_join (s := 94) (S := []) tl_hat (by decide +kernel) (by simp) fun p hp => ?_
      rcases List.mem_cons.mp hp with e | hp
      · rw [e]; exact var_free94 hv
      · rw [List.mem_singleton.mp hp]; exact f94
    simp only [if_pos n1, e2]
    rw [if_pos ⟨hv, Nat.le_refl 1⟩, g2, if_pos ⟨⟨g1, l2⟩, h2⟩]
  · have e2 : Txt.split v "^" = [v] := by
      have ej : Txt.join "^" [v] = v := ext_tl (by
        rw [join_eq, tl_join]
        rfl)
      have := split_join (y := "^") (s := 94) (S := []) tl_hat (by decide +kernel) (parts := [v]) (by simp) fun p hp => by rw [List.mem_singleton.mp hp]; exact var_free94 hv
      rwa [ej] at this
    simp only [if_neg n1, e2]
    rw [if_pos ⟨hv, Nat.zero_le _⟩, show (n : Int) = 1 by omega]
end K6

set_option Elab.async false
set_option linter.all false
set_option maxRecDepth 100000
set_option maxHeartbeats 4000000
set_option autoImplicit false
/-! Terms as texts; no program here. -/
namespace K6
open PySem L2 TL
open PySem.W (dataLe dataLt)
theorem tl_star : tl ("*" : Str) = [42] := by decide +kernel
theorem ltL_trans {a b c : List Nat} (h : a < b) (g : b < c) : a < c := List.lt_trans h g
theorem ltL_irr (a : List Nat) : ¬ a < a := List.lt_irrefl a
def parts (m : Mon) (z : Int) : List Str := (if 1 < z ∨ m = [] then [strI z] else []) ++ m.map fT
def tText (m : Mon) (z : Int) : Str := Txt.join "*" (parts m z)
structure CanM (m : Mon) : Prop where
  ok : ∀ f ∈ m, OkF f
  up : m.Pairwise fun a b => tl a.1 < tl b.1
theorem CanM.nodup {m : Mon} (h : CanM m) : (m.map (·.1)).Nodup := by
  unfold List.Nodup
  rw [List.pairwise_map]
  exact h.up.imp fun {a b} q e => by rw [e] at q; exact ltL_irr _ q
/-! ### the number ahead -/
def headNum : List Str → Int × List Str
  | [] => (1, [])
  | f :: r => if isFgs 200 (tl f) = true then ((numOf f : Int), r) else (1, f :: r)
def oneBad : List Str → Bool
  | [] => false
  | f :: r => isFgs 200 (tl f) && (decide (numOf f = 1) && !r.isEmpty)
theorem headNum_cons (f : Str) (r : List Str) : headNum (f :: r) = if isFgs 200 (tl f) = true then ((numOf f : Int), r) else (1, f :: r) := rfl
theorem oneBad_cons (f : Str) (r : List Str) : oneBad (f :: r) = (isFgs 200 (tl f) && (decide (numOf f = 1) && !r.isEmpty)) := rfl
theorem split_ne (x y : Str) : ∃ z r, Txt.split x y = z :: r := by
  unfold Txt.split
  split
  · exact ⟨_, _, rfl⟩
  · split
    · exact ⟨_, _, rfl⟩
    · rw [PySem.StrLaws.partsBetween_eq]
      exact PySem.StrLaws.partsFrom_ne _ _ _ _
theorem headNum_pos (fs : List Str) : 0 < (headNum fs).1 ∧ (headNum fs).1 < 10 ^ 200 := by
  have p1 : (1 : Int) < 10 ^ 200 := by decide +kernel
  unfold headNum
  split
  · exact ⟨by decide, p1⟩
  · split
    · rename_i h
      obtain ⟨_, h2, h3⟩ := num_str h
      refine ⟨by show (0 : Int) < (numOf _ : Int); omega, ?_⟩
      show ((numOf _ : Nat) : Int) < 10 ^ 200
      have e : ((10 ^ 200 : Nat) : Int) = 10 ^ 200 := by rw [Int.natCast_pow]; rfl
      rw [← e]
      exact Int.ofNat_lt.mpr h3
    · exact ⟨by show (0 : Int) < 1; decide, p1⟩
theorem not_fgs {k : Nat} {l : List Nat} {a : Nat} {r : List Nat} (e : l = a :: r) (ha : 65 ≤ a) : ¬ isFgs k l = true := fun h => by
  have := (fgs_iff.mp h).dg a (by rw [e]; exact List.mem_cons_self)
  omega
theorem head_parts {m : Mon} {z : Int} (h : ∀ f ∈ m, OkF f) (z0 : 0 < z) (z2 : z < 10 ^ 200) : headNum (parts m z) = (z, m.map fT) ∧ oneBad (parts m z) = false := by
  obtain ⟨n, rfl⟩ : ∃ n : Nat, z = n := ⟨z.toNat, by omega⟩
  have hn : n < 10 ^ 200 := by
    have e : ((10 ^ 200 : Nat) : Int) = 10 ^ 200 := by rw [Int.natCast_pow]; rfl
    rw [← e] at z2
    exact Int.ofNat_lt.mp z2
  obtain ⟨g1, g2⟩ := str_num (k := 200) (n := n) (by omega) (by decide) hn
  unfold parts
  split
  · rename_i hc
    show headNum (strI (n : Int) :: m.map fT) = _ ∧ oneBad (strI (n : Int) :: m.map fT) = false
    rw [headNum_cons, oneBad_cons, if_pos g1, g2]
    refine ⟨rfl, ?_⟩
    rcases hc with hc | hc
    · rw [decide_eq_false (by omega), Bool.false_and, Bool.and_false]
    · subst hc
      simp
  · rename_i hc
    have hn1 : (n : Int) = 1 := by
      have : ¬ (1 : Int) < n := fun q => hc (.inl q)
      omega
    cases m with
    | nil => exact absurd (.inr rfl) hc
    | cons f r =>
      obtain ⟨a, t, e, ha⟩ := fT_head (h f List.mem_cons_self)
      show headNum (fT f :: r.map fT) = _ ∧ oneBad (fT f :: r.map fT) = false
      rw [headNum_cons, oneBad_cons, if_neg (not_fgs e ha), Bool.eq_false_iff.mpr (not_fgs (k := 200) e ha), hn1]
      exact ⟨rfl, rfl⟩
theorem parts_ne (m : Mon) (z : Int) : parts m z ≠ [] := by
  unfold parts
  split
  · simp
  · rename_i hc
    cases m with
    | nil => exact absurd (.inr rfl) hc
    | cons f r => simp
theorem parts_free {m : Mon} {n : Nat} (h : ∀ f ∈ m, OkF f) {s : Nat} (hs : s < 48) : ∀ p ∈ parts m (n : Int), s ∉ tl p := by
  intro p hp
  unfold parts at hp
  rcases List.mem_append.mp hp with hp | hp
  · split at hp
    · rw [List.mem_singleton.mp hp, tl_strI]
      exact numL_free (.inl hs)
    · cases hp
  · obtain ⟨f, hf, rfl⟩ := List.mem_map.mp hp
    exact fT_free (h f hf) hs
theorem split_tText {m : Mon} {z : Int} (h : ∀ f ∈ m, OkF f) (z0 : 0 < z) : Txt.split (tText m z) "*" = parts m z := by
  obtain ⟨n, rfl⟩ : ∃ n : Nat, z = n := ⟨z.toNat, by omega⟩
  exact split_join (s := 42) (S := []) tl_star (by decide +kernel) (parts_ne m _) (parts_free h (by decide))
theorem join_split (x y : Str) : Txt.join y (Txt.split x y) = x := by
  rw [join_eq]
  exact PySem.StrLaws.join_split x y
theorem joinL_free {s : Nat} {S : List Nat} (hS : s ∉ S) : ∀ {ps : List (List Nat)}, (∀ p ∈ ps, s ∉ p) → s ∉ joinL S ps
  | [], _, q => by cases q
  | [p], h, q => h p List.mem_cons_self (by simpa [joinL] using q)
  | p :: p' :: r, h, q => by
    have q' : s ∈ p ++ (S ++ joinL S (p' :: r)) := q
    rcases List.mem_append.mp q' with q1 | q1
    · exact h p List.mem_cons_self q1
    · rcases List.mem_append.mp q1 with q2 | q2
      · exact hS q2
      · exact joinL_free hS (fun z hz => h z (List.mem_cons_of_mem _ hz)) q2
theorem tText_free {m : Mon} {z : Int} (h : ∀ f ∈ m, OkF f) (z0 : 0 < z) : 32 ∉ tl (tText m z) := by
  obtain ⟨n, rfl⟩ : ∃ n : Nat, z = n := ⟨z.toNat, by omega⟩
  unfold tText
  rw [join_eq, tl_join, tl_star]
  refine joinL_free (by decide) fun p hp => ?_
  obtain ⟨x, hx, rfl⟩ := List.mem_map.mp hp
  exact parts_free h (by decide) x hx
/-! ### all factors read -/
def allF : List Str → Option Mon
  | [] => some []
  | x :: r => match rFac x with
    | none => none
    | some f => match allF r with
      | none => none
      | some m => some (f :: m)
theorem allF_some : ∀ {l : List Str} {m : Mon}, allF l = some m → (∀ f ∈ m, OkF f) ∧ m.map fT = l
  | [], m, h => by cases h; exact ⟨fun f hf => (by cases hf), rfl⟩
  | x :: r, m, h => by
    unfold allF at h
    split at h
    · cases h
    · rename_i f hf
      split at h
      · cases h
      · rename_i m' hm
        cases h
        obtain ⟨h1, h2⟩ := allF_some hm
        obtain ⟨g1, g2⟩ := rFac_some hf
        refine ⟨fun g hg => ?_, by rw [List.map_cons, g2, h2]⟩
        rcases List.mem_cons.mp hg with e | hg
        · rw [e]; exact g1
        · exact h1 g hg
theorem allF_text : ∀ {m : Mon}, (∀ f ∈ m, OkF f) → allF (m.map fT) = some m
  | [], _ => rfl
  | f :: m, h => by
    rw [List.map_cons]
    unfold allF
    rw [rFac_text (h f List.mem_cons_self)]
    simp only [allF_text fun g hg => h g (List.mem_cons_of_mem _ hg)]
def dropsB (m : Mon) : Bool := (List.range (m.length - 1)).any fun i => !decide (tl (m.getD i ("", 0)).1 < tl (m.getD (i + 1) ("", 0)).1)
theorem pw_adj {α : Type} {R : α → α → Prop} (tr : ∀ a b c, R a b → R b c → R a c) : ∀ {l : List α}, (∀ i (h : i + 1 < l.length), R l[i] l[i + 1]) → l.Pairwise R
  | [], _ => .nil
  | [a], _ => List.pairwise_singleton ..
  | a :: b :: r, h => by
    have ih := pw_adj tr (l := b :: r) fun i hi => h (i + 1) (by simp only [List.length_cons] at hi ⊢; omega)
    have hab : R a b := h 0 (by simp)
    refine .cons (fun x hx => ?_) ih
    rcases List.mem_cons.mp hx with e | hx
    · rw [e]; exact hab
    · exact tr a b x hab ((List.pairwise_cons.mp ih).1 x hx)
theorem drops_iff {m : Mon} : dropsB m = false ↔ m.Pairwise fun a b => tl a.1 < tl b.1 := by
  unfold dropsB
  rw [List.any_eq_false]
  constructor
  · intro h
    refine pw_adj (R := fun a b : Fac => tl a.1 < tl b.1) (fun a b c => ltL_trans) fun i hi => ?_
    have := h i (List.mem_range.mpr (by omega))
    rw [Bool.not_eq_true, Bool.not_eq_false', decide_eq_true_eq] at this
    rw [List.getD_eq_getElem?_getD, List.getD_eq_getElem?_getD, List.getElem?_eq_getElem (by omega), List.getElem?_eq_getElem hi] at this
    exact this
  · intro h i hi
    have hi' := List.mem_range.mp hi
    rw [Bool.not_eq_true, Bool.not_eq_false', decide_eq_true_eq]
    rw [List.getD_eq_getElem?_getD, List.getD_eq_getElem?_getD, List.getElem?_eq_getElem (by omega), List.getElem?_eq_getElem (by omega)]
    exact List.pairwise_iff_getElem.mp h i (i + 1) (by omega) (by omega) (by omega)
/-- a term's word as the program reads it -/
def rTerm (w : Str) : Option Term :=
  if oneBad (Txt.split w "*") = true then none else
    match allF (headNum (Txt.split w "*")).2 with
    | none => none
    | some m => if dropsB m = true then none else some (m, (headNum (Txt.split w "*")).1)
theorem rTerm_some {w : Str} {m : Mon} {z : Int} (h : rTerm w = some (m, z)) : CanM m ∧ 0 < z ∧ z < 10 ^ 200 ∧ tText m z = w := by
  unfold rTerm at h
  split at h
  · cases h
  · rename_i hb
    split at h
    · cases h
    · rename_i m' hm
      split at h
      · cases h
      · rename_i hd
        obtain ⟨h1, h2⟩ := allF_some hm
        have hz := headNum_pos (Txt.split w "*")
        cases h
        refine ⟨⟨h1, drops_iff.mp (Bool.eq_false_iff.mpr hd)⟩, hz.1, hz.2, ?_⟩
        have e : parts m (headNum (Txt.split w "*")).1 = Txt.split w "*" := by
          unfold parts
          rw [h2]
          obtain ⟨f, r, q⟩ := split_ne w "*"
          rw [q] at hb h2 ⊢
          rw [oneBad_cons] at hb
          rw [headNum_cons] at h2 ⊢
          by_cases hf : isFgs 200 (tl f) = true
          · rw [if_pos hf] at h2 ⊢
            obtain ⟨e1, e2, _⟩ := num_str hf
            simp only [hf, Bool.true_and, Bool.and_eq_true, decide_eq_true_eq, not_and] at hb
            rw [if_pos]
            · show strI (numOf f : Int) :: r = f :: r
              rw [e1]
            · by_cases n1 : numOf f = 1
              · have := hb n1
                refine .inr ?_
                cases r with
                | nil => exact List.map_eq_nil_iff.mp h2
                | cons a b => simp at this
              · exact .inl (by show (1 : Int) < (numOf f : Int); omega)
          · rw [if_neg hf] at h2 ⊢
            rw [if_neg]
            · rfl
            · rintro (n1 | n1)
              · exact absurd n1 (by show ¬ (1 : Int) < 1; decide)
              · rw [n1] at h2
                cases h2
        unfold tText
        rw [e, join_split]
theorem rTerm_text {m : Mon} {z : Int} (h : CanM m) (z0 : 0 < z) (z2 : z < 10 ^ 200) : rTerm (tText m z) = some (m, z) := by
  unfold rTerm
  obtain ⟨g1, g2⟩ := head_parts h.ok z0 z2
  rw [split_tText h.ok z0, g1, g2, if_neg Bool.false_ne_true, allF_text h.ok]
  show (if dropsB m = true then none else some (m, z)) = _
  rw [drops_iff.mpr h.up, if_neg Bool.false_ne_true]
/-! ### .. as the law reads it -/
def rowF : Mon → List Str → Option Mon
  | acc, [] => some acc
  | acc, x :: r => match lFac x with
    | none => none
    | some f => if f.1 ∈ acc.map (·.1) then none else rowF (acc ++ [f]) r
theorem nodup_snoc {acc : Mon} {f : Fac} (h : (acc.map (·.1)).Nodup) (n : f.1 ∉ acc.map (·.1)) : ((acc ++ [f]).map (·.1)).Nodup := by
  rw [List.map_append, List.nodup_append]
  refine ⟨h, by simp, fun a ha b hb e => ?_⟩
  rw [List.map_cons, List.map_nil, List.mem_singleton] at hb
  rw [e, hb] at ha
  exact n ha
theorem rowF_some : ∀ {l : List Str} {acc m : Mon}, rowF acc l = some m → (∀ f ∈ acc, OkF f) → (acc.map (·.1)).Nodup → (∀ f ∈ m, OkF f) ∧ (m.map (·.1)).Nodup
  | [], acc, m, h, h1, h2 => by cases h; exact ⟨h1, h2⟩
  | x :: r, acc, m, h, h1, h2 => by
    unfold rowF at h
    split at h
    · cases h
    · rename_i f hf
      split at h
      · cases h
      · rename_i hn
        refine rowF_some h (fun g hg => ?_) (nodup_snoc h2 hn)
        rcases List.mem_append.mp hg with hg | hg
        · exact h1 g hg
        · rw [List.mem_singleton.mp hg]; exact lFac_some hf
theorem rowF_text : ∀ {m acc : Mon}, (∀ f ∈ m, OkF f) → ((acc ++ m).map (·.1)).Nodup → rowF acc (m.map fT) = some (acc ++ m)
  | [], acc, _, _ => by rw [List.append_nil]; rfl
  | f :: m, acc, h, nd => by
    rw [List.map_cons]
    unfold rowF
    rw [lFac_text (h f List.mem_cons_self)]
    have e : acc ++ f :: m = (acc ++ [f]) ++ m := by rw [List.append_assoc]; rfl
    have hn : f.1 ∉ acc.map (·.1) := fun q => by
      rw [List.map_append, List.nodup_append] at nd
      exact nd.2.2 _ q _ (List.mem_map.mpr ⟨f, List.mem_cons_self, rfl⟩) rfl
    show (if f.1 ∈ acc.map (·.1) then none else rowF (acc ++ [f]) (m.map fT)) = _
    rw [if_neg hn, rowF_text (fun g hg => h g (List.mem_cons_of_mem _ hg)) (by rw [← e]; exact nd), e]
def sortF (m : Mon) : Mon := m.mergeSort (dataLe false fun b => (facK b).data)
theorem sortF_perm (m : Mon) : (sortF m).Perm m := List.mergeSort_perm _ _
theorem le_facs : ∀ a b : Fac, dataLe false (fun b => (facK b).data) a b = !ltK (facK b) (facK a) := fun a b => by
  rw [PySem.W.dataLe_eq]
  rfl
theorem not_ltF_trans {a b c : Fac} (h : ¬ ltF b a) (g : ¬ ltF c b) : ¬ ltF c a := fun q => by
  by_cases e : a = b
  · subst e; exact g q
  · have l1 : ltF a b := ltF_tot (fun z => e z.symm) h
    exact g (ltK_trans q l1)
theorem sortF_up (m : Mon) : (sortF m).Pairwise fun a b => ¬ ltF b a := by
  have := List.pairwise_mergeSort (le := dataLe false fun b : Fac => (facK b).data) (fun a b c h1 h2 => ?_) (fun a b => ?_) m
  · refine this.imp fun {a b} h q => ?_
    rw [le_facs, show ltK (facK b) (facK a) = true from q] at h
    cases h
  · rw [le_facs, Bool.not_eq_true'] at h1 h2 ⊢
    exact Bool.eq_false_iff.mpr (not_ltF_trans (Bool.eq_false_iff.mp h1) (Bool.eq_false_iff.mp h2))
  · rw [le_facs, le_facs]
    cases q : ltK (facK b) (facK a) with
    | false => rfl
    | true => rw [ltK_asymm q]; rfl
theorem sortF_can {m : Mon} (h : ∀ f ∈ m, OkF f) (nd : (m.map (·.1)).Nodup) : CanM (sortF m) := by
  refine ⟨fun f hf => h f ((sortF_perm m).mem_iff.mp hf), ?_⟩
  have nd' : ((sortF m).map (·.1)).Nodup := ((sortF_perm m).map _).nodup_iff.mpr nd
  unfold List.Nodup at nd'
  rw [List.pairwise_map] at nd'
  refine ((sortF_up m).and nd').imp fun {a b} ⟨q, ne⟩ => ?_
  have ne' : b ≠ a := fun e => ne (by rw [e])
  exact (ltF_names ne).mp (ltF_tot ne' q)
theorem sortF_id {m : Mon} (h : CanM m) : sortF m = m := by
  refine List.mergeSort_of_pairwise (h.up.imp fun {a b} q => ?_)
  have ne : a.1 ≠ b.1 := fun e => by rw [e] at q; exact ltL_irr _ q
  rw [le_facs, Bool.not_eq_true']
  exact ltK_asymm ((ltF_names ne).mpr q)
def lTerm (w : Str) : Option Term :=
  match rowF [] (headNum (Txt.split w "*")).2 with
  | none => none
  | some m => some (sortF m, (headNum (Txt.split w "*")).1)
theorem lTerm_some {w : Str} {m : Mon} {z : Int} (h : lTerm w = some (m, z)) : CanM m ∧ 0 < z ∧ z < 10 ^ 200 := by
  unfold lTerm at h
  split at h
  · cases h
  · rename_i m' hm
    have hz := headNum_pos (Txt.split w "*")
    obtain ⟨h1, h2⟩ := rowF_some hm (fun f hf => by cases hf) .nil
    cases h
    exact ⟨sortF_can h1 h2, hz⟩
theorem lTerm_text {m : Mon} {z : Int} (h : CanM m) (z0 : 0 < z) (z2 : z < 10 ^ 200) : lTerm (tText m z) = some (m, z) := by
  unfold lTerm
  obtain ⟨g1, g2⟩ := head_parts h.ok z0 z2
  rw [split_tText h.ok z0, g1]
  show (match rowF [] (m.map fT) with | none => none | some m => some (sortF m, z)) = _
  rw [rowF_text h.ok (by rw [List.nil_append]; exact h.nodup), List.nil_append]
  show some (sortF m, z) = _
  rw [sortF_id h]
end K6

set_option Elab.async false
set_option linter.all false
set_option maxRecDepth 100000
set_option maxHeartbeats 4000000
set_option autoImplicit false
/-! Polynomials as texts: the program's reading and the law's are one; no program here. -/
namespace K6
open PySem L2 TL
open PySem.W (dataLe dataLt)
theorem tl_sp : tl (" " : Str) = [32] := by decide +kernel
theorem tl_minus : tl ("-" : Str) = [45] := by decide +kernel
theorem tl_plus : tl ("+" : Str) = [43] := by decide +kernel
theorem tl_0 : tl ("0" : Str) = [48] := by decide +kernel
theorem minus_plus : ("-" : Str) ≠ "+" := by decide +kernel
def sg (c : Int) : Str := if c < 0 then "-" else "+"
def absI (c : Int) : Int := (c.natAbs : Int)
def flat : Poly → List Str
  | [] => []
  | t :: r => sg t.2 :: tText t.1 (absI t.2) :: flat r
def dropPlus : List Str → List Str
  | [] => []
  | w :: r => if w = "+" then r else w :: r
def signed (ws : List Str) : List Str := if ws.head? = some ("-" : Str) then ws else "+" :: ws
def pWords (p : Poly) : List Str := dropPlus (flat p)
def pText (p : Poly) : Str := if p = [] then "0" else Txt.join " " (pWords p)
structure OkT (t : Term) : Prop where
  m : CanM t.1
  ne : t.2 ≠ 0
  lt : absI t.2 < 10 ^ 200
structure CanP (p : Poly) : Prop where
  ok : ∀ t ∈ p, OkT t
  up : p.Pairwise fun a b => ltM a.1 b.1
  le : p.length ≤ 2000
theorem absI_pos {c : Int} (h : c ≠ 0) : 0 < absI c := by unfold absI; omega
theorem flat_len : ∀ p : Poly, (flat p).length = 2 * p.length
  | [] => rfl
  | t :: r => by
    show (flat r).length + 1 + 1 = 2 * (r.length + 1)
    rw [flat_len r]
    omega
theorem dropPlus_signed {l : List Str} : dropPlus (signed l) = l := by
  unfold signed
  split
  · rename_i h
    cases l with
    | nil => rfl
    | cons w r =>
      cases h
      show (if ("-" : Str) = "+" then r else "-" :: r) = _
      rw [if_neg minus_plus]
  · show (if ("+" : Str) = "+" then l else "+" :: l) = l
    rw [if_pos rfl]
/-! ### the sign that a text begins with -/
theorem join_head {y w : Str} {ws : List Str} {a : Nat} {r : List Nat} (h : tl w = a :: r) : ∃ r', tl (Txt.join y (w :: ws)) = a :: r' := by
  rw [join_eq, tl_join]
  cases ws with
  | nil => exact ⟨r, by rw [List.map_cons, h]; rfl⟩
  | cons x xs => exact ⟨_, by rw [List.map_cons, h]; rfl⟩
theorem tText_head {m : Mon} {z : Int} (h : ∀ f ∈ m, OkF f) (z0 : 0 < z) : ∃ a r, tl (tText m z) = a :: r ∧ 48 < a := by
  obtain ⟨n, rfl⟩ : ∃ n : Nat, z = n := ⟨z.toNat, by omega⟩
  unfold tText parts
  split
  · have hd := numL_head (n := n) (by omega)
    have dg := numL_digits n
    cases e : numL n with
    | nil => exact absurd e (numL_ne n)
    | cons a r =>
      rw [e] at hd dg
      obtain ⟨r', e'⟩ := join_head (y := "*") (w := strI (n : Int)) (ws := m.map fT) (a := a) (r := r) (by rw [tl_strI, e])
      refine ⟨a, r', e', ?_⟩
      have h1 := dg a List.mem_cons_self
      have h2 : a ≠ 48 := fun q => hd (by rw [q]; rfl)
      omega
  · rename_i hc
    cases m with
    | nil => exact absurd (.inr rfl) hc
    | cons f r =>
      obtain ⟨a, t, e, ha⟩ := fT_head (h f List.mem_cons_self)
      obtain ⟨r', e'⟩ := join_head (y := "*") (w := fT f) (ws := r.map fT) e
      exact ⟨a, r', e', by omega⟩
theorem signed_pWords {p : Poly} (h : ∀ t ∈ p, OkT t) (ne : p ≠ []) : signed (pWords p) = flat p := by
  cases p with
  | nil => exact absurd rfl ne
  | cons t r =>
    have ht := h t List.mem_cons_self
    obtain ⟨a, s, e, ha⟩ := tText_head ht.m.ok (absI_pos ht.ne)
    unfold pWords
    show signed (if sg t.2 = "+" then tText t.1 (absI t.2) :: flat r else sg t.2 :: tText t.1 (absI t.2) :: flat r) = sg t.2 :: tText t.1 (absI t.2) :: flat r
    unfold sg
    by_cases c : t.2 < 0
    · rw [if_pos c, if_neg minus_plus]
      unfold signed
      exact if_pos rfl
    · rw [if_neg c, if_pos rfl]
      unfold signed
      rw [if_neg]
      intro q
      have q' : tText t.1 (absI t.2) = "-" := Option.some.inj q
      rw [q', tl_minus] at e
      cases e
      omega
theorem pWords_ne {p : Poly} (ne : p ≠ []) : pWords p ≠ [] := by
  cases p with
  | nil => exact absurd rfl ne
  | cons t r =>
    show (if sg t.2 = "+" then tText t.1 (absI t.2) :: flat r else sg t.2 :: tText t.1 (absI t.2) :: flat r) ≠ []
    split <;> simp
theorem flat_mem : ∀ {p : Poly} {w : Str}, w ∈ flat p → w = "-" ∨ w = "+" ∨ ∃ t ∈ p, w = tText t.1 (absI t.2)
  | t :: r, w, h => by
    rcases List.mem_cons.mp h with e | h
    · unfold sg at e
      split at e
      · exact .inl e
      · exact .inr (.inl e)
    · rcases List.mem_cons.mp h with e | h
      · exact .inr (.inr ⟨t, List.mem_cons_self, e⟩)
      · rcases flat_mem h with e | e | ⟨t', ht, e⟩
        · exact .inl e
        · exact .inr (.inl e)
        · exact .inr (.inr ⟨t', List.mem_cons_of_mem _ ht, e⟩)
theorem pWords_mem {p : Poly} {w : Str} (h : w ∈ pWords p) : w ∈ flat p := by
  unfold pWords at h
  cases e : flat p with
  | nil => rw [e] at h; cases h
  | cons x r =>
    rw [e] at h
    have h' : w ∈ (if x = "+" then r else x :: r) := h
    split at h'
    · exact List.mem_cons_of_mem _ h'
    · exact h'
theorem flat_free {p : Poly} (h : ∀ t ∈ p, OkT t) : ∀ w ∈ flat p, 32 ∉ tl w := by
  intro w hw
  rcases flat_mem hw with e | e | ⟨t, ht, e⟩
  · rw [e, tl_minus]; decide
  · rw [e, tl_plus]; decide
  · rw [e]
    exact tText_free (h t ht).m.ok (absI_pos (h t ht).ne)
theorem split_pText {p : Poly} (h : ∀ t ∈ p, OkT t) (ne : p ≠ []) : Txt.split (pText p) " " = pWords p := by
  unfold pText
  rw [if_neg ne]
  exact split_join (s := 32) (S := []) tl_sp (by decide +kernel) (pWords_ne ne) fun w hw => flat_free h w (pWords_mem hw)
theorem pText_ne0 {p : Poly} (h : ∀ t ∈ p, OkT t) (ne : p ≠ []) : pText p ≠ "0" := by
  intro q
  have e := split_pText h ne
  have hd : ∃ w r, pWords p = w :: r ∧ ∃ a s, tl w = a :: s ∧ a ≠ 48 := by
    cases p with
    | nil => exact absurd rfl ne
    | cons t r =>
      have ht := h t List.mem_cons_self
      obtain ⟨a, s, e, ha⟩ := tText_head ht.m.ok (absI_pos ht.ne)
      unfold pWords
      show ∃ w r', (if sg t.2 = "+" then tText t.1 (absI t.2) :: flat r else sg t.2 :: tText t.1 (absI t.2) :: flat r) = w :: r' ∧ _
      unfold sg
      by_cases c : t.2 < 0
      · rw [if_pos c, if_neg minus_plus]
        exact ⟨_, _, rfl, 45, [], tl_minus, by decide⟩
      · rw [if_neg c, if_pos rfl]
        exact ⟨_, _, rfl, a, s, e, by omega⟩
  obtain ⟨w, r, ew, a, s, ea, na⟩ := hd
  have ej : Txt.join " " (w :: r) = "0" := by
    rw [← ew, ← e, join_split, q]
  obtain ⟨r', er⟩ := join_head (y := " ") (ws := r) ea
  rw [ej, tl_0] at er
  cases er
  exact na rfl
/-! ### the program's reading -/
def signI (s : Str) (z : Int) : Int := if s = "-" then -z else z
theorem signI_ok {s : Str} {z : Int} (hs : s = "+" ∨ s = "-") (z0 : 0 < z) : sg (signI s z) = s ∧ absI (signI s z) = z ∧ signI s z ≠ 0 := by
  unfold signI
  rcases hs with e | e
  · rw [e, if_neg (fun q => minus_plus q.symm)]
    refine ⟨?_, by unfold absI; omega, by omega⟩
    unfold sg
    rw [if_neg (by omega)]
  · rw [e, if_pos rfl]
    refine ⟨?_, by unfold absI; omega, by omega⟩
    unfold sg
    rw [if_pos (by omega)]
theorem signI_sg {c : Int} (h : c ≠ 0) : (sg c = "+" ∨ sg c = "-") ∧ signI (sg c) (absI c) = c := by
  unfold sg signI absI
  by_cases q : c < 0
  · rw [if_pos q, if_pos rfl]
    exact ⟨.inr rfl, by omega⟩
  · rw [if_neg q, if_neg (fun e => minus_plus e.symm)]
    exact ⟨.inl rfl, by omega⟩
def lastOk (acc : Poly) (m : Mon) : Bool :=
  match acc.getLast? with
  | none => true
  | some l => ltK (monK l.1) (monK m)
def rTab : Poly → List Str → Option Poly
  | acc, s :: w :: r => if s = "+" ∨ s = "-" then
      (match rTerm w with
        | none => none
        | some t => if lastOk acc t.1 = true then rTab (acc ++ [(t.1, signI s t.2)]) r else none)
      else none
  | acc, _ => some acc
theorem up_snoc {acc : Poly} {t : Term} (h : acc.Pairwise fun a b => ltM a.1 b.1) (l : lastOk acc t.1 = true) : (acc ++ [t]).Pairwise fun a b => ltM a.1 b.1 := by
  refine List.pairwise_append.mpr ⟨h, List.pairwise_singleton .., fun a ha b hb => ?_⟩
  rw [List.mem_singleton.mp hb]
  unfold lastOk at l
  cases e : acc.getLast? with
  | none =>
    rw [List.getLast?_eq_none_iff.mp e] at ha
    cases ha
  | some z =>
    rw [e] at l
    obtain ⟨ini, hi⟩ := List.getLast?_eq_some_iff.mp e
    rw [hi] at ha h
    rcases List.mem_append.mp ha with ha | ha
    · exact ltM_trans ((List.pairwise_append.mp h).2.2 a ha z (List.mem_singleton.mpr rfl)) l
    · rw [List.mem_singleton.mp ha]; exact l
theorem lastOk_of {acc : Poly} {t : Term} {r : Poly} (h : (acc ++ t :: r).Pairwise fun a b => ltM a.1 b.1) : lastOk acc t.1 = true := by
  unfold lastOk
  cases e : acc.getLast? with
  | none => rfl
  | some z =>
    obtain ⟨ini, hi⟩ := List.getLast?_eq_some_iff.mp e
    exact (List.pairwise_append.mp h).2.2 z (by rw [hi]; exact List.mem_append_right _ (List.mem_singleton.mpr rfl)) t List.mem_cons_self
theorem rTab_some : ∀ {ws : List Str} {acc p : Poly}, rTab acc ws = some p → ws.length % 2 = 0 → (∀ t ∈ acc, OkT t) → (acc.Pairwise fun a b => ltM a.1 b.1) →
    ∃ q, p = acc ++ q ∧ flat q = ws ∧ (∀ t ∈ p, OkT t) ∧ p.Pairwise fun a b => ltM a.1 b.1
  | [], acc, p, h, _, h1, h2 => by
    cases h
    exact ⟨[], (List.append_nil _).symm, rfl, h1, h2⟩
  | [_], _, _, _, he, _, _ => by simp at he
  | s :: w :: r, acc, p, h, he, h1, h2 => by
    unfold rTab at h
    split at h
    · rename_i hs
      split at h
      · cases h
      · rename_i t ht
        split at h
        · rename_i hl
          obtain ⟨m, z⟩ := t
          obtain ⟨g1, g2, g3, g4⟩ := rTerm_some ht
          obtain ⟨s1, s2, s3⟩ := signI_ok hs g2
          have ok : OkT (m, signI s z) := ⟨g1, s3, by rw [show absI (m, signI s z).2 = z from s2]; exact g3⟩
          obtain ⟨q, e1, e2, e3, e4⟩ := rTab_some h (by simp only [List.length_cons] at he; omega) (fun t ht => by
            rcases List.mem_append.mp ht with ht | ht
            · exact h1 t ht
            · rw [List.mem_singleton.mp ht]; exact ok) (up_snoc (t := (m, signI s z)) h2 hl)
          refine ⟨(m, signI s z) :: q, by rw [e1, List.append_assoc]; rfl, ?_, e3, e4⟩
          show sg (signI s z) :: tText m (absI (signI s z)) :: flat q = _
          rw [s1, s2, g4, e2]
        · cases h
    · cases h
theorem rTab_text : ∀ {q acc : Poly}, (∀ t ∈ q, OkT t) → ((acc ++ q).Pairwise fun a b => ltM a.1 b.1) → rTab acc (flat q) = some (acc ++ q)
  | [], acc, _, _ => by rw [List.append_nil]; rfl
  | t :: q, acc, h, hp => by
    have ht := h t List.mem_cons_self
    obtain ⟨s1, s2⟩ := signI_sg ht.ne
    show rTab acc (sg t.2 :: tText t.1 (absI t.2) :: flat q) = _
    unfold rTab
    rw [if_pos s1, rTerm_text ht.m (absI_pos ht.ne) ht.lt]
    show (if lastOk acc t.1 = true then rTab (acc ++ [(t.1, signI (sg t.2) (absI t.2))]) (flat q) else none) = _
    rw [if_pos (lastOk_of hp), s2]
    have e : acc ++ t :: q = (acc ++ [t]) ++ q := by rw [List.append_assoc]; rfl
    rw [e] at hp ⊢
    exact rTab_text (fun t ht => h t (List.mem_cons_of_mem _ ht)) hp
def rPoly (x : Str) : Option Poly :=
  if x = "0" then some [] else
    if (signed (Txt.split x " ")).length % 2 = 1 ∨ 4000 < (signed (Txt.split x " ")).length then none else rTab [] (signed (Txt.split x " "))
theorem rPoly_some {x : Str} {p : Poly} (h : rPoly x = some p) : CanP p ∧ pText p = x := by
  unfold rPoly at h
  split at h
  · rename_i e
    cases h
    refine ⟨⟨fun t ht => (by cases ht), .nil, Nat.zero_le _⟩, ?_⟩
    rw [e]
    rfl
  · split at h
    · cases h
    · rename_i hn
      obtain ⟨q, e1, e2, e3, e4⟩ := rTab_some h (by omega) (fun t ht => (by cases ht)) .nil
      rw [List.nil_append] at e1
      subst e1
      have hl := flat_len p
      rw [e2] at hl
      refine ⟨⟨e3, e4, by omega⟩, ?_⟩
      have np : p ≠ [] := by
        rintro rfl
        have := congrArg dropPlus e2
        rw [dropPlus_signed] at this
        obtain ⟨z, r, ez⟩ := split_ne x " "
        rw [ez] at this
        cases this
      unfold pText pWords
      rw [if_neg np, e2, dropPlus_signed, join_split]
theorem rPoly_text {p : Poly} (h : CanP p) : rPoly (pText p) = some p := by
  by_cases ne : p = []
  · subst ne
    show (if ("0" : Str) = "0" then some [] else _) = _
    rw [if_pos rfl]
  · unfold rPoly
    rw [if_neg (pText_ne0 h.ok ne), split_pText h.ok ne, signed_pWords h.ok ne, if_neg, rTab_text h.ok (by rw [List.nil_append]; exact h.up), List.nil_append]
    have := flat_len p
    have := h.le
    omega
/-! ### the law's reading -/
def lTab : Poly → List Str → Option Poly
  | acc, s :: w :: r => if s = "+" ∨ s = "-" then
      (match lTerm w with
        | none => none
        | some t => if t.1 ∈ acc.map (·.1) then none else lTab (acc ++ [(t.1, signI s t.2)]) r)
      else none
  | acc, _ => some acc
def KeyND (p : Poly) : Prop := (p.map (·.1)).Nodup
theorem keyND_snoc {acc : Poly} {t : Term} (h : KeyND acc) (n : t.1 ∉ acc.map (·.1)) : KeyND (acc ++ [t]) := by
  unfold KeyND
  rw [List.map_append, List.nodup_append]
  refine ⟨h, by simp, fun a ha b hb e => ?_⟩
  rw [List.map_cons, List.map_nil, List.mem_singleton] at hb
  rw [e, hb] at ha
  exact n ha
theorem lTab_some : ∀ {ws : List Str} {acc p : Poly}, lTab acc ws = some p → ws.length % 2 = 0 → (∀ t ∈ acc, OkT t) → KeyND acc → (∀ t ∈ p, OkT t) ∧ KeyND p ∧ 2 * p.length = 2 * acc.length + ws.length
  | [], acc, p, h, _, h1, h2 => by
    cases h
    exact ⟨h1, h2, rfl⟩
  | [_], _, _, _, he, _, _ => by simp at he
  | s :: w :: r, acc, p, h, he, h1, h2 => by
    unfold lTab at h
    split at h
    · rename_i hs
      split at h
      · cases h
      · rename_i t ht
        split at h
        · cases h
        · rename_i hl
          obtain ⟨m, z⟩ := t
          obtain ⟨g1, g2, g3⟩ := lTerm_some ht
          obtain ⟨s1, s2, s3⟩ := signI_ok hs g2
          have ok : OkT (m, signI s z) := ⟨g1, s3, by rw [show absI (m, signI s z).2 = z from s2]; exact g3⟩
          obtain ⟨e3, e4, e5⟩ := lTab_some h (by simp only [List.length_cons] at he; omega) (fun t ht => by
            rcases List.mem_append.mp ht with ht | ht
            · exact h1 t ht
            · rw [List.mem_singleton.mp ht]; exact ok) (keyND_snoc (t := (m, signI s z)) h2 hl)
          refine ⟨e3, e4, ?_⟩
          simp only [List.length_append, List.length_cons, List.length_nil] at e5 ⊢
          omega
    · cases h
theorem lTab_text : ∀ {q acc : Poly}, (∀ t ∈ q, OkT t) → KeyND (acc ++ q) → lTab acc (flat q) = some (acc ++ q)
  | [], acc, _, _ => by rw [List.append_nil]; rfl
  | t :: q, acc, h, hp => by
    have ht := h t List.mem_cons_self
    obtain ⟨s1, s2⟩ := signI_sg ht.ne
    show lTab acc (sg t.2 :: tText t.1 (absI t.2) :: flat q) = _
    unfold lTab
    rw [if_pos s1, lTerm_text ht.m (absI_pos ht.ne) ht.lt]
    have hn : t.1 ∉ acc.map (·.1) := fun z => by
      unfold KeyND at hp
      rw [List.map_append, List.nodup_append] at hp
      exact hp.2.2 _ z _ (List.mem_map.mpr ⟨t, List.mem_cons_self, rfl⟩) rfl
    show (if t.1 ∈ acc.map (·.1) then none else lTab (acc ++ [(t.1, signI (sg t.2) (absI t.2))]) (flat q)) = _
    rw [if_neg hn, s2]
    have e : acc ++ t :: q = (acc ++ [t]) ++ q := by rw [List.append_assoc]; rfl
    rw [e] at hp ⊢
    exact lTab_text (fun t ht => h t (List.mem_cons_of_mem _ ht)) hp
def valOf (p : Poly) (m : Mon) : Int := ((p.find? fun t => decide (t.1 = m)).map (·.2)).getD 0
def sortM (l : List Mon) : List Mon := l.mergeSort (dataLe false fun b => (monK b).data)
def sortP (p : Poly) : Poly := (sortM (p.map (·.1))).map fun m => (m, valOf p m)
theorem valOf_mem {p : Poly} {m : Mon} (h : m ∈ p.map (·.1)) : (m, valOf p m) ∈ p := by
  unfold valOf
  cases e : p.find? fun t => decide (t.1 = m) with
  | none =>
    obtain ⟨t, ht, rfl⟩ := List.mem_map.mp h
    have := List.find?_eq_none.mp e t ht
    simp at this
  | some t =>
    have h1 := List.mem_of_find?_eq_some e
    have h2 := List.find?_some e
    simp only [decide_eq_true_eq] at h2
    subst h2
    exact h1
theorem valOf_at {p : Poly} (nd : KeyND p) {t : Term} (h : t ∈ p) : valOf p t.1 = t.2 := by
  have h1 := valOf_mem (List.mem_map.mpr ⟨t, h, rfl⟩ : t.1 ∈ p.map (·.1))
  have : ∀ {l : Poly}, KeyND l → ∀ {m : Mon} {a b : Int}, (m, a) ∈ l → (m, b) ∈ l → a = b := by
    intro l
    induction l with
    | nil => intro _ m a b ha; cases ha
    | cons x l ih =>
      intro nd m a b ha hb
      unfold KeyND at nd
      rw [List.map_cons, List.nodup_cons] at nd
      rcases List.mem_cons.mp ha with ea | ha
      · rcases List.mem_cons.mp hb with eb | hb
        · rw [← ea] at eb; cases eb; rfl
        · exact absurd (List.mem_map.mpr ⟨(m, b), hb, by rw [← ea]⟩) nd.1
      · rcases List.mem_cons.mp hb with eb | hb
        · exact absurd (List.mem_map.mpr ⟨(m, a), ha, by rw [← eb]⟩) nd.1
        · exact ih nd.2 ha hb
  exact this nd h1 h
theorem le_mons : ∀ a b : Mon, dataLe false (fun b => (monK b).data) a b = !ltK (monK b) (monK a) := fun a b => by
  rw [PySem.W.dataLe_eq]
  rfl
theorem not_ltM_trans {a b c : Mon} (h : ¬ ltM b a) (g : ¬ ltM c b) : ¬ ltM c a := fun q => by
  by_cases e : a = b
  · subst e; exact g q
  · exact g (ltM_trans q (ltM_tot (fun z => e z.symm) h))
theorem sortM_perm (l : List Mon) : (sortM l).Perm l := List.mergeSort_perm _ _
theorem sortM_up {l : List Mon} (nd : l.Nodup) : (sortM l).Pairwise ltM := by
  have p := List.pairwise_mergeSort (le := dataLe false fun b : Mon => (monK b).data) (fun a b c h1 h2 => ?_) (fun a b => ?_) l
  · have nd' : (sortM l).Nodup := (sortM_perm l).nodup_iff.mpr nd
    refine (List.Pairwise.and p nd').imp fun {a b} ⟨h, ne⟩ => ?_
    rw [le_mons, Bool.not_eq_true'] at h
    exact ltM_tot (fun e => ne e.symm) (Bool.eq_false_iff.mp h)
  · rw [le_mons, Bool.not_eq_true'] at h1 h2 ⊢
    exact Bool.eq_false_iff.mpr (not_ltM_trans (Bool.eq_false_iff.mp h1) (Bool.eq_false_iff.mp h2))
  · rw [le_mons, le_mons]
    cases q : ltK (monK b) (monK a) with
    | false => rfl
    | true => rw [ltK_asymm q]; rfl
theorem sortM_id {l : List Mon} (h : l.Pairwise ltM) : sortM l = l := by
  refine List.mergeSort_of_pairwise (h.imp fun {a b} q => ?_)
  rw [le_mons, Bool.not_eq_true']
  exact ltK_asymm q
theorem sortP_can {p : Poly} (h : ∀ t ∈ p, OkT t) (nd : KeyND p) (le : p.length ≤ 2000) : CanP (sortP p) := by
  refine ⟨fun t ht => ?_, ?_, ?_⟩
  · obtain ⟨m, hm, rfl⟩ := List.mem_map.mp ht
    exact h _ (valOf_mem ((sortM_perm _).mem_iff.mp hm))
  · unfold sortP
    rw [List.pairwise_map]
    exact sortM_up nd
  · unfold sortP
    rw [List.length_map, (sortM_perm _).length_eq, List.length_map]
    exact le
theorem CanP.nd {p : Poly} (h : CanP p) : KeyND p := by
  unfold KeyND List.Nodup
  rw [List.pairwise_map]
  exact h.up.imp fun {a b} q e => by rw [e] at q; exact ltM_irr _ q
theorem sortP_id {p : Poly} (h : CanP p) : sortP p = p := by
  unfold sortP
  rw [sortM_id (List.pairwise_map.mpr h.up), List.map_map]
  have : ∀ t ∈ p, ((fun m => (m, valOf p m)) ∘ fun t : Term => t.1) t = t := fun t ht => by
    show (t.1, valOf p t.1) = t
    rw [valOf_at h.nd ht]
  exact (List.map_congr_left this).trans (List.map_id'' (fun _ => rfl) p)
def lPoly (x : Str) : Option Poly :=
  if x = "0" then some [] else
    if 4000 < (signed (Txt.split x " ")).length ∨ (signed (Txt.split x " ")).length % 2 = 1 then none else
      match lTab [] (signed (Txt.split x " ")) with
      | none => none
      | some tab => if pText (sortP tab) = x then some (sortP tab) else none
theorem lPoly_some {x : Str} {p : Poly} (h : lPoly x = some p) : CanP p ∧ pText p = x := by
  unfold lPoly at h
  split at h
  · rename_i e
    cases h
    refine ⟨⟨fun t ht => (by cases ht), .nil, Nat.zero_le _⟩, ?_⟩
    rw [e]
    rfl
  · split at h
    · cases h
    · rename_i hn
      split at h
      · cases h
      · rename_i tab ht
        split at h
        · rename_i e
          cases h
          obtain ⟨h1, h2, h3⟩ := lTab_some ht (by omega) (fun t ht => (by cases ht)) List.nodup_nil
          refine ⟨sortP_can h1 h2 ?_, e⟩
          simp only [List.length_nil] at h3
          omega
        · cases h
theorem lPoly_text {p : Poly} (h : CanP p) : lPoly (pText p) = some p := by
  by_cases ne : p = []
  · subst ne
    show (if ("0" : Str) = "0" then some [] else _) = _
    rw [if_pos rfl]
  · unfold lPoly
    rw [if_neg (pText_ne0 h.ok ne), split_pText h.ok ne, signed_pWords h.ok ne, if_neg, lTab_text h.ok (by rw [List.nil_append]; exact h.nd), List.nil_append]
    · show (if pText (sortP p) = pText p then some (sortP p) else none) = _
      rw [sortP_id h, if_pos rfl]
    · have := flat_len p
      have := h.le
      omega
/-- both readings are one -/
theorem same_poly (x : Str) : rPoly x = lPoly x := by
  cases e : rPoly x with
  | some p =>
    obtain ⟨h1, h2⟩ := rPoly_some e
    rw [← h2, lPoly_text h1]
  | none =>
    cases g : lPoly x with
    | none => rfl
    | some p =>
      obtain ⟨h1, h2⟩ := lPoly_some g
      rw [← h2, rPoly_text h1] at e
      cases e
end K6

set_option Elab.async false
set_option linter.all false
set_option maxRecDepth 100000
set_option maxHeartbeats 4000000
/-! Errors of own classes under an own base under Exception; each __init__ calls the base's, then keeps one field. -/
namespace PySem
namespace OwnErr
open PySem.W PySem.Calls PyProof.Rows PySem.HandSPX Builtin Builtin.ObjectAttr
def endE : List Value := [.type "Exception", .type "BaseException", .type "object"]
/-- a class's ancestors: own classes, then Exception's -/
def Line (l : List Value) : Prop := ∃ own : List Addr, l = own.map Value.ref ++ endE
theorem Line.cons {l : List Value} {C : Addr} (h : Line l) : Line (.ref C :: l) := by
  obtain ⟨own, e⟩ := h
  exact ⟨C :: own, by rw [e]; rfl⟩
theorem Line.has {l : List Value} (h : Line l) (T : String) : l.contains (.type T) = endE.contains (.type T) := by
  obtain ⟨own, rfl⟩ := h
  induction own with
  | nil => rfl
  | cons c r ih =>
    show List.contains (Value.ref c :: (r.map Value.ref ++ endE)) (Value.type T) = _
    rw [List.contains_cons, ih]
    exact Bool.false_or _
theorem Line.pass {l : List Value} (h : Line l) (me : Value) : refuseLoop me "__setattr__" l = pure () := by
  obtain ⟨own, rfl⟩ := h
  induction own with
  | nil => exact F.store_Exception.passes me
  | cons c r ih =>
    show refuseLoop me "__setattr__" (Value.ref c :: (r.map Value.ref ++ endE)) = _
    rw [refuseLoop_ref, ih]
theorem Line.some {l : List Value} (h : Line l) : l.isEmpty = false := by
  obtain ⟨own, rfl⟩ := h
  cases own <;> rfl
section
variable {prog : Program} {w : World} {A : Around} {E : Value → Shared → Prop} {R : Result → Shared → Prop} {hp : Heap} {g : Array GenState} {d : Drawn} {t : Nat} {os : OsState}
/-- the first field of an error at e that has no dict as yet: the dict at dx is laid -/
theorem first_field {K : W.Frag} {name : Str} {tk : Tok} {v : Value} {e C : Addr} {vs : Array Value} {cd : ClassData} (kin : K.In hp) (he : hp.get? e = some { cls := .ref C, data := .fields vs })
    (hcd : W.clsIn K C = some cd) (hl : Line cd.mro) (hh : cd.hasDict = true) (no : W.findIn K (.ref C) name = some none)
    (go : ∀ h2 tk2 dx, (∀ b o, b ≠ e → hp.get? b = some o → h2.get? b = some o) → hp.objs.size ≤ dx → dx ≠ e → h2.get? e = some { cls := .ref C, dict := some dx, data := .fields vs } →
      h2.Ns1 dx (fun y => if y = name then some v else none) → R (.ok (.ret .none)) ⟨h2, g, d, tk2, os⟩) :
    codeAny (model prog w) A (.call (.builtin "object.__setattr__") ⟨[.ref e, .str name tk, v], []⟩) R ⟨hp, g, d, t, os⟩ := by
  have at_ : W.InstAt hp e { cls := .ref C, data := .fields vs } C none := ⟨he, rfl, rfl, trivial⟩
  have so := F.store_object
  have mro : W.Looks (model prog w) hp (mroOf (.ref C)) cd.mro := (W.looks_clsIn kin hcd).andThen .now
  have old : e ≠ hp.objs.size := Nat.ne_of_lt (Heap.lt_size he)
  have isObj : W.Looks (model prog w) hp (isInstance (.ref e) (.type "object")) true :=
    at_.type.andThen (W.looks_mroIn kin (by unfold W.mroIn; rw [hcd, Option.bind_some, hl.some, hl.has]; decide +kernel))
  have cls : W.Looks (model prog w) hp (classData C) cd := W.looks_clsIn kin hcd
  have taker : W.Looks (model prog w) hp (storeTaker? none) none := .now
  refine codeAny_call_builtin so.slot.plain so.entry (@W.check_slot (model prog w) _ _ ⟨hp, g, d, t, os⟩ "object.__setattr__" "object" "__setattr__" (.ref e) [.str name tk, v] [] _ so.kind so.split isObj (so.args (.ref e) (.str name tk) v) ?_)
  rw [W.osa_eq, refuse_eq]
  refine wpAny_bind (wpAny_bind (at_.type.at (wpAny_bind (mro.at ?_))))
  rw [hl.pass]
  refine wpAny_pure (wpAny_bind (at_.type.at (wpAny_bind ((W.looks_findIn kin no).at (wpAny_bind (taker.at ?_))))))
  obtain ⟨_, _, _, _, _, hd, _, _, _, _, _⟩ := cd
  obtain rfl : hd = true := hh
  show wpAny _ _ (storeInOwnDict (.ref e) (.ref C) (.str name tk) name v false) _ _ _
  unfold storeInOwnDict ownDictForStores
  repeat (first | with_reducible refine HandSPX.store_in_new ?_ ?_ | with_reducible refine wpAny_loadPart_at he ?_ | with_reducible refine cls.at ?_ | wp_step)
  · exact ⟨_, #[], _, (Heap.get?_update_ne _ _ _ _ old.symm).trans (Heap.get?_push_at rfl rfl), rfl, fun z hz => absurd hz (by simp), fun _ => rfl⟩
  · intro h2 tk2 hn hs
    have there : (hp.push { cls := .type "dict", data := .dict #[] }).get? e = some { cls := .ref C, data := .fields vs } := Heap.get?_push_of_some _ he
    exact go h2 tk2 hp.objs.size (fun b o hb ho => (hs.2 b (Nat.ne_of_lt (Heap.lt_size ho))).trans ((Heap.get?_update_ne _ _ _ _ hb).trans (Heap.get?_push_of_some _ ho))) (Nat.le_refl _) old.symm
      ((hs.2 e old).trans (Heap.get?_update_self _ there rfl)) hn
end
end OwnErr
end PySem

namespace L2
open PySem PySem.Spec PyProof.Rows
/-- what the written part says of such a class -/
structure ErrC (K : PySem.W.Frag) (C : Addr) : Prop where
  cls : ∃ nm q N bs bm sn sub ab col dd k0 k1 k2 k3 k5, K.lookup C = some (excClassObj nm q C N bs bm true sn sub ab col dd k0 k1 k2 k3 k5 "Exception.__new__") ∧ PySem.OwnErr.Line bm
  sa : PySem.W.findIn K (.ref C) "__setattr__" = some (some (.builtin "object.__setattr__"))
  exC : PySem.W.subIn K (.ref C) (.type "BaseException") = some true
  tyC : PySem.W.typeIn K (.ref C) = some (.type "type")
  kC : PySem.W.keepIn K (.ref C) = true
/-- .. and of the base whose __init__ is called by name -/
structure BaseC (K : PySem.W.Frag) (B : Addr) : Prop where
  ga : PySem.W.specialIn K (.ref B) "__getattribute__" = some (some (.builtin "type.__getattribute__"))
  rd : PySem.W.readsIn (mc := .type "type") K B = true
  ini : PySem.W.findCls K (.ref B) (.type "type") "__init__" = some (.val (.builtin "Exception.__init__"))
/-- self.f = e, the error's first field -/
def tField (K : PySem.W.Frag) (f : Str) (to te : TE) : TS := fun D σ H => te σ H fun y H1 => to σ H1 fun x H2 => ∃ a C : Addr, x = .ref a ∧ ErrC K C ∧ PySem.W.findIn K (.ref C) f = some none ∧ H2 a = some (exo a C none) ∧
  ∀ dx, H2 dx = none → dx ≠ a → D.nx σ (upd (upd H2 dx (exd dx [(f, y)])) a (exo a C (some dx)))
/-- Base.__init__(self, ..) -/
def tBaseInit (K : PySem.W.Frag) (ta : TA) : TE := fun σ H Q => ta σ H fun vs H1 => ∃ (a C : Addr) (ws : List V), vs = .ref a :: ws ∧ ws.length ≤ 1000 ∧ ErrC K C ∧ H1 a = some (exo a C none) ∧ Q .non H1
/-- C(e, ..), C's own __init__ keeping sp -/
def tErr (C : Addr) (sp : Sp) (ta : TA) : St → Hp → XK → Prop := fun σ H Q => ta σ H fun vs H1 => vs.length ≤ 1000 ∧ ∀ a, H1 a = none → sp (.ref a :: vs) (upd H1 a (exo a C none))
  (fun v H2 => v = .non ∧ ∃ (d : Addr) (fs : List (Str × V)), H2 a = some (exo a C (some d)) ∧ H2 d = some (exd d fs) ∧ H1 d = none ∧ Q (.ref C) (some d) (upd (del H2 a) d (.xd fs))) (fun _ _ _ => False)
section
variable {X : Cx} {pins : List (Addr × Obj)} {σ : St} {H : Hp} {s : Shared} {a C : Addr}
theorem ErrC.data (T : ErrC X.K C) : ∃ cd, PySem.W.clsIn X.K C = some cd ∧ PySem.OwnErr.Line cd.mro ∧ cd.hasDict = true := by
  obtain ⟨nm, q, N, bs, bm, sn, sub, ab, col, dd, k0, k1, k2, k3, k5, hC, hl⟩ := T.cls
  refine ⟨{ name := nm, bases := bs, mro := .ref C :: bm, ns := N, qualname := q, hasDict := true, slotNames := sn, subclasses := sub, abstract := ab, collection := col, hasDel := false }, ?_, hl.cons, rfl⟩
  unfold PySem.W.clsIn
  rw [hC] <;> rfl
theorem field_first {f : Str} {y : V} {u : Value} {Q : Unit → Shared → Prop} {E : Value → Shared → Prop} {A : Around} (T : ErrC X.K C) (I : Inv X pins σ H s) (ea : H a = some (exo a C none)) (no : PySem.W.findIn X.K (.ref C) f = some none) (ry : RelV y u)
    (go : ∀ dx s2, H dx = none → dx ≠ a → Inv X pins σ (upd (upd H dx (exd dx [(f, y)])) a (exo a C (some dx))) s2 → Q () s2) : wpAny (model X.prog X.w) A (setAttr (.ref a) f u) Q E s := by
  obtain ⟨cd, hcd, hl, hd⟩ := T.data
  obtain ⟨t1, ho⟩ := exo_at I.hok ea
  obtain ⟨hp, g, dr, t, os⟩ := s
  refine PySem.W.set_plain I.kIn (ox := { cls := .ref C, dict := none, data := .fields #[.ref t1, .none, .none, .none, .bool false, .none] }) (od := none) ⟨ho, rfl, rfl, trivial⟩ T.sa ?_
  refine PySem.OwnErr.first_field I.kIn ho hcd hl hd no (fun h2 t2 dx keep new ne hx hn => ?_)
  have fresh : H dx = none := I.hok.fresh new
  have neD : ∀ {b : Addr} {o : Obj}, hp.get? b = some o → b ≠ dx := fun q => Nat.ne_of_lt (Nat.lt_of_lt_of_le (Heap.lt_size q) new)
  have neA : ∀ {b : Addr}, H b = none → b ≠ a := fun n z => by
    rw [z, ea] at n
    cases n
  have un : Un X.fs [] H (upd (upd H dx (exd dx [(f, y)])) a (exo a C (some dx))) hp h2 :=
    { keep := fun b o q n _ _ => keep b o (neA n) q
      slot := fun b o q n _ _ => ⟨o.slots, keep b o (neA n) q⟩
      free := fun b o q n _ => (upd_ne (neA n)).trans ((upd_ne (neD q)).trans n)
      there := fun b o q _ => by
        by_cases hb : b = a
        · exact ⟨_, hb.symm ▸ hx⟩
        · exact ⟨o, keep b o hb q⟩
      tups := fun b xs q => (upd_ne (at_ne ea q exo_tup)).trans ((upd_ne (ne_of_none q fresh)).trans q)
      frzs := fun b o v q => (upd_ne (at_ne ea q exo_frz)).trans ((upd_ne (ne_of_none q fresh)).trans q)
      tbls := fun b ps q => ⟨#[], ((upd_ne (at_ne ea q exo_tbl)).trans ((upd_ne (ne_of_none q fresh)).trans q)).trans (by simp)⟩ }
  refine go dx _ fresh ne (I.un (t' := t2) un fun b o q => ?_)
  by_cases hb : b = a
  · subst hb
    rw [upd_same] at q
    cases q
    exact exo_ok hx
  · rw [upd_ne hb] at q
    by_cases hd : b = dx
    · subst hd
      rw [upd_same] at q
      cases q
      exact exd_ok hn (relO_put (fs := []) ry fun _ => True.intro)
    · rw [upd_ne hd] at q
      refine (I.hok b o q).stay (fun c v hc z => keep c v ?_ z) (fun c hc => ?_) (fun c xs hc => ?_)
      · exact hc.elim (fun e => by rw [e]; exact hb) fun e => at_ne ea e exo_own
      · exact (upd_ne (at_ne ea hc exo_own)).trans ((upd_ne (ne_of_none hc fresh)).trans hc)
      · exact (upd_ne (at_ne ea hc exo_tup)).trans ((upd_ne (ne_of_none hc fresh)).trans hc)
theorem base_init {us : List Value} {Q : Value → Shared → Prop} {E : Value → Shared → Prop} {A : Around} (T : ErrC X.K C) (I : Inv X pins σ H s) (ea : H a = some (exo a C none)) (hl : us.length ≤ sizeLine) (go : ∀ s2, Inv X pins σ H s2 → Q .none s2) :
    wpAny (model X.prog X.w) A (call (.builtin "Exception.__init__") (.ref a :: us)) Q E s := by
  obtain ⟨nm, q, N, bs, bm, sn, sub, ab, col, dd, k0, k1, k2, k3, k5, hC, hline⟩ := T.cls
  obtain ⟨t1, ho⟩ := exo_at I.hok ea
  obtain ⟨hp, g, dr, t, os⟩ := s
  refine wpAny_call (PySem.HandSPX.init_base F.excBase_Exception (fun T => hline.has T) (I.kIn _ _ hC) ho hl fun h2 t2 keep hx => ?_)
  have eq : upd H a (exo a C none) = H := funext fun b => by
    by_cases hb : b = a
    · rw [hb, upd_same, ea]
    · rw [upd_ne hb]
  have J := I.write (t' := t) (x := a) (e := a) (o := exo a C none) (by rw [ea]; exact True.intro) (.inl rfl) keep ⟨_, hx⟩ (exo_ok hx)
  exact go _ (eq ▸ J)
end
section
variable {X : Cx} {o e : Expr} {es : List Expr} {to te : TE} {ta : TA} {f : Str} {p p' p1 p2 pos : Pos}
theorem ps_field (ho : PE X o to) (he : PE X e te) (hs : swapsWith e (some (.Attribute o f p')) pos.line X.env = pure false := by rfl) : PS X (.Assign [.Attribute o f p'] e pos) (tField X.K f to te) :=
  ⟨fun pins s σ H D I h => plainObj_wpAny_Assign_Attribute (thn (he.run pins s σ H _ I h) fun _ s1 ⟨y, H1, I1, r1, q1⟩ => thn (ho.run pins s1 σ H1 _ I1 q1) fun u s2 ⟨x, H2, I2, r2, a, C, ex, T, no, ea, q⟩ => by
    subst ex
    obtain rfl : u = Value.ref a := r2
    exact field_first T I2 ea no r1 fun dx s3 n ne J => ⟨σ, _, J, q dx n ne⟩) hs⟩
theorem pe_base {x : Str} {B : Addr} {pl : Sem Bool} (T : BaseC X.K B) (hg : Gl X x) (hm : X.mg x = some (.ref B)) (ha : PA X (e :: es) ta)
    (hc : eval (.Call (.Attribute (.Name x p1) "__init__" p2) (e :: es) [] pos) X.env = (do
      let ov ← eval (.Name x p1) X.env
      standAt p2.atName
      let (f, first) ← holding [ov] (getMethod ov "__init__" pl)
      callWith pos f first (backTo pos (starEach (e :: es) X.env)) (backToKw pos (keywordEach [] X.env))) := by rfl)
    (hdb : (x == ("__debug__" : Str)) = false := by decide) (he : starEach (e :: es) X.env = (false, eval e X.env) :: starEach es X.env := by rfl) (hpl : (backTo pos (starEach es X.env)).any (·.1) = false := by rfl) :
    PE X (.Call (.Attribute (.Name x p1) "__init__" p2) (e :: es) [] pos) (tBaseInit X.K ta) := by
  refine ⟨fun pins s σ H Q I h => ?_⟩
  refine PySem.W.methodCall_KW (ld_glob I hg hm ?_ hdb) hc
  refine PySem.W.method_cls I.kIn T.ga (PySem.W.cls_value I.kIn T.rd T.ini (by decide +kernel) ?_)
  show wpAny _ _ (callWith pos (Value.builtin "Exception.__init__") [] (backTo pos (starEach (e :: es) X.env)) []) _ _ _
  refine PyProof.Rows.callWith_method1 (thn (ha.run pos pins _ σ H _ (I.tok _) h) fun us s1 ⟨vs, H1, I1, r1, a, C, ws, ev, hl, TC, ea, q⟩ => ?_) he hpl
  subst ev
  cases r1 with
  | @cons _ u0 _ ur ra rr =>
    obtain rfl : u0 = Value.ref a := ra
    exact base_init TC I1 ea (by rw [← Paired.length rr, sizeLine_eq]; omega) fun s2 J => ⟨.non, H1, J, rfl, q⟩
theorem pmk_err {CX : CXT} {x : Str} {C fI : Addr} {k : Nat} {fd : FuncData} {ps : List Str} {sp : Sp} (T : ErrC X.K C) (iC : PySem.W.findIn X.K (.ref C) "__init__" = some (some (.ref fI))) (tI : PySem.W.typeIn X.K (.ref fI) = some (.type "function"))
    (G : FnOk X.prog X.w X.K X.mg X.base CX k fI fd ps sp) (hr : Room (k + 1) X.A) (hb : Binds X.K fd ps []) (hx : Passes CX X (fun _ _ _ => False)) (hg : Gl X x) (hm : X.mg x = some (.ref C)) (ha : PA X (e :: es) ta)
    (hdb : (x == ("__debug__" : Str)) = false := by decide) (he : starEach (e :: es) X.env = (false, eval e X.env) :: starEach es X.env := by rfl) (hpl : (backTo pos (starEach es X.env)).any (·.1) = false := by rfl) :
    L2N.PMk X (.Call (.Name x p) (e :: es) [] pos) (tErr C sp ta) := by
  intro pins s σ H Q I h
  obtain ⟨nm, q, N, bs, bm, sn, sub, ab, col, dd, k0, k1, k2, k3, k5, hC, hline⟩ := T.cls
  refine wpAny_Call_Name_kw (ld_glob I hg hm ?_ hdb)
  refine PySem.W.callWith_K (h₀ := X.base) I.ok.mod.kin T.kC (thn (ha.run pos pins s σ H _ I h) fun us s1 ⟨vs, H1, I1, r1, hz, q1⟩ => ⟨I1.kIn, ?_⟩) he hpl
  show wpAny _ _ (call (.ref C) us) _ _ _
  obtain ⟨hp, g, dr, tk, os⟩ := s1
  have big : hp.objs.size ≤ hp.objs.size + 1 := Nat.le_succ _
  have keep : ∀ b o, hp.get? b = some o → ((hp.push (PySem.W.kdv_tup us)).push (PySem.HandSPX.excO C hp.objs.size)).get? b = some o := fun _ _ z => Heap.get?_push_of_some _ (Heap.get?_push_of_some _ z)
  have made : ((hp.push (PySem.W.kdv_tup us)).push (PySem.HandSPX.excO C hp.objs.size)).get? (hp.objs.size + 1) = some (PySem.HandSPX.excO C hp.objs.size) := by heap_get
  have hq := q1 (hp.objs.size + 1) (I1.hok.fresh big)
  have I2 := I1.laid (t' := tk) (a := hp.objs.size + 1) (o := exo (hp.objs.size + 1) C none) (h' := (hp.push (PySem.W.kdv_tup us)).push (PySem.HandSPX.excO C hp.objs.size)) keep big (exo_ok made)
  have r2 : Vals (V.ref (hp.objs.size + 1) :: vs) (Value.ref (hp.objs.size + 1) :: us) := .cons rfl r1
  have len : (Value.ref (hp.objs.size + 1) :: us).length = ps.length := r2.length.symm.trans (G.len _ _ _ _ hq)
  have few : us.length ≤ sizeLine := by
    rw [← Paired.length r1, sizeLine_eq]
    omega
  have bind := hb _ (Value.ref (hp.objs.size + 1) :: us) I2.kIn (by simpa using len)
  refine wpAny_call (PySem.HandSPX.call_own F.excBase_Exception (fun T => hline.has T) (I1.kIn _ _ hC) (PySem.W.looks_findIn I1.kIn iC) (fun me => PySem.W.bind_fn I1.kIn me tI) few
    (codeAny_mono (G.run _ X.stack _ _ ⟨Value.ref (hp.objs.size + 1) :: us, []⟩ (Value.ref (hp.objs.size + 1) :: us) _ _ (fun _ _ _ => False) (hr.make C us []) (I2.env0.make C us []) (by simpa using bind) r2 hq) fun r s2 hs2 => ?_))
  match r, hs2 with
  | .error er, z => exact hx pins σ _ _ er s2 I2 z
  | .ok (.ret u), ⟨v, H2, os2, bare2, un2, hok2, rv, ev, d, fs, ea, ed, hd1, q2⟩ =>
    subst ev
    obtain ⟨h2, g2, d2, t2, os'⟩ := s2
    obtain ⟨t0, G2, J, keepG, gone, there, na⟩ := mk_end0 (d2 := d2) (t2 := t2) I1 big keep un2 hok2 os2 bare2 ea ed hd1
    exact ⟨rv, _, _, _, ⟨G2, g2, d2, t2, os'⟩, _, .ref C, some d, rfl, J, keepG, gone, there, ⟨rfl, rfl, fun vs e => by cases e; rfl⟩, rfl, rfl, na, rfl, bare2, raises_own T.exC T.tyC, q2⟩
  | .ok .next, z => exact z.elim
  | .ok .brk, z => exact z.elim
  | .ok .cont, z => exact z.elim
end
end L2

set_option Elab.async false
set_option linter.all false
set_option maxRecDepth 100000
set_option maxHeartbeats 4000000
/-! try: .. except A as e: .. except B as e: ..: several clauses, one name. -/
namespace L2
open PySem PySem.Spec PyProof.Rows
/-- behind a suite the name's slot is empty -/
def Ends.gone (D : Ends) (i : Nat) : Ends := { nx := fun σ H => D.nx (σ.set i none) H, rt := D.rt, bk := fun σ H => D.bk (σ.set i none) H, ct := fun σ H => D.ct (σ.set i none) H }
/-- what the clauses wish, one behind the other -/
def wEach (K : PySem.W.Frag) (i : Nat) (Wout : WX) (D : Ends) : List (Value × (Addr → Value → Option Addr → TS)) → WX
  | [] => Wout
  | (c, ts) :: more => fun cls d σ H => ∃ b, PySem.W.exmOne K cls c = some b ∧ (b = true → ∀ a, H a = none → ts a cls d (D.gone i) (σ.set i (some (.ref a))) H) ∧ (b = false → wEach K i Wout D more cls d σ H)
inductive Clauses (X : Cx) (n : Str) : List ExceptHandler → List (Value × (Addr → Value → Option Addr → TS)) → Prop
  | nil : Clauses X n [] []
  | cons {x : Str} {c : Value} {ts : Addr → Value → Option Addr → TS} {first : Stmt} {suite : List Stmt} {np hp : Pos} {more : List ExceptHandler} {l : List (Value × (Addr → Value → Option Addr → TS))} (hc : Names X x c)
      (hs : ∀ (a : Addr) (oe : Obj) (cls : Value) (d : Option Addr) (pn : List (Addr × Obj)), L2N.Zn cls d oe → (∃ vs, oe.data = .fields vs) → PSs (X.suite a ((a, oe) :: pn)) (first :: suite) (ts a cls d)) (r : Clauses X n more l) :
      Clauses X n (.ExceptHandler (some (.Name x np)) (some n) (first :: suite) hp :: more) ((c, ts) :: l)
section
variable {X : Cx} {n : Str} {i : Nat} {body : List Stmt} {h₁ : ExceptHandler} {hs₁ : List ExceptHandler} {l : List (Value × (Addr → Value → Option Addr → TS))} {pos : Pos} {tb : WX → TS} {Wout : WX}
theorem SP.untry {pins : List (Addr × Obj)} {xe : Value → Shared → Prop} {D : Ends} {f : Flow} {s : Shared} (ok : X.Ok) (h : SP (X.tr (X.pn ++ pins) xe) [] D f s) : SP X pins D f s :=
  match f, h with
  | .next, ⟨σ, H, J, q⟩ => ⟨σ, H, J.ofTry ok, q⟩
  | .brk, ⟨σ, H, J, q⟩ => ⟨σ, H, J.ofTry ok, q⟩
  | .cont, ⟨σ, H, J, q⟩ => ⟨σ, H, J.ofTry ok, q⟩
  | .ret _, ⟨v, σ, H, J, r, q⟩ => ⟨v, σ, H, J.ofTry ok, r, q⟩
theorem ps_try_each (st : X.stack = X.env :: X.outer) (fr : X.env.frame = some X.env.locals) (nd : X.N.Nodup) (hi : X.N[i]? = some n) (lo : X.env.kindOf n = some .local) (tk : L2N.Takes X Wout)
    (hb : ∀ (W : WX) (pn : List (Addr × Obj)) (xe : Value → Shared → Prop), L2N.Takes (X.tr pn xe) W → PassesOwn (model X.prog X.w) X.A X.env xe → PSs (X.tr pn xe) body (tb W))
    (hh : Clauses X n (h₁ :: hs₁) l) : PS X (.Try body (h₁ :: hs₁) [] [] pos) (fun D σ H => tb (wEach X.K i Wout D l) D σ H) := by
  refine ⟨fun pins s σ H D I h => ?_⟩
  have ok := I.ok
  have frs_ : X.A.frames = some (X.env :: X.outer) := by rw [ok.frames, st]
  refine wpAny_Try_except ?_
  refine wpAny_mono ((hb (wEach X.K i Wout D l) (X.pn ++ pins) (fun e sa => wpAny (model X.prog X.w) X.A (noteFrame e X.env) (fun _ sb => wpAny (model X.prog X.w) X.A (setFlight e none) (fun _ sc =>
    wpAny (model X.prog X.w) X.A (handleBy e X.env (h₁ :: hs₁)) (SP X pins D) X.xe sc) X.xe sb) X.xe sa) (fun u s2 hu => ?_) PassesOwn.looking).run [] s σ H D (I.toTry _) h) (fun f s2 hf => ?_) (fun _ _ z => z)
  · obtain ⟨a, B, sI, pins2, σ2, H2, cls, d, rfl, J0, nb, up, sky, na, os, ag, wish⟩ := hu
    have J : Inv X pins σ2 H2 sI := J0.ofTry ok
    show wpAny (model X.prog X.w) X.A (noteFrame (.ref a) X.env) _ _ _
    refine L2N.Sky.land L2N.Zn.steady frs_ fr (by rw [← st]; exact sky) fun h3 fl3 up3 => ?_
    have J3 : Inv X pins σ2 H2 { s2 with heap := h3 } := J.landed nb fl3.1 (up.trans up3) os ag
    obtain ⟨oe3, vs3, he3, hz3, hd3⟩ := fl3.there
    -- the error is no frame
    have out : a ∉ frs (X.env :: X.outer) := fun hm => by
      obtain ⟨_, o, ho, hnf⟩ := fl3.2.2.1.mem hm
      rw [he3] at ho
      cases ho
      exact hnf _ hd3
    have nL : a ≠ X.env.locals := fun z => out (List.mem_filterMap.mpr ⟨X.env, List.mem_cons_self, by rw [fr, z]⟩)
    have nF : a ∉ X.fs := fun hm => by
      obtain ⟨ev, he, q⟩ := List.mem_filterMap.mp hm
      exact out (List.mem_filterMap.mpr ⟨ev, List.mem_cons_of_mem _ he, q⟩)
    have S3 := J3.suite he3 hd3 na nL nF
    have go : ∀ {hs2 : List ExceptHandler} {l2 : List (Value × (Addr → Value → Option Addr → TS))}, Clauses X n hs2 l2 → wEach X.K i Wout D l2 cls d σ2 H2 →
        wpAny (model X.prog X.w) X.A (handleBy (.ref a) X.env hs2) (SP X pins D) X.xe { s2 with heap := h3 } := by
      intro hs2 l2 hk
      induction hk with
      | nil =>
        intro wish2
        refine wpAny_handleBy_nil ?_
        obtain ⟨_, _, _, oe, vs, T, oT, ts2, he, hz, hd, h1, _⟩ := id fl3
        unfold PySem.passOn
        refine wpAny_bind (wpAny_field he hd h1 ?_)
        rw [if_neg (show ¬ ((Value.ref T == Value.none) = true) from by simp)]
        have last : wpAny (model X.prog X.w) X.A (setFlight (.ref a) X.env.frame) (fun _ s5 => wpAny (model X.prog X.w) X.A (throw (.ref a) : Sem Flow) (SP X pins D) X.xe s5) X.xe { s2 with heap := h3 } := by
          rw [fr]
          exact HandSPX.setFlight_upZ fl3 fun h4 hh4 up4 => wpAny_throw (tk _ _ ⟨a, B, sI, pins, σ2, H2, cls, d, rfl, J, nb, (up.trans up3).trans up4, .inr (.inr (by rw [st]; exact hh4)), na, os, ag, wish2⟩)
        first
          | exact wpAny_bind (wpAny_pure (wpAny_bind last))
          | exact wpAny_bind last
      | @cons x c ts first suite np hp more l2 hc hsu r ih =>
        intro wish2
        obtain ⟨b, hb1, yes, no⟩ := wish2
        refine wpAny_handleBy_cons (codeAny_handlers_test ?_) (by intro q; cases q)
        have ty : PySem.W.Looks (model X.prog X.w) h3 (typeOf (.ref a)) cls := fun A Q E s k q => wpAny_typeOf_ref (k _ _ he3) (by rw [hz3.1]; exact q)
        have LM := PySem.W.exm_one (M := model X.prog X.w) J3.kIn ty hb1
        have test : ∀ {Q : Value → Shared → Prop} {E : Value → Shared → Prop}, Q c { s2 with heap := h3 } → wpAny (model X.prog X.w) (X.A.mark (some (.ref a))) (eval (.Name x np) X.env) Q E { s2 with heap := h3 } := fun {Q E} q =>
          match hc with
          | ⟨hg, hdbg, .inl hm⟩ => ld_glob (X := X.suite a ((a, oe3) :: (X.pn ++ pins))) S3 hg hm q hdbg
          | ⟨hg, hdbg, .inr ⟨hm, hv, hnn⟩⟩ => ld_blt (X := X.suite a ((a, oe3) :: (X.pn ++ pins))) S3 hg hm hv q hnn hdbg
        refine test (LM.here ?_)
        cases b with
        | false =>
          show wpAny _ X.A (handleBy (.ref a) X.env more) _ _ _
          exact ih (no rfl)
        | true =>
          refine codeAny_handlers_suite_as ?_
          refine HandSPX.lands_againZ fl3 fun h4 fl4 up4 => ?_
          have J4 : Inv X pins σ2 H2 { s2 with heap := h4 } := J.landed nb fl4.1 ((up.trans up3).trans up4) os ag
          obtain ⟨oe4, vs4, he4, hz4, hd4⟩ := fl4.there
          refine store_ok (X := X.suite a ((a, oe4) :: (X.pn ++ pins))) (v := .ref a) (J4.suite he4 hd4 na nL nF) nd hi (.inl lo) rfl (fun s5 S5 => ?_) (.inr lo)
          refine wpAny_mono ((hsu a oe4 cls d (X.pn ++ pins) hz4 ⟨_, hd4⟩).run [] s5 _ H2 _ S5 (yes rfl a na)) (fun f s6 hf => ?_) (fun _ _ z => z.elim)
          have fin : ∀ {σ6 : St} {H6 : Hp} {Q : Shared → Prop}, Inv (X.suite a ((a, oe4) :: (X.pn ++ pins))) [] σ6 H6 s6 → (∀ s7, Inv X pins (σ6.set i none) H6 s7 → Q s7) →
              wpAny (model X.prog X.w) X.A (do bindName X.env n .none; unbindBehindTheSuite X.env n hp) (fun _ s7 => Q s7) X.xe s6 := fun S6 hq => gone_ok (S6.unsuite ok) nd hi lo hq
          match f, hf with
          | .next, ⟨σ6, H6, S6, q6⟩ => exact fin S6 fun s7 J7 => ⟨_, _, J7, q6⟩
          | .brk, ⟨σ6, H6, S6, q6⟩ => exact fin S6 fun s7 J7 => ⟨_, _, J7, q6⟩
          | .cont, ⟨σ6, H6, S6, q6⟩ => exact fin S6 fun s7 J7 => ⟨_, _, J7, q6⟩
          | .ret u, ⟨v6, σ6, H6, S6, r6, q6⟩ => exact fin S6 fun s7 J7 => ⟨_, _, _, J7, r6, q6⟩
    exact go hh wish
  · have z := SP.untry ok hf
    cases f with
    | next => exact wpAny_execs_nil z
    | brk => exact z
    | cont => exact z
    | ret u => exact z
end
/-- what a class says, so that isinstance asks its instances rightly -/
structure AskC (K : PySem.W.Frag) (C : Addr) : Prop where
  cl : (PySem.W.clsIn K C).isSome = true
  ga : PySem.W.findIn K (.ref C) "__getattribute__" = some (some (.builtin "BaseException.__getattribute__"))
  gg : PySem.W.findIn K (.ref C) "__getattr__" = some none
  exC : PySem.W.subIn K (.ref C) (.type "BaseException") = some true
  cls : PySem.W.findIn K (.ref C) "__class__" = some (some (.builtin "object.__class__"))
  get : PySem.W.specialIn K (.builtin "object.__class__") "__get__" = some (some (.builtin "getset_descriptor.__get__"))
  tak : PySem.W.takesIn K (.builtin "object.__class__") = some true
  obj : PySem.W.mroIn K C (.type "object") = some true
/-- isinstance(e, c), e the error at a of the class cls -/
def rErrIs (K : PySem.W.Frag) (cls : Value) (a : Addr) (d : Option Addr) : List V → Hp → VK → Prop := fun xs H Q => ∃ (C : Addr) (c : V) (cv : Value) (b : Bool), cls = .ref C ∧ AskC K C ∧ xs = [.ref a, c] ∧ ClsV c cv ∧ (∀ dd, d = some dd → ∃ fs, H dd = some (.xd fs)) ∧ PySem.W.kitOne K cls cv = some b ∧ Q (.bl b) H
/-- isinstance(e, (c, ..)) -/
def rErrIsT (K : PySem.W.Frag) (cls : Value) (a : Addr) (d : Option Addr) : List V → Hp → VK → Prop := fun xs H Q => ∃ (C tp : Addr) (cs : List V) (us : List Value) (b : Bool), cls = .ref C ∧ AskC K C ∧ xs = [.ref a, .ref tp] ∧ H tp = some (.tup cs) ∧ Paired ClsV cs us ∧ (∀ dd, d = some dd → ∃ fs, H dd = some (.xd fs)) ∧ PySem.W.kitAny K cls us = some b ∧ Q (.bl b) H
section
variable {X : Cx} {a C : Addr} {cls : Value} {oe : Obj} {d : Option Addr} {pn : List (Addr × Obj)}
theorem err_inst {pins : List (Addr × Obj)} {σ : St} {H : Hp} {s : Shared} (I : Inv (X.suite a ((a, oe) :: pn)) pins σ H s) (hz : Zc (.ref C) d oe) (hf : ∃ vs, oe.data = .fields vs) (hd : ∀ dd, d = some dd → ∃ fs, H dd = some (.xd fs)) : ∃ od, PySem.W.InstAt s.heap a oe C od := by
  obtain ⟨hget, _⟩ := I.pin (a, oe) (List.mem_append_left _ List.mem_cons_self)
  obtain ⟨vs, hv⟩ := hf
  have nc : PySem.W.notCls oe = true := by unfold PySem.W.notCls; rw [hv] <;> rfl
  cases d with
  | none => exact ⟨none, hget, hz.1, nc, by rw [hz.2]; trivial⟩
  | some dd =>
    obtain ⟨fs, e⟩ := hd dd rfl
    obtain ⟨mA, ⟨o, _, _, ho, _⟩, _⟩ := (show ObjOk X.prog X.w H s.heap dd (.xd fs) from I.hok dd _ e)
    exact ⟨some o, hget, hz.1, nc, by rw [hz.2]; exact ho⟩
theorem call_errIs (hz : Zc cls d oe) (hf : ∃ vs, oe.data = .fields vs) : CallR (X.suite a ((a, oe) :: pn)) (.builtin "isinstance") (rErrIs X.K cls a d) := by
  intro pins s σ H xs us Q I r h
  obtain ⟨C, c, cv, b, rfl, T, rfl, hc, hd, e, q⟩ := h
  obtain ⟨u1, u2, rfl, r1, r2⟩ := vals2 r
  cases (show u1 = Value.ref a from r1)
  cases hc.eq r2
  obtain ⟨od, J⟩ := err_inst I hz hf hd
  exact PySem.W.kia_one (PySem.W.kitx_exc T.cl T.ga T.gg T.exC T.cls T.get T.tak T.obj) I.kIn J e (fun z => nomatch z) fun tk => ⟨.bl b, H, I.tok tk, rfl, q⟩
theorem call_errIsT (hz : Zc cls d oe) (hf : ∃ vs, oe.data = .fields vs) : CallR (X.suite a ((a, oe) :: pn)) (.builtin "isinstance") (rErrIsT X.K cls a d) := by
  intro pins s σ H xs us Q I r h
  obtain ⟨C, tp, cs, ws, b, rfl, T, rfl, hT, k, hd, e, q⟩ := h
  obtain ⟨u1, u2, rfl, r1, r2⟩ := vals2 r
  cases (show u1 = Value.ref a from r1)
  cases (show u2 = Value.ref tp from r2)
  obtain ⟨od, J⟩ := err_inst I hz hf hd
  obtain ⟨_, its, rv, o, h1, h2, m, h3⟩ := (show ObjOk X.prog X.w H s.heap tp (.tup cs) from I.hok tp _ hT)
  cases ClsV.all k rv
  obtain ⟨oc, od2, dt, sl⟩ := o
  simp only at h2 h3
  subst h2 h3
  exact PySem.W.kia_tup (PySem.W.kitx_exc T.cl T.ga T.gg T.exC T.cls T.get T.tak T.obj) I.kIn J h1 e (fun z => nomatch z) fun tk => ⟨.bl b, H, I.tok tk, rfl, q⟩
end
end L2

set_option Elab.async false
set_option linter.all false
set_option maxRecDepth 100000
set_option maxHeartbeats 4000000
set_option autoImplicit false
/-! BadValue(0): made, raised. -/
namespace K6
open PySem L2
def top (i : Nat) : Stmt := PySem.Challenge.pw_figurehold_k06_texts_of_polynomials.main.body.getD i (.Pass ⟨0, 0, 0, 0⟩)
theorem ifY {b : Bool} {A B : Prop} (e : b = true) (h : A) : if b = true then A else B := by rw [if_pos e]; exact h
theorem ifN {b : Bool} {A B : Prop} (e : b = false) (h : B) : if b = true then A else B := by rw [e]; exact h
theorem same_new {q : Addr} {o : HO} {H : Hp} (h : H q = none) : Same H (upd H q o) := fun a x e => (upd_ne (ne_of_none e h)).trans e
theorem take_snoc {α : Type} {l : List α} {i : Nat} {u : α} (h : l[i]? = some u) : l.take (i + 1) = l.take i ++ [u] := by
  obtain ⟨lt, e⟩ := List.getElem?_eq_some_iff.mp h
  rw [List.take_succ_eq_append_getElem lt, e]
abbrev sBadValue : Stmt := inClass (top 2) 0
def spIni (K : PySem.W.Frag) (C : Addr) : Sp := fun vs H Q _ => ∃ (a : Addr), vs = [.ref a, .int 0] ∧ ErrC K C ∧ PySem.W.findIn K (.ref C) "at" = some none ∧ H a = some (exo a C none) ∧
  ∀ dx, H dx = none → dx ≠ a → Q .non (upd (upd H dx (exd dx [("at", .int 0)])) a (exo a C (some dx)))
theorem fits {a b : Str} (h1 : a.length ≤ 1000) (h2 : b.length ≤ 300000) : (a ++ b).length ≤ sizeLine := by
  rw [strLen_append, sizeLine_eq]
  omega
theorem fits2 {a b c : Str} (h1 : a.length ≤ 1000) (h2 : b.length ≤ 300000) (h3 : c.length ≤ 1000) : (a ++ b ++ c).length ≤ sizeLine := by
  rw [strLen_append, strLen_append, sizeLine_eq]
  omega
theorem heap_of {H : Hp} {a d : Addr} {o1 o2 o3 o4 : HO} (na : H a = none) (ne : d ≠ a) : upd (del (upd (upd (upd H a o1) d o2) a o3) a) d o4 = upd H d o4 := by
  funext b
  by_cases hd : b = d
  · rw [hd, upd_same, upd_same]
  · rw [upd_ne hd, upd_ne hd]
    by_cases ha : b = a
    · rw [ha, del_same, na]
    · rw [del_ne ha, upd_ne ha, upd_ne hd, upd_ne ha]
theorem okN {P : Program} {w : World} {K : PySem.W.Frag} {mg : Str → Option Value} {base : Heap} {x qual : Str} {st : Stmt} {f : Addr} {fd : FuncData} {N ps : List Str} {k : Nat} {sp : Sp} (F : Fun K x qual st f fd) (S : FnScope N ps (defScope st)) (len : ∀ vs H Q E, sp vs H Q E → vs.length = ps.length)
    (body : ∀ (cdv : Value) (A : Around) (outer : List Env) (s : Shared) (H : Hp) (vs : List V) (Q : VK) (E : XK), Room k (A.deeper (PyProof.Rows.envOfC qual (defScope st) s.heap.objs.size f cdv)) → sp vs H Q E →
      ∃ t, PSs (cxOf (L2N.CX P w) P w K mg base N qual (defScope st) f cdv A outer s H E) (defBody st) t ∧ t { nx := fun _ H' => Q .non H', rt := Q } (start N vs) H) : FnOk P w K mg base (L2N.CX P w) (k + 1) f fd ps sp := by
  obtain ⟨oc, od, kV, doc, pm, an, cdv, ct, osl, rfl, lk, hcd⟩ := F.ex
  exact fn_of lk hcd S len fun A outer s H vs Q E hr hsp => body cdv A outer s H vs Q E hr hsp
theorem takes0N {X : Cx} : L2N.Takes X (fun _ _ _ _ => False) := fun _ _ ⟨_, _, _, _, _, _, _, _, _, _, _, _, _, _, _, _, z⟩ => z.elim
section
variable {P : Program} {w : World} {K : PySem.W.Frag} {mg : Str → Option Value} {base : Heap} {B : Addr}
theorem scBadValue : FnScope ["self", "at"] ["self", "at"] (defScope sBadValue) := ⟨rfl, rfl, rfl, by decide +kernel, rfl, by decide +kernel, by decide +kernel⟩
theorem iniBadValue {f C : Addr} {fd : FuncData} (F : Fun K "__init__" "BadValue.__init__" sBadValue f fd) (T : BaseC K B) (gB : mg "FigureError" = some (.ref B)) : FnOk P w K mg base CX0 1 f fd ["self", "at"] (spIni K C) := by
  refine F.ok scBadValue (fun vs H Q E h => ?_) (fun cdv A outer s H vs Q E hr h => ?_)
  · obtain ⟨a, rfl, _⟩ := h
    rfl
  · obtain ⟨a, rfl, TC, no, ha, go⟩ := h
    refine ⟨_, pss_cons (ps_expr (pe_base T rfl gB (pa_cons (pv 0) (pa_cons (pe_joined (.cons pe_str (.cons (pe_fmt (pv 1)) (.cons pe_str .nil)))) pa_nil)))) (pss_one (ps_field (pv 0) (pv 1))), ?_⟩
    refine ⟨_, rfl, _, rfl, by decide +kernel, _, rfl, ?_⟩
    exact .inr ⟨0, rfl, by decide, _, rfl, fits (by decide +kernel) (Nat.le_trans (PyProof.Rows.int_text_len_1921 (by decide)) (by decide)), _, rfl, fits2 (by decide +kernel) (Nat.le_trans (PyProof.Rows.int_text_len_1921 (by decide)) (by decide)) (by decide +kernel), a, C, _, rfl, by show 1 ≤ 1000; decide, TC, ha, _, rfl, _, rfl, a, C, rfl, TC, no, ha, fun dx n ne => go dx n ne⟩
end
/-- what the written part says of the class BadValue -/
structure ValTxt (P : Program) (w : World) (K : PySem.W.Frag) (mg : Str → Option Value) (base : Heap) (B C D M fI : Addr) (dI : FuncData) : Prop where
  gC : mg "BadValue" = some (.ref C)
  err : ErrC K C
  iC : PySem.W.findIn K (.ref C) "__init__" = some (some (.ref fI))
  tI : PySem.W.typeIn K (.ref fI) = some (.type "function")
  no : PySem.W.findIn K (.ref C) "at" = some none
  bd : Binds K dI ["self", "at"] []
  ini : FnOk P w K mg base CX0 1 fI dI ["self", "at"] (spIni K C)
  gB : mg "FigureError" = some (.ref B)
  gD : mg "BadStep" = some (.ref D)
  gM : mg "TooMany" = some (.ref M)
  exm : PySem.W.exmOne K (.ref C) (.ref C) = some true
  kit : PySem.W.kitOne K (.ref C) (.ref B) = some true
  kitD : PySem.W.kitOne K (.ref C) (.ref D) = some false
  kitM : PySem.W.kitOne K (.ref C) (.ref M) = some false
  ask : AskC K C
  xf : XfC K C
/-- BadValue(0) is raised -/
def Raises (C : Addr) (H : Hp) (E : XK) : Prop := ∀ (G : Hp) (dd : Addr), Same H G → G dd = none → E (.ref C) (some dd) (upd G dd (.xd [("at", .int 0)]))
theorem Raises.up {C : Addr} {H G : Hp} {E : XK} (h : Raises C H E) (s : Same H G) : Raises C G E := fun F dd t n => h F dd (s.trans t) n
section
variable {P : Program} {w : World} {K : PySem.W.Frag} {mg : Str → Option Value} {base : Heap} {B C D M fI : Addr} {dI : FuncData}
theorem err_read {H : Hp} {Q : XK} {σ : L2.St} (T : ValTxt P w K mg base B C D M fI dI) (go : Raises C H Q) : tErr C (spIni K C) (tCons (tC (.int 0)) tNil) σ H Q := by
  refine ⟨by show 1 ≤ 1000; decide, fun a na => ⟨a, rfl, T.err, T.no, upd_same, fun dx nd ne => ⟨rfl, dx, _, upd_same, (upd_ne ne).trans upd_same, ?_, ?_⟩⟩⟩
  · rw [upd_ne ne] at nd
    exact nd
  · rw [heap_of na ne]
    rw [upd_ne ne] at nd
    exact go H dx (Same.refl H) nd
end
end K6

set_option Elab.async false
set_option linter.all false
set_option maxRecDepth 100000
set_option maxHeartbeats 4000000
set_option autoImplicit false
/-! Names, figures, variables, factors: read by the program. -/
namespace K6
open PySem L2 TL K1D
abbrev sIsName : Stmt := top 10
abbrev sIsVar : Stmt := top 11
abbrev sIsFig : Stmt := top 12
abbrev sRFac : Stmt := top 21
def letsT : Str := "abcdefghijklmnopqrstuvwxyz"
def capsT : Str := "ABCDEFGHIJKLMNOPQRSTUVWXYZ"
def figsT : Str := "0123456789"
structure ProgTxt (K : PySem.W.Frag) (mg : Str → Option Value) : Prop where
  isinst : mg "isinstance" = none
  str : mg "str" = none
  len : mg "len" = none
  all : mg "all" = none
  any : mg "any" = none
  int : mg "int" = none
  abs : mg "abs" = none
  tuple : mg "tuple" = none
  range : mg "range" = none
  lets : ∃ t, mg "LETTERS" = some (.str letsT t)
  caps : ∃ t, mg "CAPITALS" = some (.str capsT t)
  figs : ∃ t, mg "FIGURES" = some (.str figsT t)
  four : ∃ t, mg "LONGEST_NAME" = some (.int 4 t)
  most : ∃ t, mg "MOST_FIGURES" = some (.int 200 t)
  terms : ∃ t, mg "MOST_TERMS" = some (.int 2000 t)
  expo : ∃ t, mg "GREATEST_EXPONENT" = some (.int 40 t)
def spIsName : Sp := fun vs H Q _ => ∃ x : Str, vs = [.str x] ∧ x.length ≤ 10000000 ∧ ∀ H', Same H H' → Q (.bl (isNmL (tl x))) H'
def spIsVar : Sp := fun vs H Q _ => ∃ x : Str, vs = [.str x] ∧ x.length ≤ 10000000 ∧ ∀ H', Same H H' → Q (.bl (isVarL (tl x))) H'
def spIsFig : Sp := fun vs H Q _ => ∃ (x : Str) (k : Nat), vs = [.str x, .int k] ∧ x.length ≤ 10000000 ∧ ∀ H', Same H H' → Q (.bl (isFgs k (tl x))) H'
/-- a factor read, or None -/
def FacAns (o : Option Fac) (H : Hp) (Q : VK) : Prop := (o = none → ∀ H', Same H H' → Q .non H') ∧ ∀ f, o = some f → ∀ p H', Same H H' → H' p = some (.tup [.str f.1, .int f.2]) → Q (.ref p) H'
theorem FacAns.up {o : Option Fac} {H G : Hp} {Q : VK} (h : FacAns o H Q) (s : Same H G) : FacAns o G Q := ⟨fun e H' s' => h.1 e H' (s.trans s'), fun f e p H' s' => h.2 f e p H' (s.trans s')⟩
def spRFac : Sp := fun vs H Q _ => ∃ x : Str, vs = [.str x] ∧ x.length ≤ 10000000 ∧ FacAns (rFac x) H Q
def rSign : R2 := fun x y H Q => ∃ (c : Nat) (z : Str), x = .str ⟨#[c]⟩ ∧ y = .str z ∧ Q (.bl (decide (c ∈ z.cps.toList))) H
theorem op_sign {X : Cx} : OpR X (compareOp .In) rSign := op_in_sign
theorem str_eq {x y : Str} : (V.str x = V.str y) ↔ tl x = tl y := ⟨fun h => congrArg (fun z : Str => tl z) (V.str.inj h), fun h => congrArg V.str (ext_tl h)⟩
theorem dec_str {x y : Str} {p : Prop} [Decidable p] (h : tl x = tl y ↔ p) : decide (V.str x = V.str y) = decide p := decide_eq_decide.mpr (str_eq.trans h)
theorem tl_from (x : Str) (k : Nat) : tl (cutS x (some (k : Int)) none) = (tl x).drop k := by
  unfold cutS
  show List.take _ _ = _
  rw [show HT.sIx x.length 0 (some (k : Int)) = min k x.length from HT.sIx_nat _ _ k, HT.sIx_none, len_tl]
  show List.take _ (List.drop _ (tl x)) = _
  by_cases h : k ≤ (tl x).length
  · rw [Nat.min_eq_left h]
    exact List.take_of_length_le (by rw [List.length_drop]; omega)
  · rw [Nat.min_eq_right (by omega), List.drop_length, List.take_nil, List.drop_of_length_le (by omega)]
theorem tl_upto (x : Str) (k : Nat) : tl (cutS x none (some (k : Int))) = (tl x).take k := by
  unfold cutS
  show List.take _ _ = _
  rw [show HT.sIx x.length x.length (some (k : Int)) = min k x.length from HT.sIx_nat _ _ k, HT.sIx_none, len_tl]
  show List.take _ (List.drop _ (tl x)) = _
  rw [List.drop_zero, Nat.sub_zero]
  by_cases h : k ≤ (tl x).length
  · rw [Nat.min_eq_left h]
  · rw [Nat.min_eq_right (by omega), List.take_length, List.take_of_length_le (by omega)]
section
variable {P : Program} {w : World} {K : PySem.W.Frag} {mg : Str → Option Value} {base : Heap}
def tI (K : PySem.W.Frag) (i : Nat) (T : String) : TE := tCB (rIsi K) (tCons (tVar i) (tCons (tC (.ty T)) tNil))
theorem isi {K : PySem.W.Frag} {σ : L2.St} {H : Hp} {i : Nat} {a T : String} {x : V} {b : Bool} {R : VK} (hs : σ[i]? = some (some x)) (ty : TyOf K H x (.type a)) (k : kitB a T = some b) (go : R (.bl b) H) : tI K i T σ H R :=
  ⟨x, hs, x, .ty T, .type a, .type T, b, rfl, .ty T, .base ty, kit_ty k, go⟩
/-- [sign in l for sign in x] -/
theorem signs_all {g : TG} {te : TE} {vs : List Nat} {σ : L2.St} {H : Hp} {D : Addr} {x : Str} {l : List Nat} {Qd : Hp → Prop} (nD : H D = none) (lx : x.length ≤ 10000000)
    (turn : ∀ (c : Nat) (G : Hp) (R : VK), R (.bl (decide (c ∈ l))) G → g (.str ⟨#[c]⟩) (wipe σ vs) G fun σ2 H2 => wipe σ2 vs = wipe σ vs ∧ te σ2 H2 R)
    (done : ∀ G, Same H G → G D = some (.lst (((tl x).map fun c => decide (c ∈ l)).map V.bl)) → Qd G) :
    ∃ W : Nat → Nat → Hp → Prop, (∃ m, W 0 m (upd H D (.lst []))) ∧ ∀ i m H, W i m H →
      ((Its x).stop i H ∧ Qd H) ∨ ((Its x).go i H ∧ ∃ Nx : Hp → Prop, (∀ H', Nx H' → ∃ m', m' < m ∧ W (i + 1) m' H') ∧ ∀ v H', (Its x).yld i H v H' → g v (wipe σ vs) H' fun σ2 H2 => wipe σ2 vs = wipe σ vs ∧ tYes σ2 H2 fun b H3 =>
        if b = true then te σ2 H3 fun y H4 => ∃ acc, H4 D = some (.lst acc) ∧ acc.length < sizeLine ∧ Nx (upd H4 D (.lst (acc ++ [y]))) else Nx H3) := by
  refine lc_it (walk_str (z := x)) (fun i G => Same H G ∧ G D = some (.lst ((((tl x).take i).map fun c => decide (c ∈ l)).map V.bl))) ⟨same_new nD, upd_same⟩ (fun _ _ _ _ => trivial) (fun i v G G' hi ⟨sG, hD⟩ ⟨e, c, hc, ev⟩ => ?_) (fun G ⟨sG, hD⟩ => ?_)
  · subst e ev
    have hc' : (tl x)[i]? = some c := by simpa using hc
    refine turn c _ (fun y H4 => ∃ acc, H4 D = some (.lst acc) ∧ acc.length < sizeLine ∧ _) ⟨_, hD, ?_, ?_, ?_⟩
    · rw [List.length_map, List.length_map, List.length_take, ← len_tl, sizeLine_eq]
      omega
    · exact fun b o e => (upd_ne (ne_of_none e nD)).trans (sG b o e)
    · rw [upd_same, take_snoc hc', List.map_append, List.map_append]
      rfl
  · refine done G sG ?_
    have : x.cps.size = (tl x).length := len_tl x
    rw [this, List.take_length] at hD
    exact hD
theorem all_signs (x : Str) (l : List Nat) : ((tl x).map fun c => decide (c ∈ l)).all id = (tl x).all fun c => decide (c ∈ l) := by
  rw [List.all_map]
  rfl
theorem scIsName : FnScope ["thing", "sign"] ["thing"] (defScope sIsName) := ⟨rfl, rfl, rfl, by decide +kernel, rfl, by decide +kernel, by decide +kernel⟩
theorem ok_isname {f : Addr} {fd : FuncData} (F : Fun K "is_name" "is_name" sIsName f fd) (T : ProgTxt K mg) : FnOk P w K mg base CX0 1 f fd ["thing"] spIsName := by
  refine F.ok scIsName (fun vs H Q E h => ?_) (fun cdv A outer s H vs Q E hr h => ?_)
  · obtain ⟨x, rfl, _⟩ := h
    rfl
  · obtain ⟨x, rfl, lx, go⟩ := h
    obtain ⟨t4, g4⟩ := T.four
    obtain ⟨tl_, gl⟩ := T.lets
    refine ⟨_, pss_cons (ps_if (PW.pt (pw_or (pt_not (pt_val (pe_callB call_isi (by rfl) T.isinst (by decide +kernel) (pa_cons (pv 0) (pa_cons (pe_bltn (v := .ty "str") (u := .type "str") (by rfl) T.str (by decide +kernel) (by exact rfl)) pa_nil)))))
        (pw_or1 (pt_not (pt_chain op_le op_le pe_int (pe_callB call_len_str (by rfl) T.len PySem.boot_len (pa_cons (pv 0) pa_nil)) (pe_glob (v := .int 4) (by rfl) g4 ⟨t4, rfl⟩)))))) (pss_one (ps_ret pe_bl)) pss_nil)
      (pss_one (ps_ret (pe_callB (cr_all rfl) (by rfl) T.all (by decide +kernel) (pa_cons (pe_lc (own := [("sign", 1)]) (g := gName 1) (te := tOp rSign (tVar 1) (tC (.str letsT))) rfl scIsName.nd (pi_str (pv 0)) (blkOk_by (own := [("sign", 1)]) (N := ["thing", "sign"]) (sc := defScope sIsName) (by decide +kernel))
        (fun _ _ _ _ _ => pg_name (i := 1) scIsName.nd rfl (Or.inl rfl)) (fun _ _ _ _ _ => pts_nil) (fun _ _ _ _ _ => pe_cmpR op_sign (pv 1) (pe_glob (v := .str letsT) (by rfl) gl ⟨tl_, rfl⟩) (by rfl))) pa_nil)))), ?_⟩
    refine isi (K := K) (x := .str x) (b := true) rfl (.str x) (by decide +kernel) ⟨_, rfl, ?_⟩
    refine ifN rfl ?_
    refine ⟨_, rfl, x, rfl, by rw [sizeLine_eq]; omega, _, _, rfl, rfl, _, rfl, ?_⟩
    have l0 := len_tl x
    by_cases h1 : 1 ≤ x.length
    · refine ifY (decide_eq_true (by omega)) ⟨_, _, rfl, rfl, _, rfl, ?_⟩
      by_cases h4 : x.length ≤ 4
      · rw [decide_eq_true (show (x.length : Int) ≤ 4 by omega)]
        refine ifN rfl ?_
        refine ⟨_, rfl, x, rfl, fun D nD => ?_⟩
        refine signs_all nD lx (l := lets) (fun c G R q => ⟨rfl, _, rfl, c, letsT, rfl, rfl, q⟩) (fun G sG hD => ?_)
        refine ⟨D, _, rfl, SqL.of hD, ?_⟩
        rw [all_signs]
        have e : isNmL (tl x) = (tl x).all fun c => decide (c ∈ lets) := by
          unfold isNmL
          rw [decide_eq_true (by omega), decide_eq_true (by omega)]
          rfl
        rw [← e]
        exact go G sG
      · rw [decide_eq_false (show ¬ (x.length : Int) ≤ 4 by omega)]
        refine ifY rfl ?_
        have e : isNmL (tl x) = false := by
          unfold isNmL
          rw [decide_eq_false (show ¬ (tl x).length ≤ 4 by omega), Bool.and_false, Bool.false_and]
        have := go H (Same.refl H)
        rw [e] at this
        exact this
    · refine ifN (decide_eq_false (by omega)) ⟨_, rfl, ifY rfl ?_⟩
      have e : isNmL (tl x) = false := by
        unfold isNmL
        rw [decide_eq_false (show ¬ 1 ≤ (tl x).length by omega), Bool.false_and, Bool.false_and]
      have := go H (Same.refl H)
      rw [e] at this
      exact this
theorem scIsFig : FnScope ["text", "most", "sign"] ["text", "most"] (defScope sIsFig) := ⟨rfl, rfl, rfl, by decide +kernel, rfl, by decide +kernel, by decide +kernel⟩
theorem ok_isfig {f : Addr} {fd : FuncData} (F : Fun K "is_figures" "is_figures" sIsFig f fd) (T : ProgTxt K mg) : FnOk P w K mg base CX0 1 f fd ["text", "most"] spIsFig := by
  refine F.ok scIsFig (fun vs H Q E h => ?_) (fun cdv A outer s H vs Q E hr h => ?_)
  · obtain ⟨x, k, rfl, _⟩ := h
    rfl
  · obtain ⟨x, k, rfl, lx, go⟩ := h
    obtain ⟨tl_, gl⟩ := T.figs
    refine ⟨_, pss_cons (ps_if (PW.pt (pw_or (pt_not (pt_chain op_le op_le pe_int (pe_callB call_len_str (by rfl) T.len PySem.boot_len (pa_cons (pv 0) pa_nil)) (pv 1)))
        (pw_or1 (pt_cmpR op_eq (pe_ix ix_str (pv 0) pe_int (fun _ _ => rfl)) pe_str (nomark _))))) (pss_one (ps_ret pe_bl)) pss_nil)
      (pss_one (ps_ret (pe_callB (cr_all rfl) (by rfl) T.all (by decide +kernel) (pa_cons (pe_lc (own := [("sign", 2)]) (g := gName 2) (te := tOp rSign (tVar 2) (tC (.str figsT))) rfl scIsFig.nd (pi_str (pv 0)) (blkOk_by (own := [("sign", 2)]) (N := ["text", "most", "sign"]) (sc := defScope sIsFig) (by decide +kernel))
        (fun _ _ _ _ _ => pg_name (i := 2) scIsFig.nd rfl (Or.inl rfl)) (fun _ _ _ _ _ => pts_nil) (fun _ _ _ _ _ => pe_cmpR op_sign (pv 2) (pe_glob (v := .str figsT) (by rfl) gl ⟨tl_, rfl⟩) (by rfl))) pa_nil)))), ?_⟩
    refine ⟨_, rfl, x, rfl, by rw [sizeLine_eq]; omega, _, _, rfl, rfl, _, rfl, ?_⟩
    have l0 := len_tl x
    have bad : isFgs k (tl x) = false → Q (.bl false) H := fun e => by
      have := go H (Same.refl H)
      rw [e] at this
      exact this
    by_cases h1 : 1 ≤ x.length
    · refine ifY (decide_eq_true (by omega)) ⟨_, rfl, _, _, rfl, rfl, _, rfl, ?_⟩
      by_cases h4 : x.length ≤ k
      · rw [decide_eq_true (show (x.length : Int) ≤ (k : Int) by omega)]
        refine ifN rfl ?_
        obtain ⟨c, r, ec⟩ : ∃ c r, tl x = c :: r := by
          cases q : tl x with
          | nil => rw [q] at l0; simp at l0; omega
          | cons c r => exact ⟨c, r, rfl⟩
        refine ⟨_, rfl, _, _, c, rfl, rfl, by rw [sizeLine_eq]; omega, (show atI _ ((0 : Nat) : Int) = some c from atI_nat (by rw [show x.cps.toList = c :: r from ec]; rfl)), rfl, _, rfl, ?_⟩
        by_cases h0 : c = 48
        · subst h0
          refine ifY (by decide +kernel) (bad ?_)
          unfold isFgs
          rw [ec]
          simp
        · refine ifN (decide_eq_false (fun z => h0 ?_)) ?_
          · have z3 := str_eq.mp z
            rw [tl_0] at z3
            exact (List.cons.inj (show [c] = [48] from z3)).1
          refine ⟨_, rfl, x, rfl, fun D nD => ?_⟩
          refine signs_all nD lx (l := figs) (fun c G R q => ⟨rfl, _, rfl, c, figsT, rfl, rfl, q⟩) (fun G sG hD => ?_)
          refine ⟨D, _, rfl, SqL.of hD, ?_⟩
          rw [all_signs]
          have e : isFgs k (tl x) = (tl x).all fun c => decide (c ∈ figs) := by
            unfold isFgs
            rw [decide_eq_true (show 1 ≤ (tl x).length by omega), decide_eq_true (show (tl x).length ≤ k by omega), decide_eq_true (show (tl x).head? ≠ some 48 by rw [ec]; simp [h0]), Bool.and_true]
            rfl
          rw [← e]
          exact go G sG
      · rw [decide_eq_false (show ¬ (x.length : Int) ≤ (k : Int) by omega)]
        refine ifY rfl (bad ?_)
        unfold isFgs
        rw [decide_eq_false (show ¬ (tl x).length ≤ k by omega), Bool.and_false, Bool.false_and, Bool.false_and]
    · refine ifN (decide_eq_false (by omega)) ⟨_, rfl, ifY rfl (bad ?_)⟩
      unfold isFgs
      rw [decide_eq_false (show ¬ 1 ≤ (tl x).length by omega), Bool.false_and, Bool.false_and, Bool.false_and]
structure FacTxt (P : Program) (w : World) (K : PySem.W.Frag) (mg : Str → Option Value) (base : Heap) (fN fV fF : Addr) (dN dV dF : FuncData) : Prop where
  okN : FnOk P w K mg base CX0 1 fN dN ["thing"] spIsName
  bN : Binds K dN ["thing"] []
  gN : mg "is_name" = some (.ref fN)
  kN : PySem.W.keepIn K (.ref fN) = true
  bV : Binds K dV ["thing"] []
  gV : mg "is_variable" = some (.ref fV)
  kV : PySem.W.keepIn K (.ref fV) = true
  okF : FnOk P w K mg base CX0 1 fF dF ["text", "most"] spIsFig
  bF : Binds K dF ["text", "most"] []
  gF : mg "is_figures" = some (.ref fF)
  kF : PySem.W.keepIn K (.ref fF) = true
variable {fN fV fF : Addr} {dN dV dF : FuncData}
theorem scIsVar : FnScope ["thing"] ["thing"] (defScope sIsVar) := ⟨rfl, rfl, rfl, by decide +kernel, rfl, by decide +kernel, by decide +kernel⟩
theorem ok_isvar {f : Addr} {fd : FuncData} (F : Fun K "is_variable" "is_variable" sIsVar f fd) (T : ProgTxt K mg) (U : FacTxt P w K mg base fN fV fF dN dV dF) : FnOk P w K mg base CX0 2 f fd ["thing"] spIsVar := by
  refine F.ok scIsVar (fun vs H Q E h => ?_) (fun cdv A outer s H vs Q E hr h => ?_)
  · obtain ⟨x, rfl, _⟩ := h
    rfl
  · obtain ⟨x, rfl, lx, go⟩ := h
    obtain ⟨t1, g1⟩ := T.lets
    obtain ⟨t2, g2⟩ := T.caps
    refine ⟨_, pss_cons (ps_if (PW.pt (pw_or (pt_not (pt_val (pe_callB call_isi (by rfl) T.isinst (by decide +kernel) (pa_cons (pv 0) (pa_cons (pe_bltn (v := .ty "str") (u := .type "str") (by rfl) T.str (by decide +kernel) (by exact rfl)) pa_nil)))))
        (pw_or1 (pt_cmpR op_lt (pe_callB call_len_str (by rfl) T.len PySem.boot_len (pa_cons (pv 0) pa_nil)) pe_int (nomark _))))) (pss_one (ps_ret pe_bl)) pss_nil)
      (pss_one (ps_ret (pe_and (pe_or (pe_cmpR op_sign (pe_ix ix_str (pv 0) pe_int (fun _ _ => rfl)) (pe_glob (v := .str letsT) (by rfl) g1 ⟨t1, rfl⟩) (by rfl)) (pe_one (pe_cmpR op_sign (pe_ix ix_str (pv 0) pe_int (fun _ _ => rfl)) (pe_glob (v := .str capsT) (by rfl) g2 ⟨t2, rfl⟩) (by rfl))))
        (pe_and (pe_cmpR op_eq (pe_ix ix_str (pv 0) pe_int (fun _ _ => rfl)) pe_str (nomark _)) (pe_one (pe_call U.okN hr rfl U.gN U.kN U.bN .nil pass0 (pa_cons (pe_slice sl_str (pv 0) (po_some pe_int) po_none) pa_nil))))))), ?_⟩
    refine isi (K := K) (x := .str x) (b := true) rfl (.str x) (by decide +kernel) ⟨_, rfl, ifN rfl ?_⟩
    refine ⟨_, rfl, x, rfl, by rw [sizeLine_eq]; omega, _, _, rfl, rfl, _, rfl, ?_⟩
    have l0 := len_tl x
    have at_ : ∀ {v : Bool}, isVarL (tl x) = v → ∀ H', Same H H' → Q (.bl v) H' := fun e H' s => e ▸ go H' s
    by_cases h3 : x.length < 3
    · refine ifY (decide_eq_true (by omega)) (at_ ?_ H (Same.refl H))
      cases q : isVarL (tl x) with
      | false => rfl
      | true => have := (var_signs q).2.2.1; omega
    · refine ifN (decide_eq_false (by omega)) ?_
      obtain ⟨a, b, r, ex⟩ : ∃ a b r, tl x = a :: b :: r := by
        match q : tl x with
        | [] => rw [q] at l0; simp at l0; omega
        | [_] => rw [q] at l0; simp at l0; omega
        | a :: b :: r => exact ⟨a, b, r, rfl⟩
      have e0 : atI x.cps.toList ((0 : Nat) : Int) = some a := atI_nat (by rw [show x.cps.toList = a :: b :: r from ex]; rfl)
      have e1 : atI x.cps.toList ((1 : Nat) : Int) = some b := atI_nat (by rw [show x.cps.toList = a :: b :: r from ex]; rfl)
      have ev : isVarL (tl x) = (((decide (a ∈ lets) || decide (a ∈ caps)) && decide (b = 95)) && isNmL r) := by rw [ex]; rfl
      have tail : ((decide (a ∈ lets) || decide (a ∈ caps)) = true) → ∀ σ : L2.St, σ = [some (.str x)] → tAndV (tOp rEq (tOp rIxS (tVar 0) (tC (.int 1))) (tC (.str "_"))) (tCall spIsName [] E0 (tCons (tSl rSlS (tVar 0) (tPart (tC (.int 2))) tNoPart) tNil)) σ H Q := by
        rintro hl σ rfl
        refine ⟨_, rfl, _, _, b, rfl, rfl, by rw [sizeLine_eq]; omega, e1, rfl, _, rfl, ?_⟩
        rw [hl, Bool.true_and] at ev
        by_cases hb : b = 95
        · subst hb
          refine ifY (by decide +kernel) ?_
          refine ⟨_, rfl, _, rfl, x, rfl, by rw [sizeLine_eq]; omega, _, rfl, Nat.le_trans (cutS_length _ _ _) lx, fun G sG => ?_⟩
          rw [show (2 : Int) = ((2 : Nat) : Int) from rfl, tl_from, ex]
          exact at_ (ev.trans (by rfl)) G sG
        · have hb' : decide (V.str ⟨#[b]⟩ = V.str "_") = false := decide_eq_false fun z => hb (by
            have z3 := str_eq.mp z
            rw [show tl ("_" : Str) = [95] from by decide +kernel] at z3
            exact (List.cons.inj (show [b] = [95] from z3)).1)
          refine ifN hb' (at_ ?_ H (Same.refl H))
          rw [ev, decide_eq_false hb, Bool.false_and]
      refine ⟨_, rfl, _, _, a, rfl, rfl, by rw [sizeLine_eq]; omega, e0, a, letsT, rfl, rfl, _, rfl, ?_⟩
      by_cases ha : a ∈ lets
      · refine ifY (decide_eq_true ha) ⟨_, rfl, ifY rfl (tail (by rw [decide_eq_true ha]; rfl) _ rfl)⟩
      · refine ifN (decide_eq_false ha) ?_
        refine ⟨_, rfl, _, _, a, rfl, rfl, by rw [sizeLine_eq]; omega, e0, a, capsT, rfl, rfl, _, rfl, ?_⟩
        by_cases hc : a ∈ caps
        · exact ifY (decide_eq_true hc) (tail (by rw [decide_eq_true hc, Bool.or_true]) _ rfl)
        · refine ifN (decide_eq_false hc) ?_
          exact at_ (by rw [ev, decide_eq_false ha, decide_eq_false hc]; rfl) H (Same.refl H)
end
end K6

set_option Elab.async false
set_option linter.all false
set_option maxRecDepth 100000
set_option maxHeartbeats 4000000
set_option autoImplicit false
/-! A factor: read by the program. -/
namespace K6
open PySem L2 TL K1D
section
variable {P : Program} {w : World} {K : PySem.W.Frag} {mg : Str → Option Value} {base : Heap} {fN fV fF : Addr} {dN dV dF : FuncData}
theorem part_len (x : Str) : (Txt.partition x "^").1.length ≤ x.length ∧ (Txt.partition x "^").2.2.length ≤ x.length := by
  rcases hat_cases x with e | ⟨y, z, e, ex⟩
  · rw [e]
    exact ⟨Nat.le_refl _, by rw [show (Str.empty : Str).length = 0 from by decide +kernel]; exact Nat.zero_le _⟩
  · rw [e]
    show y.length ≤ _ ∧ z.length ≤ _
    rw [ex, strLen_append, strLen_append]
    omega
theorem scRFac : FnScope ["factor", "name", "mark", "exponent"] ["factor"] (defScope sRFac) := ⟨rfl, rfl, rfl, by decide +kernel, rfl, by decide +kernel, by decide +kernel⟩
theorem ok_rfac {f : Addr} {fd : FuncData} (F : Fun K "_read_factor" "_read_factor" sRFac f fd) (T : ProgTxt K mg) (U : FacTxt P w K mg base fN fV fF dN dV dF) (GV : FnOk P w K mg base CX0 2 fV dV ["thing"] spIsVar) : FnOk P w K mg base CX0 3 f fd ["factor"] spRFac := by
  refine F.ok scRFac (fun vs H Q E h => ?_) (fun cdv A outer s H vs Q E hr h => ?_)
  · obtain ⟨x, rfl, _⟩ := h
    rfl
  · obtain ⟨x, rfl, lx, no, yes⟩ := h
    obtain ⟨t4, g4⟩ := T.expo
    have h1 : Room 1 _ := hr.mono (by decide)
    refine ⟨_, pss_cons (ps_asg (pe_partition (pv 0) pe_str) (pg_tup (by rfl) (pgs_cons (pg_name (i := 1) scRFac.nd rfl (Or.inl rfl)) (pgs_cons (pg_name (i := 2) scRFac.nd rfl (Or.inl rfl)) (pgs_cons (pg_name (i := 3) scRFac.nd rfl (Or.inl rfl)) pgs_nil)))))
      (pss_cons (ps_if (pt_not (pt_val (pe_call GV hr rfl U.gV U.kV U.bV .nil pass0 (pa_cons (pv 1) pa_nil)))) (pss_one (ps_ret pe_non)) pss_nil)
      (pss_cons (ps_if (pt_cmpR op_eq (pv 2) pe_str (nomark _)) (pss_one (ps_ret (pe_tup (pa_cons (pv 1) (pa_cons pe_int pa_nil))))) pss_nil)
      (pss_cons (ps_if (PW.pt (pw_or (pt_not (pt_val (pe_call U.okF h1 rfl U.gF U.kF U.bF .nil pass0 (pa_cons (pv 3) (pa_cons pe_int pa_nil))))) (pw_or1 (pt_not (pt_chain op_le op_le pe_int (pe_callTy call_int_str (by rfl) T.int (by decide +kernel) (pa_cons (pv 3) pa_nil)) (pe_glob (v := .int 40) (by rfl) g4 ⟨t4, rfl⟩)))))) (pss_one (ps_ret pe_non)) pss_nil)
      (pss_one (ps_ret (pe_tup (pa_cons (pv 1) (pa_cons (pe_callTy call_int_str (by rfl) T.int (by decide +kernel) (pa_cons (pv 3) pa_nil)) pa_nil)))))))), ?_⟩
    refine ⟨_, rfl, ⟨_, rfl⟩, _, _, rfl, rfl, by decide +kernel, by rw [sizeLine_eq]; omega, fun p np => ?_⟩
    have e0 : rFac x = rFac x := rfl
    rw [show rFac x = (if isVarL (tl (Txt.partition x "^").1) = true then
      (if (Txt.partition x "^").2.1 = "" then some ((Txt.partition x "^").1, 1)
        else if isFgs 2 (tl (Txt.partition x "^").2.2) = true ∧ (2 ≤ numOf (Txt.partition x "^").2.2 ∧ numOf (Txt.partition x "^").2.2 ≤ 40) then some ((Txt.partition x "^").1, (numOf (Txt.partition x "^").2.2 : Int)) else none)
      else none) from rfl] at no yes
    obtain ⟨la, lc⟩ := part_len x
    generalize (Txt.partition x "^").1 = a at no yes la ⊢
    generalize (Txt.partition x "^").2.1 = b at no yes ⊢
    generalize (Txt.partition x "^").2.2 = c at no yes lc ⊢
    have s1 : Same H (upd H p (.tup [.str a, .str b, .str c])) := same_new np
    refine ⟨p, _, rfl, SqT.of upd_same, rfl, _, _, rfl, _, _, rfl, _, _, rfl, rfl, ?_⟩
    refine ⟨_, rfl, a, rfl, by omega, fun G2 s2 => ⟨_, rfl, ?_⟩⟩
    have sH := s1.trans s2
    cases hv : isVarL (tl a) with
    | false =>
      rw [hv] at no
      exact ifY rfl (no rfl G2 sH)
    | true =>
      rw [hv] at no yes
      refine ifN rfl ⟨_, rfl, rfl, _, rfl, ?_⟩
      by_cases hb : b = ""
      · subst hb
        refine ifY (decide_eq_true rfl) ⟨_, rfl, by show 2 ≤ sizeLine; decide, fun q nq => ?_⟩
        exact yes (a, 1) rfl q _ (sH.trans (same_new nq)) upd_same
      · refine ifN (decide_eq_false fun z => hb (V.str.inj z)) ?_
        simp only [if_true, hb, if_false] at no yes
        refine ⟨_, rfl, c, 2, rfl, by omega, fun G3 s3 => ⟨_, rfl, ?_⟩⟩
        cases hf : isFgs 2 (tl c) with
        | false =>
          rw [hf] at no
          exact ifY rfl (no rfl G3 (sH.trans s3))
        | true =>
          rw [hf] at no yes
          have ni := num_int hf (by decide)
          have l2 : c.length ≤ 640 := by have := (fgs_iff.mp hf).le; rw [len_tl]; omega
          refine ifN rfl ⟨_, rfl, c, _, rfl, ni, l2, _, _, rfl, rfl, _, rfl, ?_⟩
          by_cases n2 : 2 ≤ numOf c
          · refine ifY (decide_eq_true (by omega)) ⟨_, _, rfl, rfl, _, rfl, ?_⟩
            by_cases n40 : numOf c ≤ 40
            · rw [decide_eq_true (show (numOf c : Int) ≤ 40 by omega)]
              refine ifN rfl ?_
              refine ⟨_, rfl, _, rfl, c, _, rfl, ni, l2, by show 2 ≤ sizeLine; decide, fun q nq => ?_⟩
              exact yes (a, (numOf c : Int)) (if_pos ⟨rfl, n2, n40⟩) q _ ((sH.trans s3).trans (same_new nq)) upd_same
            · rw [decide_eq_false (show ¬ (numOf c : Int) ≤ 40 by omega)]
              exact ifY rfl (no (if_neg fun z => n40 z.2.2) G3 (sH.trans s3))
          · refine ifN (decide_eq_false (by omega)) ⟨_, rfl, ifY rfl (no (if_neg fun z => n2 z.2.1) G3 (sH.trans s3))⟩
end
end K6

set_option Elab.async false
set_option linter.all false
set_option maxRecDepth 100000
set_option maxHeartbeats 4000000
set_option autoImplicit false
/-! Nested keys that stand, in rows. -/
namespace K6
open PySem PySem.Spec PyProof.Rows L2 TL K1D
theorem shaped_key {k : NestedKey} (h : k.depth ≤ 8) (l : k.data.canLay0 = true) : SeqAt.shaped k.data = true := by
  show (k.data.canLay0 && decide (k.data.depth ≤ 64)) = true
  rw [l, key_depth, Bool.true_and]
  exact decide_eq_true (by omega)
theorem lay_keys : ∀ {ks : List NestedKey}, (∀ k ∈ ks, k.data.canLay0 = true) → PyData.canLayAll0 (NestedKey.datas ks) = true
  | [], _ => by simp [NestedKey.datas, PyData.canLayAll0]
  | k :: ks, h => by
    simp only [NestedKey.datas, PyData.canLayAll0, h k (List.mem_cons_self ..), lay_keys fun x hx => h x (List.mem_cons_of_mem _ hx), Bool.and_self]
theorem depths_le : ∀ {ks : List NestedKey}, (∀ k ∈ ks, k.depth ≤ 8) → NestedKey.depthAll ks ≤ 8
  | [], _ => Nat.zero_le _
  | k :: ks, h => by
    show max k.depth (NestedKey.depthAll ks) ≤ 8
    exact Nat.max_le.mpr ⟨h k (List.mem_cons_self ..), depths_le fun x hx => h x (List.mem_cons_of_mem _ hx)⟩
theorem shaped_keys {ks : List NestedKey} (h : ∀ k ∈ ks, k.depth ≤ 8) (l : ∀ k ∈ ks, k.data.canLay0 = true) : SeqAt.shaped (.list (NestedKey.datas ks)) = true := by
  show (PyData.canLay0 (.list (NestedKey.datas ks)) && decide (PyData.depth (.list (NestedKey.datas ks)) ≤ 64)) = true
  simp only [PyData.canLay0, PyData.depth, lay_keys l, keys_depth, Bool.true_and]
  have := depths_le h
  exact decide_eq_true (by omega)
theorem keyVs_dpAll {K : PySem.W.Frag} {H : Hp} {p : Addr} {ks : List NestedKey} {xs : List V} (h : H p = some (.lst xs)) (g : KeyVs K H ks xs) : Dp K H (.ref p) (.list (NestedKey.datas ks)) := .lst (SqL.of h) (KeyVs.dp ks _ g)
theorem keyVs_take {K : PySem.W.Frag} {H : Hp} : ∀ (n : Nat) {ks : List NestedKey} {xs : List V}, KeyVs K H ks xs → KeyVs K H (ks.take n) (xs.take n)
  | 0, _, _, _ => .nil
  | _ + 1, [], _, h => by cases h; exact .nil
  | n + 1, k :: ks, _, h => by
    cases h with
    | cons h1 h2 => exact .cons h1 (keyVs_take n h2)
theorem keyVs_drop {K : PySem.W.Frag} {H : Hp} : ∀ (n : Nat) {ks : List NestedKey} {xs : List V}, KeyVs K H ks xs → KeyVs K H (ks.drop n) (xs.drop n)
  | 0, _, _, h => h
  | _ + 1, [], _, h => by cases h; exact .nil
  | n + 1, k :: ks, _, h => by
    cases h with
    | cons h1 h2 => exact keyVs_drop n h2
theorem keyVs_app {K : PySem.W.Frag} {H : Hp} : ∀ {ks ls : List NestedKey} {xs ys : List V}, KeyVs K H ks xs → KeyVs K H ls ys → KeyVs K H (ks ++ ls) (xs ++ ys)
  | [], _, _, _, h, g => by cases h; exact g
  | _ :: _, _, _, _, h, g => by
    cases h with
    | cons h1 h2 => exact .cons h1 (keyVs_app h2 g)
theorem keyVs_len {K : PySem.W.Frag} {H : Hp} : ∀ {ks : List NestedKey} {vs : List V}, KeyVs K H ks vs → vs.length = ks.length
  | [], _, h => by cases h; rfl
  | _ :: _, _, h => by
    cases h with
    | cons h1 h2 => rw [List.length_cons, List.length_cons, keyVs_len h2]
theorem keyVs_at {K : PySem.W.Frag} {H : Hp} : ∀ {ks : List NestedKey} {vs : List V}, KeyVs K H ks vs → ∀ {i : Nat} {k : NestedKey}, ks[i]? = some k → ∃ v, vs[i]? = some v ∧ KeyV K H k v
  | [], _, h, i, k, e => by cases h; simp at e
  | k0 :: ks, _, h, i, k, e => by
    cases h with
    | @cons _ v _ vs h1 h2 =>
      cases i with
      | zero => cases e; exact ⟨v, rfl, h1⟩
      | succ i => exact keyVs_at h2 e
theorem keyVs_get {K : PySem.W.Frag} {H : Hp} {ks : List NestedKey} {vs : List V} (h : KeyVs K H ks vs) {i : Nat} {v : V} (e : vs[i]? = some v) : ∃ k, ks[i]? = some k ∧ KeyV K H k v := by
  have l := keyVs_len h
  obtain ⟨lt, _⟩ := List.getElem?_eq_some_iff.mp e
  obtain ⟨v', e', k⟩ := keyVs_at h (i := i) (List.getElem?_eq_getElem (by omega))
  rw [e] at e'
  cases e'
  exact ⟨_, List.getElem?_eq_getElem (by omega), k⟩
theorem same_tups {K : PySem.W.Frag} {H H' : Hp} (s : Same H H') : Tups K H H' := Tups.ext s
theorem tups_lst {K : PySem.W.Frag} {H : Hp} {D : Addr} {xs : List V} {o : HO} (h : H D = some (.lst xs)) : Tups K H (upd H D o) := fun a ys e => (upd_ne fun z => by rw [z, h] at e; cases e).trans e
theorem kv_fac {K : PySem.W.Frag} {H : Hp} {f : Fac} {v : V} : KeyV K H (facK f) v ↔ ∃ p : Addr, v = .ref p ∧ H p = some (.tup [.str f.1, .int f.2]) := by
  unfold facK
  constructor
  · intro h
    cases h with
    | tup h1 h2 =>
      cases h2 with
      | cons a b =>
        cases b with
        | cons c d =>
          cases a
          cases c
          cases d
          exact ⟨_, rfl, h1⟩
  · rintro ⟨p, rfl, h⟩
    exact .tup h (.cons (.str _) (.cons (.int _) .nil))
theorem kv_mon {K : PySem.W.Frag} {H : Hp} {m : Mon} {v : V} : KeyV K H (monK m) v ↔ ∃ (p : Addr) (xs : List V), v = .ref p ∧ H p = some (.tup xs) ∧ KeyVs K H (m.map facK) xs := by
  unfold monK
  constructor
  · intro h
    cases h with
    | tup h1 h2 => exact ⟨_, _, rfl, h1, h2⟩
  · rintro ⟨p, xs, rfl, h, k⟩
    exact .tup h k
theorem kv_term {K : PySem.W.Frag} {H : Hp} {t : Term} {v : V} : KeyV K H (termK t) v ↔ ∃ (p : Addr) (u : V), v = .ref p ∧ H p = some (.tup [u, .int t.2]) ∧ KeyV K H (monK t.1) u := by
  unfold termK
  constructor
  · intro h
    cases h with
    | tup h1 h2 =>
      cases h2 with
      | cons a b =>
        cases b with
        | cons c d =>
          cases c
          cases d
          exact ⟨_, _, rfl, h1, a⟩
  · rintro ⟨p, u, rfl, h, k⟩
    exact .tup h (.cons k (.cons (.int _) .nil))
theorem kv_poly {K : PySem.W.Frag} {H : Hp} {p : Poly} {v : V} : KeyV K H (polyK p) v ↔ ∃ (a : Addr) (xs : List V), v = .ref a ∧ H a = some (.tup xs) ∧ KeyVs K H (p.map termK) xs := by
  unfold polyK
  constructor
  · intro h
    cases h with
    | tup h1 h2 => exact ⟨_, _, rfl, h1, h2⟩
  · rintro ⟨p, xs, rfl, h, k⟩
    exact .tup h k
theorem ok_str {x : Str} (h : isVarL (tl x) = true) : PyData.strOk x = true := by
  unfold PyData.strOk
  rw [Array.all_eq_true']
  intro c hc
  have := (var_signs h).1 c (Array.mem_toList_iff.mpr hc)
  exact decide_eq_true (by omega)
theorem lay_fac {f : Fac} (h : OkF f) : (facK f).data.canLay0 = true := by simp [facK, NestedKey.data, NestedKey.datas, PyData.canLay0, PyData.canLayAll0, ok_str h.v]
theorem lay_mon {m : Mon} (h : ∀ f ∈ m, OkF f) : (monK m).data.canLay0 = true := by
  unfold monK
  rw [NestedKey.data, PyData.canLay0]
  exact lay_keys fun k hk => by
    obtain ⟨f, hf, rfl⟩ := List.mem_map.mp hk
    exact lay_fac (h f hf)
/-- None or a factor -/
def optK : Option Fac → NestedKey
  | none => .none
  | some f => facK f
theorem dep_fac (f : Fac) : (facK f).depth ≤ 1 := by simp [facK, NestedKey.depth, NestedKey.depthAll]
theorem dep_opt (o : Option Fac) : (optK o).depth ≤ 8 := by
  cases o with
  | none => simp [optK, NestedKey.depth]
  | some f => exact Nat.le_trans (dep_fac f) (by decide)
theorem lay_opt (x : Str) : (optK (rFac x)).data.canLay0 = true := by
  cases e : rFac x with
  | none => simp [optK, NestedKey.data, PyData.canLay0]
  | some f => exact lay_fac (rFac_some e).1
theorem none_any : ∀ os : List (Option Fac), ((NestedKey.datas (os.map optK)).any fun z => PyData.eqv z .none) = os.any (·.isNone)
  | [] => rfl
  | o :: os => by
    rw [List.map_cons, NestedKey.datas, List.any_cons, List.any_cons, none_any os]
    cases o with
    | none => simp [optK, NestedKey.data, PyData.eqv]
    | some f => simp [optK, facK, NestedKey.data, PyData.eqv]
theorem allF_none : ∀ {ws : List Str}, (ws.map rFac).any (·.isNone) = true → allF ws = none
  | [], h => by cases h
  | x :: r, h => by
    unfold allF
    rw [List.map_cons, List.any_cons] at h
    cases e : rFac x with
    | none => rfl
    | some f =>
      rw [e, Bool.or_eq_true] at h
      rcases h with h | h
      · cases h
      · simp only [allF_none h]
theorem allF_all : ∀ {ws : List Str}, (ws.map rFac).any (·.isNone) = false → ∃ m, allF ws = some m ∧ (ws.map rFac).map optK = m.map facK
  | [], _ => ⟨[], rfl, rfl⟩
  | x :: r, h => by
    rw [List.map_cons, List.any_cons] at h
    cases e : rFac x with
    | none => rw [e] at h; cases h
    | some f =>
      rw [e, Bool.or_eq_false_iff] at h
      obtain ⟨m, h1, h2⟩ := allF_all h.2
      refine ⟨f :: m, ?_, ?_⟩
      · unfold allF
        rw [e]
        simp only [h1]
      · rw [List.map_cons, List.map_cons, h2, e]
        rfl
end K6

set_option Elab.async false
set_option linter.all false
set_option maxRecDepth 100000
set_option maxHeartbeats 4000000
set_option autoImplicit false
/-! A term: read by the program. -/
namespace K6
open PySem L2 TL K1D
abbrev sRTerm : Stmt := top 20
/-- a term read, or None -/
def TermAns (K : PySem.W.Frag) (o : Option Term) (H : Hp) (Q : VK) : Prop := (o = none → ∀ H', Same H H' → Q .non H') ∧ ∀ t, o = some t → ∀ p H', Same H H' → KeyV K H' (termK t) (.ref p) → Q (.ref p) H'
theorem TermAns.up {K : PySem.W.Frag} {o : Option Term} {H G : Hp} {Q : VK} (h : TermAns K o H Q) (s : Same H G) : TermAns K o G Q := ⟨fun e H' s' => h.1 e H' (s.trans s'), fun f e p H' s' => h.2 f e p H' (s.trans s')⟩
def sTerm (s w : Str) : Option Term := if s = "+" ∨ s = "-" then (match rTerm w with | none => none | some t => some (t.1, signI s t.2)) else none
def spRTerm (K : PySem.W.Frag) : Sp := fun vs H Q _ => ∃ s x : Str, vs = [.str s, .str x] ∧ x.length ≤ 10000000 ∧ TermAns K (sTerm s x) H Q
theorem cut_tail (v : V) (vs : List V) : cutV (v :: vs) (some 1) none = vs := by
  unfold cutV
  rw [show HT.sIx (v :: vs).length 0 (some 1) = min 1 (v :: vs).length from HT.sIx_nat _ _ 1, HT.sIx_none]
  simp
theorem map_str_at {ns : List Str} {i : Nat} {y : V} (h : (ns.map V.str)[i]? = some y) : ∃ u, y = V.str u ∧ ns[i]? = some u := by
  rw [List.getElem?_map] at h
  cases e : ns[i]? with
  | none => rw [e] at h; cases h
  | some u => rw [e] at h; exact ⟨u, (Option.some.inj h).symm, rfl⟩
theorem in_signs (s : Str) : inV (.str s) [.str "+", .str "-"] = decide (s = "+" ∨ s = "-") := by
  unfold inV
  rw [List.any_cons, List.any_cons, List.any_nil, Bool.or_false]
  show (decide (("+" : Str) = s) || decide (("-" : Str) = s)) = _
  rw [← Bool.decide_or]
  exact decide_eq_decide.mpr ⟨fun h => h.imp Eq.symm Eq.symm, fun h => h.imp Eq.symm Eq.symm⟩
def rGeS : R2 := fun x y H Q => ∃ i j, x = .str i ∧ y = .str j ∧ Q (.bl (!decide (i.cps.toList < j.cps.toList))) H
theorem op_geS {X : Cx} : OpR X (compareOp .GtE) rGeS := op_ge_str
theorem r65 {k : Nat} {A : Around} (r : Room k A) : A.units + 65 < cLine := by have := r.un; omega
theorem split_len (x y : Str) (hy : y.length = 1) : (Txt.split x y).length ≤ x.length + 1 ∧ ∀ z ∈ Txt.split x y, z.length ≤ x.length := by
  have e : tl (Str.join y (Txt.split x y)) = tl x := congrArg tl (StrLaws.join_split x y)
  rw [tl_join] at e
  have l := congrArg List.length e
  have jl : ∀ ps : List (List Nat), ps ≠ [] → (joinL (tl y) ps).length + 1 = (ps.map List.length).sum + ps.length := by
    intro ps
    induction ps with
    | nil => intro h; exact absurd rfl h
    | cons p r ih =>
      intro _
      cases r with
      | nil => simp [joinL]
      | cons q r =>
        have ih' := ih (by simp)
        show (p ++ (tl y ++ joinL (tl y) (q :: r))).length + 1 = _
        rw [List.length_append, List.length_append, ← len_tl y, hy]
        simp only [List.map_cons, List.sum_cons, List.length_cons] at ih' ⊢
        omega
  obtain ⟨z, r, ez⟩ := split_ne x y
  have l2 := jl ((Txt.split x y).map tl) (by rw [ez]; simp)
  have le : ∀ (l : List Nat) (a : Nat), a ∈ l → a ≤ l.sum := by
    intro l
    induction l with
    | nil => intro a h; cases h
    | cons b l ih =>
      intro a h
      rw [List.sum_cons]
      rcases List.mem_cons.mp h with e | h
      · omega
      · have := ih a h; omega
  rw [List.length_map] at l2
  rw [← len_tl x] at l
  have n0 : 1 ≤ (Txt.split x y).length := by rw [ez, List.length_cons]; omega
  refine ⟨by omega, fun w hw => ?_⟩
  have := le (((Txt.split x y).map tl).map List.length) w.length (List.mem_map.mpr ⟨tl w, List.mem_map.mpr ⟨w, hw, rfl⟩, (len_tl w).symm⟩)
  omega
theorem headNum_sub (fs : List Str) : ∀ z ∈ (headNum fs).2, z ∈ fs := by
  cases fs with
  | nil => intro z h; exact h
  | cons f r =>
    rw [headNum_cons]
    split
    · exact fun z h => List.mem_cons_of_mem _ h
    · exact fun z h => h
theorem headNum_len (fs : List Str) : (headNum fs).2.length ≤ fs.length := by
  cases fs with
  | nil => exact Nat.le_refl _
  | cons f r =>
    rw [headNum_cons]
    split
    · exact Nat.le_succ _
    · exact Nat.le_refl _
section
variable {P : Program} {w : World} {K : PySem.W.Frag} {mg : Str → Option Value} {base : Heap} {fF fR : Addr} {dF dR : FuncData}
structure TermTxt (P : Program) (w : World) (K : PySem.W.Frag) (mg : Str → Option Value) (base : Heap) (fF fR : Addr) (dF dR : FuncData) : Prop where
  okF : FnOk P w K mg base CX0 1 fF dF ["text", "most"] spIsFig
  bF : Binds K dF ["text", "most"] []
  gF : mg "is_figures" = some (.ref fF)
  kF : PySem.W.keepIn K (.ref fF) = true
  okR : FnOk P w K mg base CX0 3 fR dR ["factor"] spRFac
  bR : Binds K dR ["factor"] []
  gR : mg "_read_factor" = some (.ref fR)
  kR : PySem.W.keepIn K (.ref fR) = true
theorem scRTerm : FnScope ["sign", "word", "factors", "size", "factor", "pairs", "at"] ["sign", "word"] (defScope sRTerm) := ⟨rfl, rfl, rfl, by decide +kernel, rfl, by decide +kernel, by decide +kernel⟩
theorem ok_rterm {f : Addr} {fd : FuncData} (F : Fun K "_read_term" "_read_term" sRTerm f fd) (T : ProgTxt K mg) (U : TermTxt P w K mg base fF fR dF dR) : FnOk P w K mg base CX0 4 f fd ["sign", "word"] (spRTerm K) := by
  refine F.ok scRTerm (fun vs H Q E h => ?_) (fun cdv A outer s H vs Q E hr h => ?_)
  · obtain ⟨x, y, rfl, _⟩ := h
    rfl
  · obtain ⟨sn, x, rfl, lx, no, yes⟩ := h
    obtain ⟨t4, g4⟩ := T.most
    have h1 : Room 1 _ := hr.mono (by decide)
    refine ⟨_, pss_cons (ps_set (i := 2) scRTerm.nd rfl (Or.inl rfl) (pe_split (pv 1) pe_str))
      (pss_cons (ps_set (i := 3) scRTerm.nd rfl (Or.inl rfl) pe_int)
      (C8.pss_cut (ps_if (pt_val (pe_call U.okF h1 rfl U.gF U.kF U.bF .nil pass0 (pa_cons (pe_ix ix_list (pv 2) pe_int (fun _ _ => rfl)) (pa_cons (pe_glob (v := .int 200) (by rfl) g4 ⟨t4, rfl⟩) pa_nil))))
        (pss_cons (ps_set (i := 3) scRTerm.nd rfl (Or.inl rfl) (pe_callTy call_int_str (by rfl) T.int (by decide +kernel) (pa_cons (pe_ix ix_list (pv 2) pe_int (fun _ _ => rfl)) pa_nil)))
        (pss_cons (ps_set (i := 2) scRTerm.nd rfl (Or.inl rfl) (pe_slice sl_list (pv 2) (po_some pe_int) po_none))
        (pss_one (ps_if (PW.pt (pw_and (pt_cmpR op_eq (pv 3) pe_int (nomark _)) (pw_and1 (pt_truth (pv 2) (fun _ => rfl))))) (pss_one (ps_ret pe_non)) pss_nil)))) pss_nil)
      (pss_cons (ps_set (i := 5) scRTerm.nd rfl (Or.inr rfl) (pe_lc (own := [("factor", 4)]) (g := gName 4) (te := tCall spRFac [] E0 (tCons (tVar 4) tNil)) rfl scRTerm.nd (pi_list (pv 2)) (blkOk_by (own := [("factor", 4)]) (N := ["sign", "word", "factors", "size", "factor", "pairs", "at"]) (sc := defScope sRTerm) (by decide +kernel))
        (fun _ _ _ _ _ => pg_name (i := 4) scRTerm.nd rfl (Or.inl rfl)) (fun _ _ _ _ _ => pts_nil) (fun _ _ _ _ _ => pe_call U.okR hr (by rfl) U.gR U.kR U.bR .nil pass0 (pa_cons (pv 4) pa_nil))))
      (pss_cons (ps_if (PW.pt (pw_or (pt_cmpR op_notIn_seq (pv 0) (pe_tup (pa_cons pe_str (pa_cons pe_str pa_nil))) (by rfl)) (pw_or1 (pt_cmpR (op_inD (r65 hr)) pe_non (pv 5) (by rfl))))) (pss_one (ps_ret pe_non)) pss_nil)
      (pss_cons (ps_if (pt_val (pe_callB (cr_any rfl) (by rfl) T.any (by decide +kernel) (pa_cons (pe_lc (own := [("at", 6)]) (g := gName 6) (te := tOp rGeS (tOp (rIxT K) (tOp (rIxL K) (tVar 5) (tVar 6)) (tC (.int 0))) (tOp (rIxT K) (tOp (rIxL K) (tVar 5) (tOp (rI0 fun i j => .int (i + j)) (tVar 6) (tC (.int 1)))) (tC (.int 0)))) rfl scRTerm.nd (pi_range1 (by rfl) T.range (pa_cons (pe_op op_sub (pe_callB call_len_seq (by rfl) T.len PySem.boot_len (pa_cons (pv 5) pa_nil)) pe_int) pa_nil))
          (blkOk_by (own := [("at", 6)]) (N := ["sign", "word", "factors", "size", "factor", "pairs", "at"]) (sc := defScope sRTerm) (by decide +kernel)) (fun _ _ _ _ _ => pg_name (i := 6) scRTerm.nd rfl (Or.inl rfl)) (fun _ _ _ _ _ => pts_nil)
          (fun _ _ _ _ _ => pe_cmpR op_geS (pe_ix ix_tup (pe_ix ix_list (pv 5) (pv 6) (fun _ _ => rfl)) pe_int (fun _ _ => rfl)) (pe_ix ix_tup (pe_ix ix_list (pv 5) (pe_op op_add (pv 6) pe_int) (fun _ _ => rfl)) pe_int (fun _ _ => rfl)) (nomark _))) pa_nil))) (pss_one (ps_ret pe_non)) pss_nil)
      (pss_one (ps_ret (pe_tup (pa_cons (pe_callTy call_tuple_of (by rfl) T.tuple (by decide +kernel) (pa_cons (pv 5) pa_nil)) (pa_cons (pe_ifExp (pt_cmpR op_eq (pv 0) pe_str (nomark _)) (pe_un un_neg (pv 3)) (pv 3)) pa_nil)))))))))), ?_⟩
    obtain ⟨z, r, er⟩ := split_ne x "*"
    obtain ⟨w1, w2⟩ := split_len x "*" (by decide +kernel)
    refine ⟨_, rfl, ⟨_, rfl⟩, _, _, rfl, rfl, by decide +kernel, by rw [sizeLine_eq]; omega, fun a na => ?_⟩
    have s1 : Same H (upd H a (.lst ((Txt.split x "*").map V.str))) := same_new na
    have a1 : upd H a (.lst ((Txt.split x "*").map V.str)) a = some (.lst ((Txt.split x "*").map V.str)) := upd_same
    generalize upd H a (.lst ((Txt.split x "*").map V.str)) = G1 at s1 a1 ⊢
    have nn : ∀ G, Same H G → rTerm x = none → Q .non G := fun G s e => no (by unfold sTerm; rw [e]; split <;> rfl) G s
    refine ⟨fun σ G => ∃ b : Addr, σ = [some (.str sn), some (.str x), some (.ref b), some (.int (headNum (Txt.split x "*")).1), none, none, none] ∧ Same H G ∧ G b = some (.lst ((headNum (Txt.split x "*")).2.map V.str)) ∧ oneBad (Txt.split x "*") = false, ?_, ?_⟩
    · rw [er] at a1 w1 w2 ⊢
      have z0 : atI ((z :: r).map V.str) 0 = some (V.str z) := (show atI _ ((0 : Nat) : Int) = some (V.str z) from atI_nat rfl)
      have lz := w2 z List.mem_cons_self
      refine ⟨_, rfl, a, _, _, _, rfl, rfl, SqL.of a1, z0, z, 200, rfl, by omega, fun G2 s2 => ⟨_, rfl, ?_⟩⟩
      have a2 := s2 _ _ a1
      rw [headNum_cons, oneBad_cons]
      cases hf : isFgs 200 (tl z) with
      | false => exact ifN rfl ⟨a, rfl, s1.trans s2, a2, rfl⟩
      | true =>
        have ni := num_int hf (by decide)
        have l2 : z.length ≤ 640 := by have := (fgs_iff.mp hf).le; rw [len_tl]; omega
        refine ifY rfl ?_
        refine ⟨_, rfl, a, _, _, _, rfl, rfl, SqL.of a2, z0, z, _, rfl, ni, l2, ?_⟩
        refine ⟨_, rfl, _, rfl, a, _, rfl, SqL.of a2, fun b nb => ?_⟩
        have ec : cutV ((z :: r).map V.str) (some 1) none = r.map V.str := cut_tail _ _
        rw [ec]
        have s3 : Same H (upd G2 b (.lst (r.map V.str))) := (s1.trans s2).trans (same_new nb)
        have b3 : upd G2 b (.lst (r.map V.str)) b = some (.lst (r.map V.str)) := upd_same
        generalize upd G2 b (.lst (r.map V.str)) = G3 at s3 b3 ⊢
        refine ⟨_, rfl, rfl, _, rfl, ?_⟩
        by_cases n1 : numOf z = 1
        · refine ifY (decide_eq_true (by rw [n1]; rfl)) ⟨_, rfl, !(r.map V.str).isEmpty, .inl ⟨_, SqL.of b3, rfl⟩, ?_⟩
          cases r with
          | nil => exact ifN rfl ⟨b, rfl, s3, b3, by simp⟩
          | cons y r =>
            refine ifY rfl (nn G3 s3 ?_)
            unfold rTerm
            rw [er, oneBad_cons, hf, decide_eq_true n1]
            rfl
        · refine ifN (decide_eq_false fun q => n1 (by have := V.int.inj q; omega)) (ifN rfl ⟨b, rfl, s3, b3, ?_⟩)
          rw [decide_eq_false n1]
          rfl
    · rintro σ G ⟨b, rfl, sG, hb, ob⟩
      have er' : rTerm x = (match allF (headNum (Txt.split x "*")).2 with
        | none => none
        | some m => if dropsB m = true then none else some (m, (headNum (Txt.split x "*")).1)) := by
        unfold rTerm
        rw [if_neg (by rw [ob]; exact Bool.false_ne_true)]
        all_goals (cases allF (headNum (Txt.split x "*")).2 <;> rfl)
      have hsub := headNum_sub (Txt.split x "*")
      have hlen := headNum_len (Txt.split x "*")
      generalize (headNum (Txt.split x "*")).1 = z at er' hb ⊢
      generalize (headNum (Txt.split x "*")).2 = fs at er' hb hsub hlen ⊢
      refine ⟨_, rfl, b, rfl, ⟨_, SqL.of hb⟩, fun D nD => ?_⟩
      refine lc_it (walk_list (K := K) (a := b) (xs := fs.map V.str)) (fun i G' => Same G G' ∧ ∃ vs, G' D = some (.lst vs) ∧ KeyVs K G' (((fs.take i).map rFac).map optK) vs) ⟨same_new nD, [], upd_same, .nil⟩ (fun i G' _ h => h.1.seq (SqL.of hb)) (fun i v G' G'' hi ⟨sG', vs, hD, kv⟩ ⟨e, hv⟩ => ?_) (fun G' ⟨sG', vs, hD, kv⟩ => ?_)
      · subst e
        obtain ⟨y, rfl, hy⟩ := map_str_at hv
        have ly := w2 y (hsub y (List.mem_of_getElem? hy))
        have lv : vs.length < sizeLine := by
          have := keyVs_len kv
          rw [this, List.length_map, List.length_map, List.length_take, sizeLine_eq]
          omega
        have fin : ∀ (H4 : Hp) (u : V), Same G'' H4 → KeyV K H4 (optK (rFac y)) u → ∃ acc, H4 D = some (.lst acc) ∧ acc.length < sizeLine ∧ (Same G (upd H4 D (.lst (acc ++ [u]))) ∧ ∃ vs, upd H4 D (.lst (acc ++ [u])) D = some (.lst vs) ∧ KeyVs K (upd H4 D (.lst (acc ++ [u]))) (((fs.take (i + 1)).map rFac).map optK) vs) := by
          intro H4 u s4 ku
          have hD4 := s4 _ _ hD
          refine ⟨vs, hD4, lv, fun b o e => (upd_ne (ne_of_none e nD)).trans ((sG'.trans s4) b o e), _, upd_same, ?_⟩
          have t4 : Tups K H4 (upd H4 D (.lst (vs ++ [u]))) := tups_lst hD4
          rw [take_snoc hy, List.map_append, List.map_append]
          exact keyVs_app (KeyVs.up t4 _ _ (KeyVs.up (same_tups s4) _ _ kv)) (.cons (KeyV.up t4 _ _ ku) .nil)
        refine ⟨rfl, _, rfl, y, rfl, by omega, fun e H' s' => fin H' _ s' ?_, fun f e p H' s' hp => fin H' _ s' ?_⟩
        · rw [e]; exact .non
        · rw [e]; exact kv_fac.mpr ⟨p, rfl, hp⟩
      · rw [List.length_map, List.take_length] at kv
        have sH := sG.trans sG'
        refine ⟨_, rfl, by show 2 ≤ sizeLine; decide, fun q nq => ?_⟩
        refine ⟨q, _, rfl, .inr (SqT.of upd_same), rfl, rfl, _, rfl, ?_⟩
        have kv2 := KeyVs.up (same_tups (K := K) (same_new (o := .tup [.str "+", .str "-"]) nq)) _ _ kv
        have hD2 : upd G' q (.tup [.str "+", .str "-"]) D = some (.lst vs) := (upd_ne (ne_of_none hD nq)).trans hD
        have sH2 : Same H (upd G' q (.tup [.str "+", .str "-"])) := sH.trans (same_new nq)
        generalize upd G' q (.tup [.str "+", .str "-"]) = G2 at kv2 hD2 sH2 ⊢
        clear kv hD sH sG'
        rw [if_pos rfl, in_signs]
        by_cases hs : sn = "+" ∨ sn = "-"
        · have es : sTerm sn x = (match rTerm x with | none => none | some t => some (t.1, signI sn t.2)) := by
            unfold sTerm
            rw [if_pos hs]
          rw [es] at no yes
          refine ifN (by rw [decide_eq_true hs]; rfl) ?_
          refine ⟨_, rfl, .none, _, .non, keyVs_dpAll hD2 kv2, by decide, shaped_keys (fun k hk => ?_) (fun k hk => ?_), _, rfl, ?_⟩
          · obtain ⟨o, _, rfl⟩ := List.mem_map.mp hk
            exact dep_opt o
          · obtain ⟨o, ho, rfl⟩ := List.mem_map.mp hk
            obtain ⟨y, _, rfl⟩ := List.mem_map.mp ho
            exact lay_opt y
          rw [none_any]
          cases qn : (fs.map rFac).any (·.isNone) with
          | true => exact ifY rfl (nn G2 sH2 (by rw [er', allF_none qn]))
          | false =>
            obtain ⟨m, hm, hk⟩ := allF_all qn
            rw [hk] at kv2
            rw [hm] at er'
            have lm : vs.length = m.length := by rw [keyVs_len kv2, List.length_map]
            have lm2 : m.length ≤ 10000002 := by
              have := congrArg List.length hk
              rw [List.length_map, List.length_map, List.length_map] at this
              omega
            refine ifN rfl ?_
            refine ⟨_, rfl, D, _, rfl, .inl (SqL.of hD2), _, _, rfl, rfl, _, rfl, by omega, by omega, fun L nL => ?_⟩
            have nn' : ((vs.length : Int) - 1).toNat = m.length - 1 := by omega
            rw [nn']
            refine lc_it (walk_range (lo := 0) (n := m.length - 1)) (fun i G' => Same G2 G' ∧ G' L = some (.lst (((List.range i).map fun j => !decide (tl (m.getD j ("", 0)).1 < tl (m.getD (j + 1) ("", 0)).1)).map V.bl))) ⟨same_new nL, upd_same⟩ (fun _ _ _ _ => trivial) (fun i v G3 G3' hi ⟨s3, hL⟩ ⟨e, ev⟩ => ?_) (fun G3 ⟨s3, hL⟩ => ?_)
            · subst e ev
              have hD3 := s3 _ _ hD2
              have kv3 := KeyVs.up (same_tups (K := K) s3) _ _ kv2
              have at_ : ∀ j, j < m.length → ∃ p : Addr, vs[j]? = some (.ref p) ∧ G3' p = some (.tup [.str (m.getD j ("", 0)).1, .int (m.getD j ("", 0)).2]) := by
                intro j hj
                obtain ⟨u, hu, ku⟩ := keyVs_at kv3 (i := j) (k := facK m[j]) (by rw [List.getElem?_map, List.getElem?_eq_getElem hj]; rfl)
                obtain ⟨p, rfl, hp⟩ := kv_fac.mp ku
                refine ⟨p, hu, ?_⟩
                rw [List.getD_eq_getElem?_getD, List.getElem?_eq_getElem hj]
                exact hp
              obtain ⟨p1, v1, q1⟩ := at_ i (by omega)
              obtain ⟨p2, v2, q2⟩ := at_ (i + 1) (by omega)
              show gName 6 (.int (0 + (i : Int))) _ _ _
              rw [Int.zero_add]
              refine ⟨rfl, _, rfl, _, rfl, D, vs, _, _, rfl, rfl, SqL.of hD3, atI_nat v1, p1, _, _, _, rfl, rfl, SqT.of q1, (show atI _ ((0 : Nat) : Int) = some _ from atI_nat rfl), ?_⟩
              refine ⟨_, rfl, _, rfl, _, _, rfl, rfl, D, vs, _, _, rfl, rfl, SqL.of hD3, (show atI vs ((i + 1 : Nat) : Int) = some (.ref p2) from atI_nat v2), p2, _, _, _, rfl, rfl, SqT.of q2, (show atI _ ((0 : Nat) : Int) = some _ from atI_nat rfl), ?_⟩
              refine ⟨_, _, rfl, rfl, _, hL, ?_, fun b o e => (upd_ne (ne_of_none e nL)).trans (s3 _ _ e), ?_⟩
              · rw [List.length_map, List.length_map, List.length_range, sizeLine_eq]
                omega
              · rw [upd_same, List.range_succ, List.map_append, List.map_append]
                rfl
            · refine ⟨L, _, rfl, SqL.of hL, _, rfl, ?_⟩
              have ed : (((List.range (m.length - 1)).map fun j => !decide (tl (m.getD j ("", 0)).1 < tl (m.getD (j + 1) ("", 0)).1)).any id) = dropsB m := by
                rw [List.any_map]
                rfl
              rw [ed]
              have sH3 := sH2.trans s3
              cases qd : dropsB m with
              | true =>
                refine ifY rfl (nn G3 sH3 ?_)
                rw [er']
                show (if dropsB m = true then none else some (m, z)) = none
                rw [qd]
                rfl
              | false =>
                have er2 : rTerm x = some (m, z) := by
                  rw [er']
                  show (if dropsB m = true then none else some (m, z)) = _
                  rw [qd]
                  rfl
                rw [er2] at yes
                refine ifN rfl ⟨_, rfl, D, _, rfl, .inl ⟨SqL.of (s3 _ _ hD2), fun T1 n1 => ?_⟩⟩
                have kT := KeyVs.up ((same_tups (K := K) s3).trans (same_tups (same_new (o := .tup vs) n1))) _ _ kv2
                have sT : Same H (upd G3 T1 (.tup vs)) := sH3.trans (same_new n1)
                have hT : upd G3 T1 (.tup vs) T1 = some (.tup vs) := upd_same
                generalize upd G3 T1 (.tup vs) = G4 at kT sT hT ⊢
                have fin : ∀ c : Int, signI sn z = c → (2 ≤ sizeLine ∧ ∀ p, G4 p = none → Q (.ref p) (upd G4 p (.tup [.ref T1, .int c]))) := by
                  rintro c rfl
                  refine ⟨by decide, fun p np => yes (m, signI sn z) rfl p _ (sT.trans (same_new np)) (kv_term.mpr ⟨p, _, rfl, upd_same, ?_⟩)⟩
                  exact KeyV.up (same_tups (same_new np)) _ _ (kv_mon.mpr ⟨T1, vs, rfl, hT, kT⟩)
                refine ⟨_, rfl, rfl, _, rfl, ?_⟩
                by_cases hm : sn = "-"
                · refine ifY (decide_eq_true (by rw [hm])) ⟨_, rfl, _, rfl, fin _ ?_⟩
                  unfold signI
                  rw [if_pos hm]
                · refine ifN (decide_eq_false fun q => hm (V.str.inj q)) ⟨_, rfl, fin _ ?_⟩
                  unfold signI
                  rw [if_neg hm]
        · refine ifY (by rw [decide_eq_false hs]; rfl) (no (by unfold sTerm; rw [if_neg hs]) G2 sH2)
end
end K6

set_option Elab.async false
set_option linter.all false
set_option maxRecDepth 100000
set_option maxHeartbeats 4000000
set_option autoImplicit false
/-! A polynomial: read by the program. -/
namespace K6
open PySem L2 TL K1D
abbrev sRPoly : Stmt := top 18
def NotStr (K : PySem.W.Frag) (H : Hp) (x : V) : Prop := ∃ a : String, TyOf K H x (.type a) ∧ kitB a "str" = some false
def PolyAns (K : PySem.W.Frag) (C : Addr) (o : Option Poly) (H : Hp) (Q : VK) (E : XK) : Prop := (∀ p, o = some p → ∀ a H', Same H H' → KeyV K H' (polyK p) (.ref a) → Q (.ref a) H') ∧ (o = none → Raises C H E)
def spRPoly (K : PySem.W.Frag) (C : Addr) : Sp := fun vs H Q E => ∃ x : V, vs = [x] ∧ ((∃ y : Str, x = .str y ∧ y.length ≤ 9000000 ∧ PolyAns K C (rPoly y) H Q E) ∨ (NotStr K H x ∧ Raises C H E))
theorem rTab_step (acc : Poly) (s w : Str) (r : List Str) : rTab acc (s :: w :: r) = match sTerm s w with
    | none => none
    | some t => if lastOk acc t.1 = true then rTab (acc ++ [t]) r else none := by
  rw [rTab]
  unfold sTerm
  by_cases hs : s = "+" ∨ s = "-"
  · rw [if_pos hs, if_pos hs]
    cases rTerm w with
    | none => rfl
    | some t => rfl
  · rw [if_neg hs, if_neg hs]
theorem size2 (n : Nat) (e : n % 2 = 0) : Builtin.Range.rangeSize 0 (n : Int) 2 = ((n / 2 : Nat) : Int) := by
  unfold Builtin.Range.rangeSize
  rw [if_pos (by decide)]
  by_cases z : (0 : Int) < n
  · rw [if_pos z]
    omega
  · rw [if_neg z]
    omega
theorem rgc2 (n : Nat) (h : n ≤ 4000) (e : n % 2 = 0) : RgC 0 (n : Int) 2 (n / 2) := by
  refine ⟨by decide, by decide, ?_, size2 n e⟩
  unfold Builtin.Range.small
  rw [size2 n e]
  unfold Builtin.Range.rangeFitsLong
  have p : (2 : Int) ^ 63 = 9223372036854775808 := by decide +kernel
  rw [if_pos (by decide), p]
  have an : ∀ {a b : Bool}, a = true → b = true → (a && b) = true := fun h g => by rw [h, g]; rfl
  exact an (an (an (an (an (by decide) (by decide)) (an (decide_eq_true (by omega)) (decide_eq_true (by omega)))) (by decide)) (an (decide_eq_true (by omega)) (decide_eq_true (by omega))))
    (by rw [an (decide_eq_true (show (-9223372036854775808 : Int) ≤ (n : Int) + (2 - 1) by omega)) (decide_eq_true (show (n : Int) + (2 - 1) < 9223372036854775808 by omega)), Bool.or_true])
section
variable {P : Program} {w : World} {K : PySem.W.Frag} {mg : Str → Option Value} {base : Heap} {B C D M fI fT : Addr} {dI dT : FuncData}
structure RdTxt (P : Program) (w : World) (K : PySem.W.Frag) (mg : Str → Option Value) (base : Heap) (fT : Addr) (dT : FuncData) : Prop where
  ok : FnOk P w K mg base CX0 4 fT dT ["sign", "word"] (spRTerm K)
  b : Binds K dT ["sign", "word"] []
  g : mg "_read_term" = some (.ref fT)
  k : PySem.W.keepIn K (.ref fT) = true
theorem scRPoly : FnScope ["text", "words", "terms", "at", "term"] ["text"] (defScope sRPoly) := ⟨rfl, rfl, rfl, by decide +kernel, rfl, by decide +kernel, by decide +kernel⟩
theorem ok_rpoly {f : Addr} {fd : FuncData} (F : Fun K "read_poly" "read_poly" sRPoly f fd) (T : ProgTxt K mg) (U : ValTxt P w K mg base B C D M fI dI) (R : RdTxt P w K mg base fT dT) : FnOk P w K mg base (L2N.CX P w) 5 f fd ["text"] (spRPoly K C) := by
  refine okN F scRPoly (fun vs H Q E h => ?_) (fun cdv A outer s H vs Q E hr h => ?_)
  · obtain ⟨x, rfl, _⟩ := h
    rfl
  · obtain ⟨x, rfl, h⟩ := h
    have h2 : Room 2 _ := hr.mono (by decide)
    obtain ⟨tm, gm⟩ := T.terms
    refine ⟨_, pss_cons (ps_if (pt_not (pt_val (pe_callB call_isi (by rfl) T.isinst (by decide +kernel) (pa_cons (pv 0) (pa_cons (pe_bltn (v := .ty "str") (u := .type "str") (by rfl) T.str (by decide +kernel) (by exact rfl)) pa_nil)))))
        (pss_one (L2N.ps_raise rfl (L2N.takes_of rfl rfl rfl rfl) (pmk_err U.err U.iC U.tI U.ini h2 U.bd pass0 rfl U.gC (pa_cons pe_int pa_nil)))) pss_nil)
      (pss_cons (ps_if (pt_cmpR op_eq (pv 0) pe_str (nomark _)) (pss_one (ps_ret (pe_tup pa_nil))) pss_nil)
      (pss_cons (ps_set (i := 1) scRPoly.nd rfl (Or.inl rfl) (pe_split (pv 0) pe_str))
      (C8.pss_cut (ps_if (pt_cmpR op_ne (pe_ix ix_list (pv 1) pe_int (fun _ _ => rfl)) pe_str (nomark _)) (pss_one (ps_set (i := 1) scRPoly.nd rfl (Or.inl rfl) (pe_op op_cat (pe_lst (pa_cons pe_str pa_nil)) (pv 1)))) pss_nil)
      (pss_cons (ps_if (PW.pt (pw_or (pt_cmpR op_eq (pe_op op_mod (pe_callB call_len_seq (by rfl) T.len PySem.boot_len (pa_cons (pv 1) pa_nil)) pe_int) pe_int (nomark _)) (pw_or1 (pt_cmpR op_gt (pe_callB call_len_seq (by rfl) T.len PySem.boot_len (pa_cons (pv 1) pa_nil)) (pe_op op_mul pe_int (pe_glob (v := .int 2000) (by rfl) gm ⟨tm, rfl⟩)) (nomark _)))))
        (pss_one (L2N.ps_raise rfl (L2N.takes_of rfl rfl rfl rfl) (pmk_err U.err U.iC U.tI U.ini h2 U.bd pass0 rfl U.gC (pa_cons pe_int pa_nil)))) pss_nil)
      (pss_cons (ps_set (i := 2) scRPoly.nd rfl (Or.inl rfl) (pe_lst pa_nil))
      (pss_cons (ps_for (passes_of rfl) rfl (pi_range3 (by rfl) T.range (pa_cons pe_int (pa_cons (pe_callB call_len_seq (by rfl) T.len PySem.boot_len (pa_cons (pv 1) pa_nil)) (pa_cons pe_int pa_nil)))) (pg_name (i := 3) scRPoly.nd rfl (Or.inl rfl))
        (pss_cons (ps_set (i := 4) scRPoly.nd rfl (Or.inl rfl) (pe_call R.ok hr rfl R.g R.k R.b .nil pass0 (pa_cons (pe_ix ix_list (pv 1) (pv 3) (fun _ _ => rfl)) (pa_cons (pe_ix ix_list (pv 1) (pe_op op_add (pv 3) pe_int) (fun _ _ => rfl)) pa_nil))))
        (C8.pss_cut (ps_if (PW.pt (pw_or (pt_cmpR op_isN (pv 4) pe_non (nomark _)) (pw_or1 (PW.pt (pw_and (pt_truth (pv 2) (fun _ => rfl)) (pw_and1 (pt_cmpR (op_geN hr.units) (pe_ix ix_tup (pe_ix ix_list (pv 2) (pe_un un_neg pe_int) (fun _ _ => rfl)) pe_int (fun _ _ => rfl)) (pe_ix ix_tup (pv 4) pe_int (fun _ _ => rfl)) (nomark _))))))))
          (pss_one (L2N.ps_raise rfl (L2N.takes_of rfl rfl rfl rfl) (pmk_err U.err U.iC U.tI U.ini h2 U.bd pass0 rfl U.gC (pa_cons pe_int pa_nil)))) pss_nil)
        (pss_one (ps_expr (pe_bm PySem.F.plainAttrs_list PySem.F.slot_list_append PySem.F.type_list_append mt_append (pv 2) (pa_cons (pv 4) pa_nil)))))))
      (pss_one (ps_ret (pe_callTy call_tuple_of (by rfl) T.tuple (by decide +kernel) (pa_cons (pv 2) pa_nil)))))))))), ?_⟩
    rcases h with ⟨y, rfl, ly, yes, no⟩ | ⟨⟨a, ty, k⟩, go⟩
    · refine isi (K := K) (x := .str y) (b := true) rfl (.str y) (by decide +kernel) ⟨_, rfl, ifN rfl ?_⟩
      refine ⟨_, rfl, rfl, _, rfl, ?_⟩
      by_cases y0 : y = "0"
      · refine ifY (decide_eq_true (by rw [y0])) ⟨by decide, fun p np => yes [] ?_ p _ (same_new np) (kv_poly.mpr ⟨p, [], rfl, upd_same, .nil⟩)⟩
        rw [y0]
        rfl
      · refine ifN (decide_eq_false fun q => y0 (V.str.inj q)) ?_
        obtain ⟨z, r, er⟩ := split_ne y " "
        obtain ⟨w1, w2⟩ := split_len y " " (by decide +kernel)
        have eP : rPoly y = if (signed (Txt.split y " ")).length % 2 = 1 ∨ 4000 < (signed (Txt.split y " ")).length then none else rTab [] (signed (Txt.split y " ")) := by
          unfold rPoly
          rw [if_neg y0]
        refine ⟨_, rfl, ⟨_, rfl⟩, _, _, rfl, rfl, by decide +kernel, by rw [sizeLine_eq]; omega, fun a na => ?_⟩
        have s1 : Same H (upd H a (.lst ((Txt.split y " ").map V.str))) := same_new na
        have a1 : upd H a (.lst ((Txt.split y " ").map V.str)) a = some (.lst ((Txt.split y " ").map V.str)) := upd_same
        generalize upd H a (.lst ((Txt.split y " ").map V.str)) = G1 at s1 a1 ⊢
        refine ⟨fun σ G => ∃ b : Addr, σ = [some (.str y), some (.ref b), none, none, none] ∧ Same H G ∧ G b = some (.lst ((signed (Txt.split y " ")).map V.str)), ?_, ?_⟩
        · have hz : ((Txt.split y " ").map V.str)[0]? = some (V.str z) := by rw [er]; rfl
          refine ⟨_, rfl, a, _, _, _, rfl, rfl, SqL.of a1, (show atI _ ((0 : Nat) : Int) = some (V.str z) from atI_nat hz), rfl, _, rfl, ?_⟩
          by_cases hz : z = "-"
          · refine ifN (by subst hz; simp) ⟨a, rfl, s1, ?_⟩
            rw [a1]
            unfold signed
            rw [if_pos (by rw [er, hz]; rfl)]
          · refine ifY (by simp [hz]) ⟨by decide, fun q nq => ⟨_, rfl, q, a, _, _, rfl, rfl, upd_same, (upd_ne (ne_of_none a1 nq)).trans a1, ?_, fun p np => ⟨p, rfl, (s1.trans (same_new nq)).trans (same_new np), ?_⟩⟩⟩
            · rw [List.length_map, sizeLine_eq]
              show 1 + _ ≤ _
              omega
            · rw [upd_same]
              unfold signed
              rw [if_neg (by rw [er]; exact fun q => hz (Option.some.inj q))]
              rfl
        · rintro σ G ⟨b, rfl, sG, hb⟩
          have r2 : (signed (Txt.split y " ")).length ≤ y.length + 2 := by
            unfold signed
            split
            · omega
            · rw [List.length_cons]; omega
          have r3 : ∀ z ∈ signed (Txt.split y " "), z.length ≤ y.length + 1 := by
            intro z hz
            unfold signed at hz
            split at hz
            · have := w2 z hz; omega
            · rcases List.mem_cons.mp hz with e | hz
              · rw [e, show (("+" : Str)).length = 1 from by decide +kernel]; omega
              · have := w2 z hz; omega
          generalize signed (Txt.split y " ") = ws at eP hb r2 r3 ⊢
          refine ⟨_, rfl, b, _, rfl, .inl (SqL.of hb), _, _, rfl, rfl, (by show (0 : Int) < 2; decide), rfl, _, rfl, ?_⟩
          rw [List.length_map]
          have bad : (ws.length % 2 = 1 ∨ 4000 < ws.length) → tErr C (spIni K C) (tCons (tC (.int 0)) tNil) [some (.str y), some (.ref b), none, none, none] G E := fun h => err_read U ((no (by rw [eP, if_pos h])).up sG)
          by_cases c1 : ws.length % 2 = 1
          · exact ifY (decide_eq_true (congrArg V.int (by omega))) (ifY rfl (bad (.inl c1)))
          refine ifN (decide_eq_false fun q => c1 (by have := V.int.inj q; omega)) ?_
          refine ⟨_, rfl, b, _, rfl, .inl (SqL.of hb), _, _, rfl, rfl, .inr (by decide), _, _, rfl, rfl, _, rfl, ?_⟩
          rw [List.length_map]
          by_cases c2 : 4000 < ws.length
          · exact ifY (decide_eq_true (by omega)) (bad (.inr c2))
          refine ifN (decide_eq_false (by omega)) ?_
          clear bad
          rw [if_neg (by omega)] at eP
          refine ⟨by decide, fun L nL => ?_⟩
          have hb' : upd G L (.lst []) b = some (.lst (ws.map V.str)) := (upd_ne (ne_of_none hb nL)).trans hb
          refine ⟨_, rfl, b, _, rfl, .inl (SqL.of hb'), 0, _, 2, ws.length / 2, rfl, by rw [List.length_map]; exact rgc2 _ (by omega) (by omega), ?_⟩
          refine for_it (walk_rangeC (lo := 0) (c := 2) (n := ws.length / 2)) (fun i σ G' => ∃ (u3 u4 : Option V) (acc : Poly) (vs : List V), σ = [some (.str y), some (.ref b), some (.ref L), u3, u4] ∧ Same G G' ∧ G' L = some (.lst vs) ∧ KeyVs K G' (acc.map termK) vs ∧ rTab [] ws = rTab acc (ws.drop (2 * i)) ∧ acc.length ≤ i)
            ⟨none, none, [], [], rfl, same_new nL, upd_same, .nil, rfl, Nat.le_refl _⟩ (fun _ _ _ _ _ => trivial) (fun i v σ G' G'' hi ⟨u3, u4, acc, vs, hσ, sG', hL, kv, er2, la⟩ ⟨e, ev⟩ => ?_) (fun σ G' ⟨u3, u4, acc, vs, hσ, sG', hL, kv, er2, la⟩ => ?_)
          · subst hσ e ev
            obtain ⟨s0, hs0⟩ : ∃ s0, ws[2 * i]? = some s0 := ⟨_, List.getElem?_eq_getElem (by omega)⟩
            obtain ⟨s1', hs1⟩ : ∃ s1, ws[2 * i + 1]? = some s1 := ⟨_, List.getElem?_eq_getElem (by omega)⟩
            have ed : ws.drop (2 * i) = s0 :: s1' :: ws.drop (2 * (i + 1)) := by
              rw [List.drop_eq_getElem_cons (by omega), List.drop_eq_getElem_cons (by omega)]
              rw [List.getElem?_eq_getElem (by omega)] at hs0 hs1
              rw [Option.some.inj hs0, Option.some.inj hs1]
              rfl
            rw [ed, rTab_step] at er2
            show gName 3 (.int (0 + (i : Nat) * 2)) _ _ _
            rw [show (0 + ((i : Nat) : Int) * 2) = ((2 * i : Nat) : Int) by omega]
            have hb2 := sG' _ _ hb
            have sH := sG.trans sG'
            refine ⟨_, rfl, _, rfl, b, _, _, _, rfl, rfl, SqL.of hb2, atI_nat (by rw [List.getElem?_map, hs0]; rfl), ?_⟩
            refine ⟨_, rfl, _, rfl, _, _, rfl, rfl, b, _, _, _, rfl, rfl, SqL.of hb2, (show atI _ ((2 * i + 1 : Nat) : Int) = some (V.str s1') from atI_nat (by rw [List.getElem?_map, hs1]; rfl)), ?_⟩
            refine ⟨s0, s1', rfl, by have := r3 s1' (List.mem_of_getElem? hs1); omega, fun e H' s' => ?_, fun t e p H' s' kt => ?_⟩
            · refine ⟨fun _ _ => False, ⟨_, rfl, rfl, _, rfl, ifY (decide_eq_true rfl) (ifY rfl ?_)⟩, fun _ _ z => z.elim⟩
              rw [e] at er2
              exact err_read U ((no (by rw [eP]; exact er2)).up (sH.trans s'))
            · rw [e] at er2
              have hL' := s' _ _ hL
              have kv' := KeyVs.up (same_tups (K := K) s') _ _ kv
              have lv := keyVs_len kv
              rw [List.length_map] at lv
              have er3 : lastOk acc t.1 = true → rTab [] ws = rTab (acc ++ [t]) (ws.drop (2 * (i + 1))) := fun h => by rw [er2]; exact if_pos h
              have er4 : lastOk acc t.1 = false → Raises C H' E := fun h => (no (by rw [eP, er2]; exact if_neg (by rw [h]; exact Bool.false_ne_true))).up (sH.trans s')
              refine ⟨fun σ2 H2 => σ2 = [some (.str y), some (.ref b), some (.ref L), some (.int ((2 * i : Nat) : Int)), some (.ref p)] ∧ H2 = H' ∧ lastOk acc t.1 = true, ?_, ?_⟩
              · refine ⟨_, rfl, rfl, _, rfl, ifN (by simp) ?_⟩
                refine ⟨_, rfl, !vs.isEmpty, .inl ⟨vs, SqL.of hL', rfl⟩, ?_⟩
                rcases List.eq_nil_or_concat acc with h | ⟨ini, l, h⟩
                · subst h
                  have : vs = [] := List.length_eq_zero_iff.mp lv
                  subst this
                  exact ifN rfl (ifN rfl ⟨rfl, rfl, rfl⟩)
                · rw [List.concat_eq_append] at h
                  subst h
                  obtain ⟨v2, hv2, k2⟩ := keyVs_at kv' (i := ini.length) (k := termK l) (by rw [List.map_append, List.getElem?_append_right (by rw [List.length_map]; exact Nat.le_refl _), List.length_map, Nat.sub_self]; rfl)
                  obtain ⟨p2, u2, rfl, hp2, ku2⟩ := kv_term.mp k2
                  obtain ⟨p3, u3, e3, hp3, ku3⟩ := kv_term.mp kt
                  cases e3
                  have ev : vs = vs.take ini.length ++ [.ref p2] := by
                    rw [← take_snoc hv2, List.take_of_length_le (by rw [lv, List.length_append]; exact Nat.le_refl _)]
                  have el : atI vs (-1) = some (.ref p2) := by rw [ev]; exact atI_last _ _
                  have ne : (!vs.isEmpty) = true := by rw [ev]; simp
                  rw [ne]
                  have lo : lastOk (ini ++ [l]) t.1 = ltK (monK l.1) (monK t.1) := by
                    unfold lastOk
                    rw [List.getLast?_append]
                    rfl
                  refine ifY rfl ⟨_, rfl, _, rfl, L, vs, _, _, rfl, rfl, SqL.of hL', el, p2, _, _, _, rfl, rfl, SqT.of hp2, (show atI _ ((0 : Nat) : Int) = some u2 from atI_nat rfl), ?_⟩
                  refine ⟨_, rfl, p, _, _, _, rfl, rfl, SqT.of hp3, (show atI _ ((0 : Nat) : Int) = some u3 from atI_nat rfl), ?_⟩
                  refine ⟨monK l.1, monK t.1, ku2, ku3, al_mon _ _, (by unfold monK; exact fun z => by cases z), Nat.le_trans (dep_mon _) (by decide), _, rfl, ?_⟩
                  rw [← lo]
                  cases ql : lastOk (ini ++ [l]) t.1 with
                  | true => exact ifN rfl ⟨rfl, rfl, rfl⟩
                  | false => exact ifY rfl (err_read U (er4 ql))
              · rintro σ2 H2 ⟨rfl, rfl, lo⟩
                refine ⟨_, rfl, .inl ⟨rfl, _, SqL.of hL'⟩, _, rfl, L, vs, _, rfl, rfl, hL', by rw [lv, sizeLine_eq]; omega, ?_⟩
                refine ⟨_, _, acc ++ [t], vs ++ [.ref p], rfl, fun q o e => (upd_ne (ne_of_none e nL)).trans ((sG'.trans s') q o e), upd_same, ?_, er3 lo, by rw [List.length_append]; show acc.length + 1 ≤ i + 1; omega⟩
                have t4 : Tups K H2 (upd H2 L (.lst (vs ++ [.ref p]))) := tups_lst hL'
                rw [List.map_append]
                exact keyVs_app (KeyVs.up t4 _ _ kv') (.cons (KeyV.up t4 _ _ kt) .nil)
          · subst hσ
            have e0 : ws.drop (2 * (ws.length / 2)) = [] := List.drop_of_length_le (by omega)
            rw [e0] at er2
            have er3 : rPoly y = some acc := by rw [eP, er2]; rfl
            refine ⟨_, rfl, L, vs, rfl, .inl ⟨SqL.of hL, fun T nT => yes acc er3 T _ ((sG.trans sG').trans (same_new nT)) (kv_poly.mpr ⟨T, vs, rfl, upd_same, KeyVs.up (same_tups (same_new nT)) _ _ kv⟩)⟩⟩
    · refine isi (K := K) (b := false) rfl ty k ⟨_, rfl, ifY rfl ?_⟩
      show tErr C (spIni K C) (tCons (tC (.int 0)) tNil) _ H _
      exact err_read U go
end
end K6

set_option Elab.async false
set_option linter.all false
set_option maxRecDepth 100000
set_option maxHeartbeats 4000000
set_option autoImplicit false
/-! Texts of terms and of polynomials, as the program writes them. -/
namespace K6
open PySem L2 TL K1D
abbrev sTText : Stmt := top 19
abbrev sPText : Stmt := top 17
/-- what fits on a line -/
structure WT (t : Term) : Prop where
  rl : t.1.length ≤ 10
  nl : ∀ f ∈ t.1, f.1.length ≤ 6
  hl : ∀ f ∈ t.1, f.2.natAbs < 10 ^ 31
  cl : t.2.natAbs < 10 ^ 202
theorem log_of {n k : Nat} (h : n < 2 ^ k) (hk : k ≤ 1920) (k0 : 0 < k) : n.log2 < 1920 := by
  by_cases z : n = 0
  · subst z; decide
  · exact Nat.lt_of_lt_of_le ((Nat.log2_lt z).mpr h) hk
theorem log31 {n : Nat} (h : n < 10 ^ 31) : n.log2 < 1920 := log_of (k := 110) (Nat.lt_of_lt_of_le h (by decide +kernel)) (by decide) (by decide)
theorem log202 {n : Nat} (h : n < 10 ^ 202) : n.log2 < 1920 := log_of (k := 700) (Nat.lt_of_lt_of_le h (by decide +kernel)) (by decide) (by decide)
theorem strI_len {i : Int} {k : Nat} (hk : 0 < k) (h : i.natAbs < 10 ^ k) : (strI i).length ≤ k + 1 := by
  rw [len_tl]
  by_cases z : 0 ≤ i
  · obtain ⟨n, rfl⟩ := Int.eq_ofNat_of_zero_le z
    rw [tl_strI]
    exact Nat.le_succ_of_le (numL_len hk (by omega))
  · obtain ⟨n, rfl⟩ : ∃ n : Nat, i = -((n + 1 : Nat) : Int) := ⟨(-i).toNat - 1, by omega⟩
    have e : tl (strI (-((n + 1 : Nat) : Int))) = 45 :: numL (n + 1) := by
      unfold strI
      rw [tl_ofString, show (-((n + 1 : Nat) : Int)) = Int.negSucc n from rfl, show toString (Int.negSucc n) = "-" ++ toString (n + 1) from rfl, String.toList_append, List.map_append]
      have := tl_num (n + 1)
      rw [tl_ofString] at this
      exact congrArg ([45] ++ ·) this
    rw [e, List.length_cons]
    have := numL_len (n := n + 1) hk (by omega)
    omega
theorem fT_len2 {f : Fac} (h1 : f.1.length ≤ 6) (h2 : f.2.natAbs < 10 ^ 31) : (fT f).length ≤ 39 := by
  unfold fT
  have := strI_len (k := 31) (by decide) h2
  split
  · rw [strLen_append, strLen_append, show (("^" : Str)).length = 1 from by decide +kernel]
    omega
  · omega
theorem joinL_len (s : List Nat) : ∀ ps : List (List Nat), (joinL s ps).length ≤ (ps.map List.length).sum + ps.length * s.length
  | [] => by simp [joinL]
  | [p] => by simp [joinL]
  | p :: q :: r => by
    have ih := joinL_len s (q :: r)
    show (p ++ (s ++ joinL s (q :: r))).length ≤ _
    rw [List.length_append, List.length_append]
    simp only [List.map_cons, List.sum_cons, List.length_cons] at ih ⊢
    have e : (r.length + 1 + 1) * s.length = s.length + (r.length + 1) * s.length := by rw [Nat.succ_mul (r.length + 1)]; omega
    omega
theorem sum_le {c : Nat} : ∀ {l : List Nat}, (∀ x ∈ l, x ≤ c) → l.sum ≤ l.length * c
  | [], _ => Nat.zero_le _
  | a :: l, h => by
    rw [List.sum_cons, List.length_cons, Nat.succ_mul]
    have := h a List.mem_cons_self
    have := sum_le fun x hx => h x (List.mem_cons_of_mem _ hx)
    omega
theorem join_len {y : Str} (hy : y.length = 1) {ws : List Str} {c : Nat} (h : ∀ w ∈ ws, w.length ≤ c) : (ws.map (·.length)).sum + ws.length * y.length ≤ ws.length * (c + 1) ∧ (Txt.join y ws).length ≤ ws.length * (c + 1) := by
  have s1 : (ws.map (·.length)).sum ≤ ws.length * c := by
    have := sum_le (c := c) (l := ws.map (·.length)) fun x hx => by
      obtain ⟨w, hw, rfl⟩ := List.mem_map.mp hx
      exact h w hw
    rwa [List.length_map] at this
  have s2 : (ws.map (·.length)).sum + ws.length * y.length ≤ ws.length * (c + 1) := by
    rw [hy, Nat.mul_one, Nat.mul_succ]
    omega
  refine ⟨s2, ?_⟩
  rw [join_eq, len_tl, tl_join]
  refine Nat.le_trans (joinL_len _ _) ?_
  rw [List.length_map, List.map_map, ← len_tl]
  have e : (ws.map (List.length ∘ tl)) = ws.map (·.length) := List.map_congr_left fun z _ => (len_tl z).symm
  rw [e]
  exact s2
theorem parts_len {t : Term} (h : WT t) {z : Int} (hz : z.natAbs < 10 ^ 202) : (parts t.1 z).length ≤ 11 ∧ ∀ p ∈ parts t.1 z, p.length ≤ 203 := by
  unfold parts
  refine ⟨?_, fun p hp => ?_⟩
  · rw [List.length_append, List.length_map]
    have := h.rl
    split
    · show 1 + _ ≤ _; omega
    · show 0 + _ ≤ _; omega
  · rcases List.mem_append.mp hp with hp | hp
    · split at hp
      · rw [List.mem_singleton.mp hp]
        exact strI_len (by decide) hz
      · cases hp
    · obtain ⟨f, hf, rfl⟩ := List.mem_map.mp hp
      exact Nat.le_trans (fT_len2 (h.nl f hf) (h.hl f hf)) (by decide)
theorem tText_len {t : Term} (h : WT t) {z : Int} (hz : z.natAbs < 10 ^ 202) : (tText t.1 z).length ≤ 2244 := by
  obtain ⟨h1, h2⟩ := parts_len h hz
  have := (join_len (y := "*") (by decide +kernel) h2).2
  unfold tText
  omega
theorem absI_lt {c : Int} {k : Nat} (h : c.natAbs < k) : (absI c).natAbs < k := by unfold absI; omega
theorem flat_len2 {p : Poly} (h : ∀ t ∈ p, WT t) : ∀ w ∈ flat p, w.length ≤ 2244 := by
  intro w hw
  rcases flat_mem hw with e | e | ⟨t, ht, e⟩
  · rw [e]; decide +kernel
  · rw [e]; decide +kernel
  · rw [e]
    exact tText_len (h t ht) (absI_lt (h t ht).cl)
theorem pWords_len (p : Poly) : (pWords p).length ≤ 2 * p.length := by
  rw [← flat_len]
  unfold pWords
  cases flat p with
  | nil => exact Nat.le_refl _
  | cons w r =>
    show (if w = "+" then r else w :: r).length ≤ _
    split
    · exact Nat.le_succ _
    · exact Nat.le_refl _
theorem pText_len {p : Poly} (h : ∀ t ∈ p, WT t) : (pText p).length ≤ 4490 * p.length + 1 := by
  unfold pText
  split
  · exact Nat.le_trans (by decide +kernel : (("0" : Str)).length ≤ 1) (by omega)
  · have h1 := (join_len (y := " ") (by decide +kernel) (c := 2244) fun w hw => flat_len2 h w (pWords_mem hw)).2
    have := pWords_len p
    have : (pWords p).length * 2245 ≤ (2 * p.length) * 2245 := Nat.mul_le_mul_right _ this
    omega
theorem OkT.wt {t : Term} (h : OkT t) (rl : t.1.length ≤ 10) : WT t := by
  refine ⟨rl, fun f hf => ?_, fun f hf => ?_, ?_⟩
  · rw [len_tl]; exact (var_signs (h.m.ok f hf).v).2.2.2
  · have := (h.m.ok f hf).e1
    have := (h.m.ok f hf).e40
    exact Nat.lt_of_le_of_lt (by omega : f.2.natAbs ≤ 40) (by decide)
  · have h1 := h.lt
    unfold absI at h1
    have e : ((10 ^ 200 : Nat) : Int) = 10 ^ 200 := by rw [Int.natCast_pow]; rfl
    rw [← e] at h1
    exact Nat.lt_of_lt_of_le (Int.ofNat_lt.mp h1) (Nat.pow_le_pow_right (by decide) (by decide))
/-! ### sizes -/
structure WS (t : Term) : Prop where
  nl : ∀ f ∈ t.1, f.1.length ≤ 6
  hl : ∀ f ∈ t.1, f.2.natAbs < 10 ^ 31
  cl : t.2.natAbs < 10 ^ 202
theorem WT.ws {t : Term} (h : WT t) : WS t := ⟨h.nl, h.hl, h.cl⟩
theorem OkT.ws {t : Term} (h : OkT t) : WS t := by
  refine ⟨fun f hf => ?_, fun f hf => ?_, ?_⟩
  · rw [len_tl]; exact (var_signs (h.m.ok f hf).v).2.2.2
  · have := (h.m.ok f hf).e1
    have := (h.m.ok f hf).e40
    exact Nat.lt_of_le_of_lt (by omega : f.2.natAbs ≤ 40) (by decide)
  · have h1 := h.lt
    unfold absI at h1
    have e : ((10 ^ 200 : Nat) : Int) = 10 ^ 200 := by rw [Int.natCast_pow]; rfl
    rw [← e] at h1
    exact Nat.lt_of_lt_of_le (Int.ofNat_lt.mp h1) (Nat.pow_le_pow_right (by decide) (by decide))
def szL (ws : List Str) : Nat := (ws.map (·.length)).sum + ws.length
def szT (t : Term) : Nat := szL (parts t.1 (absI t.2))
def szP (p : Poly) : Nat := (p.map fun t => szT t + 3).sum
theorem szL_cons (w : Str) (ws : List Str) : szL (w :: ws) = w.length + 1 + szL ws := by
  unfold szL
  rw [List.map_cons, List.sum_cons, List.length_cons]
  omega
theorem szL_app (a b : List Str) : szL (a ++ b) = szL a + szL b := by
  unfold szL
  rw [List.map_append, List.sum_append, List.length_append]
  omega
theorem join_sz {y : Str} (hy : y.length = 1) (ws : List Str) : (ws.map (·.length)).sum + ws.length * y.length = szL ws ∧ (Txt.join y ws).length ≤ szL ws := by
  have s2 : (ws.map (·.length)).sum + ws.length * y.length = szL ws := by
    rw [hy, Nat.mul_one]
    rfl
  refine ⟨s2, ?_⟩
  rw [join_eq, len_tl, tl_join]
  refine Nat.le_trans (joinL_len _ _) ?_
  rw [List.length_map, List.map_map, ← len_tl]
  have e : (ws.map (List.length ∘ tl)) = ws.map (·.length) := List.map_congr_left fun z _ => (len_tl z).symm
  rw [e]
  exact Nat.le_of_eq s2
theorem tText_sz (t : Term) : (tText t.1 (absI t.2)).length ≤ szT t := (join_sz (y := "*") (by decide +kernel) _).2
theorem sg_len (c : Int) : (sg c).length = 1 := by
  unfold sg
  split <;> decide +kernel
theorem flat_sz : ∀ p : Poly, szL (flat p) ≤ szP p
  | [] => Nat.le_refl _
  | t :: p => by
    show szL (sg t.2 :: tText t.1 (absI t.2) :: flat p) ≤ _
    unfold szP
    rw [szL_cons, szL_cons, sg_len, List.map_cons, List.sum_cons]
    have := flat_sz p
    have := tText_sz t
    unfold szP at *
    omega
theorem pWords_sz (p : Poly) : szL (pWords p) ≤ szP p := by
  refine Nat.le_trans ?_ (flat_sz p)
  unfold pWords
  cases flat p with
  | nil => exact Nat.le_refl _
  | cons w r =>
    show szL (if w = "+" then r else w :: r) ≤ _
    split
    · rw [szL_cons]; omega
    · exact Nat.le_refl _
theorem pText_sz (p : Poly) : (pText p).length ≤ szP p + 1 := by
  unfold pText
  split
  · exact Nat.le_trans (by decide +kernel : (("0" : Str)).length ≤ 1) (by omega)
  · have := (join_sz (y := " ") (by decide +kernel) (pWords p)).2
    have := pWords_sz p
    omega
theorem szT_mem {p : Poly} {t : Term} (h : t ∈ p) : szT t + 3 ≤ szP p := by
  unfold szP
  induction p with
  | nil => cases h
  | cons x p ih =>
    rw [List.map_cons, List.sum_cons]
    rcases List.mem_cons.mp h with e | h
    · rw [e]; omega
    · have := ih h; omega
theorem row_szT (t : Term) : t.1.length ≤ szT t := by
  unfold szT szL parts
  rw [List.length_append, List.length_map]
  omega
theorem WT.sz {t : Term} (h : WT t) : szT t ≤ 2244 := by
  obtain ⟨h1, h2⟩ := parts_len h (absI_lt h.cl)
  have h3 := (join_len (y := "*") (by decide +kernel) h2).1
  rw [(join_sz (y := "*") (by decide +kernel) _).1] at h3
  unfold szT
  omega
theorem szP_le {c : Nat} {p : Poly} (h : ∀ t ∈ p, szT t ≤ c) : szP p ≤ p.length * (c + 3) := by
  unfold szP
  have := sum_le (c := c + 3) (l := p.map fun t => szT t + 3) fun x hx => by
    obtain ⟨t, ht, rfl⟩ := List.mem_map.mp hx
    have := h t ht
    omega
  rwa [List.length_map] at this
theorem szP_perm {p q : Poly} (h : p.Perm q) : szP p = szP q := (h.map _).sum_nat
end K6

set_option Elab.async false
set_option linter.all false
set_option maxRecDepth 100000
set_option maxHeartbeats 4000000
set_option autoImplicit false
set_option pp.maxSteps 600
/-! poly_text: the program's. -/
namespace K6
open PySem L2 TL K1D
def spTText (K : PySem.W.Frag) : Sp := fun vs H Q _ => ∃ (a : Addr) (t : Term) (z : Int), vs = [.ref a, .int z] ∧ KeyV K H (monK t.1) (.ref a) ∧ WT t ∧ (∀ f ∈ t.1, 1 ≤ f.2) ∧ 0 < z ∧ z.natAbs < 10 ^ 202 ∧ ∀ H', Same H H' → Q (.str (tText t.1 z)) H'
def spPText (K : PySem.W.Frag) : Sp := fun vs H Q _ => ∃ (a : Addr) (p : Poly), vs = [.ref a] ∧ KeyV K H (polyK p) (.ref a) ∧ (∀ t ∈ p, OkT t ∧ WT t) ∧ p.length ≤ 2001 ∧ ∀ H', Same H H' → Q (.str (pText p)) H'
section
variable {P : Program} {w : World} {K : PySem.W.Frag} {mg : Str → Option Value} {base : Heap} {fT : Addr} {dT : FuncData}
theorem scTText : FnScope ["monomial", "size", "name", "exponent", "factors"] ["monomial", "size"] (defScope sTText) := ⟨rfl, rfl, rfl, by decide +kernel, rfl, by decide +kernel, by decide +kernel⟩
theorem ok_ttext {f : Addr} {fd : FuncData} (F : Fun K "_term_text" "_term_text" sTText f fd) (T : ProgTxt K mg) : FnOk P w K mg base CX0 1 f fd ["monomial", "size"] (spTText K) := by
  refine F.ok scTText (fun vs H Q E h => ?_) (fun cdv A outer s H vs Q E hr h => ?_)
  · obtain ⟨a, t, z, rfl, _⟩ := h
    rfl
  · obtain ⟨a, t, z, rfl, ka, wt, e1, z0, z2, go⟩ := h
    refine ⟨_, pss_cons (ps_setLc (i := 4) (own := [("name", 2), ("exponent", 3)]) (g := gTup K 2 (gCons (gName 2) (gCons (gName 3) gNil))) rfl scTText.nd rfl rfl (sw_true rfl rfl rfl (by decide +kernel)) (pi_tup (pv 0))
          (blkOk_by (own := [("name", 2), ("exponent", 3)]) (N := ["monomial", "size", "name", "exponent", "factors"]) (sc := defScope sTText) (by decide +kernel))
          (fun _ _ _ _ _ => pg_tup rfl (pgs_cons (pg_name (i := 2) scTText.nd rfl (Or.inl rfl)) (pgs_cons (pg_name (i := 3) scTText.nd rfl (Or.inl rfl)) pgs_nil))) (fun _ _ _ _ _ => pts_nil)
          (fun _ _ _ _ _ => pe_ifExp (pt_cmpR op_eq (pv 3) pe_int (nomark _)) (pv 2) (pe_joined (.cons (pe_fmt (pv 2)) (.cons pe_str (.cons (pe_fmt (pv 3)) .nil))))))
      (C8.pss_cut (ps_if (PW.pt (pw_or (pt_cmpR op_ne (pv 1) pe_int (nomark _)) (pw_or1 (pt_not (pt_truth (pv 4) (fun _ => rfl)))))) (pss_one (ps_set (i := 4) scTText.nd rfl (Or.inl rfl) (pe_op op_cat (pe_lst (pa_cons (pe_callTy call_str_int (by rfl) T.str (by decide +kernel) (pa_cons (pv 1) pa_nil)) pa_nil)) (pv 4)))) pss_nil)
      (pss_one (ps_ret (pe_join pe_str (pv 4))))), ?_⟩
    obtain ⟨p, xs, e, hp, kx⟩ := kv_mon.mp ka
    cases e
    have lx := keyVs_len kx
    rw [List.length_map] at lx
    have rl := wt.rl
    refine ⟨_, rfl, a, rfl, ⟨_, SqT.of hp⟩, fun D nD => ?_⟩
    refine lc_it (walk_tup (K := K) (a := a) (xs := xs)) (fun i G => Same H G ∧ G D = some (.lst (((t.1.take i).map fT).map V.str))) ⟨same_new nD, upd_same⟩ (fun i G _ h => SqT.of (h.1 _ _ hp)) (fun i v G G' hi ⟨sG, hD⟩ ⟨e, hv⟩ => ?_) (fun G ⟨sG, hD⟩ => ?_)
    · subst e
      obtain ⟨k, hk, kv⟩ := keyVs_get kx hv
      rw [List.getElem?_map] at hk
      obtain ⟨f, hf, rfl⟩ : ∃ f, t.1[i]? = some f ∧ k = facK f := by
        cases q : t.1[i]? with
        | none => rw [q] at hk; cases hk
        | some f => rw [q] at hk; exact ⟨f, rfl, (Option.some.inj hk).symm⟩
      have mf := List.mem_of_getElem? hf
      obtain ⟨q, rfl, hq⟩ := kv_fac.mp kv
      have fin : ∃ acc, G' D = some (.lst acc) ∧ acc.length < sizeLine ∧ (Same H (upd G' D (.lst (acc ++ [.str (fT f)]))) ∧ upd G' D (.lst (acc ++ [.str (fT f)])) D = some (.lst (((t.1.take (i + 1)).map fT).map V.str))) := by
        refine ⟨_, hD, ?_, fun b o e => (upd_ne (ne_of_none e nD)).trans (sG b o e), ?_⟩
        · rw [List.length_map, List.length_map, List.length_take, sizeLine_eq]
          omega
        · rw [upd_same, take_snoc hf, List.map_append, List.map_append]
          rfl
      refine ⟨q, _, rfl, SqT.of (sG _ _ hq), rfl, _, _, rfl, _, _, rfl, rfl, rfl, ?_⟩
      refine ⟨_, rfl, rfl, _, rfl, ?_⟩
      have h1 := e1 f mf
      by_cases q1 : f.2 = 1
      · refine ifY (decide_eq_true (by rw [q1])) ⟨_, rfl, ?_⟩
        have ef : fT f = f.1 := by
          unfold fT
          rw [if_neg (by omega)]
        rw [ef] at fin
        exact fin
      · refine ifN (decide_eq_false fun q => q1 (V.int.inj q)) ?_
        have l1 := wt.nl f mf
        have l2 := strI_len (k := 31) (by decide) (wt.hl f mf)
        have l3 : (("^" : Str)).length = 1 := by decide +kernel
        have l0 : (Str.empty : Str).length = 0 := by decide +kernel
        have ef : Str.empty ++ f.1 ++ "^" ++ strI f.2 = fT f := ext_tl (by
          rw [tl_fT, if_pos (by omega)]
          simp only [tl_append, tl_hat, show tl (Str.empty : Str) = [] from by decide +kernel, List.nil_append, List.append_assoc]
          rfl)
        refine ⟨_, rfl, .inl ⟨_, rfl, by rw [sizeLine_eq]; omega, _, rfl, by rw [strLen_append, sizeLine_eq]; omega, ?_⟩⟩
        refine ⟨_, rfl, by rw [strLen_append, strLen_append, sizeLine_eq]; omega, _, rfl, .inr ⟨_, rfl, log31 (wt.hl f mf), _, rfl, ?_, ?_⟩⟩
        · show (Str.empty ++ f.1 ++ "^" ++ strI f.2).length ≤ _
          rw [strLen_append, strLen_append, strLen_append, sizeLine_eq]
          omega
        · show ∃ acc, G' D = some (.lst acc) ∧ acc.length < sizeLine ∧ (Same H (upd G' D (.lst (acc ++ [.str (Str.empty ++ f.1 ++ "^" ++ strI f.2)]))) ∧ upd G' D (.lst (acc ++ [.str (Str.empty ++ f.1 ++ "^" ++ strI f.2)])) D = some (.lst (((t.1.take (i + 1)).map fT).map V.str)))
          rw [ef]
          exact fin
    · rw [lx, List.take_length] at hD
      have hP : parts t.1 z = if 1 < z ∨ t.1 = [] then strI z :: t.1.map fT else t.1.map fT := by
        unfold parts
        split <;> rfl
      refine ⟨fun σ G2 => ∃ q : Addr, σ = [some (.ref a), some (.int z), none, none, some (.ref q)] ∧ Same H G2 ∧ G2 q = some (.lst ((parts t.1 z).map V.str)), ?_, ?_⟩
      · refine ⟨_, rfl, rfl, _, rfl, ?_⟩
        have add : 1 < z ∨ t.1 = [] → tSeq (tAsg (tOp rCat (tLst (tCons (tCB (fun xs H Q => ∃ i : Int, xs = [.int i] ∧ i.natAbs.log2 < 1920 ∧ Q (.str (toString i)) H) (tCons (tVar 1) tNil)) tNil)) (tVar 4)) (gName 4)) tNext { nx := fun σ G2 => ∃ q : Addr, σ = [some (.ref a), some (.int z), none, none, some (.ref q)] ∧ Same H G2 ∧ G2 q = some (.lst ((parts t.1 z).map V.str)), rt := Q } [some (.ref a), some (.int z), none, none, some (.ref D)] G := by
          intro hc
          refine ⟨_, rfl, z, rfl, log202 z2, by show 1 ≤ sizeLine; decide, fun q nq => ⟨_, rfl, q, D, _, _, rfl, rfl, upd_same, (upd_ne (ne_of_none hD nq)).trans hD, ?_, fun r nr => ⟨r, rfl, (sG.trans (same_new nq)).trans (same_new nr), ?_⟩⟩⟩
          · rw [List.length_map, List.length_map, sizeLine_eq]
            show 1 + _ ≤ _
            omega
          · rw [upd_same, hP, if_pos hc]
            rfl
        by_cases z1 : z = 1
        · refine ifN (by rw [z1]; rfl) ⟨_, rfl, !((t.1.map fT).map V.str).isEmpty, .inl ⟨_, SqL.of hD, rfl⟩, ?_⟩
          by_cases t0 : t.1 = []
          · refine ifY (by rw [t0]; rfl) (add (.inr t0))
          · refine ifN ?_ ⟨D, rfl, sG, ?_⟩
            · cases q : t.1 with
              | nil => exact absurd q t0
              | cons x r => rfl
            · rw [hD, hP, if_neg (by rintro (h | h); exact absurd h (by omega); exact t0 h)]
        · refine ifY ?_ (add (.inl (by omega)))
          rw [decide_eq_false fun q => z1 (V.int.inj q)]
          rfl
      · rintro σ G2 ⟨q, rfl, s2, hq⟩
        obtain ⟨p1, p2⟩ := parts_len wt z2
        have := (join_len (y := "*") (by decide +kernel) p2).1
        refine ⟨⟨_, rfl⟩, _, rfl, _, q, parts t.1 z, rfl, rfl, .inl (SqL.of hq), by omega, go G2 s2⟩
theorem abs_eq (i : Int) : (if i < 0 then -i else i) = absI i := by
  unfold absI
  split <;> omega
theorem flat_snoc : ∀ (p : Poly) (t : Term), flat (p ++ [t]) = flat p ++ [sg t.2, tText t.1 (absI t.2)]
  | [], t => rfl
  | x :: p, t => by
    show sg x.2 :: tText x.1 (absI x.2) :: flat (p ++ [t]) = _
    rw [flat_snoc p t]
    rfl
theorem term_at {K : PySem.W.Frag} {H : Hp} {p : Poly} {xs : List V} (h : KeyVs K H (p.map termK) xs) {i : Nat} {v : V} (e : xs[i]? = some v) : ∃ t, p[i]? = some t ∧ KeyV K H (termK t) v := by
  obtain ⟨k, hk, kv⟩ := keyVs_get h e
  rw [List.getElem?_map] at hk
  cases q : p[i]? with
  | none => rw [q] at hk; cases hk
  | some t =>
    rw [q] at hk
    cases hk
    exact ⟨t, rfl, kv⟩
theorem mon_ref {K : PySem.W.Frag} {H : Hp} {m : Mon} {v : V} (h : KeyV K H (monK m) v) : ∃ p : Addr, v = .ref p := by
  obtain ⟨p, _, e, _⟩ := kv_mon.mp h
  exact ⟨p, e⟩
theorem scPText : FnScope ["p", "words", "monomial", "many"] ["p"] (defScope sPText) := ⟨rfl, rfl, rfl, by decide +kernel, rfl, by decide +kernel, by decide +kernel⟩
theorem ok_ptext {f : Addr} {fd : FuncData} (F : Fun K "poly_text" "poly_text" sPText f fd) (T : ProgTxt K mg) (GT : FnOk P w K mg base CX0 1 fT dT ["monomial", "size"] (spTText K)) (bT : Binds K dT ["monomial", "size"] []) (gT : mg "_term_text" = some (.ref fT)) (kT : PySem.W.keepIn K (.ref fT) = true) :
    FnOk P w K mg base CX0 2 f fd ["p"] (spPText K) := by
  refine F.ok scPText (fun vs H Q E h => ?_) (fun cdv A outer s H vs Q E hr h => ?_)
  · obtain ⟨a, p, rfl, _⟩ := h
    rfl
  · obtain ⟨a, p, rfl, ka, ok, lp, go⟩ := h
    refine ⟨_, pss_cons (ps_set (i := 1) scPText.nd rfl (Or.inl rfl) (pe_lst pa_nil))
      (pss_cons (ps_for PassesOwn.never rfl (pi_tup (pv 0)) (pg_tup (by rfl) (pgs_cons (pg_name (i := 2) scPText.nd rfl (Or.inl rfl)) (pgs_cons (pg_name (i := 3) scPText.nd rfl (Or.inl rfl)) pgs_nil)))
        (pss_cons (ps_expr (pe_bm PySem.F.plainAttrs_list PySem.F.slot_list_append PySem.F.type_list_append mt_append (pv 1) (pa_cons (pe_ifExp (pt_cmpR op_lt (pv 3) pe_int (nomark _)) pe_str pe_str) pa_nil)))
        (pss_one (ps_expr (pe_bm PySem.F.plainAttrs_list PySem.F.slot_list_append PySem.F.type_list_append mt_append (pv 1) (pa_cons (pe_call GT hr rfl gT kT bT .nil pass0 (pa_cons (pv 2) (pa_cons (pe_callB call_abs (by rfl) T.abs (by decide +kernel) (pa_cons (pv 3) pa_nil)) pa_nil))) pa_nil))))))
      (pss_cons (ps_if (pt_not (pt_truth (pv 1) (fun _ => rfl))) (pss_one (ps_ret pe_str)) pss_nil)
      (C8.pss_cut (ps_if (pt_cmpR op_eq (pe_ix ix_list (pv 1) pe_int (fun _ _ => rfl)) pe_str (nomark _)) (pss_one (ps_set (i := 1) scPText.nd rfl (Or.inl rfl) (pe_slice sl_list (pv 1) (po_some pe_int) po_none))) pss_nil)
      (pss_one (ps_ret (pe_join pe_str (pv 1))))))), ?_⟩
    obtain ⟨q, xs, e, hp, kx⟩ := kv_poly.mp ka
    cases e
    have lx := keyVs_len kx
    rw [List.length_map] at lx
    refine ⟨by decide, fun L nL => ?_⟩
    have s1 : Same H (upd H L (.lst [])) := same_new nL
    refine ⟨_, rfl, a, rfl, ⟨_, SqT.of (s1 _ _ hp)⟩, ?_⟩
    refine for_it (walk_tup (K := K) (a := a) (xs := xs)) (fun i σ G => ∃ u2 u3 : Option V, σ = [some (.ref a), some (.ref L), u2, u3] ∧ Same H G ∧ G L = some (.lst ((flat (p.take i)).map V.str)))
      ⟨none, none, rfl, s1, upd_same⟩ (fun i σ G _ ⟨_, _, _, sG, _⟩ => SqT.of (sG _ _ hp)) (fun i v σ G G' hi ⟨u2, u3, hσ, sG, hL⟩ ⟨e, hv⟩ => ?_) (fun σ G ⟨u2, u3, hσ, sG, hL⟩ => ?_)
    · subst hσ e
      obtain ⟨t, ht, kt⟩ := term_at kx hv
      obtain ⟨q2, u, rfl, hq, km⟩ := kv_term.mp kt
      obtain ⟨m, rfl⟩ := mon_ref km
      have mt := List.mem_of_getElem? ht
      obtain ⟨okt, wt⟩ := ok t mt
      have lL : (flat (p.take i)).length ≤ 4002 := by
        rw [flat_len, List.length_take]
        omega
      refine ⟨q2, _, rfl, SqT.of (sG _ _ hq), rfl, _, _, rfl, _, _, rfl, rfl, ?_⟩
      refine ⟨_, rfl, .inl ⟨rfl, _, SqL.of hL⟩, _, rfl, _, _, rfl, rfl, _, rfl, ?_⟩
      by_cases c0 : t.2 < 0
      case' pos =>
        refine ifY (decide_eq_true c0) ?_
        have es : sg t.2 = "-" := if_pos c0
      case' neg =>
        refine ifN (decide_eq_false c0) ?_
        have es : sg t.2 = "+" := if_neg c0
      all_goals
        refine ⟨L, _, _, rfl, rfl, hL, by rw [List.length_map, sizeLine_eq]; omega, ?_⟩
        rw [← es]
        have hL2 : upd G' L (.lst ((flat (p.take i)).map V.str ++ [.str (sg t.2)])) L = some (.lst ((flat (p.take i)).map V.str ++ [.str (sg t.2)])) := upd_same
        have s2 : Same H (upd G' L (.lst ((flat (p.take i)).map V.str ++ [.str (sg t.2)]))) := fun b o e => (upd_ne (ne_of_none e nL)).trans (sG b o e)
        have km2 := KeyV.up (same_tups (K := K) s2) _ _ km
        generalize upd G' L (.lst ((flat (p.take i)).map V.str ++ [.str (sg t.2)])) = G2 at hL2 s2 km2 ⊢
        refine ⟨_, rfl, .inl ⟨rfl, _, SqL.of hL2⟩, _, rfl, _, rfl, _, rfl, m, t, _, rfl, km2, wt, fun f hf => (okt.m.ok f hf).e1, by rw [abs_eq]; exact absI_pos okt.ne, by rw [abs_eq]; exact absI_lt wt.cl, fun G3 s3 => ?_⟩
        refine ⟨L, _, _, rfl, rfl, s3 _ _ hL2, by rw [List.length_append, List.length_map, sizeLine_eq]; show _ + 1 < _; omega, ?_⟩
        rw [abs_eq]
        refine ⟨_, _, rfl, fun b o e => (upd_ne (ne_of_none e nL)).trans ((s2.trans s3) b o e), ?_⟩
        rw [upd_same, take_snoc ht, flat_snoc, List.map_append, List.append_assoc]
        rfl
    · subst hσ
      rw [lx, List.take_length] at hL
      refine ⟨_, rfl, !((flat p).map V.str).isEmpty, .inl ⟨_, SqL.of hL, rfl⟩, ?_⟩
      by_cases p0 : p = []
      · subst p0
        exact ifY rfl (go G sG)
      · obtain ⟨w0, r0, ef⟩ : ∃ w0 r0, flat p = w0 :: r0 := by
          cases p with
          | nil => exact absurd rfl p0
          | cons t r => exact ⟨_, _, rfl⟩
        refine ifN (by rw [ef]; rfl) ?_
        have ep : pText p = Txt.join " " (pWords p) := by
          unfold pText
          rw [if_neg p0]
        have ew : pWords p = if w0 = "+" then r0 else w0 :: r0 := by
          unfold pWords
          rw [ef]
          rfl
        refine ⟨fun σ G2 => ∃ q : Addr, σ = [some (.ref a), some (.ref q), u2, u3] ∧ Same H G2 ∧ G2 q = some (.lst ((pWords p).map V.str)), ?_, ?_⟩
        · refine ⟨_, rfl, L, _, _, _, rfl, rfl, SqL.of hL, (show atI _ ((0 : Nat) : Int) = some (V.str w0) from atI_nat (by rw [ef]; rfl)), rfl, _, rfl, ?_⟩
          by_cases c0 : w0 = "+"
          · refine ifY (decide_eq_true (by rw [c0])) ⟨_, rfl, _, rfl, L, _, rfl, SqL.of hL, fun q nq => ⟨q, rfl, sG.trans (same_new nq), ?_⟩⟩
            rw [upd_same, ew, if_pos c0, ef]
            rw [show cutV ((w0 :: r0).map V.str) (some 1) none = r0.map V.str from cut_tail _ _]
          · refine ifN (decide_eq_false fun q => c0 (V.str.inj q)) ⟨L, rfl, sG, ?_⟩
            rw [hL, ew, if_neg c0, ef]
        · rintro σ G2 ⟨q, rfl, s2, hq⟩
          have h1 := (join_len (y := " ") (by decide +kernel) (c := 2244) fun w hw => flat_len2 (fun t ht => (ok t ht).2) w (pWords_mem hw)).1
          have h2 := pWords_len p
          have : (pWords p).length * 2245 ≤ (2 * p.length) * 2245 := Nat.mul_le_mul_right _ h2
          rw [ep] at go
          exact ⟨⟨_, rfl⟩, _, rfl, _, q, pWords p, rfl, rfl, .inl (SqL.of hq), by omega, go G2 s2⟩
end
end K6

set_option Elab.async false
set_option linter.all false
set_option maxRecDepth 100000
set_option maxHeartbeats 4000000
set_option autoImplicit false
/-! zip of a list and a text; a text times a number; list of a text. -/
namespace L2
open PySem PySem.Spec PyProof.Rows
/-- the list at a as it stands at each turn, and the signs of z, in new pairs -/
def Itzs (K : PySem.W.Frag) (a : Addr) (z : Str) : It :=
  ⟨fun i H => ∃ (xs : List V) (x : V) (c : Nat), SqL K H a xs ∧ xs[i]? = some x ∧ z.cps[i]? = some c,
    fun i H v H' => ∃ T x c, v = .ref T ∧ H T = none ∧ H' = upd H T (.tup [x, .str ⟨#[c]⟩]) ∧ (∀ xs, SqL K H a xs → xs[i]? = some x) ∧ z.cps[i]? = some c,
    fun i H => ∃ xs : List V, SqL K H a xs ∧ i = min xs.length z.cps.size⟩
section
variable {P : Program} {w : World} {K : PySem.W.Frag} {elts : List Expr} {kk : Nat} {tpos : Pos}
theorem turn_zipS {a N : Addr} {z : Str} {t : Tok} (ha : a < N) :
    Turn P w K (.Tuple elts kk tpos) (Itzs K a z) [N + 4, N + 2, N + 3, N, N + 1] (N + 4)
      (fun i h => IsZip h (N + 4) (N + 2) (N + 3) .none ∧ IsTupOf2 h (N + 2) (.ref N) (.ref (N + 1)) ∧ (∃ a1 a2, IsTupOf2 h (N + 3) a1 a2) ∧ h.IsListIter N a i ∧ h.IsStrIter (N + 1) (strIterType z) z t i) where
  mem := by simp
  obj := fun i h st c hc => by
    obtain ⟨hz, hTI, ⟨x, y, hTO⟩, ⟨o1, e1, _, d1⟩, ⟨o2, e2, _, d2⟩⟩ := st
    have e' : c = N + 4 ∨ c = N + 2 ∨ c = N + 3 ∨ c = N ∨ c = N + 1 := by simpa using hc
    rcases e' with q | q | q | q | q
    · rw [q]; exact ⟨_, hz, fun v q => nomatch q⟩
    · rw [q]; exact ⟨_, hTI, fun v q => nomatch q⟩
    · rw [q]; exact ⟨_, hTO, fun v q => nomatch q⟩
    · rw [q]; exact ⟨o1, e1, fun v q => by rw [d1] at q; cases q⟩
    · rw [q]; exact ⟨o2, e2, fun v q => by rw [d2] at q; cases q⟩
  keep := fun i h h' st k => by
    obtain ⟨hz, hTI, ⟨x, y, hTO⟩, h1, h2⟩ := st
    exact ⟨k _ (by simp) _ hz, k _ (by simp) _ hTI, ⟨x, y, k _ (by simp) _ hTO⟩, h1.at fun o q => k _ (by simp) o q, by obtain ⟨o2, e2, r⟩ := h2; exact ⟨o2, k _ (by simp) o2 e2, r⟩⟩
  item := by
    intro X hP hw hK hc i pins s σ H E I hf st hg
    subst hP hw hK
    obtain ⟨hz, hTI, hTO, h1, h2⟩ := st
    obtain ⟨xs, x, c, hq, hx, hcz⟩ := hg
    obtain ⟨its, rv, p, _⟩ := I.list hq
    obtain ⟨u, hu, ru⟩ := rv.get hx
    have hh : X.A.in1.handled = none := I.ok.hd hc
    have W := GoesN.zip2 (prog := X.prog) (w := X.w) (A := X.A) (elts := elts) (x1 := kk) (pos := tpos) (zip_sep2 (N := N) (fp1 := [a]) (fp2 := []) (fun b hb => by rw [List.mem_singleton.mp hb]; exact ha) (fun b hb => nomatch hb))
      (Draws.list (prog := X.prog) (w := X.w) (A := X.A.in1) hh N a (Nat.ne_of_lt ha) its.toArray) (Draws.text (prog := X.prog) (w := X.w) (A := X.A.in1) hh (N + 1) z t)
    have hi1 : i < its.toArray.size := by
      have : i < its.length := (List.getElem?_eq_some_iff.mp hu).1
      simpa using this
    have hi2 : i < z.cps.size := (Array.getElem?_eq_some_iff.mp hcz).1
    refine W.goes i s _ _ (Nat.lt_min.mpr ⟨hi1, hi2⟩) ⟨hz, hTI, hTO, ⟨h1, p.isList⟩, h2⟩ fun v h' tk hY st' hk htk => ?_
    obtain ⟨T, u1, u2, rfl, hnew, e1, ⟨c2, t2, e2, rfl⟩, oT, hT, hcls, nT, hdat⟩ := hY
    obtain ⟨z1, z2, z3, ⟨z4, _⟩, z5⟩ := st'
    have eu : u1 = u := by
      have : its.toArray[i]? = some u := by simpa using hu
      rw [this] at e1
      exact (Option.some.inj e1).symm
    have ec : c2 = c := by
      rw [hcz] at e2
      exact (Option.some.inj e2).symm
    subst eu ec
    have new : ObjOk X.prog X.w (upd H T (.tup [x, .str ⟨#[c2]⟩])) h' T (.tup [x, .str ⟨#[c2]⟩]) :=
      ⟨by show 2 ≤ sizeLine; decide, [u1, .str ⟨#[c2]⟩ t2], .cons ru (.cons ⟨t2, rfl⟩ .nil), ⟨oT, hT, hcls, nT, hdat⟩⟩
    have I1 : Inv X pins σ (upd H T (.tup [x, .str ⟨#[c2]⟩])) { s with heap := h', toks := tk } :=
      I.turnedNew (t' := tk) (ch := [N + 4, N + 3, N, N + 1]) hk (fun b hb => hf b (by
        have e' : b = N + 4 ∨ b = N + 3 ∨ b = N ∨ b = N + 1 := by simpa using hb
        rcases e' with q | q | q | q <;> simp [q])) hnew new
    refine ⟨.ref T, _, I1, rfl, ⟨T, x, c2, rfl, I.hok.fresh hnew, rfl, fun l hl => by rw [I.list_inj hl hq]; exact hx, hcz⟩, ⟨z1, z2, z3, z4, z5⟩, fun b hb => ?_⟩
    have bT : b < s.heap.objs.size := by
      have e' : b = N + 4 ∨ b = N + 2 ∨ b = N + 3 ∨ b = N ∨ b = N + 1 := by simpa using hb
      rcases e' with q | q | q | q | q
      · rw [q]; exact Heap.lt_size hz
      · rw [q]; exact Heap.lt_size hTI
      · rw [q]; obtain ⟨_, _, e⟩ := hTO; exact Heap.lt_size e
      · rw [q]; obtain ⟨_, e, _⟩ := h1; exact Heap.lt_size e
      · rw [q]; obtain ⟨_, e, _⟩ := h2; exact Heap.lt_size e
    rw [upd_ne (Nat.ne_of_lt (Nat.lt_of_lt_of_le bT hnew))]
    exact (hf b hb).1
  done := by
    intro X hP hw hK hc i pins s σ H E I hf st hg
    subst hP hw hK
    obtain ⟨hz, hTI, hTO, h1, h2⟩ := st
    obtain ⟨xs, hq, hi⟩ := hg
    obtain ⟨its, rv, p, _⟩ := I.list hq
    have hh : X.A.in1.handled = none := I.ok.hd hc
    have W := GoesN.zip2 (prog := X.prog) (w := X.w) (A := X.A) (elts := elts) (x1 := kk) (pos := tpos) (zip_sep2 (N := N) (fp1 := [a]) (fp2 := []) (fun b hb => by rw [List.mem_singleton.mp hb]; exact ha) (fun b hb => nomatch hb))
      (Draws.list (prog := X.prog) (w := X.w) (A := X.A.in1) hh N a (Nat.ne_of_lt ha) its.toArray) (Draws.text (prog := X.prog) (w := X.w) (A := X.A.in1) hh (N + 1) z t)
    have el : min its.toArray.size z.cps.size = i := by
      rw [hi, rv.length]
      simp
    rw [el] at W
    refine W.stops s (fun s1 => Inv X pins σ H s1) _ ⟨hz, hTI, hTO, ⟨h1, p.isList⟩, h2⟩ fun h' tk hk htk => ?_
    exact I.turnedL (t' := tk) (ch := [N + 4, N + 3, N, N + 1]) hk fun b hb => hf b (by
        have e' : b = N + 4 ∨ b = N + 3 ∨ b = N ∨ b = N + 1 := by simpa using hb
        rcases e' with q | q | q | q <;> simp [q])
  self := fun A i s Q E st h => wpAny_pyIter_zip st.1 h
end
def iZipS (K : PySem.W.Frag) (ta : TA) : TI := fun σ H R => ta σ H fun vs H1 => ∃ (a : Addr) (z : Str) (xs : List V), vs = [.ref a, .str z] ∧ SqL K H1 a xs ∧ R (Itzs K a z) H1
theorem pi_zipS {X : Cx} {e e2 : Expr} {ta : TA} {p pos tpos : Pos} {elts : List Expr} {kk : Nat} (hg : Gl X "zip") (hm : X.mg "zip" = none) (ha : PA X [e, e2] ta)
    (hs : starEach [e, e2] X.env = (false, eval e X.env) :: starEach [e2] X.env := by rfl) (hpl : (backTo pos (starEach [e2] X.env)).any (·.1) = false := by rfl) :
    PI X (.Tuple elts kk tpos) (.Call (.Name "zip" p) [e, e2] [] pos) (iZipS X.K ta) := by
  refine ⟨fun pins s σ H R I h => ?_⟩
  refine Call_ (ld_blt I hg hm PyProof.Rows.boot_zip (PyProof.Rows.callWith_type1 (thn (ha.run pos pins s σ H _ I h) fun us s1 ⟨vs, H1, I1, r1, q1⟩ => ?_) hs hpl))
  obtain ⟨a, z, xs, ex, hq, q⟩ := q1
  subst ex
  obtain ⟨u1, u2, rfl, rr1, ⟨t, rfl⟩⟩ := Vals.two r1
  cases rr1
  obtain ⟨its, rv, p1, _⟩ := I1.list hq
  have la : a < s1.heap.objs.size := p1.lt
  refine zip_begins2 (begins_list a its.toArray) (begins_text z t) p1.isList trivial fun h' hz hTI hTO h1 h2 hsz hk => wpAny_pyIter_zip hz ?_
  have I2 : Inv X pins σ H1 { s1 with heap := h' } := I1.kept (t' := s1.toks) hk
  refine ⟨s1.heap.objs.size + 4, [s1.heap.objs.size + 4, s1.heap.objs.size + 2, s1.heap.objs.size + 3, s1.heap.objs.size, s1.heap.objs.size + 1], _, _, H1, rfl, I2, turn_zipS (t := t) la, ⟨hz, hTI, ⟨_, _, hTO⟩, ⟨_, h1, rfl, rfl⟩, ⟨_, h2, rfl, rfl⟩⟩, fun c hcm => ?_, q⟩
  have e' : c = s1.heap.objs.size + 4 ∨ c = s1.heap.objs.size + 2 ∨ c = s1.heap.objs.size + 3 ∨ c = s1.heap.objs.size ∨ c = s1.heap.objs.size + 1 := by simpa using hcm
  have hle : s1.heap.objs.size ≤ c := by
    rcases e' with z | z | z | z | z
    · rw [z]; exact Nat.le_add_right _ _
    · rw [z]; exact Nat.le_add_right _ _
    · rw [z]; exact Nat.le_add_right _ _
    · rw [z]; exact Nat.le_refl _
    · rw [z]; exact Nat.le_add_right _ _
  exact I1.fpOk hle (I1.hok.fresh hle)
theorem walk_zipS {K : PySem.W.Frag} {a : Addr} {z : Str} {xs : List V} {n : Nat} (hn : n = min xs.length z.cps.size) :
    Walk (Itzs K a z) n (fun H => SqL K H a xs) (fun i H v H' => ∃ T x c, v = .ref T ∧ H T = none ∧ H' = upd H T (.tup [x, .str ⟨#[c]⟩]) ∧ xs[i]? = some x ∧ z.cps[i]? = some c) := by
  subst hn
  refine ⟨fun i H hi q => ?_, fun H q => ⟨xs, q, rfl⟩, fun i H v H' _ q y => ?_⟩
  · have h1 : i < xs.length := by omega
    have h2 : i < z.cps.size := by omega
    exact ⟨xs, xs[i], z.cps[i], q, by simp [h1], by simp [h2]⟩
  · obtain ⟨T, x, c, h1, h2, h3, h4, h5⟩ := y
    exact ⟨T, x, c, h1, h2, h3, h4 xs q, h5⟩
section
variable {X : Cx}
/-- s * n -/
def rMulS : R2 := fun x y H Q => ∃ (z : Str) (n : Int), x = .str z ∧ y = .int n ∧ MulOk z n ∧ Q (.str (Txt.mul z n)) H
theorem op_mulS : OpR X (binaryOp .Mult) rMulS := by
  intro pins s σ H x y v u Q I rx ry h
  obtain ⟨z, n, rfl, rfl, ok, q⟩ := h
  obtain ⟨t, rfl⟩ := rx
  obtain ⟨k, rfl⟩ := ry
  exact SB.mul ok fun t' k' => ⟨.str (Txt.mul z n), H, I.tok _, ⟨t', rfl⟩, q⟩
def signsV (z : Str) : List V := z.cps.toList.map fun c => V.str ⟨#[c]⟩
/-- list(s) -/
def rListS : List V → Hp → VK → Prop := fun xs H Q => ∃ z : Str, xs = [.str z] ∧ z.length ≤ sizeLine ∧ ∀ l, H l = none → Q (.ref l) (upd H l (.lst (signsV z)))
theorem call_listS (hc : X.calm = true) : CallR X (.type "list") rListS := by
  intro pins s σ H xs us Q I r h
  obtain ⟨z, rfl, hz, q⟩ := h
  obtain ⟨u, rfl, ⟨t, rfl⟩⟩ := vals1 r
  refine call_list_str (I.ok.hd hc) z t (fun h' tk acc' c' kp e hacc => ?_) hz
  have rv : Vals (signsV z) acc'.toList := by
    refine vals_of_at ?_ fun j x v hx hv => ?_
    · unfold signsV
      rw [List.length_map, Array.length_toList, Array.length_toList, hacc.1]
    · obtain ⟨c, w2, hcz, rfl⟩ := hacc.2 j v (by simpa using hv)
      unfold signsV at hx
      have : z.cps.toList[j]? = some c := by simpa using hcz
      rw [List.getElem?_map, this] at hx
      cases hx
      exact ⟨w2, rfl⟩
  have hl : (signsV z).length ≤ sizeLine := by
    unfold signsV
    rw [List.length_map, Array.length_toList]
    exact hz
  refine ⟨.ref s.heap.objs.size, _, I.laid (t' := tk) kp (Nat.le_refl _) (show ObjOk X.prog X.w _ h' _ (.lst (signsV z)) from ⟨hl, acc'.toList, c', rv, ?_⟩), rfl, q _ (I.hok.fresh (Nat.le_refl _))⟩
  rw [Array.toArray_toList]
  exact e
end
end L2

set_option Elab.async false
set_option linter.all false
set_option maxRecDepth 100000
set_option maxHeartbeats 4000000
set_option autoImplicit false
set_option pp.maxSteps 600
/-! The law's text of a polynomial. -/
namespace L2
open PySem PySem.Spec PyProof.Rows
/-- a list (b) or a tuple -/
def SqB (b : Bool) (K : PySem.W.Frag) (H : Hp) (a : Addr) (xs : List V) : Prop := if b = true then SqL K H a xs else SqT K H a xs
def ItB (b : Bool) (K : PySem.W.Frag) (a : Addr) : It := if b = true then Itl K a else Itt K a
def iSeqB (b : Bool) (K : PySem.W.Frag) (te : TE) : TI := if b = true then iList K te else iTup K te
theorem pi_seqB {X : Cx} {tg l : Expr} {te : TE} (b : Bool) (hl : PE X l te) : PI X tg l (iSeqB b X.K te) := by
  cases b
  · exact pi_tup hl
  · exact pi_list hl
theorem walk_seqB {K : PySem.W.Frag} {a : Addr} {xs : List V} (b : Bool) : Walk (ItB b K a) xs.length (fun H => SqB b K H a xs) (YAt xs) := by
  cases b
  · exact walk_tup
  · exact walk_list
theorem seqB_go {b : Bool} {K : PySem.W.Frag} {i : Nat} {σ : St} {H : Hp} {R : It → Hp → Prop} {a : Addr} {xs : List V} (hs : σ[i]? = some (some (.ref a))) (h : SqB b K H a xs) (r : R (ItB b K a) H) : iSeqB b K (tVar i) σ H R := by
  cases b
  · exact ⟨_, hs, a, rfl, ⟨xs, h⟩, r⟩
  · exact ⟨_, hs, a, rfl, ⟨xs, h⟩, r⟩
theorem SqB.up {b : Bool} {K : PySem.W.Frag} {H G : Hp} {a : Addr} {xs : List V} (h : SqB b K H a xs) (s : Same H G) : SqB b K G a xs := by
  cases b
  · rcases h with (h | ⟨o, h⟩) | h
    · exact .inl (.inl (s _ _ h))
    · exact .inl (.inr ⟨o, s _ _ h⟩)
    · exact .inr h
  · rcases h with (h | ⟨o, h⟩) | h
    · exact .inl (.inl (s _ _ h))
    · exact .inl (.inr ⟨o, s _ _ h⟩)
    · exact .inr h
end L2
namespace K6
open PySem L2 TL K1D
abbrev sLText : Stmt := top 30
def spLText (K : PySem.W.Frag) : Sp := fun vs H Q _ => ∃ (b : Bool) (a : Addr) (p : Poly) (xs : List V), vs = [.ref a] ∧ SqB b K H a xs ∧ KeyVs K H (p.map termK) xs ∧ (∀ t ∈ p, WS t) ∧ szP p ≤ 16000000 ∧ p.length ≤ 2001 ∧ ∀ H', Same H H' → Q (.str (pText p)) H'
theorem pWords_snoc (q : Poly) (t : Term) : pWords (q ++ [t]) = (pWords q ++ (if t.2 < 0 then [("-" : Str)] else if q = [] then [] else [("+" : Str)])) ++ [tText t.1 (absI t.2)] := by
  unfold pWords
  rw [flat_snoc]
  cases q with
  | nil =>
    show dropPlus [sg t.2, tText t.1 (absI t.2)] = _
    show (if sg t.2 = "+" then [tText t.1 (absI t.2)] else [sg t.2, tText t.1 (absI t.2)]) = _
    unfold sg
    by_cases c : t.2 < 0
    · rw [if_pos c, if_neg minus_plus, if_pos c]
      rfl
    · rw [if_neg c, if_pos rfl, if_neg c, if_pos rfl]
      rfl
  | cons x r =>
    show (if sg x.2 = "+" then (tText x.1 (absI x.2) :: flat r) ++ [sg t.2, tText t.1 (absI t.2)] else (sg x.2 :: tText x.1 (absI x.2) :: flat r) ++ [sg t.2, tText t.1 (absI t.2)]) = ((if sg x.2 = "+" then tText x.1 (absI x.2) :: flat r else sg x.2 :: tText x.1 (absI x.2) :: flat r) ++ _) ++ _
    have e : (if t.2 < 0 then [("-" : Str)] else if (x :: r) = [] then [] else [("+" : Str)]) = [sg t.2] := by
      unfold sg
      by_cases c : t.2 < 0
      · rw [if_pos c, if_pos c]
      · rw [if_neg c, if_neg c, if_neg (by simp)]
    rw [e]
    split
    · rw [List.append_assoc]
      rfl
    · rw [List.append_assoc]
      rfl
theorem mul_hat (z : Str) (k : Bool) (hz : z.length ≤ 1000000) : MulOk z (if k = true then 1 else 0) ∧ Txt.mul z (if k = true then 1 else 0) = if k = true then z else Str.empty := by
  cases k with
  | true =>
    refine ⟨⟨by decide, fun _ h => ?_, fun _ h => ?_⟩, ?_⟩
    · simp at h
    · simp at h
    · unfold Txt.mul
      simp
  | false =>
    refine ⟨⟨by decide, fun h => absurd (by decide) h, fun h => absurd (by decide) h⟩, ?_⟩
    unfold Txt.mul
    rw [if_pos (by decide)]
    rfl
section
variable {P : Program} {w : World} {K : PySem.W.Frag} {mg : Str → Option Value} {base : Heap}
theorem scLText : FnScope ["poly", "words", "row", "number", "name", "high", "parts"] ["poly"] (defScope sLText) := ⟨rfl, rfl, rfl, by decide +kernel, rfl, by decide +kernel, by decide +kernel⟩
theorem ok_ltext {f : Addr} {fd : FuncData} (F : Fun K "_law_text" "_law_text" sLText f fd) (T : ProgTxt K mg) : FnOk P w K mg base CX0 1 f fd ["poly"] (spLText K) := by
  refine F.ok scLText (fun vs H Q E h => ?_) (fun cdv A outer s H vs Q E hr h => ?_)
  · obtain ⟨b, a, p, xs, rfl, _⟩ := h
    rfl
  · obtain ⟨b, a, p, xs, rfl, ha, kx, wt, sz, lp, go⟩ := h
    refine ⟨_, pss_cons (ps_set (i := 1) scLText.nd rfl (Or.inl rfl) (pe_lst pa_nil))
      (pss_cons (ps_for PassesOwn.never rfl (pi_seqB b (pv 0)) (pg_tup (by rfl) (pgs_cons (pg_name (i := 2) scLText.nd rfl (Or.inl rfl)) (pgs_cons (pg_name (i := 3) scLText.nd rfl (Or.inl rfl)) pgs_nil)))
        (pss_cons (ps_setLc (i := 6) (own := [("name", 4), ("high", 5)]) (g := gTup K 2 (gCons (gName 4) (gCons (gName 5) gNil))) rfl scLText.nd rfl rfl (sw_true rfl rfl rfl (by decide +kernel)) (pi_tup (pv 2))
            (blkOk_by (own := [("name", 4), ("high", 5)]) (N := ["poly", "words", "row", "number", "name", "high", "parts"]) (sc := defScope sLText) (by decide +kernel))
            (fun _ _ _ _ _ => pg_tup rfl (pgs_cons (pg_name (i := 4) scLText.nd rfl (Or.inl rfl)) (pgs_cons (pg_name (i := 5) scLText.nd rfl (Or.inl rfl)) pgs_nil))) (fun _ _ _ _ _ => pts_nil)
            (fun _ _ _ _ _ => pe_op op_add_str (pv 4) (pe_op op_mulS (pe_op op_add_str pe_str (pe_callTy call_str_int (by rfl) T.str (by decide +kernel) (pa_cons (pv 5) pa_nil))) (pe_callTy call_int1 (by rfl) T.int (by decide +kernel) (pa_cons (pe_cmpR op_gt (pv 5) pe_int (nomark _)) pa_nil)))))
        (C8.pss_cut (ps_if (PW.pt (pw_or (pt_cmpR op_gt (pe_callB call_abs (by rfl) T.abs (by decide +kernel) (pa_cons (pv 3) pa_nil)) pe_int (nomark _)) (pw_or1 (pt_cmpR op_eq (pe_callB call_len_seq (by rfl) T.len PySem.boot_len (pa_cons (pv 2) pa_nil)) pe_int (nomark _)))))
            (pss_one (ps_set (i := 6) scLText.nd rfl (Or.inl rfl) (pe_op op_cat (pe_lst (pa_cons (pe_callTy call_str_int (by rfl) T.str (by decide +kernel) (pa_cons (pe_callB call_abs (by rfl) T.abs (by decide +kernel) (pa_cons (pv 3) pa_nil)) pa_nil)) pa_nil)) (pv 6)))) pss_nil)
        (C8.pss_cut (ps_if (pt_cmpR op_lt (pv 3) pe_int (nomark _)) (pss_one (ps_expr (pe_bm PySem.F.plainAttrs_list PySem.F.slot_list_append PySem.F.type_list_append mt_append (pv 1) (pa_cons pe_str pa_nil))))
            (pss_one (ps_if (pt_cmpR op_gt (pe_callB call_len_seq (by rfl) T.len PySem.boot_len (pa_cons (pv 1) pa_nil)) pe_int (nomark _)) (pss_one (ps_expr (pe_bm PySem.F.plainAttrs_list PySem.F.slot_list_append PySem.F.type_list_append mt_append (pv 1) (pa_cons pe_str pa_nil)))) pss_nil)))
        (pss_one (ps_expr (pe_bm PySem.F.plainAttrs_list PySem.F.slot_list_append PySem.F.type_list_append mt_append (pv 1) (pa_cons (pe_join pe_str (pv 6)) pa_nil))))))))
      (pss_cons (ps_if (pt_cmpR op_eq (pe_callB call_len_seq (by rfl) T.len PySem.boot_len (pa_cons (pv 1) pa_nil)) pe_int (nomark _)) (pss_one (ps_ret pe_str)) pss_nil)
      (pss_one (ps_ret (pe_join pe_str (pv 1)))))), ?_⟩
    have lx := keyVs_len kx
    rw [List.length_map] at lx
    refine ⟨by decide, fun L nL => ?_⟩
    have s1 : Same H (upd H L (.lst [])) := same_new nL
    refine seqB_go (xs := xs) rfl (ha.up s1) ?_
    refine for_it (walk_seqB b) (fun i σ G => ∃ u2 u3 u4 u5 u6 : Option V, σ = [some (.ref a), some (.ref L), u2, u3, u4, u5, u6] ∧ Same H G ∧ G L = some (.lst ((pWords (p.take i)).map V.str)))
      ⟨none, none, none, none, none, rfl, s1, upd_same⟩ (fun i σ G _ ⟨_, _, _, _, _, _, sG, _⟩ => ha.up sG) (fun i v σ G G' hi ⟨u2, u3, u4, u5, u6, hσ, sG, hL⟩ ⟨e, hv⟩ => ?_) (fun σ G ⟨u2, u3, u4, u5, u6, hσ, sG, hL⟩ => ?_)
    · subst hσ e
      obtain ⟨t, ht, kt⟩ := term_at kx hv
      obtain ⟨q2, u, rfl, hq, km⟩ := kv_term.mp kt
      obtain ⟨m, ms, rfl, hm, kf⟩ := kv_mon.mp km
      have mt := List.mem_of_getElem? ht
      have wtt := wt t mt
      have lf := keyVs_len kf
      rw [List.length_map] at lf
      have rl := row_szT t
      have rs := szT_mem mt
      refine ⟨q2, _, rfl, SqT.of (sG _ _ hq), rfl, _, _, rfl, _, _, rfl, rfl, ?_⟩
      have hm1 := sG _ _ hm
      refine ⟨_, rfl, m, rfl, ⟨_, SqT.of hm1⟩, fun D nD => ?_⟩
      refine lc_it (walk_tup (K := K) (a := m) (xs := ms)) (fun j G => Same G' G ∧ G D = some (.lst (((t.1.take j).map fT).map V.str))) ⟨same_new nD, upd_same⟩ (fun j G _ h => SqT.of (h.1 _ _ hm1)) (fun j v2 G2 G3 hj ⟨s2, hD⟩ ⟨e, hv2⟩ => ?_) (fun G2 ⟨s2, hD⟩ => ?_)
      · subst e
        obtain ⟨k, hk, kv⟩ := keyVs_get kf hv2
        rw [List.getElem?_map] at hk
        obtain ⟨f, hf, rfl⟩ : ∃ f, t.1[j]? = some f ∧ k = facK f := by
          cases q : t.1[j]? with
          | none => rw [q] at hk; cases hk
          | some f => rw [q] at hk; exact ⟨f, rfl, (Option.some.inj hk).symm⟩
        have mf := List.mem_of_getElem? hf
        obtain ⟨q, rfl, hq3⟩ := kv_fac.mp kv
        have l1 := wtt.nl f mf
        have l2 := strI_len (k := 31) (by decide) (wtt.hl f mf)
        have l3 : (("^" : Str)).length = 1 := by decide +kernel
        obtain ⟨m1, m2⟩ := mul_hat ("^" ++ strI f.2) (decide (1 < f.2)) (by rw [strLen_append]; omega)
        have fin : ∃ acc, G3 D = some (.lst acc) ∧ acc.length < sizeLine ∧ (Same G' (upd G3 D (.lst (acc ++ [.str (fT f)]))) ∧ upd G3 D (.lst (acc ++ [.str (fT f)])) D = some (.lst (((t.1.take (j + 1)).map fT).map V.str))) := by
          refine ⟨_, hD, ?_, fun b o e => (upd_ne (ne_of_none e nD)).trans (s2 b o e), ?_⟩
          · rw [List.length_map, List.length_map, List.length_take, sizeLine_eq]
            omega
          · rw [upd_same, take_snoc hf, List.map_append, List.map_append]
            rfl
        have ef : f.1 ++ Txt.mul ("^" ++ strI f.2) (if decide (1 < f.2) = true then 1 else 0) = fT f := by
          rw [m2]
          unfold fT
          by_cases c : 1 < f.2
          · rw [if_pos (decide_eq_true c), if_pos c]
          · rw [if_neg (by rw [decide_eq_false c]; exact Bool.false_ne_true), if_neg c]
            exact ext_tl (by rw [tl_append, show tl (Str.empty : Str) = [] from by decide +kernel, List.append_nil])
        have ml : (Txt.mul ("^" ++ strI f.2) (if decide (1 < f.2) = true then 1 else 0)).length ≤ 40 := by
          rw [m2]
          split
          · rw [strLen_append]; omega
          · exact Nat.le_trans (by decide +kernel : (Str.empty : Str).length ≤ 0) (by decide)
        refine ⟨q, _, rfl, SqT.of (s2 _ _ (sG _ _ (by exact hq3))), rfl, _, _, rfl, _, _, rfl, rfl, rfl, ?_⟩
        refine ⟨_, rfl, _, rfl, _, rfl, log31 (wtt.hl f mf), _, _, rfl, rfl, ?_, ?_⟩
        · show (("^" : Str)).length + (strI f.2).length ≤ _
          rw [sizeLine_eq]
          omega
        refine ⟨_, rfl, _, _, rfl, rfl, .inr ⟨_, rfl, _, _, rfl, rfl, m1, _, _, rfl, rfl, ?_, ?_⟩⟩
        · show f.1.length + (Txt.mul ("^" ++ strI f.2) (if decide (1 < f.2) = true then 1 else 0)).length ≤ _
          rw [sizeLine_eq]
          omega
        · show ∃ acc, G3 D = some (.lst acc) ∧ acc.length < sizeLine ∧ (Same G' (upd G3 D (.lst (acc ++ [.str (f.1 ++ Txt.mul ("^" ++ strI f.2) (if decide (1 < f.2) = true then 1 else 0))]))) ∧ upd G3 D (.lst (acc ++ [.str (f.1 ++ Txt.mul ("^" ++ strI f.2) (if decide (1 < f.2) = true then 1 else 0))])) D = some (.lst (((t.1.take (j + 1)).map fT).map V.str)))
          rw [ef]
          exact fin
      · rw [lf, List.take_length] at hD
        have hP : parts t.1 (absI t.2) = if 1 < absI t.2 ∨ t.1 = [] then strI (absI t.2) :: t.1.map fT else t.1.map fT := by
          unfold parts
          split <;> rfl
        have DL : D ≠ L := fun z => by rw [z, hL] at nD; cases nD
        refine ⟨fun σ G3 => ∃ (q : Addr) (u4 u5 : Option V), σ = [some (.ref a), some (.ref L), some (.ref m), some (.int t.2), u4, u5, some (.ref q)] ∧ Same G' G3 ∧ q ≠ L ∧ G3 q = some (.lst ((parts t.1 (absI t.2)).map V.str)), ?_, ?_⟩
        · refine ⟨_, rfl, _, rfl, _, _, rfl, rfl, _, rfl, ?_⟩
          rw [abs_eq]
          have hm2 := s2 _ _ hm1
          by_cases c1 : 1 < absI t.2
          · refine ifY (decide_eq_true c1) ?_
            refine ⟨_, rfl, _, rfl, _, rfl, by rw [abs_eq]; exact log202 (absI_lt wtt.cl), by show 1 ≤ sizeLine; decide, fun q nq => ⟨_, rfl, q, D, _, _, rfl, rfl, upd_same, (upd_ne (ne_of_none hD nq)).trans hD, ?_, fun r nr => ⟨r, _, _, rfl, (s2.trans (same_new nq)).trans (same_new nr), ?_, ?_⟩⟩⟩
            · rw [List.length_map, List.length_map, sizeLine_eq]
              show 1 + _ ≤ _
              omega
            · rintro rfl
              rw [((s2.trans (same_new nq)) _ _ hL)] at nr
              cases nr
            · rw [upd_same, abs_eq, hP, if_pos (Or.inl c1)]
              rfl
          · refine ifN (decide_eq_false c1) ⟨_, rfl, m, _, rfl, .inr (SqT.of hm2), rfl, _, rfl, ?_⟩
            by_cases t0 : t.1 = []
            · refine ifY (decide_eq_true (by rw [lf, t0]; rfl)) ?_
              refine ⟨_, rfl, _, rfl, _, rfl, by rw [abs_eq]; exact log202 (absI_lt wtt.cl), by show 1 ≤ sizeLine; decide, fun q nq => ⟨_, rfl, q, D, _, _, rfl, rfl, upd_same, (upd_ne (ne_of_none hD nq)).trans hD, ?_, fun r nr => ⟨r, _, _, rfl, (s2.trans (same_new nq)).trans (same_new nr), ?_, ?_⟩⟩⟩
              · rw [List.length_map, List.length_map, sizeLine_eq]
                show 1 + _ ≤ _
                omega
              · rintro rfl
                rw [((s2.trans (same_new nq)) _ _ hL)] at nr
                cases nr
              · rw [upd_same, abs_eq, hP, if_pos (Or.inr t0)]
                rfl
            · refine ifN (decide_eq_false fun q => t0 (List.length_eq_zero_iff.mp (by have := V.int.inj q; omega))) ⟨D, _, _, rfl, s2, DL, ?_⟩
              rw [hD, hP, if_neg (by rintro (h | h); exact c1 h; exact t0 h)]
        · rintro σ G3 ⟨q, v4, v5, rfl, s3, qL, hq3⟩
          have hL3 := s3 _ _ hL
          have lL : (pWords (p.take i)).length ≤ 4002 := by
            have := pWords_len (p.take i)
            rw [List.length_take] at this
            omega
          have sH3 := sG.trans s3
          refine ⟨fun σ G4 => ∃ l : List Str, σ = [some (.ref a), some (.ref L), some (.ref m), some (.int t.2), v4, v5, some (.ref q)] ∧ Same H G4 ∧ l = (pWords (p.take i) ++ (if t.2 < 0 then [("-" : Str)] else if p.take i = [] then [] else [("+" : Str)])) ∧ G4 L = some (.lst (l.map V.str)) ∧ l.length ≤ 4003 ∧ G4 q = some (.lst ((parts t.1 (absI t.2)).map V.str)), ?_, ?_⟩
          · have add : ∀ c : Str, ∃ l : List Str, l = pWords (p.take i) ++ [c] ∧ Same H (upd G3 L (.lst ((pWords (p.take i)).map V.str ++ [.str c]))) ∧ upd G3 L (.lst ((pWords (p.take i)).map V.str ++ [.str c])) L = some (.lst (l.map V.str)) ∧ l.length ≤ 4003 ∧ upd G3 L (.lst ((pWords (p.take i)).map V.str ++ [.str c])) q = some (.lst ((parts t.1 (absI t.2)).map V.str)) := by
              intro c
              refine ⟨_, rfl, fun b o e => (upd_ne (ne_of_none e nL)).trans (sH3 b o e), ?_, ?_, (upd_ne qL).trans hq3⟩
              · rw [upd_same, List.map_append]
                rfl
              · rw [List.length_append]
                show _ + 1 ≤ _
                omega
            refine ⟨_, rfl, _, _, rfl, rfl, _, rfl, ?_⟩
            by_cases c0 : t.2 < 0
            · refine ifY (decide_eq_true c0) ⟨_, rfl, .inl ⟨rfl, _, SqL.of hL3⟩, L, _, _, rfl, rfl, hL3, by rw [List.length_map, sizeLine_eq]; omega, ?_⟩
              obtain ⟨l, el, e1, e2, e3, e4⟩ := add "-"
              exact ⟨l, rfl, e1, by rw [el, if_pos c0], e2, e3, e4⟩
            · refine ifN (decide_eq_false c0) ⟨_, rfl, L, _, rfl, .inl (SqL.of hL3), _, _, rfl, rfl, _, rfl, ?_⟩
              rw [List.length_map]
              by_cases q0 : p.take i = []
              · refine ifN (decide_eq_false ?_) ⟨_, rfl, sH3, rfl, ?_, ?_, hq3⟩
                · rw [q0]
                  decide
                · rw [hL3, if_neg c0, if_pos q0, List.append_nil]
                · rw [if_neg c0, if_pos q0, List.append_nil]
                  omega
              · refine ifY (decide_eq_true ?_) ⟨_, rfl, .inl ⟨rfl, _, SqL.of hL3⟩, L, _, _, rfl, rfl, hL3, by rw [List.length_map, sizeLine_eq]; omega, ?_⟩
                · have := List.length_pos_iff.mpr (pWords_ne q0)
                  omega
                · obtain ⟨l, el, e1, e2, e3, e4⟩ := add "+"
                  exact ⟨l, rfl, e1, by rw [el, if_neg c0, if_neg q0], e2, e3, e4⟩
          · rintro σ G4 ⟨l, rfl, sG4, el, hL4, ll, hq4⟩
            have := (join_sz (y := "*") (by decide +kernel) (parts t.1 (absI t.2))).1
            have e9 : szL (parts t.1 (absI t.2)) = szT t := rfl
            refine ⟨_, rfl, .inl ⟨rfl, _, SqL.of hL4⟩, ⟨_, rfl⟩, _, rfl, _, q, parts t.1 (absI t.2), rfl, rfl, .inl (SqL.of hq4), by omega, L, _, _, rfl, rfl, hL4, by rw [List.length_map, sizeLine_eq]; omega, ?_⟩
            refine ⟨_, _, _, _, _, rfl, fun b o e => (upd_ne (ne_of_none e nL)).trans (sG4 b o e), ?_⟩
            rw [upd_same, take_snoc ht, pWords_snoc, ← el, List.map_append]
            rfl
    · subst hσ
      rw [lx, List.take_length] at hL
      refine ⟨_, rfl, L, _, rfl, .inl (SqL.of hL), rfl, _, rfl, ?_⟩
      rw [List.length_map]
      by_cases p0 : p = []
      · subst p0
        exact ifY (by decide) (go G sG)
      · have ep : pText p = Txt.join " " (pWords p) := by
          unfold pText
          rw [if_neg p0]
        refine ifN (decide_eq_false fun q => pWords_ne p0 (List.length_eq_zero_iff.mp (by have := V.int.inj q; omega))) ?_
        have h1 := (join_sz (y := " ") (by decide +kernel) (pWords p)).1
        have h2 := pWords_sz p
        rw [ep] at go
        exact ⟨⟨_, rfl⟩, _, rfl, _, L, pWords p, rfl, rfl, .inl (SqL.of hL), by omega, go G sG⟩
end
end K6

set_option Elab.async false
set_option linter.all false
set_option maxRecDepth 100000
set_option maxHeartbeats 4000000
set_option autoImplicit false
set_option pp.maxSteps 600
/-! The law's reading: numbers, names. -/
namespace K6
open PySem L2 TL K1D
abbrev sLNum : Stmt := top 31
abbrev sLName : Stmt := top 32
def spLNum : Sp := fun vs H Q _ => ∃ x : Str, vs = [.str x] ∧ x.length ≤ 10000000 ∧ ∀ H', Same H H' → Q (.bl (isFgs 200 (tl x))) H'
def rNoSign : R2 := fun x y H Q => ∃ (c : Nat) (z : Str), x = .str ⟨#[c]⟩ ∧ y = .str z ∧ Q (.bl (!decide (c ∈ z.cps.toList))) H
theorem op_noSign {X : Cx} : OpR X (compareOp .NotIn) rNoSign := op_notIn_sign
theorem ite_imp {b : Bool} {A A' B : Prop} (q : if b = true then A else B) (f : A → A') : if b = true then A' else B := by
  cases b
  · exact q
  · exact f q
theorem filter_snoc {α : Type} (f : α → Bool) {l : List α} {i : Nat} {u : α} (h : l[i]? = some u) : (l.take (i + 1)).filter f = (l.take i).filter f ++ (if f u = true then [u] else []) := by
  rw [take_snoc h, List.filter_append]
  congr 1
  cases e : f u with
  | true => simp [e]
  | false => simp [e]
/-- [sign for sign in x if sign not in l] -/
theorem signs_not {g : TG} {tt : TT} {te : TE} {vs : List Nat} {σ : L2.St} {H : Hp} {D : Addr} {x : Str} {l : List Nat} {Qd : Hp → Prop} (nD : H D = none) (lx : x.length ≤ 10000000)
    (turn : ∀ (c : Nat) (G : Hp) (R1 : VK) (R0 : Hp → Prop), (if (!decide (c ∈ l)) = true then R1 (.str ⟨#[c]⟩) G else R0 G) → g (.str ⟨#[c]⟩) (wipe σ vs) G fun σ2 H2 => wipe σ2 vs = wipe σ vs ∧ tt σ2 H2 fun b H3 => if b = true then te σ2 H3 R1 else R0 H3)
    (done : ∀ G, Same H G → G D = some (.lst (((tl x).filter fun c => !decide (c ∈ l)).map fun c => V.str ⟨#[c]⟩)) → Qd G) :
    ∃ W : Nat → Nat → Hp → Prop, (∃ m, W 0 m (upd H D (.lst []))) ∧ ∀ i m H, W i m H →
      ((Its x).stop i H ∧ Qd H) ∨ ((Its x).go i H ∧ ∃ Nx : Hp → Prop, (∀ H', Nx H' → ∃ m', m' < m ∧ W (i + 1) m' H') ∧ ∀ v H', (Its x).yld i H v H' → g v (wipe σ vs) H' fun σ2 H2 => wipe σ2 vs = wipe σ vs ∧ tt σ2 H2 fun b H3 =>
        if b = true then te σ2 H3 fun y H4 => ∃ acc, H4 D = some (.lst acc) ∧ acc.length < sizeLine ∧ Nx (upd H4 D (.lst (acc ++ [y]))) else Nx H3) := by
  refine lc_it (walk_str (z := x)) (fun i G => Same H G ∧ G D = some (.lst ((((tl x).take i).filter fun c => !decide (c ∈ l)).map fun c => V.str ⟨#[c]⟩))) ⟨same_new nD, upd_same⟩ (fun _ _ _ _ => trivial) (fun i v G G' hi ⟨sG, hD⟩ ⟨e, c, hc, ev⟩ => ?_) (fun G ⟨sG, hD⟩ => ?_)
  · subst e ev
    have hc' : (tl x)[i]? = some c := by simpa using hc
    have fs := filter_snoc (fun c => !decide (c ∈ l)) hc'
    refine turn c _ _ _ ?_
    by_cases d : c ∈ l
    · refine ifN (by rw [decide_eq_true d]; rfl) ⟨sG, ?_⟩
      rw [fs, hD, if_neg (by rw [decide_eq_true d]; exact Bool.false_ne_true), List.append_nil]
    · refine ifY (by rw [decide_eq_false d]; rfl) ⟨_, hD, ?_, fun b o e => (upd_ne (ne_of_none e nD)).trans (sG b o e), ?_⟩
      · have h1 := List.length_filter_le (fun c => !decide (c ∈ l)) ((tl x).take i)
        rw [List.length_take] at h1
        have := len_tl x
        rw [List.length_map, sizeLine_eq]
        omega
      · rw [upd_same, fs, if_pos (by rw [decide_eq_false d]; rfl), List.map_append]
        rfl
  · refine done G sG ?_
    have : x.cps.size = (tl x).length := len_tl x
    rw [this, List.take_length] at hD
    exact hD
theorem filter_none (l m : List Nat) : ((m.filter fun c => !decide (c ∈ l)).length = 0) ↔ (m.all fun c => decide (c ∈ l)) = true := by
  rw [List.length_eq_zero_iff, List.filter_eq_nil_iff, List.all_eq_true]
  constructor
  · intro h c hc
    have := h c hc
    simpa using this
  · intro h c hc
    have := h c hc
    simpa using this
section
variable {P : Program} {w : World} {K : PySem.W.Frag} {mg : Str → Option Value} {base : Heap}
theorem scLNum : FnScope ["word", "sign"] ["word"] (defScope sLNum) := ⟨rfl, rfl, rfl, by decide +kernel, rfl, by decide +kernel, by decide +kernel⟩
theorem ok_lnum {f : Addr} {fd : FuncData} (F : Fun K "_law_is_number" "_law_is_number" sLNum f fd) (T : ProgTxt K mg) : FnOk P w K mg base CX0 1 f fd ["word"] spLNum := by
  refine F.ok scLNum (fun vs H Q E h => ?_) (fun cdv A outer s H vs Q E hr h => ?_)
  · obtain ⟨x, rfl, _⟩ := h
    rfl
  · obtain ⟨x, rfl, lx, go⟩ := h
    refine ⟨_, pss_cons (ps_if (PW.pt (pw_or (pt_cmpR op_eq (pv 0) pe_str (nomark _)) (pw_or1 (pt_cmpR op_gt (pe_callB call_len_seq (by rfl) T.len PySem.boot_len (pa_cons (pe_lc (own := [("sign", 1)]) (g := gName 1) rfl scLNum.nd (pi_str (pv 0)) (blkOk_by (own := [("sign", 1)]) (N := ["word", "sign"]) (sc := defScope sLNum) (by decide +kernel))
          (fun _ _ _ _ _ => pg_name (i := 1) scLNum.nd rfl (Or.inl rfl)) (tt := tTest (tOp rNoSign (tVar 1) (tC (.str figsT)))) (fun _ _ _ _ _ => pts_one (pt_cmpR op_noSign (pv 1) pe_str (by rfl))) (fun _ _ _ _ _ => pv 1)) pa_nil)) pe_int (nomark _))))) (pss_one (ps_ret pe_bl)) pss_nil)
      (pss_one (ps_ret (pe_and (pe_cmpR op_ne (pe_ix ix_str (pv 0) pe_int (fun _ _ => rfl)) pe_str (nomark _)) (pe_one (pe_cmpR op_lt (pe_callB call_len_str (by rfl) T.len PySem.boot_len (pa_cons (pv 0) pa_nil)) pe_int (nomark _)))))), ?_⟩
    have l0 := len_tl x
    have at_ : ∀ {v : Bool}, isFgs 200 (tl x) = v → ∀ H', Same H H' → Q (.bl v) H' := fun e H' s => e ▸ go H' s
    refine ⟨_, rfl, rfl, _, rfl, ?_⟩
    by_cases x0 : x = ""
    · refine ifY (decide_eq_true (by rw [x0])) (ifY rfl (at_ ?_ H (Same.refl H)))
      rw [x0]
      decide +kernel
    · refine ifN (decide_eq_false fun q => x0 (V.str.inj q)) ?_
      obtain ⟨c, r, ex⟩ : ∃ c r, tl x = c :: r := by
        cases q : tl x with
        | nil => exact absurd (ext_tl (q.trans (by decide +kernel : ([] : List Nat) = tl ("" : Str)))) x0
        | cons c r => exact ⟨c, r, rfl⟩
      refine ⟨_, rfl, x, rfl, fun D nD => ?_⟩
      refine signs_not nD lx (l := figs) (fun c G R1 R0 q => ⟨rfl, _, rfl, c, figsT, rfl, rfl, _, rfl, ite_imp q fun h => ⟨_, rfl, h⟩⟩) (fun G sG hD => ?_)
      refine ⟨D, _, rfl, .inl (SqL.of hD), _, _, rfl, rfl, _, rfl, ?_⟩
      rw [List.length_map]
      have fn := filter_none figs (tl x)
      by_cases fa : ((tl x).filter fun c => !decide (c ∈ figs)).length = 0
      · rw [fa]
        refine ifN (by decide) ?_
        have ha := fn.mp fa
        have ev : isFgs 200 (tl x) = (decide ((tl x).length ≤ 200) && decide (c ≠ 48)) := by
          unfold isFgs
          rw [ha, decide_eq_true (show 1 ≤ (tl x).length by rw [ex, List.length_cons]; omega), Bool.true_and, Bool.and_true]
          congr 1
          exact decide_eq_decide.mpr (by rw [ex]; simp)
        refine ⟨_, rfl, _, _, c, rfl, rfl, by rw [sizeLine_eq]; omega, (show atI _ ((0 : Nat) : Int) = some c from atI_nat (by rw [show x.cps.toList = c :: r from ex]; rfl)), rfl, _, rfl, ?_⟩
        by_cases c48 : c = 48
        · refine ifN ?_ (at_ ?_ G sG)
          · rw [c48]; decide +kernel
          · rw [ev, decide_eq_false (show ¬ (c ≠ 48) from fun h => h c48), Bool.and_false]
        · refine ifY ?_ ?_
          · have : ¬ (V.str ⟨#[c]⟩ = V.str "0") := fun z => c48 (by
              have z3 := str_eq.mp z
              rw [tl_0] at z3
              exact (List.cons.inj (show [c] = [48] from z3)).1)
            rw [decide_eq_false this]
            rfl
          · refine ⟨_, rfl, x, rfl, by rw [sizeLine_eq]; omega, _, _, rfl, rfl, at_ ?_ G sG⟩
            rw [ev, decide_eq_true (show c ≠ 48 from c48), Bool.and_true]
            exact decide_eq_decide.mpr (by omega)
      · refine ifY (decide_eq_true (by omega)) (at_ ?_ G sG)
        have na : ((tl x).all fun c => decide (c ∈ figs)) = false := Bool.eq_false_iff.mpr fun h => fa (fn.mpr h)
        unfold isFgs
        rw [na, Bool.and_false, Bool.false_and]
theorem upper_lets : tl (letsT ++ Txt.upper letsT) = lets ++ caps := by decide +kernel
theorem scLName : FnScope ["word", "small", "sign"] ["word"] (defScope sLName) := ⟨rfl, rfl, rfl, by decide +kernel, rfl, by decide +kernel, by decide +kernel⟩
theorem ok_lname {f : Addr} {fd : FuncData} (F : Fun K "_law_is_name" "_law_is_name" sLName f fd) (T : ProgTxt K mg) : FnOk P w K mg base CX0 1 f fd ["word"] spIsVar := by
  refine F.ok scLName (fun vs H Q E h => ?_) (fun cdv A outer s H vs Q E hr h => ?_)
  · obtain ⟨x, rfl, _⟩ := h
    rfl
  · obtain ⟨x, rfl, lx, go⟩ := h
    refine ⟨_, pss_cons (ps_set (i := 1) scLName.nd rfl (Or.inr rfl) pe_str)
      (pss_cons (ps_if (PW.pt (pw_or (pt_cmpR op_lt (pe_callB call_len_str (by rfl) T.len PySem.boot_len (pa_cons (pv 0) pa_nil)) pe_int (nomark _)) (pw_or (pt_cmpR op_gt (pe_callB call_len_str (by rfl) T.len PySem.boot_len (pa_cons (pv 0) pa_nil)) pe_int (nomark _))
          (pw_or (pt_cmpR op_noSign (pe_ix ix_str (pv 0) pe_int (fun _ _ => rfl)) (pe_op op_add_str (pv 1) (pe_upper (pv 1))) (by rfl)) (pw_or1 (pt_cmpR op_ne (pe_ix ix_str (pv 0) pe_int (fun _ _ => rfl)) pe_str (nomark _))))))) (pss_one (ps_ret pe_bl)) pss_nil)
      (pss_one (ps_ret (pe_cmpR op_eq (pe_callB call_len_seq (by rfl) T.len PySem.boot_len (pa_cons (pe_lc (own := [("sign", 2)]) (g := gName 2) rfl scLName.nd (pi_str (pe_slice sl_str (pv 0) (po_some pe_int) po_none)) (blkOk_by (own := [("sign", 2)]) (N := ["word", "small", "sign"]) (sc := defScope sLName) (by decide +kernel))
          (fun _ _ _ _ _ => pg_name (i := 2) scLName.nd rfl (Or.inl rfl)) (tt := tTest (tOp rNoSign (tVar 2) (tVar 1))) (fun _ _ _ _ _ => pts_one (pt_cmpR op_noSign (pv 2) (pv 1) (by rfl))) (fun _ _ _ _ _ => pv 2)) pa_nil)) pe_int (nomark _))))), ?_⟩
    have l0 := len_tl x
    have at_ : ∀ {v : Bool}, isVarL (tl x) = v → ∀ H', Same H H' → Q (.bl v) H' := fun e H' s => e ▸ go H' s
    have no : ¬ (3 ≤ (tl x).length ∧ (tl x).length ≤ 6) → isVarL (tl x) = false := fun h => by
      cases q : isVarL (tl x) with
      | false => rfl
      | true => exact absurd (var_signs q).2.2 h
    refine ⟨_, rfl, x, rfl, by rw [sizeLine_eq]; omega, _, _, rfl, rfl, _, rfl, ?_⟩
    by_cases h3 : x.length < 3
    · exact ifY (decide_eq_true (by omega)) (ifY rfl (at_ (no (by omega)) H (Same.refl H)))
    refine ifN (decide_eq_false (by omega)) ⟨_, rfl, x, rfl, by rw [sizeLine_eq]; omega, _, _, rfl, rfl, _, rfl, ?_⟩
    by_cases h6 : 6 < x.length
    · exact ifY (decide_eq_true (by omega)) (ifY rfl (at_ (no (by omega)) H (Same.refl H)))
    obtain ⟨a, b, r, ex⟩ : ∃ a b r, tl x = a :: b :: r := by
      match q : tl x with
      | [] => rw [q] at l0; simp at l0; omega
      | [_] => rw [q] at l0; simp at l0; omega
      | a :: b :: r => exact ⟨a, b, r, rfl⟩
    have e0 : atI x.cps.toList ((0 : Nat) : Int) = some a := atI_nat (by rw [show x.cps.toList = a :: b :: r from ex]; rfl)
    have e1 : atI x.cps.toList ((1 : Nat) : Int) = some b := atI_nat (by rw [show x.cps.toList = a :: b :: r from ex]; rfl)
    have lr : r.length + 2 = x.length := by rw [l0, ex]; rfl
    have ev : isVarL (tl x) = (((decide (a ∈ lets) || decide (a ∈ caps)) && decide (b = 95)) && r.all fun c => decide (c ∈ lets)) := by
      rw [ex]
      show (((decide (a ∈ lets) || decide (a ∈ caps)) && decide (b = 95)) && isNmL r) = _
      unfold isNmL
      rw [decide_eq_true (show 1 ≤ r.length by omega), decide_eq_true (show r.length ≤ 4 by omega), Bool.true_and, Bool.true_and]
    refine ifN (decide_eq_false (by omega)) ⟨_, rfl, _, _, a, rfl, rfl, by rw [sizeLine_eq]; omega, e0, ?_⟩
    refine ⟨_, rfl, _, rfl, ⟨_, rfl⟩, _, rfl, rfl, by decide +kernel, _, _, rfl, rfl, by rw [sizeLine_eq]; decide +kernel, a, _, rfl, rfl, _, rfl, ?_⟩
    have eu : decide (a ∈ (letsT ++ Txt.upper letsT).cps.toList) = (decide (a ∈ lets) || decide (a ∈ caps)) := by
      rw [show (letsT ++ Txt.upper letsT).cps.toList = lets ++ caps from upper_lets, ← Bool.decide_or]
      exact decide_eq_decide.mpr List.mem_append
    cases ha : (decide (a ∈ lets) || decide (a ∈ caps)) with
    | false =>
      refine ifY ?_ (ifY rfl (at_ (by rw [ev, ha]; rfl) H (Same.refl H)))
      show (!decide (a ∈ (letsT ++ Txt.upper letsT).cps.toList)) = true
      rw [eu, ha]
      rfl
    | true =>
      refine ifN ?_ ?_
      · show (!decide (a ∈ (letsT ++ Txt.upper letsT).cps.toList)) = false
        rw [eu, ha]
        rfl
      refine ⟨_, rfl, _, _, b, rfl, rfl, by rw [sizeLine_eq]; omega, e1, rfl, _, rfl, ?_⟩
      by_cases hb : b = 95
      · refine ifN (by rw [hb]; decide +kernel) ?_
        refine ⟨_, rfl, _, rfl, x, rfl, by rw [sizeLine_eq]; omega, _, rfl, fun D nD => ?_⟩
        have etl : tl (cutS x (some 2) none) = r := by
          rw [show (2 : Int) = ((2 : Nat) : Int) from rfl, tl_from, ex]
          rfl
        refine signs_not nD (Nat.le_trans (cutS_length _ _ _) lx) (l := lets) (fun c G R1 R0 q => ⟨rfl, _, rfl, _, rfl, c, letsT, rfl, rfl, _, rfl, ite_imp q fun h => ⟨_, rfl, h⟩⟩) (fun G sG hD => ?_)
        rw [etl] at hD
        refine ⟨D, _, rfl, .inl (SqL.of hD), rfl, at_ ?_ G sG⟩
        rw [List.length_map, ev, ha, decide_eq_true hb, Bool.true_and, Bool.true_and]
        have fn := filter_none lets r
        cases q : r.all fun c => decide (c ∈ lets) with
        | true => rw [fn.mpr q]; rfl
        | false =>
          symm
          exact decide_eq_false fun z => by
            have := fn.mp (by have := V.int.inj z; omega)
            rw [q] at this
            cases this
      · refine ifY ?_ (at_ (by rw [ev, decide_eq_false hb, Bool.and_false]; rfl) H (Same.refl H))
        have : ¬ (V.str ⟨#[b]⟩ = V.str "_") := fun z => hb (by
          have z3 := str_eq.mp z
          rw [show tl ("_" : Str) = [95] from by decide +kernel] at z3
          exact (List.cons.inj (show [b] = [95] from z3)).1)
        rw [decide_eq_false this]
        rfl
end
end K6

set_option Elab.async false
set_option linter.all false
set_option maxRecDepth 100000
set_option maxHeartbeats 4000000
set_option autoImplicit false
set_option pp.maxSteps 600
/-! The law's reading of a term. -/
namespace K6
open PySem L2 TL K1D
open PySem.W (dataLe)
abbrev sLTerm : Stmt := top 33
def spLTerm (K : PySem.W.Frag) : Sp := fun vs H Q _ => ∃ x : Str, vs = [.str x] ∧ x.length ≤ 10000000 ∧ TermAns K (lTerm x) H Q
theorem in_strs (s : Str) (l : List Str) : inV (.str s) (l.map V.str) = decide (s ∈ l) := by
  unfold inV
  rw [List.any_map]
  have : ∀ y : Str, ((fun y => eqV y (V.str s)) ∘ V.str) y = decide (y = s) := fun y => by
    show (y == s) = _
    by_cases h : y = s
    · rw [h]; simp
    · simp [h]
  rw [show ((fun y => eqV y (V.str s)) ∘ V.str) = fun y => decide (y = s) from funext this]
  by_cases h : s ∈ l
  · rw [decide_eq_true h, List.any_eq_true]
    exact ⟨s, h, decide_eq_true rfl⟩
  · rw [decide_eq_false h, List.any_eq_false]
    intro y hy e
    rw [decide_eq_true_eq] at e
    rw [e] at hy
    exact h hy
theorem flat_strs : ∀ l : List Str, (l.map V.str).all flatV = true
  | [] => rfl
  | x :: l => by rw [List.map_cons, List.all_cons, flat_strs l]; rfl
section
variable {P : Program} {w : World} {K : PySem.W.Frag} {mg : Str → Option Value} {base : Heap} {fU fN : Addr} {dU dN : FuncData}
structure LTermTxt (P : Program) (w : World) (K : PySem.W.Frag) (mg : Str → Option Value) (base : Heap) (fU fN : Addr) (dU dN : FuncData) : Prop where
  sorted : mg "sorted" = none
  okU : FnOk P w K mg base CX0 1 fU dU ["word"] spLNum
  bU : Binds K dU ["word"] []
  gU : mg "_law_is_number" = some (.ref fU)
  kU : PySem.W.keepIn K (.ref fU) = true
  okN : FnOk P w K mg base CX0 1 fN dN ["word"] spIsVar
  bN : Binds K dN ["word"] []
  gN : mg "_law_is_name" = some (.ref fN)
  kN : PySem.W.keepIn K (.ref fN) = true
theorem rowF_cons (acc : Mon) (x : Str) (r : List Str) : rowF acc (x :: r) = match lFac x with
    | none => none
    | some f => if f.1 ∈ acc.map (·.1) then none else rowF (acc ++ [f]) r := rfl
theorem scLTerm : FnScope ["word", "parts", "size", "row", "part", "both", "high", "pair"] ["word"] (defScope sLTerm) := ⟨rfl, rfl, rfl, by decide +kernel, rfl, by decide +kernel, by decide +kernel⟩
theorem ok_lterm {f : Addr} {fd : FuncData} (F : Fun K "_law_term" "_law_term" sLTerm f fd) (T : ProgTxt K mg) (U : LTermTxt P w K mg base fU fN dU dN) : FnOk P w K mg base CX0 2 f fd ["word"] (spLTerm K) := by
  refine F.ok scLTerm (fun vs H Q E h => ?_) (fun cdv A outer s H vs Q E hr h => ?_)
  · obtain ⟨x, rfl, _⟩ := h
    rfl
  · obtain ⟨x, rfl, lx, no, yes⟩ := h
    refine ⟨_, pss_cons (ps_set (i := 1) scLTerm.nd rfl (Or.inl rfl) (pe_split (pv 0) pe_str))
      (pss_cons (ps_set (i := 2) scLTerm.nd rfl (Or.inl rfl) pe_int)
      (C8.pss_cut (ps_if (pt_val (pe_call U.okU hr rfl U.gU U.kU U.bU .nil pass0 (pa_cons (pe_ix ix_list (pv 1) pe_int (fun _ _ => rfl)) pa_nil)))
        (pss_cons (ps_set (i := 2) scLTerm.nd rfl (Or.inl rfl) (pe_callTy call_int_str (by rfl) T.int (by decide +kernel) (pa_cons (pe_ix ix_list (pv 1) pe_int (fun _ _ => rfl)) pa_nil)))
        (pss_one (ps_set (i := 1) scLTerm.nd rfl (Or.inl rfl) (pe_slice sl_list (pv 1) (po_some pe_int) po_none)))) pss_nil)
      (pss_cons (ps_set (i := 3) scLTerm.nd rfl (Or.inl rfl) (pe_lst pa_nil))
      (pss_cons (ps_for PassesOwn.never rfl (pi_list (pv 1)) (pg_name (i := 4) scLTerm.nd rfl (Or.inl rfl))
        (pss_cons (ps_set (i := 5) scLTerm.nd rfl (Or.inl rfl) (pe_split (pv 4) pe_str))
        (pss_cons (ps_if (PW.pt (pw_or (pt_not (pt_val (pe_call U.okN hr rfl U.gN U.kN U.bN .nil pass0 (pa_cons (pe_ix ix_list (pv 5) pe_int (fun _ _ => rfl)) pa_nil)))) (pw_or1 (pt_cmpR op_gt (pe_callB call_len_seq (by rfl) T.len PySem.boot_len (pa_cons (pv 5) pa_nil)) pe_int (nomark _))))) (pss_one (ps_ret pe_non)) pss_nil)
        (pss_cons (ps_set (i := 6) scLTerm.nd rfl (Or.inl rfl) pe_int)
        (C8.pss_cut (ps_if (pt_cmpR op_eq (pe_callB call_len_seq (by rfl) T.len PySem.boot_len (pa_cons (pv 5) pa_nil)) pe_int (nomark _))
          (pss_cons (ps_if (PW.pt (pw_or (pt_not (pt_val (pe_call U.okU hr rfl U.gU U.kU U.bU .nil pass0 (pa_cons (pe_ix ix_list (pv 5) pe_int (fun _ _ => rfl)) pa_nil)))) (pw_or1 (pt_cmpR op_gt (pe_callB call_len_str (by rfl) T.len PySem.boot_len (pa_cons (pe_ix ix_list (pv 5) pe_int (fun _ _ => rfl)) pa_nil)) pe_int (nomark _))))) (pss_one (ps_ret pe_non)) pss_nil)
          (pss_one (ps_set (i := 6) scLTerm.nd rfl (Or.inl rfl) (pe_callTy call_int_str (by rfl) T.int (by decide +kernel) (pa_cons (pe_ix ix_list (pv 5) pe_int (fun _ _ => rfl)) pa_nil))))) pss_nil)
        (pss_cons (ps_if (PW.pt (pw_or (pt_cmpR op_gt (pv 6) pe_int (nomark _)) (pw_or1 (pt_cmpR op_in_seq (pe_ix ix_list (pv 5) pe_int (fun _ _ => rfl)) (pe_lc (own := [("pair", 7)]) (g := gName 7) (te := tOp (rIxT K) (tVar 7) (tC (.int 0))) rfl scLTerm.nd (pi_list (pv 3)) (blkOk_by (own := [("pair", 7)]) (N := ["word", "parts", "size", "row", "part", "both", "high", "pair"]) (sc := defScope sLTerm) (by decide +kernel))
              (fun _ _ _ _ _ => pg_name (i := 7) scLTerm.nd rfl (Or.inl rfl)) (fun _ _ _ _ _ => pts_nil) (fun _ _ _ _ _ => pe_ix ix_tup (pv 7) pe_int (fun _ _ => rfl))) (by rfl))))) (pss_one (ps_ret pe_non)) pss_nil)
        (pss_one (ps_expr (pe_bm PySem.F.plainAttrs_list PySem.F.slot_list_append PySem.F.type_list_append mt_append (pv 3) (pa_cons (pe_tup (pa_cons (pe_ix ix_list (pv 5) pe_int (fun _ _ => rfl)) (pa_cons (pv 6) pa_nil))) pa_nil))))))))))
      (pss_one (ps_ret (pe_tup (pa_cons (pe_callTy call_tuple_of (by rfl) T.tuple (by decide +kernel) (pa_cons (pe_callB (show CallR _ (.builtin "sorted") (rSortT K facK) from cr_sortT hr.units al_fac (fun b => ⟨_, rfl⟩) (fun b => Nat.le_trans (dep_fac b) (by decide))) (by rfl) U.sorted (by decide +kernel) (pa_cons (pv 3) pa_nil)) pa_nil)) (pa_cons (pv 2) pa_nil))))))))), ?_⟩
    obtain ⟨z, r, er⟩ := split_ne x "*"
    obtain ⟨w1, w2⟩ := split_len x "*" (by decide +kernel)
    refine ⟨_, rfl, ⟨_, rfl⟩, _, _, rfl, rfl, by decide +kernel, by rw [sizeLine_eq]; omega, fun a na => ?_⟩
    have s1 : Same H (upd H a (.lst ((Txt.split x "*").map V.str))) := same_new na
    have a1 : upd H a (.lst ((Txt.split x "*").map V.str)) a = some (.lst ((Txt.split x "*").map V.str)) := upd_same
    generalize upd H a (.lst ((Txt.split x "*").map V.str)) = G1 at s1 a1 ⊢
    refine ⟨fun σ G => ∃ b : Addr, σ = [some (.str x), some (.ref b), some (.int (headNum (Txt.split x "*")).1), none, none, none, none, none] ∧ Same H G ∧ G b = some (.lst ((headNum (Txt.split x "*")).2.map V.str)), ?_, ?_⟩
    · rw [er] at a1 w1 w2 ⊢
      have z0 : atI ((z :: r).map V.str) 0 = some (V.str z) := (show atI _ ((0 : Nat) : Int) = some (V.str z) from atI_nat rfl)
      have lz := w2 z List.mem_cons_self
      refine ⟨_, rfl, a, _, _, _, rfl, rfl, SqL.of a1, z0, z, rfl, by omega, fun G2 s2 => ⟨_, rfl, ?_⟩⟩
      have a2 := s2 _ _ a1
      rw [headNum_cons]
      cases hf : isFgs 200 (tl z) with
      | false => exact ifN rfl ⟨a, rfl, s1.trans s2, a2⟩
      | true =>
        have ni := num_int hf (by decide)
        have l2 : z.length ≤ 640 := by have := (fgs_iff.mp hf).le; rw [len_tl]; omega
        refine ifY rfl ?_
        refine ⟨_, rfl, a, _, _, _, rfl, rfl, SqL.of a2, z0, z, _, rfl, ni, l2, ?_⟩
        refine ⟨_, rfl, _, rfl, a, _, rfl, SqL.of a2, fun b nb => ⟨b, rfl, (s1.trans s2).trans (same_new nb), ?_⟩⟩
        rw [upd_same, show cutV ((z :: r).map V.str) (some 1) none = r.map V.str from cut_tail _ _]
        rfl
    · rintro σ G ⟨b, rfl, sG, hb⟩
      have el : lTerm x = match rowF [] (headNum (Txt.split x "*")).2 with
        | none => none
        | some m => some (sortF m, (headNum (Txt.split x "*")).1) := rfl
      have hsub := headNum_sub (Txt.split x "*")
      have hlen := headNum_len (Txt.split x "*")
      generalize (headNum (Txt.split x "*")).1 = z at el hb ⊢
      generalize (headNum (Txt.split x "*")).2 = fs at el hb hsub hlen ⊢
      refine ⟨by decide, fun L nL => ?_⟩
      have sL : Same G (upd G L (.lst [])) := same_new nL
      have hL0 : upd G L (.lst []) L = some (.lst []) := upd_same
      have HL : H L = none := sG.free nL
      refine ⟨_, rfl, b, rfl, ⟨_, SqL.of (sL _ _ hb)⟩, ?_⟩
      refine for_it (walk_list (K := K) (a := b) (xs := fs.map V.str)) (fun i σ G' => ∃ (u4 u5 u6 : Option V) (acc : Mon) (vs : List V), σ = [some (.str x), some (.ref b), some (.int z), some (.ref L), u4, u5, u6, none] ∧ Same G G' ∧ G' L = some (.lst vs) ∧ KeyVs K G' (acc.map facK) vs ∧ rowF [] fs = rowF acc (fs.drop i) ∧ acc.length ≤ i)
        ⟨none, none, none, [], [], rfl, sL, hL0, .nil, rfl, Nat.le_refl _⟩ (fun i σ G' _ ⟨_, _, _, _, _, _, s', _⟩ => s'.seq (SqL.of hb)) (fun i v σ G' G'' hi ⟨u4, u5, u6, acc, vs, hσ, sG', hL, kv, er2, la⟩ ⟨e, hv⟩ => ?_) (fun σ G' ⟨u4, u5, u6, acc, vs, hσ, sG', hL, kv, er2, la⟩ => ?_)
      · subst hσ e
        obtain ⟨y, rfl, hy⟩ := map_str_at hv
        have ly := w2 y (hsub y (List.mem_of_getElem? hy))
        have ed : fs.drop i = y :: fs.drop (i + 1) := by
          obtain ⟨lt, ey⟩ := List.getElem?_eq_some_iff.mp hy
          rw [List.drop_eq_getElem_cons lt, ey]
        rw [ed, rowF_cons] at er2
        have sH := sG.trans sG'
        have bad : lFac y = none → ∀ G5, Same H G5 → Q .non G5 := fun h G5 s5 => no (by rw [el, er2, h]) G5 s5
        obtain ⟨n, r2, er3⟩ := split_ne y "^"
        obtain ⟨v1, v2⟩ := split_len y "^" (by decide +kernel)
        have elf : lFac y = if isVarL (tl n) = true ∧ r2.length ≤ 1 then
            (match r2 with
              | [] => some (n, 1)
              | e :: _ => if (isFgs 200 (tl e) = true ∧ (tl e).length ≤ 2) ∧ numOf e ≤ 40 then some (n, (numOf e : Int)) else none)
            else none := by
          unfold lFac
          rw [er3]
          all_goals (cases r2 <;> rfl)
        have lacc : acc.length ≤ 10000001 := by
          rw [List.length_map] at hi
          omega
        rw [er3] at v1 v2
        have ln := v2 n List.mem_cons_self
        refine ⟨_, rfl, ⟨_, rfl⟩, _, _, rfl, rfl, by decide +kernel, by rw [sizeLine_eq]; omega, fun c nc => ?_⟩
        rw [er3]
        have sc : Same G'' (upd G'' c (.lst ((n :: r2).map V.str))) := same_new nc
        have hc : upd G'' c (.lst ((n :: r2).map V.str)) c = some (.lst ((n :: r2).map V.str)) := upd_same
        generalize upd G'' c (.lst ((n :: r2).map V.str)) = G2 at sc hc ⊢
        have n0 : atI ((n :: r2).map V.str) 0 = some (V.str n) := (show atI _ ((0 : Nat) : Int) = some (V.str n) from atI_nat rfl)
        refine ⟨_, rfl, c, _, _, _, rfl, rfl, SqL.of hc, n0, n, rfl, by omega, fun G3 s3 => ⟨_, rfl, ?_⟩⟩
        have hc3 := s3 _ _ hc
        have s13 := sc.trans s3
        cases hv : isVarL (tl n) with
        | false => exact ifY rfl (bad (by rw [elf, hv]; exact if_neg fun h => by cases h.1) G3 (sH.trans s13))
        | true =>
          refine ifN rfl ⟨_, rfl, c, _, rfl, .inl (SqL.of hc3), _, _, rfl, rfl, _, rfl, ?_⟩
          by_cases r1 : r2.length ≤ 1
          · refine ifN (decide_eq_false (by rw [List.length_map, List.length_cons]; omega)) ?_
            rw [if_pos ⟨hv, r1⟩] at elf
            refine ⟨fun σ G4 => ∃ hi : Int, σ = [some (.str x), some (.ref b), some (.int z), some (.ref L), some (.str y), some (.ref c), some (.int hi), none] ∧ Same G3 G4 ∧ (lFac y = if hi ≤ 40 then some (n, hi) else none), ?_, ?_⟩
            · refine ⟨_, rfl, c, _, rfl, .inl (SqL.of hc3), rfl, _, rfl, ?_⟩
              cases r2 with
              | nil => exact ifN (decide_eq_false fun q => by have := V.int.inj q; simp at this) ⟨1, rfl, Same.refl G3, elf⟩
              | cons e r4 =>
                have : r4 = [] := List.length_eq_zero_iff.mp (by rw [List.length_cons] at r1; omega)
                subst this
                have le := v2 e (by simp)
                have e1 : atI ([n, e].map V.str) 1 = some (V.str e) := (show atI _ ((1 : Nat) : Int) = some (V.str e) from atI_nat rfl)
                refine ifY (decide_eq_true rfl) ⟨_, rfl, c, _, _, _, rfl, rfl, SqL.of hc3, e1, e, rfl, by omega, fun G4 s4 => ⟨_, rfl, ?_⟩⟩
                have hc4 := s4 _ _ hc3
                have elf2 : lFac y = if (isFgs 200 (tl e) = true ∧ (tl e).length ≤ 2) ∧ numOf e ≤ 40 then some (n, (numOf e : Int)) else none := elf
                cases hf : isFgs 200 (tl e) with
                | false => exact ifY rfl (bad (by rw [elf2, hf]; exact if_neg fun h => by cases h.1.1) G4 (sH.trans (s13.trans s4)))
                | true =>
                  refine ifN rfl ⟨_, rfl, c, _, _, _, rfl, rfl, SqL.of hc4, e1, e, rfl, by rw [sizeLine_eq]; omega, _, _, rfl, rfl, _, rfl, ?_⟩
                  by_cases l2 : e.length ≤ 2
                  · refine ifN (decide_eq_false (by omega)) ⟨_, rfl, c, _, _, _, rfl, rfl, SqL.of hc4, e1, e, _, rfl, num_int hf (by decide), by omega, _, rfl, s4, ?_⟩
                    rw [elf2]
                    by_cases n40 : numOf e ≤ 40
                    · rw [if_pos ⟨⟨hf, by rw [← len_tl]; exact l2⟩, n40⟩, if_pos (by omega)]
                    · rw [if_neg fun h => n40 h.2, if_neg (by omega)]
                  · exact ifY (decide_eq_true (by omega)) (bad (by rw [elf2]; exact if_neg fun h => l2 (by rw [len_tl]; exact h.1.2)) G4 (sH.trans (s13.trans s4)))
            · rintro σ G4 ⟨hi, rfl, s4, elh⟩
              have sH4 := sH.trans (s13.trans s4)
              have s14 := s13.trans s4
              refine ⟨_, rfl, _, _, rfl, rfl, _, rfl, ?_⟩
              by_cases h40 : hi ≤ 40
              · rw [if_pos h40] at elh
                rw [elh] at er2
                have hL4 := s14 _ _ hL
                have hc4 := s4 _ _ hc3
                have kv4 := KeyVs.up (same_tups (K := K) s14) _ _ kv
                have lv := keyVs_len kv
                rw [List.length_map] at lv
                refine ifN (decide_eq_false (by omega)) ⟨_, rfl, c, _, _, _, rfl, rfl, SqL.of hc4, n0, _, rfl, L, rfl, ⟨_, SqL.of hL4⟩, fun D nD => ?_⟩
                refine lc_it (walk_list (K := K) (a := L) (xs := vs)) (fun j G5 => Same G4 G5 ∧ G5 D = some (.lst (((acc.take j).map (·.1)).map V.str))) ⟨same_new nD, upd_same⟩ (fun j G5 _ h => h.1.seq (SqL.of hL4)) (fun j w5 G5 G6 hj ⟨s5, hD⟩ ⟨e, hw⟩ => ?_) (fun G5 ⟨s5, hD⟩ => ?_)
                · subst e
                  obtain ⟨k, hk, kw⟩ := keyVs_get kv4 hw
                  rw [List.getElem?_map] at hk
                  obtain ⟨f, hf, rfl⟩ : ∃ f, acc[j]? = some f ∧ k = facK f := by
                    cases q : acc[j]? with
                    | none => rw [q] at hk; cases hk
                    | some f => rw [q] at hk; exact ⟨f, rfl, (Option.some.inj hk).symm⟩
                  obtain ⟨q, rfl, hq⟩ := kv_fac.mp kw
                  refine ⟨rfl, _, rfl, q, _, _, _, rfl, rfl, SqT.of (s5 _ _ hq), (show atI _ ((0 : Nat) : Int) = some (V.str f.1) from atI_nat rfl), _, hD, ?_, fun b o e => (upd_ne (ne_of_none e nD)).trans (s5 b o e), ?_⟩
                  · rw [List.length_map, List.length_map, List.length_take, sizeLine_eq]
                    omega
                  · rw [upd_same, take_snoc hf, List.map_append, List.map_append]
                    rfl
                · rw [lv, List.take_length] at hD
                  refine ⟨D, _, rfl, .inl (SqL.of hD), rfl, flat_strs _, _, rfl, ?_⟩
                  rw [if_neg Bool.false_ne_true, in_strs]
                  by_cases hm : n ∈ acc.map (·.1)
                  · refine ifY (decide_eq_true hm) (no ?_ G5 (sH4.trans s5))
                    rw [el, er2]
                    show (match (if n ∈ acc.map (·.1) then none else rowF (acc ++ [(n, hi)]) (fs.drop (i + 1))) with
                      | none => none
                      | some m => some (sortF m, z)) = none
                    rw [if_pos hm]
                  · have er5 : rowF [] fs = rowF (acc ++ [(n, hi)]) (fs.drop (i + 1)) := er2.trans (if_neg hm)
                    have hL5 := s5 _ _ hL4
                    refine ifN (decide_eq_false hm) ⟨_, rfl, .inl ⟨rfl, _, SqL.of hL5⟩, _, rfl, c, _, _, _, rfl, rfl, SqL.of (s5 _ _ hc4), n0, _, rfl, by show 2 ≤ sizeLine; decide, fun q nq => ?_⟩
                    have s6 := (s14.trans s5).trans (same_new (o := .tup [.str n, .int hi]) nq)
                    have hL6 : upd G5 q (.tup [.str n, .int hi]) L = some (.lst vs) := (upd_ne (ne_of_none hL5 nq)).trans hL5
                    have hq6 : upd G5 q (.tup [.str n, .int hi]) q = some (.tup [.str n, .int hi]) := upd_same
                    generalize upd G5 q (.tup [.str n, .int hi]) = G6 at s6 hL6 hq6 ⊢
                    refine ⟨L, _, _, rfl, rfl, hL6, by rw [lv, sizeLine_eq]; omega, ?_⟩
                    refine ⟨_, _, _, acc ++ [(n, hi)], _, rfl, fun b o e => (upd_ne (ne_of_none e nL)).trans ((sG'.trans s6) b o e), upd_same, ?_, er5, by rw [List.length_append]; show acc.length + 1 ≤ i + 1; omega⟩
                    have t6 : Tups K G6 (upd G6 L (.lst (vs ++ [.ref q]))) := tups_lst hL6
                    rw [List.map_append]
                    exact keyVs_app (KeyVs.up t6 _ _ (KeyVs.up (same_tups s6) _ _ kv)) (.cons (KeyV.up t6 _ _ (kv_fac.mpr ⟨q, rfl, hq6⟩)) .nil)
              · rw [if_neg h40] at elh
                exact ifY (decide_eq_true (by omega)) (bad elh G4 sH4)
          · exact ifY (decide_eq_true (by rw [List.length_map, List.length_cons]; omega)) (bad (by rw [elf]; exact if_neg fun h => r1 h.2) G3 (sH.trans s13))
      · subst hσ
        have e0 : fs.drop (fs.map V.str).length = [] := by rw [List.length_map]; exact List.drop_length
        rw [e0] at er2
        have er3 : lTerm x = some (sortF acc, z) := by rw [el, er2]; rfl
        refine ⟨_, rfl, acc, L, vs, rfl, SqL.of hL, kv, fun zs p kz np => ?_⟩
        refine ⟨p, zs, rfl, .inl ⟨SqL.of upd_same, fun T1 n1 => ?_⟩⟩
        refine ⟨_, rfl, by show 2 ≤ sizeLine; decide, fun q nq => ?_⟩
        have s6 := ((sG.trans sG').trans (same_new (o := .lst zs) np)).trans (same_new (o := .tup zs) n1)
        refine yes (sortF acc, z) er3 q _ (s6.trans (same_new nq)) (kv_term.mpr ⟨q, _, rfl, upd_same, KeyV.up (same_tups (same_new nq)) _ _ (kv_mon.mpr ⟨T1, zs, rfl, upd_same, ?_⟩)⟩)
        exact KeyVs.up (same_tups ((same_new np).trans (same_new n1))) _ _ kz
end
end K6

set_option Elab.async false
set_option linter.all false
set_option maxRecDepth 100000
set_option maxHeartbeats 4000000
/-! Dicts of nested keys whose values are ints, and lists of such pairs. Speaks of no program. -/
namespace K1D
open PySem PySem.Spec PyProof.Rows L2
def valI (m : List NI) (k : NestedKey) : Option Int := (m.find? fun x => decide (x.1 = k)).map (·.2)
def putI (m : List NI) (k : NestedKey) (c : Int) : List NI := if (valI m k).isSome then m.map fun x => if x.1 = k then (x.1, c) else x else m ++ [(k, c)]
def dropI (m : List NI) (k : NestedKey) : List NI := m.filter fun x => decide (x.1 ≠ k)
def keysI (m : List NI) : List NestedKey := m.map (·.1)
theorem ints_nil {m : List NI} (h : IntsN [] m) : m = [] := by
  cases m with
  | nil => rfl
  | cons x r => cases h
theorem ints_cons {x : NE} {kvs : List NE} {m : List NI} (h : IntsN (x :: kvs) m) : ∃ c r, m = (x.1, c) :: r ∧ x.2.2 = V.int c ∧ IntsN kvs r := by
  cases m with
  | nil => cases h
  | cons y r =>
    have h' : (x.1, x.2.2) :: kvs.map (fun x => (x.1, x.2.2)) = (y.1, V.int y.2) :: r.map fun x => (x.1, V.int x.2) := h
    injection h' with h1 h2
    obtain ⟨h3, h4⟩ := Prod.mk.inj h1
    exact ⟨y.2, r, by rw [h3], h4, h2⟩
theorem ints_mk {x : NE} {kvs : List NE} {c : Int} {m : List NI} (e : x.2.2 = V.int c) (h : IntsN kvs m) : IntsN (x :: kvs) ((x.1, c) :: m) := by
  show (x.1, x.2.2) :: kvs.map (fun x => (x.1, x.2.2)) = (x.1, V.int c) :: m.map fun x => (x.1, V.int x.2)
  rw [e, show kvs.map (fun x => (x.1, x.2.2)) = m.map fun x => (x.1, V.int x.2) from h]
theorem ints_val : ∀ {kvs : List NE} {m : List NI}, IntsN kvs m → ∀ k, valN kvs k = (valI m k).map V.int
  | [], m, h, k => by rw [ints_nil h]; rfl
  | x :: kvs, m, h, k => by
    obtain ⟨c, r, rfl, e, t⟩ := ints_cons h
    have ih := ints_val t k
    unfold valN valI at *
    rw [List.find?_cons, List.find?_cons]
    by_cases z : x.1 = k
    · rw [decide_eq_true z]
      simp [e]
    · rw [decide_eq_false z]
      exact ih
theorem ints_repl (k : NestedKey) (c : Int) : ∀ {kvs : List NE} {m : List NI}, IntsN kvs m → IntsN (kvs.map fun x => if x.1 = k then (x.1, x.2.1, V.int c) else x) (m.map fun x => if x.1 = k then (x.1, c) else x)
  | [], m, h => by rw [ints_nil h]; rfl
  | x :: kvs, m, h => by
    obtain ⟨c', r, rfl, e, t⟩ := ints_cons h
    rw [List.map_cons, List.map_cons]
    by_cases z : x.1 = k
    · rw [if_pos z, if_pos (show ((x.1, c') : NI).1 = k from z)]
      exact ints_mk (x := (x.1, x.2.1, V.int c)) rfl (ints_repl k c t)
    · rw [if_neg z, if_neg (show ¬ ((x.1, c') : NI).1 = k from z)]
      exact ints_mk e (ints_repl k c t)
theorem ints_app : ∀ {kvs ls : List NE} {m n : List NI}, IntsN kvs m → IntsN ls n → IntsN (kvs ++ ls) (m ++ n) := fun {kvs ls m n} h g => by
  show (kvs ++ ls).map _ = (m ++ n).map _
  rw [List.map_append, List.map_append]
  exact congr (congrArg _ h) g
theorem ints_put {kvs : List NE} {m : List NI} (h : IntsN kvs m) (k : NestedKey) (b : Addr) (c : Int) : IntsN (putN kvs k b (.int c)) (putI m k c) := by
  unfold putN putI
  rw [ints_val h k, Option.isSome_map]
  split
  · exact ints_repl k c h
  · exact ints_app h (ints_mk (x := (k, b, V.int c)) rfl rfl)
theorem ints_drop (k : NestedKey) : ∀ {kvs : List NE} {m : List NI}, IntsN kvs m → IntsN (dropN kvs k) (dropI m k)
  | [], m, h => by rw [ints_nil h]; rfl
  | x :: kvs, m, h => by
    obtain ⟨c, r, rfl, e, t⟩ := ints_cons h
    unfold dropN dropI
    rw [List.filter_cons, List.filter_cons]
    by_cases z : x.1 = k
    · rw [if_neg (by simp [z]), if_neg (by simp [z])]
      exact ints_drop k t
    · rw [if_pos (by simp [z]), if_pos (by simp [z])]
      exact ints_mk e (ints_drop k t)
/-! ### the lists alone -/
theorem valI_nil (k : NestedKey) : valI [] k = none := rfl
theorem valI_cons (x : NI) (m : List NI) (k : NestedKey) : valI (x :: m) k = if x.1 = k then some x.2 else valI m k := by
  unfold valI
  rw [List.find?_cons]
  by_cases z : x.1 = k
  · rw [decide_eq_true z, if_pos z]; rfl
  · rw [decide_eq_false z, if_neg z]
theorem valI_none {m : List NI} {k : NestedKey} : valI m k = none ↔ k ∉ keysI m := by
  induction m with
  | nil => simp [valI, keysI]
  | cons x m ih =>
    rw [valI_cons]
    unfold keysI at *
    rw [List.map_cons, List.mem_cons]
    by_cases z : x.1 = k
    · rw [if_pos z]; simp [z]
    · rw [if_neg z, ih]
      constructor
      · intro h q
        rcases q with q | q
        · exact z q.symm
        · exact h q
      · intro h q
        exact h (.inr q)
theorem valI_mem {m : List NI} (nd : (keysI m).Nodup) {k : NestedKey} {c : Int} : valI m k = some c ↔ (k, c) ∈ m := by
  induction m with
  | nil => simp [valI]
  | cons x m ih =>
    have nd' : x.1 ∉ keysI m ∧ (keysI m).Nodup := List.nodup_cons.mp nd
    rw [valI_cons, List.mem_cons]
    by_cases z : x.1 = k
    · rw [if_pos z]
      constructor
      · intro h
        exact .inl (Prod.ext z.symm (Option.some.inj h).symm)
      · intro h
        rcases h with h | h
        · rw [← h]
        · exact absurd (show x.1 ∈ keysI m from by rw [z]; exact List.mem_map.mpr ⟨_, h, rfl⟩) nd'.1
    · rw [if_neg z, ih nd'.2]
      constructor
      · exact .inr
      · intro h
        rcases h with h | h
        · exact absurd (by rw [← h]) z
        · exact h
theorem valI_put (m : List NI) (k : NestedKey) (c : Int) (j : NestedKey) : valI (putI m k c) j = if j = k then some c else valI m j := by
  unfold putI
  by_cases s : (valI m k).isSome = true
  · rw [if_pos s]
    have key : ∀ l : List NI, (valI l k).isSome = true ∨ j ≠ k → valI (l.map fun x => if x.1 = k then (x.1, c) else x) j = if j = k then some c else valI l j := by
      intro l
      induction l with
      | nil =>
        intro h
        rcases h with h | h
        · cases h
        · rw [if_neg h]; rfl
      | cons x l ih =>
        intro h
        rw [List.map_cons, valI_cons, valI_cons]
        by_cases z : x.1 = k
        · rw [if_pos z]
          by_cases y : j = k
          · rw [if_pos y, if_pos (by rw [z, y])]
          · rw [if_neg y, if_neg (by rw [z]; exact fun q => y q.symm), if_neg (by rw [z]; exact fun q => y q.symm), ih (.inr y), if_neg y]
        · rw [if_neg z]
          by_cases y : j = k
          · rw [if_pos y, if_neg (by rw [y]; exact z), ih (by
              rw [valI_cons, if_neg z] at h
              exact h), if_pos y]
          · rw [if_neg y]
            by_cases u : x.1 = j
            · rw [if_pos u, if_pos u]
            · rw [if_neg u, if_neg u, ih (.inr y), if_neg y]
    exact key m (.inl s)
  · rw [if_neg s]
    have sn : valI m k = none := by
      cases h : valI m k with
      | none => rfl
      | some v => rw [h] at s; exact absurd rfl s
    have key : ∀ l : List NI, valI (l ++ [(k, c)]) j = (valI l j).or (if j = k then some c else none) := by
      intro l
      induction l with
      | nil =>
        rw [List.nil_append, valI_cons]
        by_cases y : j = k
        · rw [if_pos y, if_pos (show ((k, c) : NI).1 = j from y.symm)]; rfl
        · rw [if_neg y, if_neg (show ¬ ((k, c) : NI).1 = j from fun q => y q.symm)]; rfl
      | cons x l ih =>
        rw [List.cons_append, valI_cons, valI_cons]
        by_cases u : x.1 = j
        · rw [if_pos u, if_pos u]; rfl
        · rw [if_neg u, if_neg u, ih]
    rw [key m]
    by_cases y : j = k
    · rw [if_pos y, if_pos y, y, sn]; rfl
    · rw [if_neg y, if_neg y]
      cases valI m j <;> rfl
theorem valI_drop (m : List NI) (k j : NestedKey) : valI (dropI m k) j = if j = k then none else valI m j := by
  induction m with
  | nil => rw [show dropI [] k = [] from rfl, valI_nil]; split <;> rfl
  | cons x m ih =>
    unfold dropI at *
    rw [List.filter_cons]
    by_cases z : x.1 = k
    · rw [if_neg (by simp [z]), ih, valI_cons]
      by_cases y : j = k
      · rw [if_pos y, if_pos y]
      · rw [if_neg y, if_neg y, if_neg (by rw [z]; exact fun q => y q.symm)]
    · rw [if_pos (by simp [z]), valI_cons, valI_cons, ih]
      by_cases y : j = k
      · rw [if_pos y, if_pos y, if_neg (by rw [y]; exact z)]
      · rw [if_neg y, if_neg y]
theorem keysI_put (m : List NI) (k : NestedKey) (c : Int) : keysI (putI m k c) = if (valI m k).isSome then keysI m else keysI m ++ [k] := by
  unfold putI keysI
  split
  · rw [List.map_map]
    refine List.map_congr_left fun x hx => ?_
    show (if x.1 = k then (x.1, c) else x).1 = x.1
    split <;> rfl
  · rw [List.map_append]; rfl
theorem nodup_put {m : List NI} (nd : (keysI m).Nodup) (k : NestedKey) (c : Int) : (keysI (putI m k c)).Nodup := by
  rw [keysI_put]
  split
  · exact nd
  · rename_i h
    refine List.nodup_append.mpr ⟨nd, by simp, fun a ha b hb => ?_⟩
    rw [List.mem_singleton] at hb
    subst hb
    rintro rfl
    have : valI m a = none := by
      cases q : valI m a with
      | none => rfl
      | some v => rw [q] at h; exact absurd rfl h
    exact valI_none.mp this ha
theorem nodup_drop {m : List NI} (nd : (keysI m).Nodup) (k : NestedKey) : (keysI (dropI m k)).Nodup := nd.sublist (List.filter_sublist.map _)
theorem len_put (m : List NI) (k : NestedKey) (c : Int) : (putI m k c).length ≤ m.length + 1 := by
  unfold putI
  split
  · rw [List.length_map]; omega
  · rw [List.length_append]; exact Nat.le_refl _
theorem len_drop (m : List NI) (k : NestedKey) : (dropI m k).length ≤ m.length := List.length_filter_le _ _
/-- at d a dict, its pairs m in their order -/
def DictI (K : PySem.W.Frag) (w : World) (H : Hp) (d : Addr) (m : List NI) : Prop := ∃ kvs : List NE, H d = some (dN w d kvs) ∧ KeysN K H kvs ∧ IntsN kvs m ∧ (keysI m).Nodup
theorem DictI.up {K : PySem.W.Frag} {w : World} {H H' : Hp} {d : Addr} {m : List NI} (h : DictI K w H d m) (e : ∀ a o, H a = some o → H' a = some o) : DictI K w H' d m :=
  let ⟨kvs, h1, h2, h3⟩ := h; ⟨kvs, e _ _ h1, h2.up (Tups.ext e), h3⟩
/-- keys and values of m, all keys of one kind -/
theorem keysN_mem {K : PySem.W.Frag} {H : Hp} {kvs : List NE} {m : List NI} (ks : KeysN K H kvs) (h : IntsN kvs m) {j : Nat} {y : NI} (hy : m[j]? = some y) : ∃ e, kvs[j]? = some e ∧ e.1 = y.1 ∧ e.2.2 = V.int y.2 ∧ KeyV K H y.1 (.ref e.2.1) ∧ y.1.depth ≤ 8 := by
  have hl := ints_len h
  have hj : j < kvs.length := by rw [hl]; exact (List.getElem?_eq_some_iff.mp hy).1
  have hk : kvs[j]? = some kvs[j] := List.getElem?_eq_getElem hj
  obtain ⟨c, hc, hv⟩ := ints_at h hk
  rw [hy] at hc
  have e : y = (kvs[j].1, c) := Option.some.inj hc
  obtain ⟨k1, k2⟩ := ks _ (List.getElem_mem hj)
  exact ⟨_, hk, by rw [e], by rw [e]; exact hv, by rw [e]; exact k1, by rw [e]; exact k2⟩
end K1D

set_option Elab.async false
set_option linter.all false
set_option maxRecDepth 100000
set_option maxHeartbeats 4000000
set_option autoImplicit false
set_option pp.maxSteps 600
/-! Tables from monomials to integers: dicts with such keys. -/
namespace K6
open PySem PySem.Spec PyProof.Rows L2 TL K1D
open PySem.W (dataLe)
theorem hu9 {k : Nat} {A : Around} (r : Room k A) : A.units + 9 < cLine := by have := r.un; omega
section
variable {X : Cx} {A : Around}
/-- k in d -/
def rInN (K : PySem.W.Frag) (w : World) : R2 := fun x y H Q => ∃ (a b : Addr) (kvs : List NE) (k : NestedKey), x = .ref b ∧ y = .ref a ∧ Rd H a (dN w a kvs) ∧ KeysN K H kvs ∧ KeyV K H k (.ref b) ∧ k.depth ≤ 8 ∧ Q (.bl (valN kvs k).isSome) H
theorem op_inN (hu : X.A.units + 9 < cLine) : OpR X (compareOp .In) (rInN X.K X.w) := by
  intro pins s σ H x y v u Q I rx ry h
  obtain ⟨a, b, kvs, k, rfl, rfl, hd, ks, hk, dp, q⟩ := h
  cases rx
  cases ry
  obtain ⟨z, hs, xs, rel, dd⟩ := dn_rd I hd ks
  have e := (rel.val k).isSome_eq
  rw [Option.isSome_map] at e
  refine wpAny_in_heap (knd := nestedKind X.prog X.w) (nroom hu) (nis I hk dp) hs dd ?_
  rw [← e]
  exact ⟨.bl _, H, I.tok _, rfl, q⟩
end
/-- at d the table tab -/
def DictP (K : PySem.W.Frag) (w : World) (H : Hp) (d : Addr) (tab : Poly) : Prop := ∃ kvs : List NE, H d = some (dN w d kvs) ∧ KeysN K H kvs ∧ IntsN kvs (tab.map fun t => (monK t.1, t.2)) ∧ KeyND tab
theorem DictP.up {K : PySem.W.Frag} {w : World} {H H' : Hp} {d : Addr} {tab : Poly} (h : DictP K w H d tab) (e : Same H H') : DictP K w H' d tab :=
  let ⟨kvs, h1, h2, h3⟩ := h; ⟨kvs, e _ _ h1, h2.up (Tups.ext e), h3⟩
theorem valI_mon (m : Mon) : ∀ tab : Poly, valI (tab.map fun t => (monK t.1, t.2)) (monK m) = (tab.find? fun t => decide (t.1 = m)).map (·.2)
  | [] => rfl
  | t :: tab => by
    rw [List.map_cons, valI_cons, List.find?_cons]
    by_cases e : t.1 = m
    · rw [if_pos (by rw [e]), decide_eq_true e]
      rfl
    · rw [if_neg (fun z => e (monK_inj z)), decide_eq_false e]
      exact valI_mon m tab
theorem find_none {tab : Poly} {m : Mon} : (tab.find? fun t => decide (t.1 = m)) = none ↔ m ∉ tab.map (·.1) := by
  rw [List.find?_eq_none]
  constructor
  · intro h q
    obtain ⟨t, ht, rfl⟩ := List.mem_map.mp q
    have := h t ht
    simp at this
  · intro h t ht e
    rw [decide_eq_true_eq] at e
    exact h (List.mem_map.mpr ⟨t, ht, e⟩)
theorem tab_isSome {kvs : List NE} {tab : Poly} (h : IntsN kvs (tab.map fun t => (monK t.1, t.2))) (m : Mon) : (valN kvs (monK m)).isSome = decide (m ∈ tab.map (·.1)) := by
  rw [ints_val h, valI_mon, Option.isSome_map, Option.isSome_map]
  cases q : tab.find? fun t => decide (t.1 = m) with
  | none => rw [decide_eq_false (find_none.mp q)]; rfl
  | some t =>
    have : m ∈ tab.map (·.1) := Classical.byContradiction fun z => by rw [find_none.mpr z] at q; cases q
    rw [decide_eq_true this]
    rfl
theorem tab_val {kvs : List NE} {tab : Poly} (h : IntsN kvs (tab.map fun t => (monK t.1, t.2))) {m : Mon} (hm : m ∈ tab.map (·.1)) : valN kvs (monK m) = some (.int (valOf tab m)) := by
  rw [ints_val h, valI_mon]
  unfold valOf
  cases q : tab.find? fun t => decide (t.1 = m) with
  | none => exact absurd hm (find_none.mp q)
  | some t => rfl
/-- tab[m] = c -/
def putP (tab : Poly) (m : Mon) (c : Int) : Poly := if m ∈ tab.map (·.1) then tab.map fun t => if t.1 = m then (t.1, c) else t else tab ++ [(m, c)]
theorem putI_mon (tab : Poly) (m : Mon) (c : Int) : putI (tab.map fun t => (monK t.1, t.2)) (monK m) c = (putP tab m c).map fun t => (monK t.1, t.2) := by
  unfold putI putP
  have e : (valI (tab.map fun t => (monK t.1, t.2)) (monK m)).isSome = decide (m ∈ tab.map (·.1)) := by
    rw [valI_mon, Option.isSome_map]
    cases q : tab.find? fun t => decide (t.1 = m) with
    | none => rw [decide_eq_false (find_none.mp q)]; rfl
    | some t =>
      have : m ∈ tab.map (·.1) := Classical.byContradiction fun z => by rw [find_none.mpr z] at q; cases q
      rw [decide_eq_true this]
      rfl
  rw [e]
  by_cases hm : m ∈ tab.map (·.1)
  · rw [if_pos (decide_eq_true hm), if_pos hm, List.map_map, List.map_map]
    refine List.map_congr_left fun t _ => ?_
    show (if monK t.1 = monK m then (monK t.1, c) else (monK t.1, t.2)) = _
    by_cases q : t.1 = m
    · rw [if_pos (by rw [q])]
      show _ = (monK (if t.1 = m then (t.1, c) else t).1, (if t.1 = m then (t.1, c) else t).2)
      rw [if_pos q]
    · rw [if_neg (fun z => q (monK_inj z))]
      show _ = (monK (if t.1 = m then (t.1, c) else t).1, (if t.1 = m then (t.1, c) else t).2)
      rw [if_neg q]
  · rw [if_neg (by rw [decide_eq_false hm]; exact Bool.false_ne_true), if_neg hm, List.map_append]
    rfl
theorem putP_keys (tab : Poly) (m : Mon) (c : Int) : (putP tab m c).map (·.1) = if m ∈ tab.map (·.1) then tab.map (·.1) else tab.map (·.1) ++ [m] := by
  unfold putP
  split
  · rw [List.map_map]
    refine List.map_congr_left fun t _ => ?_
    show (if t.1 = m then (t.1, c) else t).1 = t.1
    split <;> rfl
  · rw [List.map_append]
    rfl
theorem putP_nd {tab : Poly} (h : KeyND tab) (m : Mon) (c : Int) : KeyND (putP tab m c) := by
  by_cases hm : m ∈ tab.map (·.1)
  · unfold KeyND
    rw [putP_keys, if_pos hm]
    exact h
  · unfold putP
    rw [if_neg hm]
    exact keyND_snoc (t := (m, c)) h hm
theorem putP_mem {tab : Poly} {m : Mon} {c : Int} {t : Term} (h : t ∈ putP tab m c) : t = (m, c) ∨ t ∈ tab := by
  unfold putP at h
  split at h
  · obtain ⟨u, hu, rfl⟩ := List.mem_map.mp h
    split
    · rename_i e
      exact .inl (by rw [e])
    · exact .inr hu
  · rcases List.mem_append.mp h with h | h
    · exact .inr h
    · exact .inl (List.mem_singleton.mp h)
theorem putP_len (tab : Poly) (m : Mon) (c : Int) : (putP tab m c).length ≤ tab.length + 1 := by
  unfold putP
  split
  · rw [List.length_map]; omega
  · rw [List.length_append]; exact Nat.le_refl _
/-- sorted rows with their values -/
def rListN (w : World) : List V → Hp → VK → Prop := fun xs H Q => ∃ d kvs, xs = [V.ref d] ∧ Rd H d (dN w d kvs) ∧ ∀ p, H p = none → Q (.ref p) (upd H p (.lst (kvs.map fun x => V.ref x.2.1)))
theorem keys_kvs {K : PySem.W.Frag} {H : Hp} : ∀ {kvs : List NE} {tab : Poly}, KeysN K H kvs → IntsN kvs (tab.map fun t => (monK t.1, t.2)) → KeyVs K H ((tab.map (·.1)).map monK) (kvs.map fun x => V.ref x.2.1)
  | [], tab, _, h => by
    have := ints_nil h
    rw [List.map_eq_nil_iff.mp this]
    exact .nil
  | x :: kvs, tab, ks, h => by
    obtain ⟨c, r, e, hx, hr⟩ := ints_cons h
    cases tab with
    | nil => cases e
    | cons t tab =>
      rw [List.map_cons, List.cons.injEq] at e
      obtain ⟨e1, e2⟩ := e
      rw [← e2] at hr
      refine .cons ?_ (keys_kvs (fun y hy => ks y (List.mem_cons_of_mem _ hy)) hr)
      rw [show monK t.1 = x.1 from congrArg (·.1) e1]
      exact (ks x List.mem_cons_self).1
def rTupOf (K : PySem.W.Frag) : List V → Hp → VK → Prop := fun xs H Q => ∃ p ys, xs = [.ref p] ∧ ((SqL K H p ys ∧ ∀ l, H l = none → Q (.ref l) (upd H l (.tup ys))) ∨ (SqT K H p ys ∧ Q (.ref p) H))
theorem table_read {K : PySem.W.Frag} {w : World} {σ : L2.St} {H : Hp} {d : Addr} {tab : Poly} {Q : VK} {i r : Nat} (hi : σ[i]? = some (some (.ref d))) (hw : ∀ v, ((wipe σ [r]).set r (some v))[i]? = some (some (.ref d))) (hr : ∀ v, ((wipe σ [r]).set r (some v))[r]? = some (some v)) (ww : ∀ v, wipe ((wipe σ [r]).set r (some v)) [r] = wipe σ [r])
    (D : DictP K w H d tab) (lt : tab.length ≤ 100000)
    (go : ∀ p G, Same H G → KeyV K G (polyK (sortP tab)) (.ref p) → Q (.ref p) G) :
    (tCB (rTupOf K) (tCons (tLc (iList K (tCB (rSortT K monK) (tCons (tCB (rListN w) (tCons (tVar i) tNil)) tNil))) (gName r) tYes (tTup (tCons (tVar r) (tCons (tNGet K w (tVar i) (tVar r)) tNil))) [r]) tNil)) σ H Q := by
  obtain ⟨kvs, hd, ks, im, nd⟩ := D
  refine ⟨_, hi, d, kvs, rfl, .inl hd, fun l nl => ?_⟩
  have s1 : Same H (upd H l (.lst (kvs.map fun x => V.ref x.2.1))) := same_new nl
  refine ⟨tab.map (·.1), l, _, rfl, SqL.of upd_same, keys_kvs (ks.up (same_tups s1)) im, fun zs p kz np => ?_⟩
  have s2 : Same H (upd (upd H l (.lst (kvs.map fun x => V.ref x.2.1))) p (.lst zs)) := s1.trans (same_new np)
  have kz2 := KeyVs.up (same_tups (K := K) (same_new (o := .lst zs) np)) _ _ kz
  have hp : upd (upd H l (.lst (kvs.map fun x => V.ref x.2.1))) p (.lst zs) p = some (.lst zs) := upd_same
  generalize upd (upd H l (.lst (kvs.map fun x => V.ref x.2.1))) p (.lst zs) = G at s2 kz2 hp ⊢
  have lz := keyVs_len kz2
  have ek : (tab.map (·.1)).mergeSort (dataLe false fun b => (monK b).data) = sortM (tab.map (·.1)) := rfl
  rw [ek] at kz2 lz
  rw [List.length_map, (sortM_perm _).length_eq, List.length_map] at lz
  refine ⟨p, rfl, ⟨zs, SqL.of hp⟩, fun L nL => ?_⟩
  refine lc_it (walk_list (K := K) (a := p) (xs := zs)) (fun j G2 => Same G G2 ∧ ∃ ys, G2 L = some (.lst ys) ∧ KeyVs K G2 (((sortP tab).take j).map termK) ys) ⟨same_new nL, [], upd_same, .nil⟩ (fun j G2 _ h => h.1.seq (SqL.of hp)) (fun j v G2 G3 hj ⟨sG, ys, hL, ky⟩ ⟨e, hv⟩ => ?_) (fun G2 ⟨sG, ys, hL, ky⟩ => ?_)
  · subst e
    obtain ⟨k, hk, kv⟩ := keyVs_get kz2 hv
    rw [List.getElem?_map] at hk
    obtain ⟨m, hm, rfl⟩ : ∃ m, (sortM (tab.map (·.1)))[j]? = some m ∧ k = monK m := by
      cases q : (sortM (tab.map (·.1)))[j]? with
      | none => rw [q] at hk; cases hk
      | some m => rw [q] at hk; exact ⟨m, rfl, (Option.some.inj hk).symm⟩
    have mm : m ∈ tab.map (·.1) := (sortM_perm _).mem_iff.mp (List.mem_of_getElem? hm)
    obtain ⟨b, rfl⟩ := mon_ref kv
    have kG := KeyV.up (same_tups (K := K) sG) _ _ kv
    have dG : G3 d = some (dN w d kvs) := sG _ _ (s2 _ _ hd)
    have ksG : KeysN K G3 kvs := (ks.up (same_tups s2)).up (same_tups sG)
    refine ⟨ww _, _, hr _, _, hw _, _, hr _, d, b, kvs, monK m, _, rfl, rfl, .inl dG, ksG, kG, Nat.le_trans (dep_mon m) (by decide), tab_val im mm, by show 2 ≤ sizeLine; decide, fun q nq => ⟨ys, (upd_ne (ne_of_none hL nq)).trans hL, ?_, fun b o e => (upd_ne (ne_of_none e nL)).trans ((sG.trans (same_new nq)) b o e), ys ++ [.ref q], upd_same, ?_⟩⟩
    · rw [keyVs_len ky, List.length_map, List.length_take, sizeLine_eq]
      rw [lz] at hj
      omega
    · have hs : (sortP tab)[j]? = some (m, valOf tab m) := by
        unfold sortP
        rw [List.getElem?_map, hm]
        rfl
      have t4 := (same_tups (K := K) (same_new (o := .tup [.ref b, .int (valOf tab m)]) nq)).trans (tups_lst (o := .lst (ys ++ [.ref q])) ((upd_ne (ne_of_none hL nq)).trans hL))
      rw [take_snoc hs, List.map_append]
      refine keyVs_app (KeyVs.up t4 _ _ ky) (.cons (KeyV.up (tups_lst ((upd_ne (ne_of_none hL nq)).trans hL)) _ _ (kv_term.mpr ⟨q, .ref b, rfl, upd_same, KeyV.up (same_tups (same_new nq)) _ _ kG⟩)) .nil)
  · have ls : (sortP tab).length = zs.length := by
      unfold sortP
      rw [List.length_map, (sortM_perm _).length_eq, List.length_map, lz]
    rw [← ls, List.take_length] at ky
    refine ⟨L, ys, rfl, .inl ⟨SqL.of hL, fun q nq => go q _ ((s2.trans sG).trans (same_new nq)) (kv_poly.mpr ⟨q, ys, rfl, upd_same, KeyVs.up (same_tups (same_new nq)) _ _ ky⟩)⟩⟩
end K6

set_option Elab.async false
set_option linter.all false
set_option maxRecDepth 100000
set_option maxHeartbeats 4000000
set_option autoImplicit false
set_option pp.maxSteps 600
/-! What the law reads fits on a line again; no program here. -/
namespace K6
open PySem L2 TL
theorem szL_perm {a b : List Str} (h : a.Perm b) : szL a = szL b := by
  unfold szL
  rw [h.length_eq, (h.map _).sum_nat]
theorem szL_split (x y : Str) (hy : y.length = 1) : szL (Txt.split x y) = x.length + 1 := by
  have e : tl (Str.join y (Txt.split x y)) = tl x := congrArg tl (StrLaws.join_split x y)
  rw [tl_join] at e
  have l := congrArg List.length e
  have jl : ∀ ps : List (List Nat), ps ≠ [] → (joinL (tl y) ps).length + 1 = (ps.map List.length).sum + ps.length := by
    intro ps
    induction ps with
    | nil => intro h; exact absurd rfl h
    | cons p r ih =>
      intro _
      cases r with
      | nil => simp [joinL]
      | cons q r =>
        have ih' := ih (by simp)
        show (p ++ (tl y ++ joinL (tl y) (q :: r))).length + 1 = _
        rw [List.length_append, List.length_append, ← len_tl y, hy]
        simp only [List.map_cons, List.sum_cons, List.length_cons] at ih' ⊢
        omega
  obtain ⟨z, r, ez⟩ := split_ne x y
  have l2 := jl ((Txt.split x y).map tl) (by rw [ez]; simp)
  rw [List.length_map, List.map_map] at l2
  rw [← len_tl x] at l
  have e2 : ((Txt.split x y).map (List.length ∘ tl)) = (Txt.split x y).map (·.length) := List.map_congr_left fun z _ => (len_tl z).symm
  rw [e2] at l2
  unfold szL
  omega
theorem lFac_sz {x : Str} {f : Fac} (h : lFac x = some f) : (fT f).length ≤ x.length := by
  have sx := szL_split x "^" (by decide +kernel)
  unfold lFac at h
  split at h
  · cases h
  · rename_i n r er
    rw [er, szL_cons] at sx
    split at h
    · split at h
      · cases h
        unfold fT
        rw [if_neg (by show ¬ (1 : Int) < 1; decide)]
        show n.length ≤ _
        unfold szL at sx
        simp at sx
        omega
      · rename_i e r2 _
        split at h
        · rename_i hc
          cases h
          rw [szL_cons] at sx
          unfold fT
          split
          · show (n ++ ("^" ++ strI (numOf e : Int))).length ≤ _
            rw [strLen_append, strLen_append, (num_str hc.1.1).1, show (("^" : Str)).length = 1 from by decide +kernel]
            omega
          · show n.length ≤ _
            omega
        · cases h
    · cases h
theorem rowF_sz : ∀ {l : List Str} {acc m : Mon}, rowF acc l = some m → szL (m.map fT) ≤ szL (acc.map fT) + szL l
  | [], acc, m, h => by cases h; exact Nat.le_refl _
  | x :: r, acc, m, h => by
    rw [rowF_cons] at h
    split at h
    · cases h
    · rename_i f hf
      split at h
      · cases h
      · have ih := rowF_sz h
        have := lFac_sz hf
        rw [List.map_append, szL_app, szL_cons, List.map_cons, List.map_nil, szL_cons] at *
        have e0 : szL [] = 0 := rfl
        omega
theorem lTerm_sz {w : Str} {m : Mon} {z : Int} (h : lTerm w = some (m, z)) : szL (parts m z) ≤ w.length + 3 := by
  have sw := szL_split w "*" (by decide +kernel)
  unfold lTerm at h
  split at h
  · cases h
  · rename_i m' hm
    cases h
    have h1 := rowF_sz hm
    have e0 : szL (([] : Mon).map fT) = 0 := rfl
    have h2 : szL ((sortF m').map fT) = szL (m'.map fT) := szL_perm ((sortF_perm m').map _)
    unfold parts
    rw [szL_app, h2]
    obtain ⟨f, r, er⟩ := split_ne w "*"
    rw [er] at sw h1 ⊢
    rw [szL_cons] at sw
    rw [headNum_cons] at h1 ⊢
    by_cases hf : isFgs 200 (tl f) = true
    · rw [if_pos hf] at h1 ⊢
      have e1 := (num_str hf).1
      have e3 : szL (if 1 < (numOf f : Int) ∨ sortF m' = [] then [strI (numOf f : Int)] else []) ≤ f.length + 1 := by
        split
        · rw [szL_cons, e1]
          exact Nat.le_refl _
        · exact Nat.zero_le _
      show szL (if 1 < (numOf f : Int) ∨ sortF m' = [] then [strI (numOf f : Int)] else []) + szL (m'.map fT) ≤ _
      have h1' : szL (m'.map fT) ≤ szL (([] : Mon).map fT) + szL r := h1
      omega
    · rw [if_neg hf] at h1 ⊢
      have e3 : szL (if 1 < (1 : Int) ∨ sortF m' = [] then [strI (1 : Int)] else []) ≤ 2 := by
        split
        · rw [szL_cons]
          decide +kernel
        · exact Nat.zero_le _
      show szL (if 1 < (1 : Int) ∨ sortF m' = [] then [strI (1 : Int)] else []) + szL (m'.map fT) ≤ _
      have h1' : szL (m'.map fT) ≤ szL (([] : Mon).map fT) + szL (f :: r) := h1
      rw [szL_cons] at h1'
      omega
theorem szP_app (a b : Poly) : szP (a ++ b) = szP a + szP b := by
  unfold szP
  rw [List.map_append, List.sum_append]
theorem lTab_sz : ∀ {ws : List Str} {acc p : Poly}, lTab acc ws = some p → szP p ≤ szP acc + szL ws + 2 * ws.length
  | [], acc, p, h => by cases h; omega
  | [_], acc, p, h => by
    have : some acc = some p := h
    cases this
    omega
  | s :: w :: r, acc, p, h => by
    unfold lTab at h
    split at h
    · rename_i hs
      split at h
      · cases h
      · rename_i t ht
        split at h
        · cases h
        · obtain ⟨m, z⟩ := t
          have ih := lTab_sz h
          have h1 := lTerm_sz ht
          obtain ⟨g1, g2, g3⟩ := lTerm_some ht
          obtain ⟨s1, s2, s3⟩ := signI_ok hs g2
          have e : szP [(m, signI s z)] = szL (parts m z) + 3 := by
            show szT (m, signI s z) + 3 + 0 = _
            unfold szT
            rw [show absI (m, signI s z).2 = z from s2]
          have ls : s.length = 1 := by rw [← s1]; exact sg_len _
          rw [szP_app, e] at ih
          rw [szL_cons, szL_cons]
          simp only [List.length_cons]
          omega
    · cases h
theorem signed_sz (l : List Str) : szL (signed l) ≤ szL l + 2 := by
  unfold signed
  split
  · omega
  · rw [szL_cons, show (("+" : Str)).length = 1 from by decide +kernel]
    omega
theorem sortP_perm {p : Poly} (nd : KeyND p) : (sortP p).Perm p := by
  unfold sortP
  refine ((sortM_perm _).map _).trans ?_
  rw [List.map_map]
  have : ∀ t ∈ p, ((fun m => (m, valOf p m)) ∘ fun t : Term => t.1) t = t := fun t ht => by
    show (t.1, valOf p t.1) = t
    rw [valOf_at nd ht]
  rw [List.map_congr_left this, List.map_id'' (fun _ => rfl) p]
theorem read_sz {x : Str} {tab : Poly} (lx : x.length ≤ 9000000) (h : lTab [] (signed (Txt.split x " ")) = some tab) (l4 : (signed (Txt.split x " ")).length ≤ 4000) (nd : KeyND tab) : szP (sortP tab) ≤ 16000000 := by
  rw [szP_perm (sortP_perm nd)]
  have h1 := lTab_sz h
  have h2 := signed_sz (Txt.split x " ")
  have h3 := szL_split x " " (by decide +kernel)
  have e0 : szP [] = 0 := rfl
  omega
end K6

set_option Elab.async false
set_option linter.all false
set_option maxRecDepth 100000
set_option maxHeartbeats 4000000
set_option autoImplicit false
set_option pp.maxSteps 600
/-! The law's reading of a polynomial. -/
namespace K6
open PySem L2 TL K1D
abbrev sLRead : Stmt := top 34
def spLRead (K : PySem.W.Frag) : Sp := fun vs H Q _ => ∃ x : Str, vs = [.str x] ∧ x.length ≤ 9000000 ∧ (lPoly x = none → ∀ H', Same H H' → Q .non H') ∧ ∀ p, lPoly x = some p → ∀ a H', Same H H' → KeyV K H' (polyK p) (.ref a) → Q (.ref a) H'
theorem lTab_step (acc : Poly) (s w : Str) (r : List Str) : lTab acc (s :: w :: r) = if s = "+" ∨ s = "-" then
      (match lTerm w with
        | none => none
        | some t => if t.1 ∈ acc.map (·.1) then none else lTab (acc ++ [(t.1, signI s t.2)]) r)
      else none := by
  rw [lTab]
  all_goals
    by_cases hs : s = "+" ∨ s = "-"
    · rw [if_pos hs, if_pos hs]
      all_goals (cases lTerm w <;> rfl)
    · rw [if_neg hs, if_neg hs]
theorem DictP.put {K : PySem.W.Frag} {w : World} {G : Hp} {d b : Addr} {tab : Poly} {m : Mon} (D : DictP K w G d tab) (km : KeyV K G (monK m) (.ref b)) : ∃ kvs : List NE, G d = some (dN w d kvs) ∧ KeysN K G kvs ∧ kvs.length = tab.length ∧ IntsN kvs (tab.map fun t => (monK t.1, t.2)) ∧
    ∀ c : Int, DictP K w (upd G d (dN w d (putN kvs (monK m) b (.int c)))) d (putP tab m c) := by
  obtain ⟨kvs, hd, ks, im, nd⟩ := D
  refine ⟨kvs, hd, ks, by rw [ints_len im, List.length_map], im, fun c => ⟨_, upd_same, (ks.put km (Nat.le_trans (dep_mon m) (by decide))).up (Tups.put (not_tup_dN hd)), ?_, putP_nd nd m c⟩⟩
  rw [← putI_mon]
  exact ints_put im _ _ _
theorem signI_mul (s : Str) (z : Int) : z * (1 - 2 * (if decide (V.str s = V.str "-") = true then 1 else 0)) = signI s z := by
  unfold signI
  by_cases h : s = "-"
  · rw [if_pos h, if_pos (decide_eq_true (by rw [h]))]
    omega
  · rw [if_neg h, if_neg (by rw [decide_eq_false fun q => h (V.str.inj q)]; exact Bool.false_ne_true)]
    omega
section
variable {P : Program} {w : World} {K : PySem.W.Frag} {mg : Str → Option Value} {base : Heap} {fT fX : Addr} {dT dX : FuncData}
structure LReadTxt (P : Program) (w : World) (K : PySem.W.Frag) (mg : Str → Option Value) (base : Heap) (fT fX : Addr) (dT dX : FuncData) : Prop where
  sorted : mg "sorted" = none
  list : mg "list" = none
  okT : FnOk P w K mg base CX0 2 fT dT ["word"] (spLTerm K)
  bT : Binds K dT ["word"] []
  gT : mg "_law_term" = some (.ref fT)
  kT : PySem.W.keepIn K (.ref fT) = true
  okX : FnOk P w K mg base CX0 1 fX dX ["poly"] (spLText K)
  bX : Binds K dX ["poly"] []
  gX : mg "_law_text" = some (.ref fX)
  kX : PySem.W.keepIn K (.ref fX) = true
theorem scLRead : FnScope ["text", "words", "table", "k", "term", "row", "poly"] ["text"] (defScope sLRead) := ⟨rfl, rfl, rfl, by decide +kernel, rfl, by decide +kernel, by decide +kernel⟩
theorem ok_lread {f : Addr} {fd : FuncData} (F : Fun K "_law_read" "_law_read" sLRead f fd) (T : ProgTxt K mg) (U : LReadTxt P w K mg base fT fX dT dX) : FnOk P w K mg base CX0 3 f fd ["text"] (spLRead K) := by
  refine F.ok scLRead (fun vs H Q E h => ?_) (fun cdv A outer s H vs Q E hr h => ?_)
  · obtain ⟨x, rfl, _⟩ := h
    rfl
  · obtain ⟨x, rfl, lx, no, yes⟩ := h
    have h1 : Room 1 _ := hr.mono (by decide)
    refine ⟨_, pss_cons (ps_if (pt_cmpR op_eq (pv 0) pe_str (nomark _)) (pss_one (ps_ret (pe_tup pa_nil))) pss_nil)
      (pss_cons (ps_set (i := 1) scLRead.nd rfl (Or.inl rfl) (pe_split (pv 0) pe_str))
      (C8.pss_cut (ps_if (pt_cmpR op_ne (pe_ix ix_list (pv 1) pe_int (fun _ _ => rfl)) pe_str (nomark _)) (pss_one (ps_set (i := 1) scLRead.nd rfl (Or.inl rfl) (pe_op op_cat (pe_lst (pa_cons pe_str pa_nil)) (pv 1)))) pss_nil)
      (pss_cons (ps_if (PW.pt (pw_or (pt_cmpR op_gt (pe_callB call_len_seq (by rfl) T.len PySem.boot_len (pa_cons (pv 1) pa_nil)) pe_int (nomark _)) (pw_or1 (pt_cmpR op_eq (pe_op op_mod (pe_callTy call_int1 (by rfl) T.int (by decide +kernel) (pa_cons (pe_callB call_len_seq (by rfl) T.len PySem.boot_len (pa_cons (pv 1) pa_nil)) pa_nil)) pe_int) pe_int (nomark _))))) (pss_one (ps_ret pe_non)) pss_nil)
      (pss_cons (ps_set (i := 2) scLRead.nd rfl (Or.inr rfl) pe_nnew)
      (C8.pss_cut (ps_for PassesOwn.never rfl (pi_range1 (by rfl) T.range (pa_cons (pe_op op_fdiv (pe_callB call_len_seq (by rfl) T.len PySem.boot_len (pa_cons (pv 1) pa_nil)) pe_int) pa_nil)) (pg_name (i := 3) scLRead.nd rfl (Or.inl rfl))
        (pss_cons (ps_set (i := 4) scLRead.nd rfl (Or.inl rfl) (pe_call U.okT hr rfl U.gT U.kT U.bT .nil pass0 (pa_cons (pe_ix ix_list (pv 1) (pe_op op_add (pe_op op_mul pe_int (pv 3)) pe_int) (fun _ _ => rfl)) pa_nil)))
        (C8.pss_cut (ps_if (PW.pt (pw_or (pt_cmpR op_notIn_seq (pe_ix ix_list (pv 1) (pe_op op_mul pe_int (pv 3)) (fun _ _ => rfl)) (pe_tup (pa_cons pe_str (pa_cons pe_str pa_nil))) (by rfl)) (pw_or (pt_cmpR op_isN (pv 4) pe_non (nomark _)) (pw_or1 (pt_cmpR (op_inN (hu9 hr)) (pe_ix ix_tup (pv 4) pe_int (fun _ _ => rfl)) (pv 2) (by rfl)))))) (pss_one (ps_ret pe_non)) pss_nil)
        (pss_one (ps_nput (hu9 hr) (pv 2) (pe_ix ix_tup (pv 4) pe_int (fun _ _ => rfl)) (pe_op op_mul (pe_ix ix_tup (pv 4) pe_int (fun _ _ => rfl)) (pe_op op_sub pe_int (pe_op op_mul pe_int (pe_callTy call_int1 (by rfl) T.int (by decide +kernel) (pa_cons (pe_cmpR op_eq (pe_ix ix_list (pv 1) (pe_op op_mul pe_int (pv 3)) (fun _ _ => rfl)) pe_str (nomark _)) pa_nil))))) rfl)))))
      (pss_cons (ps_set (i := 6) scLRead.nd rfl (Or.inl rfl) (pe_callTy (show CallR _ (.type "tuple") (rTupOf K) from call_tuple_of) (by rfl) T.tuple (by decide +kernel) (pa_cons (pe_lc (own := [("row", 5)]) (g := gName 5) (tt := tYes) (te := tTup (tCons (tVar 5) (tCons (tNGet K w (tVar 2) (tVar 5)) tNil))) rfl scLRead.nd
          (pi_list (pe_callB (show CallR _ (.builtin "sorted") (rSortT K monK) from cr_sortT hr.units al_mon (fun b => ⟨_, rfl⟩) (fun b => Nat.le_trans (dep_mon b) (by decide))) (by rfl) U.sorted (by decide +kernel) (pa_cons (pe_callTy (show CallR _ (.type "list") (rListN w) from call_list_dN rfl) (by rfl) U.list (by decide +kernel) (pa_cons (pv 2) pa_nil)) pa_nil)))
          (blkOk_by (own := [("row", 5)]) (N := ["text", "words", "table", "k", "term", "row", "poly"]) (sc := defScope sLRead) (by decide +kernel)) (fun _ _ _ _ _ => pg_name (i := 5) scLRead.nd rfl (Or.inl rfl)) (fun _ _ _ _ _ => pts_nil)
          (fun _ _ _ _ _ => pe_tup (pa_cons (pv 5) (pa_cons (pe_nget (hu9 hr) (pv 2) (pv 5) (fun _ _ => rfl)) pa_nil)))) pa_nil)))
      (pss_cons (ps_if (pt_cmpR op_ne (pe_call U.okX h1 rfl U.gX U.kX U.bX .nil pass0 (pa_cons (pv 6) pa_nil)) (pv 0) (nomark _)) (pss_one (ps_ret pe_non)) pss_nil)
      (pss_one (ps_ret (pv 6)))))))))), ?_⟩
    refine ⟨_, rfl, rfl, _, rfl, ?_⟩
    by_cases y0 : x = "0"
    · refine ifY (decide_eq_true (by rw [y0])) ⟨by decide, fun p np => yes [] ?_ p _ (same_new np) (kv_poly.mpr ⟨p, [], rfl, upd_same, .nil⟩)⟩
      rw [y0]
      rfl
    refine ifN (decide_eq_false fun q => y0 (V.str.inj q)) ?_
    obtain ⟨z, r, er⟩ := split_ne x " "
    obtain ⟨w1, w2⟩ := split_len x " " (by decide +kernel)
    have eP : lPoly x = if 4000 < (signed (Txt.split x " ")).length ∨ (signed (Txt.split x " ")).length % 2 = 1 then none else
      (match lTab [] (signed (Txt.split x " ")) with
      | none => none
      | some tab => if pText (sortP tab) = x then some (sortP tab) else none) := by
      unfold lPoly
      rw [if_neg y0]
      all_goals
        split
        · rfl
        · cases lTab [] (signed (Txt.split x " ")) <;> rfl
    have hsz : ∀ tab, lTab [] (signed (Txt.split x " ")) = some tab → (signed (Txt.split x " ")).length ≤ 4000 → KeyND tab → szP (sortP tab) ≤ 16000000 := fun tab h l nd => read_sz lx h l nd
    refine ⟨_, rfl, ⟨_, rfl⟩, _, _, rfl, rfl, by decide +kernel, by rw [sizeLine_eq]; omega, fun a na => ?_⟩
    have s1 : Same H (upd H a (.lst ((Txt.split x " ").map V.str))) := same_new na
    have a1 : upd H a (.lst ((Txt.split x " ").map V.str)) a = some (.lst ((Txt.split x " ").map V.str)) := upd_same
    generalize upd H a (.lst ((Txt.split x " ").map V.str)) = G1 at s1 a1 ⊢
    refine ⟨fun σ G => ∃ b : Addr, σ = [some (.str x), some (.ref b), none, none, none, none, none] ∧ Same H G ∧ G b = some (.lst ((signed (Txt.split x " ")).map V.str)), ?_, ?_⟩
    · have hz : ((Txt.split x " ").map V.str)[0]? = some (V.str z) := by rw [er]; rfl
      refine ⟨_, rfl, a, _, _, _, rfl, rfl, SqL.of a1, (show atI _ ((0 : Nat) : Int) = some (V.str z) from atI_nat hz), rfl, _, rfl, ?_⟩
      by_cases hz : z = "-"
      · refine ifN (by subst hz; simp) ⟨a, rfl, s1, ?_⟩
        rw [a1]
        unfold signed
        rw [if_pos (by rw [er, hz]; rfl)]
      · refine ifY (by simp [hz]) ⟨by decide, fun q nq => ⟨_, rfl, q, a, _, _, rfl, rfl, upd_same, (upd_ne (ne_of_none a1 nq)).trans a1, ?_, fun p np => ⟨p, rfl, (s1.trans (same_new nq)).trans (same_new np), ?_⟩⟩⟩
        · rw [List.length_map, sizeLine_eq]
          show 1 + _ ≤ _
          omega
        · rw [upd_same]
          unfold signed
          rw [if_neg (by rw [er]; exact fun q => hz (Option.some.inj q))]
          rfl
    · rintro σ G ⟨b, rfl, sG, hb⟩
      have r3 : ∀ z ∈ signed (Txt.split x " "), z.length ≤ x.length + 1 := by
        intro z hz
        unfold signed at hz
        split at hz
        · have := w2 z hz; omega
        · rcases List.mem_cons.mp hz with e | hz
          · rw [e, show (("+" : Str)).length = 1 from by decide +kernel]; omega
          · have := w2 z hz; omega
      generalize signed (Txt.split x " ") = ws at eP hb r3 hsz ⊢
      refine ⟨_, rfl, b, _, rfl, .inl (SqL.of hb), _, _, rfl, rfl, _, rfl, ?_⟩
      rw [List.length_map]
      by_cases c2 : 4000 < ws.length
      · exact ifY (decide_eq_true (by omega)) (ifY rfl (no (by rw [eP, if_pos (.inl c2)]) G sG))
      refine ifN (decide_eq_false (by omega)) ⟨_, rfl, b, _, rfl, .inl (SqL.of hb), .inl ⟨_, rfl, _, _, rfl, rfl, (by show (0 : Int) < 2; decide), rfl, _, rfl, ?_⟩⟩
      rw [List.length_map]
      by_cases c1 : ws.length % 2 = 1
      · exact ifY (decide_eq_true (congrArg V.int (by omega))) (no (by rw [eP, if_pos (.inr c1)]) G sG)
      refine ifN (decide_eq_false fun q => c1 (by have := V.int.inj q; omega)) ?_
      rw [if_neg (by omega)] at eP
      intro d nd
      have D0 : DictP K w (upd G d (dN w d [])) d [] := ⟨[], upd_same, fun y hy => (by cases hy), rfl, List.nodup_nil⟩
      have sd : Same G (upd G d (dN w d [])) := same_new nd
      show C8.tCut _ _ _ _ (upd G d (dN w d []))
      generalize upd G d (dN w d []) = G2 at D0 sd ⊢
      refine ⟨fun σ G3 => ∃ (u3 u4 : Option V) (acc : Poly), σ = [some (.str x), some (.ref b), some (.ref d), u3, u4, none, none] ∧ Same G G3 ∧ DictP K w G3 d acc ∧ lTab [] ws = some acc, ?_, ?_⟩
      · refine ⟨_, rfl, b, _, rfl, .inl (SqL.of (sd _ _ hb)), _, _, rfl, rfl, ⟨by decide, by decide⟩, _, rfl, by rw [List.length_map]; omega, by rw [List.length_map]; omega, ?_⟩
        rw [show ((((ws.map V.str).length : Nat) : Int) / 2).toNat = ws.length / 2 by rw [List.length_map]; omega]
        refine for_it (walk_range (lo := 0) (n := ws.length / 2)) (fun i σ G' => ∃ (u3 u4 : Option V) (acc : Poly), σ = [some (.str x), some (.ref b), some (.ref d), u3, u4, none, none] ∧ Same G G' ∧ DictP K w G' d acc ∧ lTab [] ws = lTab acc (ws.drop (2 * i)) ∧ acc.length ≤ i)
          ⟨none, none, [], rfl, sd, D0, rfl, Nat.le_refl _⟩ (fun _ _ _ _ _ => trivial) (fun i v σ G' G'' hi ⟨u3, u4, acc, hσ, sG', D, er2, la⟩ ⟨e, ev⟩ => ?_) (fun σ G' ⟨u3, u4, acc, hσ, sG', D, er2, la⟩ => ?_)
        · subst hσ e ev
          show gName 3 (.int (0 + (i : Nat))) _ _ _
          rw [Int.zero_add]
          obtain ⟨s0, hs0⟩ : ∃ s0, ws[2 * i]? = some s0 := ⟨_, List.getElem?_eq_getElem (by omega)⟩
          obtain ⟨t0, ht0⟩ : ∃ s1, ws[2 * i + 1]? = some s1 := ⟨_, List.getElem?_eq_getElem (by omega)⟩
          have ed : ws.drop (2 * i) = s0 :: t0 :: ws.drop (2 * (i + 1)) := by
            rw [List.drop_eq_getElem_cons (by omega), List.drop_eq_getElem_cons (by omega)]
            rw [List.getElem?_eq_getElem (by omega)] at hs0 ht0
            rw [Option.some.inj hs0, Option.some.inj ht0]
            rfl
          rw [ed, lTab_step] at er2
          have hb2 := sG' _ _ hb
          have sH := sG.trans sG'
          have i0 : ∀ F : Hp, SqL K F b (ws.map V.str) → atI (ws.map V.str) (2 * (i : Int)) = some (V.str s0) := fun _ _ => (show atI _ ((2 * i : Nat) : Int) = some (V.str s0) from atI_nat (by rw [List.getElem?_map, hs0]; rfl))
          have i1 : atI (ws.map V.str) (2 * (i : Int) + 1) = some (V.str t0) := (show atI _ ((2 * i + 1 : Nat) : Int) = some (V.str t0) from atI_nat (by rw [List.getElem?_map, ht0]; rfl))
          have cm : CMul 2 (i : Int) := .inl (by decide)
          have bad : lTab [] ws = none → ∀ F, Same H F → Q .non F := fun h F s => no (by rw [eP, h]) F s
          refine ⟨_, rfl, _, rfl, _, _, rfl, rfl, cm, _, _, rfl, rfl, b, _, _, _, rfl, rfl, SqL.of hb2, i1, ?_⟩
          refine ⟨t0, rfl, by have := r3 t0 (List.mem_of_getElem? ht0); omega, fun e G3 s3 => ?_, fun t e p G3 s3 kt => ?_⟩
          · refine ⟨fun _ _ => False, ⟨_, rfl, _, rfl, _, _, rfl, rfl, cm, b, _, _, _, rfl, rfl, SqL.of (s3 _ _ hb2), i0 G3 (SqL.of (s3 _ _ hb2)), by show 2 ≤ sizeLine; decide, fun q nq => ⟨q, _, rfl, .inr (SqT.of upd_same), rfl, rfl, _, rfl, ?_⟩⟩, fun _ _ z => z.elim⟩
            have none_ : lTab [] ws = none := by
              rw [er2, e]
              split <;> rfl
            rw [if_pos rfl, in_signs]
            by_cases hs : s0 = "+" ∨ s0 = "-"
            · refine ifN (by rw [decide_eq_true hs]; rfl) ⟨_, rfl, rfl, _, rfl, ifY (decide_eq_true rfl) (bad none_ _ (sH.trans (s3.trans (same_new nq))))⟩
            · exact ifY (by rw [decide_eq_false hs]; rfl) (bad none_ _ (sH.trans (s3.trans (same_new nq))))
          · obtain ⟨p', u, ep, hp, ku⟩ := kv_term.mp kt
            cases ep
            obtain ⟨mk, rfl⟩ := mon_ref ku
            have D3 := D.up s3
            obtain ⟨kvs, hd, ks, lk, im, put⟩ := D3.put ku
            refine ⟨fun σ2 F => σ2 = [some (.str x), some (.ref b), some (.ref d), some (.int (i : Int)), some (.ref p), none, none] ∧ Same G3 F ∧ (s0 = "+" ∨ s0 = "-") ∧ t.1 ∉ acc.map (·.1), ?_, ?_⟩
            · refine ⟨_, rfl, _, rfl, _, _, rfl, rfl, cm, b, _, _, _, rfl, rfl, SqL.of (s3 _ _ hb2), i0 G3 (SqL.of (s3 _ _ hb2)), by show 2 ≤ sizeLine; decide, fun q nq => ⟨q, _, rfl, .inr (SqT.of upd_same), rfl, rfl, _, rfl, ?_⟩⟩
              have sq : Same G3 (upd G3 q (.tup [.str "+", .str "-"])) := same_new nq
              rw [if_pos rfl, in_signs]
              by_cases hs : s0 = "+" ∨ s0 = "-"
              · refine ifN (by rw [decide_eq_true hs]; rfl) ⟨_, rfl, rfl, _, rfl, ifN (by simp) ?_⟩
                refine ⟨_, rfl, p, _, _, _, rfl, rfl, SqT.of (sq _ _ hp), (show atI _ ((0 : Nat) : Int) = some (V.ref mk) from atI_nat rfl), _, rfl, d, mk, kvs, monK t.1, rfl, rfl, .inl (sq _ _ hd), ks.up (same_tups sq), KeyV.up (same_tups sq) _ _ ku, Nat.le_trans (dep_mon _) (by decide), _, rfl, ?_⟩
                rw [tab_isSome im]
                by_cases hm : t.1 ∈ acc.map (·.1)
                · exact ifY (decide_eq_true hm) (bad (by rw [er2, e, if_pos hs]; exact if_pos hm) _ (sH.trans (s3.trans sq)))
                · exact ifN (decide_eq_false hm) ⟨rfl, sq, hs, hm⟩
              · exact ifY (by rw [decide_eq_false hs]; rfl) (bad (by rw [er2, if_neg hs]) _ (sH.trans (s3.trans sq)))
            · rintro σ2 F ⟨rfl, sF, hs, hm⟩
              obtain ⟨kvs, hd, ks, lk, im, put⟩ := (D3.up sF).put (KeyV.up (same_tups sF) _ _ ku)
              have hb4 := sF _ _ (s3 _ _ hb2)
              have hp4 := sF _ _ hp
              refine ⟨_, rfl, p, _, _, _, rfl, rfl, SqT.of hp4, (show atI _ ((1 : Nat) : Int) = some (V.int t.2) from atI_nat rfl), ?_⟩
              refine ⟨_, rfl, _, rfl, _, _, rfl, rfl, cm, b, _, _, _, rfl, rfl, SqL.of hb4, i0 F (SqL.of hb4), rfl, .inr ⟨_, rfl, _, _, rfl, rfl, .inl (by decide), _, _, rfl, rfl, _, _, rfl, rfl, .inr (by split <;> decide), ?_⟩⟩
              refine ⟨_, rfl, _, rfl, p, _, _, _, rfl, rfl, SqT.of hp4, (show atI _ ((0 : Nat) : Int) = some (V.ref mk) from atI_nat rfl), ?_⟩
              refine ⟨d, mk, kvs, monK t.1, rfl, rfl, hd, ks, by rw [lk, sizeLine_eq]; omega, KeyV.up (same_tups sF) _ _ ku, Nat.le_trans (dep_mon _) (by decide), ?_⟩
              have P2 : DictP K w (upd F d (dN w d (putN kvs (monK t.1) mk (.int (t.2 * (1 - 2 * (if decide (V.str s0 = V.str "-") = true then 1 else 0))))))) d (acc ++ [(t.1, signI s0 t.2)]) := by
                rw [signI_mul]
                have h := put (signI s0 t.2)
                rw [show putP acc t.1 (signI s0 t.2) = acc ++ [(t.1, signI s0 t.2)] from if_neg hm] at h
                exact h
              refine ⟨_, _, acc ++ [(t.1, signI s0 t.2)], rfl, fun o w e => (upd_ne (ne_of_none e nd)).trans ((sG'.trans (s3.trans sF)) o w e), P2, ?_, by rw [List.length_append]; show acc.length + 1 ≤ i + 1; omega⟩
              rw [er2, e, if_pos hs]
              exact if_neg hm
        · subst hσ
          have e0 : ws.drop (2 * (ws.length / 2)) = [] := List.drop_of_length_le (by omega)
          rw [e0] at er2
          exact ⟨u3, u4, acc, rfl, sG', D, er2⟩
      · rintro σ G3 ⟨u3, u4, acc, rfl, s3, D, er2⟩
        obtain ⟨ok, nd2, l2⟩ := lTab_some er2 (by omega) (fun t ht => (by cases ht)) List.nodup_nil
        have sz := hsz acc er2 (by omega) nd2
        rw [er2] at eP
        have lac : acc.length ≤ 2000 := by
          simp only [List.length_nil] at l2
          omega
        have can := sortP_can ok nd2 lac
        refine table_read (K := K) (w := w) (σ := [some (.str x), some (.ref b), some (.ref d), u3, u4, none, none]) (i := 2) (r := 5) rfl (fun _ => rfl) (fun _ => rfl) (fun _ => rfl) D (by omega) (fun p F sF kp => ?_)
        obtain ⟨p', xs, ep, hp, kx⟩ := kv_poly.mp kp
        cases ep
        refine ⟨_, rfl, false, p, sortP acc, xs, rfl, SqT.of hp, kx, fun t ht => (can.ok t ht).ws, sz, by have := can.le; omega, fun F2 sF2 => ⟨_, rfl, rfl, _, rfl, ?_⟩⟩
        have sH2 := sG.trans (s3.trans (sF.trans sF2))
        by_cases q : pText (sortP acc) = x
        · refine ifN (by rw [q]; simp) ⟨_, rfl, yes (sortP acc) (by rw [eP]; exact if_pos q) p F2 sH2 (KeyV.up (same_tups sF2) _ _ kp)⟩
        · refine ifY ?_ (no (by rw [eP]; exact if_neg q) F2 sH2)
          rw [decide_eq_false fun z => q (V.str.inj z)]
          rfl
end
end K6

set_option Elab.async false
set_option linter.all false
set_option maxRecDepth 100000
set_option maxHeartbeats 4000000
set_option autoImplicit false
set_option pp.maxSteps 600
/-! The law's own comparison of what the program told with what is due. -/
namespace K6
open PySem L2 TL K1D
abbrev sSame : Stmt := top 25
/-- x and y hold the same, at most n deep -/
inductive Alike (H : Hp) : Nat → V → V → Prop
  | non (n : Nat) : Alike H n .non .non
  | int (n : Nat) (i : Int) : Alike H n (.int i) (.int i)
  | str (n : Nat) (x : Str) : Alike H n (.str x) (.str x)
  | tup {n : Nat} {p q : Addr} {xs ys : List V} (hp : H p = some (.tup xs)) (hq : H q = some (.tup ys)) (l : xs.length = ys.length) (s : xs.length ≤ sizeLine) (h : ∀ (i : Nat) (x y : V), xs[i]? = some x → ys[i]? = some y → Alike H n x y) : Alike H (n + 1) (.ref p) (.ref q)
theorem Alike.up {H H' : Hp} (sm : Same H H') : ∀ {n : Nat} {x y : V}, Alike H n x y → Alike H' n x y := by
  intro n x y h
  induction h with
  | non n => exact .non n
  | int n i => exact .int n i
  | str n x => exact .str n x
  | tup hp hq l s _ ih => exact .tup (sm _ _ hp) (sm _ _ hq) l s ih
def spSame (n : Nat) : Sp := fun vs H Q _ => ∃ x y : V, vs = [x, y] ∧ Alike H n x y ∧ ∀ H', Same H H' → Q (.bl true) H'
structure SameTxt (K : PySem.W.Frag) (mg : Str → Option Value) (fS : Addr) : Prop where
  isinst : mg "isinstance" = none
  tuple : mg "tuple" = none
  list : mg "list" = none
  str : mg "str" = none
  bool : mg "bool" = none
  int : mg "int" = none
  len : mg "len" = none
  range : mg "range" = none
  gS : mg "_law_same" = some (.ref fS)
  kS : PySem.W.keepIn K (.ref fS) = true
section
variable {P : Program} {w : World} {K : PySem.W.Frag} {mg : Str → Option Value} {base : Heap} {fS : Addr}
theorem scS : FnScope ["actual", "due", "k"] ["actual", "due"] (defScope sSame) := ⟨rfl, rfl, rfl, by decide +kernel, rfl, by decide +kernel, by decide +kernel⟩
def rIsV : R2 := fun x y H Q => y = .non ∧ Q (.bl (decide (x = .non))) H
def tTail (K : PySem.W.Frag) : TS := tSeq (tIfS (tTest (tOp rIsV (tVar 1) (tC .non))) (tRet (tOp rIsV (tVar 0) (tC .non))) tNext) (tSeq (tIfS (tTest (tI K 1 "bool")) (tRet (tAndV (tI K 0 "bool") (tOp rEq (tVar 0) (tVar 1)))) tNext) (tSeq (tIfS (tTest (tI K 1 "str")) (tRet (tAndV (tI K 0 "str") (tOp rEq (tVar 0) (tVar 1)))) tNext)
      (tRet (tAndV (tI K 0 "int") (tAndV (tNotV (tI K 0 "bool")) (tOp rEq (tVar 0) (tVar 1)))))))
theorem leaf {σ : L2.St} {H : Hp} {D : Ends} {x y : V} {n : Nat} (al : Alike H n x y) (h0 : σ[0]? = some (some x)) (h1 : σ[1]? = some (some y)) (nt : ∀ p, y ≠ .ref p) (go : D.rt (.bl true) H) : tTail K D σ H := by
  cases al with
  | non n => exact ⟨_, h1, rfl, _, rfl, ifY (by decide) ⟨_, h0, rfl, go⟩⟩
  | str n z =>
    refine ⟨_, h1, rfl, _, rfl, ifN (by simp) ?_⟩
    refine isi h1 (.str z) (by decide +kernel) ⟨_, rfl, ifN rfl ?_⟩
    refine isi h1 (.str z) (by decide +kernel) ⟨_, rfl, ifY rfl ?_⟩
    refine isi h0 (.str z) (by decide +kernel) ⟨true, rfl, ifY rfl ⟨_, h0, _, h1, rfl, ?_⟩⟩
    rw [decide_eq_true (rfl : V.str z = V.str z)]
    exact go
  | int n z =>
    refine ⟨_, h1, rfl, _, rfl, ifN (by simp) ?_⟩
    refine isi h1 (.int z) (by decide +kernel) ⟨_, rfl, ifN rfl ?_⟩
    refine isi h1 (.int z) (by decide +kernel) ⟨_, rfl, ifN rfl ?_⟩
    refine isi h0 (.int z) (by decide +kernel) ⟨true, rfl, ifY rfl ?_⟩
    refine isi h0 (.int z) (by decide +kernel) ⟨false, rfl, true, rfl, ifY rfl ⟨_, h0, _, h1, rfl, ?_⟩⟩
    rw [decide_eq_true (rfl : V.int z = V.int z)]
    exact go
  | tup _ _ _ _ _ => exact absurd rfl (nt _)
theorem Alike.ty {H : Hp} {n : Nat} {x y : V} (al : Alike H n x y) (nt : ∀ p, y ≠ .ref p) : ∃ a, TyOf K H y (.type a) ∧ kitB a "tuple" = some false ∧ kitB a "list" = some false := by
  cases al with
  | non n => exact ⟨_, .non, by decide +kernel, by decide +kernel⟩
  | str n z => exact ⟨_, .str z, by decide +kernel, by decide +kernel⟩
  | int n z => exact ⟨_, .int z, by decide +kernel, by decide +kernel⟩
  | tup _ _ _ _ _ => exact absurd rfl (nt _)
theorem ok_same0 {fd : FuncData} (F : Fun K "_law_same" "_law_same" sSame fS fd) (T : SameTxt K mg fS) : FnOk P w K mg base CX0 1 fS fd ["actual", "due"] (spSame 0) := by
  refine F.ok scS (fun vs H Q E h => ?_) (fun cdv A outer s H vs Q E hr h => ?_)
  · obtain ⟨x, y, rfl, _⟩ := h
    rfl
  · obtain ⟨x, y, rfl, al, go⟩ := h
    have nt : ∀ p, y ≠ .ref p := fun p z => by
      subst z
      cases al
    refine ⟨_, pss_cons (ps_if (PW.pt (pw_or (pt_val (pe_callB call_isi (by rfl) T.isinst (by decide +kernel) (pa_cons (pv 1) (pa_cons (pe_bltn (v := .ty "tuple") (u := .type "tuple") (by rfl) T.tuple (by decide +kernel) (by exact rfl)) pa_nil)))) (pw_or1 (pt_val (pe_callB call_isi (by rfl) T.isinst (by decide +kernel) (pa_cons (pv 1) (pa_cons (pe_bltn (v := .ty "list") (u := .type "list") (by rfl) T.list (by decide +kernel) (by exact rfl)) pa_nil))))))) pss_never pss_nil)
      (pss_cons (ps_if (pt_cmpR op_isN (pv 1) pe_non (nomark _)) (pss_one (ps_ret (pe_cmpR op_isN (pv 0) pe_non (nomark _)))) pss_nil)
      (pss_cons (ps_if (pt_val (pe_callB call_isi (by rfl) T.isinst (by decide +kernel) (pa_cons (pv 1) (pa_cons (pe_bltn (v := .ty "bool") (u := .type "bool") (by rfl) T.bool (by decide +kernel) (by exact rfl)) pa_nil)))) (pss_one (ps_ret (pe_and (pe_callB call_isi (by rfl) T.isinst (by decide +kernel) (pa_cons (pv 0) (pa_cons (pe_bltn (v := .ty "bool") (u := .type "bool") (by rfl) T.bool (by decide +kernel) (by exact rfl)) pa_nil))) (pe_one (pe_cmpR op_eq (pv 0) (pv 1) (nomark _)))))) pss_nil)
      (pss_cons (ps_if (pt_val (pe_callB call_isi (by rfl) T.isinst (by decide +kernel) (pa_cons (pv 1) (pa_cons (pe_bltn (v := .ty "str") (u := .type "str") (by rfl) T.str (by decide +kernel) (by exact rfl)) pa_nil)))) (pss_one (ps_ret (pe_and (pe_callB call_isi (by rfl) T.isinst (by decide +kernel) (pa_cons (pv 0) (pa_cons (pe_bltn (v := .ty "str") (u := .type "str") (by rfl) T.str (by decide +kernel) (by exact rfl)) pa_nil))) (pe_one (pe_cmpR op_eq (pv 0) (pv 1) (nomark _)))))) pss_nil)
      (pss_one (ps_ret (pe_and (pe_callB call_isi (by rfl) T.isinst (by decide +kernel) (pa_cons (pv 0) (pa_cons (pe_bltn (v := .ty "int") (u := .type "int") (by rfl) T.int (by decide +kernel) (by exact rfl)) pa_nil))) (pe_and (pe_not (pe_callB call_isi (by rfl) T.isinst (by decide +kernel) (pa_cons (pv 0) (pa_cons (pe_bltn (v := .ty "bool") (u := .type "bool") (by rfl) T.bool (by decide +kernel) (by exact rfl)) pa_nil)))) (pe_one (pe_cmpR op_eq (pv 0) (pv 1) (nomark _)))))))))), ?_⟩
    obtain ⟨a, ty, k1, k2⟩ := al.ty (K := K) nt
    refine isi (K := K) rfl ty k1 ⟨_, rfl, ifN rfl ?_⟩
    refine isi (K := K) rfl ty k2 ⟨_, rfl, ifN rfl ?_⟩
    show tTail K _ _ H
    exact leaf (K := K) al rfl rfl nt (go H (Same.refl H))
theorem ok_sameS {n k : Nat} {fd : FuncData} (F : Fun K "_law_same" "_law_same" sSame fS fd) (bS : Binds K fd ["actual", "due"] []) (T : SameTxt K mg fS) (G : FnOk P w K mg base CX0 k fS fd ["actual", "due"] (spSame n)) : FnOk P w K mg base CX0 (k + 1) fS fd ["actual", "due"] (spSame (n + 1)) := by
  refine F.ok scS (fun vs H Q E h => ?_) (fun cdv A outer s H vs Q E hr h => ?_)
  · obtain ⟨x, y, rfl, _⟩ := h
    rfl
  · obtain ⟨x, y, rfl, al, go⟩ := h
    refine ⟨_, pss_cons (ps_if (PW.pt (pw_or (pt_val (pe_callB call_isi (by rfl) T.isinst (by decide +kernel) (pa_cons (pv 1) (pa_cons (pe_bltn (v := .ty "tuple") (u := .type "tuple") (by rfl) T.tuple (by decide +kernel) (by exact rfl)) pa_nil)))) (pw_or1 (pt_val (pe_callB call_isi (by rfl) T.isinst (by decide +kernel) (pa_cons (pv 1) (pa_cons (pe_bltn (v := .ty "list") (u := .type "list") (by rfl) T.list (by decide +kernel) (by exact rfl)) pa_nil))))))) (pss_cons (ps_if (PW.pt (pw_or (pt_cmpR op_ne (pe_callB call_isi (by rfl) T.isinst (by decide +kernel) (pa_cons (pv 1) (pa_cons (pe_bltn (v := .ty "tuple") (u := .type "tuple") (by rfl) T.tuple (by decide +kernel) (by exact rfl)) pa_nil))) (pe_callB call_isi (by rfl) T.isinst (by decide +kernel) (pa_cons (pv 0) (pa_cons (pe_bltn (v := .ty "tuple") (u := .type "tuple") (by rfl) T.tuple (by decide +kernel) (by exact rfl)) pa_nil))) (nomark _)) (pw_or1 (pt_cmpR op_ne (pe_callB call_isi (by rfl) T.isinst (by decide +kernel) (pa_cons (pv 1) (pa_cons (pe_bltn (v := .ty "list") (u := .type "list") (by rfl) T.list (by decide +kernel) (by exact rfl)) pa_nil))) (pe_callB call_isi (by rfl) T.isinst (by decide +kernel) (pa_cons (pv 0) (pa_cons (pe_bltn (v := .ty "list") (u := .type "list") (by rfl) T.list (by decide +kernel) (by exact rfl)) pa_nil))) (nomark _))))) (pss_one (ps_ret (pe_bl))) pss_nil)
        (pss_cons (ps_if (pt_cmpR op_ne (pe_callB call_len_seq (by rfl) T.len PySem.boot_len (pa_cons (pv 0) pa_nil)) (pe_callB call_len_seq (by rfl) T.len PySem.boot_len (pa_cons (pv 1) pa_nil)) (nomark _)) (pss_one (ps_ret (pe_bl))) pss_nil)
        (pss_cons (ps_for PassesOwn.never rfl (pi_range1 (by rfl) T.range (pa_cons (pe_callB call_len_seq (by rfl) T.len PySem.boot_len (pa_cons (pv 1) pa_nil)) pa_nil)) (pg_name (i := 2) scS.nd rfl (Or.inl rfl))
          (pss_one (ps_if (pt_not (pt_val (pe_call G hr rfl T.gS T.kS bS .nil pass0 (pa_cons (pe_ix ix_tup (pv 0) (pv 2) (fun _ _ => rfl)) (pa_cons (pe_ix ix_tup (pv 1) (pv 2) (fun _ _ => rfl)) pa_nil))))) (pss_one (ps_ret (pe_bl))) pss_nil)))
        (pss_one (ps_ret (pe_bl)))))) pss_nil)
      (pss_cons (ps_if (pt_cmpR op_isN (pv 1) pe_non (nomark _)) (pss_one (ps_ret (pe_cmpR op_isN (pv 0) pe_non (nomark _)))) pss_nil)
      (pss_cons (ps_if (pt_val (pe_callB call_isi (by rfl) T.isinst (by decide +kernel) (pa_cons (pv 1) (pa_cons (pe_bltn (v := .ty "bool") (u := .type "bool") (by rfl) T.bool (by decide +kernel) (by exact rfl)) pa_nil)))) (pss_one (ps_ret (pe_and (pe_callB call_isi (by rfl) T.isinst (by decide +kernel) (pa_cons (pv 0) (pa_cons (pe_bltn (v := .ty "bool") (u := .type "bool") (by rfl) T.bool (by decide +kernel) (by exact rfl)) pa_nil))) (pe_one (pe_cmpR op_eq (pv 0) (pv 1) (nomark _)))))) pss_nil)
      (pss_cons (ps_if (pt_val (pe_callB call_isi (by rfl) T.isinst (by decide +kernel) (pa_cons (pv 1) (pa_cons (pe_bltn (v := .ty "str") (u := .type "str") (by rfl) T.str (by decide +kernel) (by exact rfl)) pa_nil)))) (pss_one (ps_ret (pe_and (pe_callB call_isi (by rfl) T.isinst (by decide +kernel) (pa_cons (pv 0) (pa_cons (pe_bltn (v := .ty "str") (u := .type "str") (by rfl) T.str (by decide +kernel) (by exact rfl)) pa_nil))) (pe_one (pe_cmpR op_eq (pv 0) (pv 1) (nomark _)))))) pss_nil)
      (pss_one (ps_ret (pe_and (pe_callB call_isi (by rfl) T.isinst (by decide +kernel) (pa_cons (pv 0) (pa_cons (pe_bltn (v := .ty "int") (u := .type "int") (by rfl) T.int (by decide +kernel) (by exact rfl)) pa_nil))) (pe_and (pe_not (pe_callB call_isi (by rfl) T.isinst (by decide +kernel) (pa_cons (pv 0) (pa_cons (pe_bltn (v := .ty "bool") (u := .type "bool") (by rfl) T.bool (by decide +kernel) (by exact rfl)) pa_nil)))) (pe_one (pe_cmpR op_eq (pv 0) (pv 1) (nomark _)))))))))), ?_⟩
    by_cases nt : ∀ p, y ≠ .ref p
    · obtain ⟨a, ty, k1, k2⟩ := al.ty (K := K) nt
      refine isi (K := K) rfl ty k1 ⟨_, rfl, ifN rfl ?_⟩
      refine isi (K := K) rfl ty k2 ⟨_, rfl, ifN rfl ?_⟩
      show tTail K _ _ H
      exact leaf (K := K) al rfl rfl nt (go H (Same.refl H))
    · cases al with
      | non => exact absurd (fun p z => by cases z) nt
      | int _ i => exact absurd (fun p z => by cases z) nt
      | str _ x => exact absurd (fun p z => by cases z) nt
      | tup hp hq l sz h =>
        rename_i p q xs ys
        refine isi (K := K) (b := true) rfl (.tup hq) (by decide +kernel) ⟨_, rfl, ifY rfl ?_⟩
        refine isi (K := K) (b := true) rfl (.tup hq) (by decide +kernel) (isi (K := K) (b := true) rfl (.tup hp) (by decide +kernel) ⟨rfl, _, rfl, ifN (by decide) ?_⟩)
        refine isi (K := K) (b := false) rfl (.tup hq) (by decide +kernel) (isi (K := K) (b := false) rfl (.tup hp) (by decide +kernel) ⟨rfl, _, rfl, ifN (by decide) ?_⟩)
        refine ⟨_, rfl, p, xs, rfl, .inr (SqT.of hp), _, rfl, q, ys, rfl, .inr (SqT.of hq), rfl, _, rfl, ifN (by rw [l]; simp) ?_⟩
        refine ⟨_, rfl, q, ys, rfl, .inr (SqT.of hq), (ys.length : Int), rfl, by omega, by rw [sizeLine_eq] at sz; omega, for_range (lo := 0) (n := ys.length) (fun i σ G => ∃ u, σ = [some (.ref p), some (.ref q), u] ∧ Same H G) ⟨_, rfl, Same.refl H⟩ (fun i σ G hi ⟨u, hσ, sG⟩ => ?_) (fun σ G ⟨u, hσ, sG⟩ => ?_)⟩
        · subst hσ
          have hx : xs[i]? = some (xs[i]'(by omega)) := by simp
          have hy : ys[i]? = some ys[i] := by simp
          refine ⟨_, rfl, _, rfl, p, xs, _, _, rfl, rfl, SqT.of (sG _ _ hp), at_of (Int.zero_add _) hx, _, rfl, _, rfl, q, ys, _, _, rfl, rfl, SqT.of (sG _ _ hq), at_of (Int.zero_add _) hy, _, _, rfl, (h i _ _ hx hy).up sG, fun G2 s2 => ⟨true, rfl, ?_⟩⟩
          exact ifN rfl ⟨_, rfl, sG.trans s2⟩
        · subst hσ
          exact go G sG
/-- keys that stand, twice, are alike -/
theorem alike_facs {H : Hp} {xs ys : List V} {m : Mon} (h : KeyVs K H (m.map facK) xs) (g : KeyVs K H (m.map facK) ys) (lm : m.length ≤ 16000000) {i : Nat} {x y : V} (ex : xs[i]? = some x) (ey : ys[i]? = some y) : Alike H 1 x y := by
  obtain ⟨k, hk, kx⟩ := keyVs_get h ex
  obtain ⟨k', hk', ky⟩ := keyVs_get g ey
  rw [hk] at hk'
  cases hk'
  rw [List.getElem?_map] at hk
  cases q : m[i]? with
  | none => rw [q] at hk; cases hk
  | some f =>
    rw [q] at hk
    cases hk
    obtain ⟨p1, rfl, h1⟩ := kv_fac.mp kx
    obtain ⟨p2, rfl, h2⟩ := kv_fac.mp ky
    refine .tup h1 h2 rfl (by show 2 ≤ sizeLine; decide) fun j u v eu ev => ?_
    match j with
    | 0 => cases eu; cases ev; exact .str 0 _
    | 1 => cases eu; cases ev; exact .int 0 _
    | j + 2 => simp at eu
theorem alike_mon {H : Hp} {m : Mon} {x y : V} (h : KeyV K H (monK m) x) (g : KeyV K H (monK m) y) (lm : m.length ≤ 16000000) : Alike H 2 x y := by
  obtain ⟨p, xs, rfl, hp, kx⟩ := kv_mon.mp h
  obtain ⟨q, ys, rfl, hq, ky⟩ := kv_mon.mp g
  have l1 := keyVs_len kx
  have l2 := keyVs_len ky
  refine .tup hp hq (by rw [l1, l2]) (by rw [l1, List.length_map, sizeLine_eq]; omega) fun i u v eu ev => alike_facs kx ky lm eu ev
theorem alike_term {H : Hp} {t : Term} {x y : V} (h : KeyV K H (termK t) x) (g : KeyV K H (termK t) y) (lm : t.1.length ≤ 16000000) : Alike H 3 x y := by
  obtain ⟨p, u, rfl, hp, ku⟩ := kv_term.mp h
  obtain ⟨q, v, rfl, hq, kv⟩ := kv_term.mp g
  refine .tup hp hq rfl (by show 2 ≤ sizeLine; decide) fun j a b ea eb => ?_
  match j with
  | 0 => cases ea; cases eb; exact alike_mon ku kv lm
  | 1 => cases ea; cases eb; exact .int 2 _
  | j + 2 => simp at ea
theorem alike_poly {H : Hp} {p : Poly} {x y : V} (h : KeyV K H (polyK p) x) (g : KeyV K H (polyK p) y) (lp : p.length ≤ 1000000) (lm : ∀ t ∈ p, t.1.length ≤ 16000000) : Alike H 4 x y := by
  obtain ⟨a, xs, rfl, ha, kx⟩ := kv_poly.mp h
  obtain ⟨b, ys, rfl, hb, ky⟩ := kv_poly.mp g
  have l1 := keyVs_len kx
  have l2 := keyVs_len ky
  refine .tup ha hb (by rw [l1, l2]) (by rw [l1, List.length_map, sizeLine_eq]; omega) fun i u v eu ev => ?_
  obtain ⟨t, ht, ku⟩ := term_at kx eu
  obtain ⟨t', ht', kv⟩ := term_at ky ev
  rw [ht] at ht'
  cases ht'
  exact alike_term ku kv (lm t (List.mem_of_getElem? ht))
end
end K6

set_option Elab.async false
set_option linter.all false
set_option maxRecDepth 100000
set_option maxHeartbeats 4000000
set_option autoImplicit false
/-! f(k = v, ..) without positional values, where what is raised is wished for at the caller's slots. -/
namespace L2
open PySem PySem.Spec PyProof.Rows
def tKw (m : Nat) (sp : Sp) (gV : List V → List V → List V) (E : St → XK) (tk : TA) : TE := fun σ H Q => tk σ H fun zs G => zs.length = m ∧ sp (gV [] zs) G Q (E σ)
section
variable {X : Cx} {CX : CXT} {k n : Nat} {f : Addr} {fd : FuncData} {ps ks : List Str} {sp : Sp} {x : Str} {p pos : Pos} {kws : List Keyword} {tk : TA} {g : List Value → List Value → List Value} {gV : List V → List V → List V}
theorem run_kw {pins : List (Addr × Obj)} {σ : St} {H : Hp} {s : Shared} {Q : VK} {E : XK} {us ws : List Value} {vs zs : List V} (F : FnOk X.prog X.w X.K X.mg X.base CX k f fd ps sp) (hr : Room k X.A) (hb : KBn X.K fd ps n ks g gV)
    (hx : ∀ e s', CX X.stack H s E e s' → X.xe e s') (I : Inv X pins σ H s) (r : Vals vs us) (rz : Vals zs ws) (l1 : vs.length = n) (l2 : zs.length = ks.length) (h : sp (gV vs zs) H Q E) : wpAny (model X.prog X.w) X.A (call (.ref f) us (ks.zip ws)) (EP X pins σ Q) X.xe s := by
  have r2 := hb.rel r rz
  refine wpAny_call (codeAny_mono (F.run X.A X.stack s H ⟨us, ks.zip ws⟩ (g us ws) (gV vs zs) Q E hr I.env0 (hb.to s us ws I.kIn (r.length.symm.trans l1) (rz.length.symm.trans l2)) r2 h) fun r s' hq => ?_)
  cases r with
  | error e => exact hx e s' hq
  | ok fl =>
    cases fl with
    | ret u => exact I.after hq
    | next => exact False.elim hq
    | brk => exact False.elim hq
    | cont => exact False.elim hq
theorem pe_kw {E : St → XK} (F : FnOk X.prog X.w X.K X.mg X.base CX k f fd ps sp) (hr : Room k X.A) (hg : Gl X x) (hm : X.mg x = some (.ref f)) (kp : PySem.W.keepIn X.K (.ref f) = true) (hb : KBn X.K fd ps 0 ks g gV)
    (hx : ∀ (pins : List (Addr × Obj)) (σ : St) (H : Hp) (s : Shared) (e : Value) (s' : Shared), Inv X pins σ H s → CX X.stack H s (E σ) e s' → X.xe e s') (hkw : PK X kws tk)
    (hall : (backToKw pos (keywordEach kws X.env)).all (·.1.isSome) = true := by rfl) (hks : (backToKw pos (keywordEach kws X.env)).filterMap (·.1) = ks := by rfl) (hdb : (x == ("__debug__" : Str)) = false := by decide)
    (hpl : ((backTo pos (starEach [] X.env)).any (·.1) || (backToKw pos (keywordEach kws X.env)).any (·.1.isNone)) = false := by rfl) : PE X (.Call (.Name x p) [] kws pos) (tKw ks.length sp gV E tk) := ⟨fun pn s τ H Q I h => by
  refine wpAny_Call_Name_kw (ld_glob I hg hm ?_ hdb)
  refine PySem.W.callWith_KW0 (h₀ := X.base) I.ok.mod.kin kp hall (thn (hkw.run pos pn s τ H _ I h) fun ws s2 ⟨zs, G, I2, rz, l2, q2⟩ => ⟨I2.kIn, ?_⟩) hpl
  rw [hks]
  exact run_kw F hr hb (fun e s' c => hx pn τ G s2 e s' I2 c) I2 .nil rz rfl l2 q2⟩
end
theorem kw_one {K : PySem.W.Frag} {x qual : Str} {st : Stmt} {f : Addr} {fd : FuncData} {p : Str} (F : Fun K x qual st f fd)
    (h : ∀ (kV doc pm : Value) (an : Option Addr) (cdv ct a : Value), bindArgs (PySem.W.fnOf x qual (defArgs st) (defBody st) (defScope st) .none kV doc pm an cdv ct) ⟨[], [(p, a)]⟩ = pure [(p, a)]) : KBn K fd [p] 0 [p] (fun _ ws => ws) (fun _ zs => zs) := by
  obtain ⟨oc, od, kV, doc, pm, an, cdv, ct, osl, rfl, lk, hcd⟩ := F.ex
  refine ⟨fun s us ws X l1 l2 => ?_, fun _ r => r⟩
  match us, ws, l1, l2 with
  | [], [a], _, _ => exact .of_eq (h kV doc pm an cdv ct a)
theorem suite_hot {X : Cx} {a : Addr} {oe : Obj} {cls : Value} {d : Option Addr} {pn : List (Addr × Obj)} (hz : L2N.Zn cls d oe) (hf : ∃ vs, oe.data = .fields vs) : L2H.HotC (X.suite a ((a, oe) :: pn)) := by
  obtain ⟨vs, e⟩ := hf
  exact ⟨(a, oe), ⟨rfl, vs, e, hz.2.2 vs e⟩, List.mem_cons_self⟩
end L2

set_option Elab.async false
set_option linter.all false
set_option maxRecDepth 100000
set_option maxHeartbeats 4000000
set_option autoImplicit false
set_option pp.maxSteps 600
/-! What the program tells of a text, asked. -/
namespace K6
open PySem L2 TL K1D
abbrev sAsked : Stmt := top 35
abbrev sIsRead : Stmt := top 36
def BadT (H : Hp) (Q : VK) : Prop := ∀ (a : Addr) (G : Hp), Same H G → G a = some (.tup [.str "bad", .int 0]) → Q (.ref a) G
def spAsked (K : PySem.W.Frag) : Sp := fun vs H Q _ => ∃ x : V, vs = [x] ∧ ((∃ y : Str, x = .str y ∧ y.length ≤ 9000000 ∧ (∀ p, rPoly y = some p → ∀ (a b : Addr) (G : Hp), Same H G → G a = some (.tup [.str "fine", .ref b]) → KeyV K G (polyK p) (.ref b) → Q (.ref a) G) ∧ (rPoly y = none → BadT H Q)) ∨ (NotStr K H x ∧ BadT H Q))
section
variable {P : Program} {w : World} {K : PySem.W.Frag} {mg : Str → Option Value} {base : Heap} {B C D M fI fA : Addr} {dI dA : FuncData}
structure AskTxt (P : Program) (w : World) (K : PySem.W.Frag) (mg : Str → Option Value) (base : Heap) (C fA : Addr) (dA : FuncData) : Prop where
  okA : FnOk P w K mg base (L2N.CX P w) 5 fA dA ["text"] (spRPoly K C)
  bA : Binds K dA ["text"] []
  gA : mg "read_poly" = some (.ref fA)
  kA : PySem.W.keepIn K (.ref fA) = true
theorem scAsked : FnScope ["text", "error"] ["text"] (defScope sAsked) := ⟨rfl, rfl, rfl, by decide +kernel, rfl, by decide +kernel, by decide +kernel⟩
theorem ok_asked {f : Addr} {fd : FuncData} (F : Fun K "_law_asked" "_law_asked" sAsked f fd) (T : ProgTxt K mg) (U : ValTxt P w K mg base B C D M fI dI) (A0 : AskTxt P w K mg base C fA dA) : FnOk P w K mg base CX0 6 f fd ["text"] (spAsked K) := by
  refine F.ok scAsked (fun vs H Q E h => ?_) (fun cdv A outer s H vs Q E hr h => ?_)
  · obtain ⟨x, rfl, _⟩ := h
    rfl
  · obtain ⟨x, rfl, h⟩ := h
    refine ⟨_, pss_cons (L2N.ps_try_as (i := 1) (ts := fun a cls d => tSeq (tIfS (tAnd (tB (tCB (rErrIs K cls a d) (tCons (tVar 1) (tCons (tC (.ref B)) tNil)))) (tAnd (tNot (tB (tCB (rErrIs K cls a d) (tCons (tVar 1) (tCons (tC (.ref D)) tNil))))) (tNot (tB (tCB (rErrIs K cls a d) (tCons (tVar 1) (tCons (tC (.ref M)) tNil)))))))
          (tRet (tTup (tCons (tC (.str "bad")) (tCons (tXf a cls d C "at" (tVar 1)) tNil)))) tNext) tNext)
      (tb := fun W => tRet (tTup (tCons (tC (.str "fine")) (tCons (tCallS (spRPoly K C) (WE W) (tCons (tVar 0) tNil)) tNil))))
      rfl rfl scAsked.nd rfl rfl ⟨rfl, by decide, .inl U.gC⟩ takes0N
      (fun W pn xe tk _ => pss_one (ps_ret (by exact pe_tup (pa_cons pe_str (pa_cons (pe_callS A0.okA hr rfl A0.gA A0.kA A0.bA (fun σ => L2N.passAt tk σ) (by exact (pa_cons (pv 0) pa_nil))) pa_nil)))))
      (fun a oe cls d pn hz hf => pss_one (by exact (ps_if (PW.pt (pw_and (pt_val (pe_callB (call_errIs hz.zc hf) (by rfl) T.isinst (by decide +kernel) (pa_cons (pv 1) (pa_cons (pe_glob (by rfl) U.gB (v := .ref B) (by exact rfl)) pa_nil))))
          (pw_and (pt_not (pt_val (pe_callB (call_errIs hz.zc hf) (by rfl) T.isinst (by decide +kernel) (pa_cons (pv 1) (pa_cons (pe_glob (by rfl) U.gD (v := .ref D) (by exact rfl)) pa_nil)))))
          (pw_and1 (pt_not (pt_val (pe_callB (call_errIs hz.zc hf) (by rfl) T.isinst (by decide +kernel) (pa_cons (pv 1) (pa_cons (pe_glob (by rfl) U.gM (v := .ref M) (by exact rfl)) pa_nil)))))))))
        (pss_one (ps_ret (pe_tup (pa_cons pe_str (pa_cons (pe_xf U.xf U.no hz.zc hf (pv 1)) pa_nil))))) pss_nil))))
      (pss_one (ps_ret (pe_tup (pa_cons pe_str (pa_cons pe_int pa_nil))))), ?_⟩
    have suite : ∀ {G : Hp} {dd a : Addr}, Same H G → G dd = none → BadT H Q → (tSeq (tIfS (tAnd (tB (tCB (rErrIs K (.ref C) a (some dd)) (tCons (tVar 1) (tCons (tC (.ref B)) tNil)))) (tAnd (tNot (tB (tCB (rErrIs K (.ref C) a (some dd)) (tCons (tVar 1) (tCons (tC (.ref D)) tNil))))) (tNot (tB (tCB (rErrIs K (.ref C) a (some dd)) (tCons (tVar 1) (tCons (tC (.ref M)) tNil)))))))
          (tRet (tTup (tCons (tC (.str "bad")) (tCons (tXf a (.ref C) (some dd) C "at" (tVar 1)) tNil)))) tNext) tNext) { nx := tSeq (tRet (tTup (tCons (tC (.str "other")) (tCons (tC (.int 0)) tNil)))) tNext { nx := fun _ H' => Q .non H', rt := Q }, rt := Q } [some x, some (.ref a)] (upd G dd (.xd [("at", .int 0)])) := by
      intro G dd a sG nd q
      have hx : upd G dd (.xd [("at", .int 0)]) dd = some (.xd [("at", .int 0)]) := upd_same
      have s2 : Same H (upd G dd (.xd [("at", .int 0)])) := sG.trans (same_new nd)
      generalize upd G dd (.xd [("at", .int 0)]) = G2 at hx s2
      refine ⟨_, rfl, C, .ref B, .ref B, true, rfl, U.ask, rfl, .own _, fun d' e => by cases e; exact ⟨_, hx⟩, U.kit, true, rfl, ifY rfl ?_⟩
      refine ⟨_, rfl, C, .ref D, .ref D, false, rfl, U.ask, rfl, .own _, fun d' e => by cases e; exact ⟨_, hx⟩, U.kitD, false, rfl, ifY rfl ?_⟩
      refine ⟨_, rfl, C, .ref M, .ref M, false, rfl, U.ask, rfl, .own _, fun d' e => by cases e; exact ⟨_, hx⟩, U.kitM, false, rfl, ifY rfl ?_⟩
      refine ⟨_, rfl, rfl, rfl, dd, _, .int 0, rfl, hx, rfl, by show 2 ≤ sizeLine; decide, fun p np => q p _ (s2.trans (same_new np)) upd_same⟩
    have fin2 : ∀ {W : XK}, (∀ G dd, Same H G → G dd = none → W (.ref C) (some dd) (upd G dd (.xd [("at", .int 0)]))) → Raises C H W := fun q G dd sG nd => q G dd sG nd
    rcases h with ⟨y, rfl, ly, yes, no⟩ | ⟨ns, go⟩
    · refine ⟨_, rfl, _, rfl, .inl ⟨y, rfl, ly, fun p e a G sG k => ⟨by show 2 ≤ sizeLine; decide, fun q nq => yes p e q a _ (sG.trans (same_new nq)) upd_same (KeyV.up (same_tups (same_new nq)) _ _ k)⟩, fun dn => fin2 fun G dd sG nd => ⟨true, U.exm, fun _ a na => ?_, fun z => (nomatch z)⟩⟩⟩
      exact suite sG nd (no dn)
    · refine ⟨_, rfl, _, rfl, .inr ⟨ns, fin2 fun G dd sG nd => ⟨true, U.exm, fun _ a na => ?_, fun z => (nomatch z)⟩⟩⟩
      exact suite sG nd go
theorem lPoly_sz {x : Str} {p : Poly} (lx : x.length ≤ 9000000) (h : lPoly x = some p) : szP p ≤ 16000000 := by
  unfold lPoly at h
  split at h
  · cases h
    exact Nat.zero_le _
  · split at h
    · cases h
    · rename_i hn
      split at h
      · cases h
      · rename_i tab ht
        split at h
        · cases h
          exact read_sz lx ht (by omega) (lTab_some ht (by omega) (fun t ht => (by cases ht)) List.nodup_nil).2.1
        · cases h
variable {fL fK fS : Addr} {dL dK dS : FuncData}
def spIsRead : Sp := fun vs H Q _ => ∃ x : Str, vs = [.str x] ∧ x.length ≤ 9000000 ∧ ∀ H', Same H H' → Q (.bl true) H'
structure IsReadTxt (P : Program) (w : World) (K : PySem.W.Frag) (mg : Str → Option Value) (base : Heap) (fL fK fS : Addr) (dL dK dS : FuncData) : Prop where
  okL : FnOk P w K mg base CX0 3 fL dL ["text"] (spLRead K)
  bL : Binds K dL ["text"] []
  gL : mg "_law_read" = some (.ref fL)
  kL : PySem.W.keepIn K (.ref fL) = true
  okK : FnOk P w K mg base CX0 6 fK dK ["text"] (spAsked K)
  bK : Binds K dK ["text"] []
  gK : mg "_law_asked" = some (.ref fK)
  kK : PySem.W.keepIn K (.ref fK) = true
  okS : FnOk P w K mg base CX0 6 fS dS ["actual", "due"] (spSame 5)
  bS : Binds K dS ["actual", "due"] []
  gS : mg "_law_same" = some (.ref fS)
  kS : PySem.W.keepIn K (.ref fS) = true
theorem alike_bad {H : Hp} {a b : Addr} (ha : H a = some (.tup [.str "bad", .int 0])) (hb : H b = some (.tup [.str "bad", .int 0])) : Alike H 5 (.ref a) (.ref b) := by
  refine .tup ha hb rfl (by show 2 ≤ sizeLine; decide) fun j u v eu ev => ?_
  match j with
  | 0 => cases eu; cases ev; exact .str 4 _
  | 1 => cases eu; cases ev; exact .int 4 _
  | j + 2 => simp at eu
theorem scIsRead : FnScope ["text", "poly"] ["text"] (defScope sIsRead) := ⟨rfl, rfl, rfl, by decide +kernel, rfl, by decide +kernel, by decide +kernel⟩
theorem ok_isread {f : Addr} {fd : FuncData} (F : Fun K "_law_is_read" "_law_is_read" sIsRead f fd) (U : IsReadTxt P w K mg base fL fK fS dL dK dS) : FnOk P w K mg base CX0 7 f fd ["text"] spIsRead := by
  refine F.ok scIsRead (fun vs H Q E h => ?_) (fun cdv A outer s H vs Q E hr h => ?_)
  · obtain ⟨x, rfl, _⟩ := h
    rfl
  · obtain ⟨x, rfl, lx, go⟩ := h
    have h3 : Room 3 _ := hr.mono (by decide)
    refine ⟨_, pss_cons (ps_set (i := 1) scIsRead.nd rfl (Or.inl rfl) (pe_call U.okL h3 rfl U.gL U.kL U.bL .nil pass0 (pa_cons (pv 0) pa_nil)))
      (pss_cons (ps_if (pt_cmpR op_isN (pv 1) pe_non (nomark _)) (pss_one (ps_ret (pe_call U.okS hr rfl U.gS U.kS U.bS .nil pass0 (pa_cons (pe_call U.okK hr rfl U.gK U.kK U.bK .nil pass0 (pa_cons (pv 0) pa_nil)) (pa_cons (pe_tup (pa_cons pe_str (pa_cons pe_int pa_nil))) pa_nil))))) pss_nil)
      (pss_one (ps_ret (pe_call U.okS hr rfl U.gS U.kS U.bS .nil pass0 (pa_cons (pe_call U.okK hr rfl U.gK U.kK U.bK .nil pass0 (pa_cons (pv 0) pa_nil)) (pa_cons (pe_tup (pa_cons pe_str (pa_cons (pv 1) pa_nil))) pa_nil)))))), ?_⟩
    refine ⟨_, rfl, x, rfl, lx, fun e G sG => ?_, fun p e a G sG kp => ?_⟩
    · refine ⟨_, rfl, rfl, _, rfl, ifY (decide_eq_true rfl) ?_⟩
      refine ⟨_, rfl, _, rfl, .inl ⟨x, rfl, lx, fun p ep => (by rw [same_poly, e] at ep; cases ep), fun _ b F sF hb => ?_⟩⟩
      refine ⟨by show 2 ≤ sizeLine; decide, fun q nq => ⟨_, _, rfl, alike_bad ((upd_ne (ne_of_none hb nq)).trans hb) upd_same, fun H' s' => go H' (sG.trans (sF.trans ((same_new nq).trans s')))⟩⟩
    · refine ⟨_, rfl, rfl, _, rfl, ifN (by simp) ?_⟩
      have er : rPoly x = some p := by rw [same_poly]; exact e
      refine ⟨_, rfl, _, rfl, .inl ⟨x, rfl, lx, fun p' ep a2 b2 F sF ha2 kb2 => ?_, fun en => (by rw [er] at en; cases en)⟩⟩
      rw [er] at ep
      cases ep
      refine ⟨_, rfl, by show 2 ≤ sizeLine; decide, fun q nq => ⟨_, _, rfl, ?_, fun H' s' => go H' (sG.trans (sF.trans ((same_new nq).trans s')))⟩⟩
      have s2 : Same F (upd F q (.tup [.str "fine", .ref a])) := same_new nq
      have kp2 := KeyV.up (same_tups (K := K) (sF.trans s2)) _ _ kp
      have kb3 := KeyV.up (same_tups (K := K) s2) _ _ kb2
      have sz := lPoly_sz lx e
      have can := (lPoly_some e).1
      refine .tup (s2 _ _ ha2) upd_same rfl (by show 2 ≤ sizeLine; decide) fun j u v eu ev => ?_
      match j with
      | 0 => cases eu; cases ev; exact .str 4 _
      | 1 => cases eu; cases ev; exact alike_poly kb3 kp2 (by have := can.le; omega) fun t ht => by have := szT_mem ht; have := row_szT t; omega
      | j + 2 => simp at eu
end
end K6

set_option Elab.async false
set_option linter.all false
set_option maxRecDepth 100000
set_option maxHeartbeats 4000000
set_option autoImplicit false
set_option pp.maxSteps 600
/-! The law's state: a dict with text keys; draws. -/
namespace K6
open PySem L2 TL K1D
abbrev sStart : Stmt := top 23
abbrev sDraw : Stmt := top 24
abbrev Ky := L2.Key
def kC : Ky := Sum.inr "cells"
def kA : Ky := Sum.inr "at"
def kV_ : Ky := Sum.inr "value"
def kL : Ky := Sum.inr "left"
def kM : Ky := Sum.inr "mixed"
def kN : Ky := Sum.inr "count"
def kS : Ky := Sum.inr "seed"
def stK (c : V) (a v f m n s : Int) : List (Ky × V) := [(kC, c), (kA, .int a), (kV_, .int v), (kL, .int f), (kM, .int m), (kN, .int n), (kS, .int s)]
theorem ne_keys : kC ≠ kA ∧ kC ≠ kV_ ∧ kC ≠ kL ∧ kC ≠ kM ∧ kC ≠ kN ∧ kC ≠ kS ∧ kA ≠ kV_ ∧ kA ≠ kL ∧ kA ≠ kM ∧ kA ≠ kN ∧ kA ≠ kS ∧ kV_ ≠ kL ∧ kV_ ≠ kM ∧ kV_ ≠ kN ∧ kV_ ≠ kS ∧ kL ≠ kM ∧ kL ≠ kN ∧ kL ≠ kS ∧ kM ≠ kN ∧ kM ≠ kS ∧ kN ≠ kS := by decide +kernel
section
variable {c : V} {a v f m n s x : Int}
theorem val_C : valV (stK c a v f m n s) kC = some (c) := by
  have := ne_keys
  simp [valV, stK, this, Ne.symm]
theorem val_A : valV (stK c a v f m n s) kA = some (.int a) := by
  have := ne_keys
  simp [valV, stK, this, Ne.symm]
theorem val_V : valV (stK c a v f m n s) kV_ = some (.int v) := by
  have := ne_keys
  simp [valV, stK, this, Ne.symm]
theorem val_L : valV (stK c a v f m n s) kL = some (.int f) := by
  have := ne_keys
  simp [valV, stK, this, Ne.symm]
theorem val_M : valV (stK c a v f m n s) kM = some (.int m) := by
  have := ne_keys
  simp [valV, stK, this, Ne.symm]
theorem val_N : valV (stK c a v f m n s) kN = some (.int n) := by
  have := ne_keys
  simp [valV, stK, this, Ne.symm]
theorem val_S : valV (stK c a v f m n s) kS = some (.int s) := by
  have := ne_keys
  simp [valV, stK, this, Ne.symm]
theorem put_A : putK (stK c a v f m n s) kA (.int x) = stK c x v f m n s := by
  have := ne_keys
  simp [putK, stK, this, Ne.symm]
theorem put_V : putK (stK c a v f m n s) kV_ (.int x) = stK c a x f m n s := by
  have := ne_keys
  simp [putK, stK, this, Ne.symm]
theorem put_L : putK (stK c a v f m n s) kL (.int x) = stK c a v x m n s := by
  have := ne_keys
  simp [putK, stK, this, Ne.symm]
theorem put_M : putK (stK c a v f m n s) kM (.int x) = stK c a v f x n s := by
  have := ne_keys
  simp [putK, stK, this, Ne.symm]
theorem put_N : putK (stK c a v f m n s) kN (.int x) = stK c a v f m x s := by
  have := ne_keys
  simp [putK, stK, this, Ne.symm]
variable {H : Hp} {p : Addr}
theorem getC (g : H p = some (.dK (stK c a v f m n s))) : DGet H p (.str "cells") (some (c)) := by
  have h := DGet.k (k := kC) g
  rw [val_C] at h
  exact h
theorem getA (g : H p = some (.dK (stK c a v f m n s))) : DGet H p (.str "at") (some (.int a)) := by
  have h := DGet.k (k := kA) g
  rw [val_A] at h
  exact h
theorem getV (g : H p = some (.dK (stK c a v f m n s))) : DGet H p (.str "value") (some (.int v)) := by
  have h := DGet.k (k := kV_) g
  rw [val_V] at h
  exact h
theorem getL (g : H p = some (.dK (stK c a v f m n s))) : DGet H p (.str "left") (some (.int f)) := by
  have h := DGet.k (k := kL) g
  rw [val_L] at h
  exact h
theorem getM (g : H p = some (.dK (stK c a v f m n s))) : DGet H p (.str "mixed") (some (.int m)) := by
  have h := DGet.k (k := kM) g
  rw [val_M] at h
  exact h
theorem getN (g : H p = some (.dK (stK c a v f m n s))) : DGet H p (.str "count") (some (.int n)) := by
  have h := DGet.k (k := kN) g
  rw [val_N] at h
  exact h
theorem getS (g : H p = some (.dK (stK c a v f m n s))) : DGet H p (.str "seed") (some (.int s)) := by
  have h := DGet.k (k := kS) g
  rw [val_S] at h
  exact h
theorem setA (g : H p = some (.dK (stK c a v f m n s))) (x : Int) : DPut H p (.str "at") (.int x) (upd H p (.dK (stK c x v f m n s))) := by
  have h := DPut.k (k := kA) (v := .int x) g (by show 7 < sizeLine; decide)
  rw [put_A] at h
  exact h
theorem setV (g : H p = some (.dK (stK c a v f m n s))) (x : Int) : DPut H p (.str "value") (.int x) (upd H p (.dK (stK c a x f m n s))) := by
  have h := DPut.k (k := kV_) (v := .int x) g (by show 7 < sizeLine; decide)
  rw [put_V] at h
  exact h
theorem setL (g : H p = some (.dK (stK c a v f m n s))) (x : Int) : DPut H p (.str "left") (.int x) (upd H p (.dK (stK c a v x m n s))) := by
  have h := DPut.k (k := kL) (v := .int x) g (by show 7 < sizeLine; decide)
  rw [put_L] at h
  exact h
theorem setM (g : H p = some (.dK (stK c a v f m n s))) (x : Int) : DPut H p (.str "mixed") (.int x) (upd H p (.dK (stK c a v f x n s))) := by
  have h := DPut.k (k := kM) (v := .int x) g (by show 7 < sizeLine; decide)
  rw [put_M] at h
  exact h
theorem setN (g : H p = some (.dK (stK c a v f m n s))) (x : Int) : DPut H p (.str "count") (.int x) (upd H p (.dK (stK c a v f m x s))) := by
  have h := DPut.k (k := kN) (v := .int x) g (by show 7 < sizeLine; decide)
  rw [put_N] at h
  exact h
end
/-- at p the state, its cells at l -/
def StL (H : Hp) (p l : Addr) : Prop := ∃ (ns : List Int) (a v f m n s : Int), H p = some (.dK (stK (.ref l) a v f m n s)) ∧ H l = some (.lst (ns.map V.int)) ∧ 0 ≤ a ∧ l ≠ p
/-- all but the state stands -/
def Bt (p : Addr) (H G : Hp) : Prop := ∀ a o, a ≠ p → H a = some o → G a = some o
section
variable {p l q : Addr} {H G F : Hp} {o : HO}
theorem Bt.refl : Bt p H H := fun _ _ _ e => e
theorem Bt.trans (h : Bt p H G) (g : Bt p G F) : Bt p H F := fun a o n e => g a o n (h a o n e)
theorem Bt.same (s : Same H G) : Bt p H G := fun a o _ e => s a o e
theorem Bt.put : Bt p H (upd H p o) := fun a u n e => (upd_ne n).trans e
theorem Bt.new (n : H q = none) : Bt p H (upd H q o) := fun a u _ e => (upd_ne (ne_of_none e n)).trans e
/-- an object of one's own -/
theorem Bt.set (h : Bt p H G) (n : H q = none) : Bt p H (upd G q o) := fun a u m e => (upd_ne (ne_of_none e n)).trans (h a u m e)
theorem StL.put {ns : List Int} {a v f m n s : Int} (h2 : H l = some (.lst (ns.map V.int))) (a0 : 0 ≤ a) (lp : l ≠ p) : StL (upd H p (.dK (stK (.ref l) a v f m n s))) p l := ⟨ns, a, v, f, m, n, s, upd_same, (upd_ne lp).trans h2, a0, lp⟩
theorem StL.same (h : StL H p l) (s : Same H G) : StL G p l := by
  obtain ⟨ns, a, v, f, m, n, sd, h1, h2, a0, lp⟩ := h
  exact ⟨ns, a, v, f, m, n, sd, s _ _ h1, s _ _ h2, a0, lp⟩
theorem StL.ne (h : StL H p l) (n : H q = none) : q ≠ p ∧ q ≠ l := by
  obtain ⟨ns, a, v, f, m, k, sd, h1, h2, a0, lp⟩ := h
  exact ⟨fun z => (by rw [z, h1] at n; cases n), fun z => (by rw [z, h2] at n; cases n)⟩
theorem StL.set (h : StL H p l) (np : q ≠ p) (nl : q ≠ l) : StL (upd H q o) p l := by
  obtain ⟨ns, a, v, f, m, n, sd, h1, h2, a0, lp⟩ := h
  exact ⟨ns, a, v, f, m, n, sd, (upd_ne (Ne.symm np)).trans h1, (upd_ne (Ne.symm nl)).trans h2, a0, lp⟩
theorem StL.up (h : StL H p l) (n : H q = none) : StL (upd H q o) p l := h.same (same_new n)
/-- what isn't there behind wasn't there ahead -/
theorem bt_none (b : Bt p H G) (h : StL G p l) (n : G q = none) : H q = none := by
  cases e : H q with
  | none => rfl
  | some o => rw [b q o (h.ne n).1 e] at n; cases n
end
def spDraw : Sp := fun vs H Q _ => ∃ (p l : Addr) (k : Int), vs = [.ref p, .int k] ∧ StL H p l ∧ 0 < k ∧ k ≤ 10 ^ 30 ∧ ∀ (z : Int) (H' : Hp), 0 ≤ z → z < k → StL H' p l → Bt p H H' → Q (.int z) H'
section
variable {P : Program} {w : World} {K : PySem.W.Frag} {mg : Str → Option Value} {base : Heap}
theorem hu1 {k : Nat} {A : Around} (r : Room k A) : A.units + 1 < cLine := by have := r.un; omega
theorem wide30 {c k : Int} (h0 : 0 < k) (h : k ≤ 10 ^ 30) : CDivW c k := by
  refine wide_div h0 (b := 128) ?_ (by decide) (by decide)
  have : (2 : Nat) ^ 128 = 340282366920938463463374607431768211456 := by decide +kernel
  omega
theorem scDraw : FnScope ["state", "many", "cell", "number", "digit"] ["state", "many"] (defScope sDraw) := ⟨rfl, rfl, rfl, by decide +kernel, rfl, by decide +kernel, by decide +kernel⟩
theorem ok_draw {f : Addr} {fd : FuncData} (F : Fun K "_law_draw" "_law_draw" sDraw f fd) (T : ProgTxt K mg) : FnOk P w K mg base CX0 1 f fd ["state", "many"] spDraw := by
  refine F.ok scDraw (fun vs H Q E h => ?_) (fun cdv A outer s H vs Q E hr h => ?_)
  · obtain ⟨p, l, k, rfl, _⟩ := h
    rfl
  · obtain ⟨p, l, k, rfl, hs, k0, k9, go⟩ := h
    refine ⟨_, pss_cons (ps_dput (hu1 hr) (pv 0) pe_str (pe_op op_add (pe_dget (hu1 hr) (pv 0) pe_str (fun _ _ => rfl)) pe_int) rfl) (C8.pss_cut (ps_if (pt_cmpR op_eq (pe_dget (hu1 hr) (pv 0) pe_str (fun _ _ => rfl)) pe_int (nomark _)) (pss_cons (ps_dput (hu1 hr) (pv 0) pe_str pe_int rfl) (pss_cons (ps_dput (hu1 hr) (pv 0) pe_str pe_int rfl) (pss_cons (ps_dput (hu1 hr) (pv 0) pe_str (pe_dget (hu1 hr) (pv 0) pe_str (fun _ _ => rfl)) rfl) (pss_one (ps_if (pt_cmpR op_lt (pe_dget (hu1 hr) (pv 0) pe_str (fun _ _ => rfl)) (pe_callB call_len_seq (by rfl) T.len PySem.boot_len (pa_cons (pe_dget (hu1 hr) (pv 0) pe_str (fun _ _ => rfl)) pa_nil)) (nomark _)) (pss_cons (ps_set (i := 2) scDraw.nd rfl (Or.inl rfl) (pe_ix ix_list (pe_dget (hu1 hr) (pv 0) pe_str (fun _ _ => rfl)) (pe_dget (hu1 hr) (pv 0) pe_str (fun _ _ => rfl)) (fun _ _ => rfl))) (pss_cons (ps_dput (hu1 hr) (pv 0) pe_str (pe_op op_add (pe_dget (hu1 hr) (pv 0) pe_str (fun _ _ => rfl)) pe_int) rfl) (pss_cons (ps_dput (hu1 hr) (pv 0) pe_str (pe_op op_fdiv (pe_callB call_abs (by rfl) T.abs (by decide +kernel) (pa_cons (pv 2) pa_nil)) pe_int) rfl) (pss_cons (ps_dput (hu1 hr) (pv 0) pe_str (pe_op op_mod (pe_callTy call_int1 (by rfl) T.int (by decide +kernel) (pa_cons (pv 2) pa_nil)) pe_int) rfl) (pss_one (ps_dput (hu1 hr) (pv 0) pe_str (pe_op op_sub pe_int (pe_op op_mul pe_int (pe_dget (hu1 hr) (pv 0) pe_str (fun _ _ => rfl)))) rfl)))))) pss_nil))))) pss_nil)
      (pss_cons (ps_dput (hu1 hr) (pv 0) pe_str (pe_op op_sub (pe_dget (hu1 hr) (pv 0) pe_str (fun _ _ => rfl)) pe_int) rfl) (pss_cons (ps_if (pt_cmpR op_eq (pe_dget (hu1 hr) (pv 0) pe_str (fun _ _ => rfl)) pe_int (nomark _)) (pss_cons (ps_set (i := 3) scDraw.nd rfl (Or.inl rfl) (pe_op op_mod (pe_callTy call_int1 (by rfl) T.int (by decide +kernel) (pa_cons (pe_op op_add (pe_dget (hu1 hr) (pv 0) pe_str (fun _ _ => rfl)) (pe_op op_mul pe_int (pe_dget (hu1 hr) (pv 0) pe_str (fun _ _ => rfl)))) pa_nil)) pe_int)) (pss_cons (ps_set (i := 3) scDraw.nd rfl (Or.inl rfl) (pe_op op_mod (pe_callTy call_int1 (by rfl) T.int (by decide +kernel) (pa_cons (pe_op op_add (pe_op op_mul (pv 3) (pv 3)) (pe_op op_mul pe_int (pe_dget (hu1 hr) (pv 0) pe_str (fun _ _ => rfl)))) pa_nil)) pe_int)) (pss_one (ps_ret (pe_op op_modN (pe_callTy call_int1 (by rfl) T.int (by decide +kernel) (pa_cons (pe_op op_fdiv (pe_op op_mod (pe_callTy call_int1 (by rfl) T.int (by decide +kernel) (pa_cons (pe_op op_mul (pv 3) pe_int) pa_nil)) pe_int) pe_int) pa_nil)) (pv 1)))))) pss_nil) (pss_cons (ps_set (i := 4) scDraw.nd rfl (Or.inl rfl) (pe_op op_modN (pe_callTy call_int1 (by rfl) T.int (by decide +kernel) (pa_cons (pe_dget (hu1 hr) (pv 0) pe_str (fun _ _ => rfl)) pa_nil)) (pv 1))) (pss_cons (ps_dput (hu1 hr) (pv 0) pe_str (pe_op op_fdivW (pe_dget (hu1 hr) (pv 0) pe_str (fun _ _ => rfl)) (pv 1)) rfl) (pss_cons (ps_if (pt_cmpR op_eq (pe_dget (hu1 hr) (pv 0) pe_str (fun _ _ => rfl)) pe_int (nomark _)) (pss_one (ps_dput (hu1 hr) (pv 0) pe_str pe_int rfl)) pss_nil) (pss_one (ps_ret (pv 4))))))))), ?_⟩
    obtain ⟨ns, a, v, f0, m, n, sd, h1, h2, a0, lp⟩ := hs
    refine ⟨_, rfl, p, _, rfl, getN h1, _, _, rfl, rfl, _, rfl, p, _, rfl, setN h1 _, ?_⟩
    have t1 : Bt p H (upd H p (.dK (stK (.ref l) a v f0 m (n + 1) sd))) := Bt.put
    have e1 : upd H p (.dK (stK (.ref l) a v f0 m (n + 1) sd)) p = some (.dK (stK (.ref l) a v f0 m (n + 1) sd)) := upd_same
    have e2 : upd H p (.dK (stK (.ref l) a v f0 m (n + 1) sd)) l = some (.lst (ns.map V.int)) := (upd_ne lp).trans h2
    generalize upd H p (.dK (stK (.ref l) a v f0 m (n + 1) sd)) = G at t1 e1 e2 ⊢
    refine ⟨fun σ G => ∃ u : Option V, σ = [some (.ref p), some (.int k), u, none, none] ∧ StL G p l ∧ Bt p H G, ?_, ?_⟩
    · refine ⟨_, rfl, p, _, rfl, getL e1, rfl, _, rfl, ?_⟩
      refine ite2 (fun _ => ?_) (fun _ => ⟨_, rfl, ⟨ns, a, v, f0, m, _, sd, e1, e2, a0, lp⟩, t1⟩)
      refine ⟨_, rfl, p, _, rfl, setL e1 _, ?_⟩
      refine ⟨_, rfl, p, _, rfl, setM upd_same _, ?_⟩
      refine ⟨_, rfl, p, _, rfl, getS upd_same, _, rfl, p, _, rfl, setV upd_same _, ?_⟩
      rw [upd_upd, upd_upd]
      refine ⟨_, rfl, p, _, rfl, getA upd_same, _, rfl, p, _, rfl, getC upd_same, l, _, rfl, .inl (SqL.of ((upd_ne lp).trans e2)), _, _, rfl, rfl, _, rfl, ?_⟩
      refine ite2 (fun hc => ?_) (fun _ => ⟨_, rfl, StL.put e2 a0 lp, t1.trans Bt.put⟩)
      have hc' := of_decide_eq_true hc
      obtain ⟨j, rfl⟩ : ∃ j : Nat, a = j := ⟨a.toNat, by omega⟩
      have hj : j < ns.length := by rw [List.length_map] at hc'; omega
      have hv : (ns.map V.int)[j]? = some (V.int ns[j]) := by simp [hj]
      refine ⟨_, rfl, p, _, rfl, getC upd_same, _, rfl, p, _, rfl, getA upd_same, l, _, _, _, rfl, rfl, SqL.of ((upd_ne lp).trans e2), atI_nat hv, ?_⟩
      refine ⟨_, rfl, p, _, rfl, getA upd_same, _, _, rfl, rfl, _, rfl, p, _, rfl, setA upd_same _, ?_⟩
      refine ⟨_, rfl, _, rfl, _, _, rfl, rfl, ⟨by decide, by decide⟩, _, rfl, p, _, rfl, setV upd_same _, ?_⟩
      refine ⟨_, rfl, .inl ⟨_, rfl, _, _, rfl, rfl, (by show (0 : Int) < 2; decide), _, rfl, p, _, rfl, setM upd_same _, ?_⟩⟩
      refine ⟨_, rfl, p, _, rfl, getM upd_same, _, _, rfl, rfl, .inl (by decide), _, _, rfl, rfl, _, rfl, p, _, rfl, setL upd_same _, ?_⟩
      rw [upd_upd, upd_upd, upd_upd, upd_upd]
      exact ⟨_, rfl, StL.put e2 (by omega) lp, t1.trans Bt.put⟩
    · rintro σ G ⟨u, rfl, ⟨ns, a, v, f0, m, n, sd, h1, h2, a0, lp⟩, tG⟩
      refine ⟨_, rfl, p, _, rfl, getL h1, _, _, rfl, rfl, _, rfl, p, _, rfl, setL h1 _, ?_⟩
      have z0 : ∀ y : Int, 0 ≤ y.fmod k ∧ y.fmod k < k := fun y => ⟨Int.fmod_nonneg_of_pos _ k0, Int.fmod_lt_of_pos _ k0⟩
      refine ⟨_, rfl, p, _, rfl, getM upd_same, rfl, _, rfl, ?_⟩
      refine ite2 (fun _ => ?_) (fun _ => ?_)
      · refine ⟨_, rfl, p, _, rfl, getV upd_same, _, rfl, p, _, rfl, getN upd_same, _, _, rfl, rfl, .inl (by decide), _, _, rfl, rfl, .inl ⟨_, rfl, _, _, rfl, rfl, (by show (0 : Int) < 1000003; decide), ?_⟩⟩
        have m0 := Int.emod_nonneg (v + 7919 * n) (show (1000003 : Int) ≠ 0 by decide)
        have m1 := Int.emod_lt_of_pos (v + 7919 * n) (show (0 : Int) < 1000003 by decide)
        generalize (v + 7919 * n) % 1000003 = y at m0 m1 ⊢
        refine ⟨_, rfl, _, rfl, _, _, rfl, rfl, .inl ⟨by omega, by omega⟩, _, rfl, p, _, rfl, getN upd_same, _, _, rfl, rfl, .inl (by decide), _, _, rfl, rfl, .inl ⟨_, rfl, _, _, rfl, rfl, (by show (0 : Int) < 998244353; decide), ?_⟩⟩
        have b0 := Int.emod_nonneg (y * y + 31 * n) (show (998244353 : Int) ≠ 0 by decide)
        have b1 := Int.emod_lt_of_pos (y * y + 31 * n) (show (0 : Int) < 998244353 by decide)
        generalize (y * y + 31 * n) % 998244353 = y2 at b0 b1 ⊢
        refine ⟨_, rfl, _, _, rfl, rfl, .inr (by decide), .inl ⟨_, rfl, _, _, rfl, rfl, (by show (0 : Int) < 2147483647; decide), _, _, rfl, rfl, ⟨by decide, by decide⟩, .inl ⟨_, rfl, ?_⟩⟩⟩
        refine ⟨_, rfl, _, _, rfl, rfl, Int.ne_of_gt k0, ?_⟩
        exact go _ _ (z0 _).1 (z0 _).2 (StL.put h2 a0 lp) (tG.trans Bt.put)
      · refine ⟨_, rfl, p, _, rfl, getV upd_same, .inl ⟨_, rfl, _, rfl, _, _, rfl, rfl, Int.ne_of_gt k0, ?_⟩⟩
        refine ⟨_, rfl, p, _, rfl, getV upd_same, _, rfl, _, _, rfl, rfl, wide30 k0 k9, _, rfl, p, _, rfl, setV upd_same _, ?_⟩
        refine ⟨_, rfl, p, _, rfl, getV upd_same, rfl, _, rfl, ?_⟩
        refine ite2 (fun _ => ?_) (fun _ => ?_)
        · refine ⟨_, rfl, p, _, rfl, setL upd_same _, _, rfl, ?_⟩
          rw [upd_upd, upd_upd]
          exact go _ _ (z0 _).1 (z0 _).2 (StL.put h2 a0 lp) (tG.trans Bt.put)
        · refine ⟨_, rfl, ?_⟩
          rw [upd_upd]
          exact go _ _ (z0 _).1 (z0 _).2 (StL.put h2 a0 lp) (tG.trans Bt.put)
end
end K6

set_option Elab.async false
set_option linter.all false
set_option maxRecDepth 100000
set_option maxHeartbeats 4000000
set_option autoImplicit false
set_option pp.maxSteps 600
/-! The law's state, laid; the size of a number. -/
namespace K6
open PySem L2 TL K1D
theorem merge_st {c : V} {a v f m n s : Int} : mergeK [] (stK c a v f m n s) = stK c a v f m n s := by
  have := ne_keys
  simp [mergeK, putK, stK, this, Ne.symm]
def spStart (K : PySem.W.Frag) : Sp := fun vs H Q _ => ∃ (a : Addr) (ns : List Int), vs = [.ref a] ∧ SqL K H a (ns.map V.int) ∧ ns.length ≤ 1000 ∧ ∀ (p l : Addr) (H' : Hp), Same H H' → StL H' p l → Q (.ref p) H'
section
variable {P : Program} {w : World} {K : PySem.W.Frag} {mg : Str → Option Value} {base : Heap}
theorem map_at {ns : List Int} {i : Nat} {y : V} (h : (ns.map V.int)[i]? = some y) : ∃ u, y = V.int u ∧ ns[i]? = some u := by
  rw [List.getElem?_map] at h
  cases e : ns[i]? with
  | none => rw [e] at h; cases h
  | some u => rw [e] at h; exact ⟨u, (Option.some.inj h).symm, rfl⟩
theorem scStart : FnScope ["script", "seed", "cell"] ["script"] (defScope sStart) := ⟨rfl, rfl, rfl, by decide +kernel, rfl, by decide +kernel, by decide +kernel⟩
theorem ok_start {f : Addr} {fd : FuncData} (F : Fun K "_law_start" "_law_start" sStart f fd) (T : ProgTxt K mg) (list : mg "list" = none) : FnOk P w K mg base CX0 1 f fd ["script"] (spStart K) := by
  refine F.ok scStart (fun vs H Q E h => ?_) (fun cdv A outer s H vs Q E hr h => ?_)
  · obtain ⟨a, ns, rfl, _⟩ := h
    rfl
  · obtain ⟨a, ns, rfl, hS, ln, go⟩ := h
    refine ⟨_, pss_cons (ps_set (i := 1) scStart.nd rfl (Or.inl rfl) pe_int)
      (pss_cons (ps_for PassesOwn.never rfl (pi_list (pv 0)) (pg_name (i := 2) scStart.nd rfl (Or.inl rfl))
        (pss_one (ps_set (i := 1) scStart.nd rfl (Or.inl rfl) (pe_op op_mod (pe_callTy call_int1 (by rfl) T.int (by decide +kernel) (pa_cons (pe_op op_add (pe_op op_mul (pv 1) pe_int) (pv 2)) pa_nil)) pe_int))))
      (pss_one (ps_ret (pe_disp (pps_cons pe_str (pe_callTy call_list_of (by rfl) list (by decide +kernel) (pa_cons (pv 0) pa_nil)) (pps_cons pe_str pe_int (pps_cons pe_str (pv 1) (pps_cons pe_str pe_int (pps_cons pe_str pe_int (pps_cons pe_str pe_int (pps_cons pe_str (pv 1) pps_nil))))))) (by rfl) (by rfl) (by simp) (by decide))))), ?_⟩
    refine ⟨_, rfl, a, rfl, ⟨_, hS⟩, for_list (K := K) (a := a) (xs := ns.map V.int) (fun i σ H' => ∃ (m : Int) (v : Option V), σ = [some (.ref a), some (.int m), v] ∧ H' = H) ⟨11, none, rfl, rfl⟩ (fun i σ H' _ ⟨_, _, _, e⟩ => by rw [e]; exact hS) ?_ ?_⟩
    · rintro i y σ H' hi ⟨m, v, rfl, rfl⟩
      obtain ⟨u, rfl, hu⟩ := map_at hi
      exact ⟨_, rfl, _, _, rfl, rfl, .inr (by decide), _, rfl, _, _, rfl, rfl, .inl ⟨_, rfl, _, _, rfl, rfl, (by show (0 : Int) < 1000003; decide), _, _, rfl, rfl⟩⟩
    · rintro σ H' ⟨m, v, rfl, rfl⟩
      intro p np
      have s1 : Same H' (upd H' p (.dK [])) := same_new np
      refine ⟨_, rfl, a, _, rfl, .inl (s1.seq hS), fun l nl => ?_⟩
      have lp : l ≠ p := fun z => by rw [z, upd_same] at nl; cases nl
      refine ⟨_, rfl, _, rfl, (upd_ne lp.symm).trans upd_same, stK (.ref l) 0 m 0 1 0 m, rfl, by show 7 ≤ 15; decide, ?_⟩
      rw [merge_st]
      refine go p l _ (fun b o e => ?_) (StL.put upd_same (by decide) lp)
      have np' := ne_of_none e np
      rw [upd_ne np', upd_ne (ne_of_none (s1 _ _ e) nl)]
      exact s1 _ _ e
end
end K6

set_option Elab.async false
set_option linter.all false
set_option maxRecDepth 100000
set_option maxHeartbeats 4000000
set_option autoImplicit false
set_option pp.maxSteps 600
set_option exponentiation.threshold 100000
/-! The size of a number that the law draws. -/
namespace K6
open PySem L2 TL K1D
abbrev sSize : Stmt := top 28
def g200 : Int := 10 ^ 200
def ten24 : Int := 10 ^ 24
theorem g200_eq : ((10 : Int) ^ 64 * 10 ^ 64 * 10 ^ 64 * 10 ^ 8) = g200 := by decide +kernel
theorem ten24_eq : ((10 : Int) ^ (24 : Int).toNat) = ten24 := by decide +kernel
def bnd : Nat → Int
  | 0 => 10
  | n + 1 => bnd n * ten24
theorem bnd_lt : ∀ i < 9, bnd i < g200 := by decide +kernel
theorem g200_big : (1000000 : Int) < g200 := by decide +kernel
theorem ten24_pos : (0 : Int) < ten24 := by decide +kernel
theorem ten24_le : ten24 ≤ 10 ^ 30 := by decide +kernel
theorem g200_log {z : Int} (h0 : 0 < z) (h : z < g200) : z.natAbs < 2 ^ 700 := by
  have h1 : g200.natAbs < 2 ^ 700 := by decide +kernel
  have h2 : (0 : Int) < g200 := by decide +kernel
  omega
theorem ten24_log : ten24.natAbs < 2 ^ 80 := by decide +kernel
theorem mul_step {f d T b : Int} (f0 : 0 < f) (hf : f < b) (d0 : 0 ≤ d) (hd : d < T) (T0 : 0 < T) : 0 < f * T + d ∧ f * T + d < b * T := by
  have h1 : (f + 1) * T ≤ b * T := Int.mul_le_mul_of_nonneg_right (by omega) (Int.le_of_lt T0)
  have h2 : (f + 1) * T = f * T + T := by rw [Int.add_mul, Int.one_mul]
  have h3 : 0 < f * T := Int.mul_pos f0 T0
  omega
def spSize : Sp := fun vs H Q _ => ∃ p l : Addr, vs = [.ref p] ∧ StL H p l ∧ ∀ (z : Int) (H' : Hp), 0 < z → z < g200 → StL H' p l → Bt p H H' → Q (.int z) H'
structure DrawTxt (P : Program) (w : World) (K : PySem.W.Frag) (mg : Str → Option Value) (base : Heap) (fD : Addr) (dD : FuncData) : Prop where
  ok : FnOk P w K mg base CX0 1 fD dD ["state", "many"] spDraw
  b : Binds K dD ["state", "many"] []
  g : mg "_law_draw" = some (.ref fD)
  k : PySem.W.keepIn K (.ref fD) = true
section
variable {P : Program} {w : World} {K : PySem.W.Frag} {mg : Str → Option Value} {base : Heap} {fD : Addr} {dD : FuncData}
theorem scSize : FnScope ["state", "pick", "found", "k"] ["state"] (defScope sSize) := ⟨rfl, rfl, rfl, by decide +kernel, rfl, by decide +kernel, by decide +kernel⟩
theorem ok_size {f : Addr} {fd : FuncData} (F : Fun K "_law_size" "_law_size" sSize f fd) (T : ProgTxt K mg) (U : DrawTxt P w K mg base fD dD) : FnOk P w K mg base CX0 2 f fd ["state"] spSize := by
  refine F.ok scSize (fun vs H Q E h => ?_) (fun cdv A outer s H vs Q E hr h => ?_)
  · obtain ⟨p, l, rfl, _⟩ := h
    rfl
  · obtain ⟨p, l, rfl, hs, go⟩ := h
    refine ⟨_, pss_cons (ps_set (i := 1) scSize.nd rfl (Or.inl rfl) (pe_call U.ok hr rfl U.g U.k U.b .nil pass0 (pa_cons (pv 0) (pa_cons pe_int pa_nil))))
      (pss_cons (ps_if (pt_cmpR op_lt (pv 1) pe_int (nomark _)) (pss_one (ps_ret pe_int)) pss_nil)
      (pss_cons (ps_if (pt_cmpR op_lt (pv 1) pe_int (nomark _)) (pss_one (ps_ret (pe_op op_add pe_int (pe_call U.ok hr rfl U.g U.k U.b .nil pass0 (pa_cons (pv 0) (pa_cons pe_int pa_nil)))))) pss_nil)
      (pss_cons (ps_set (i := 2) scSize.nd rfl (Or.inl rfl) (pe_op op_add pe_int (pe_call U.ok hr rfl U.g U.k U.b .nil pass0 (pa_cons (pv 0) (pa_cons pe_int pa_nil)))))
      (C8.pss_cut (ps_for PassesOwn.never rfl (pi_range1 (by rfl) T.range (pa_cons (pe_call U.ok hr rfl U.g U.k U.b .nil pass0 (pa_cons (pv 0) (pa_cons pe_int pa_nil))) pa_nil)) (pg_name (i := 3) scSize.nd rfl (Or.inl rfl))
        (pss_one (ps_set (i := 2) scSize.nd rfl (Or.inl rfl) (pe_op op_add (pe_op op_mulW (pv 2) (pe_op op_pow pe_int pe_int)) (pe_call U.ok hr rfl U.g U.k U.b .nil pass0 (pa_cons (pv 0) (pa_cons (pe_op op_pow pe_int pe_int) pa_nil)))))))
      (pss_cons (ps_if (PW.pt (pw_and (pt_cmpR op_eq (pv 1) pe_int (nomark _)) (pw_and1 (pt_cmpR op_eq (pe_call U.ok hr rfl U.g U.k U.b .nil pass0 (pa_cons (pv 0) (pa_cons pe_int pa_nil))) pe_int (nomark _)))))
          (pss_one (ps_ret (pe_op op_sub (pe_op op_sub (pe_op op_mulW (pe_op op_mulW (pe_op op_mulW (pe_op op_pow pe_int pe_int) (pe_op op_pow pe_int pe_int)) (pe_op op_pow pe_int pe_int)) (pe_op op_pow pe_int pe_int)) pe_int) (pe_call U.ok hr rfl U.g U.k U.b .nil pass0 (pa_cons (pv 0) (pa_cons pe_int pa_nil)))))) pss_nil)
      (pss_one (ps_ret (pv 2)))))))), ?_⟩
    have gb := g200_big
    refine ⟨_, rfl, p, l, 8, rfl, hs, by decide, by decide, fun pk G1 p0 p8 sG1 b1 => ?_⟩
    refine ⟨_, rfl, _, _, rfl, rfl, _, rfl, ?_⟩
    refine ite2 (fun _ => go 1 G1 (by decide) (by omega) sG1 b1) (fun _ => ?_)
    refine ⟨_, rfl, _, _, rfl, rfl, _, rfl, ?_⟩
    refine ite2 (fun _ => ⟨_, rfl, p, l, 120, rfl, sG1, by decide, by decide, fun z G2 z0 z1 s2 b2 => ⟨_, _, rfl, rfl, go _ G2 (by omega) (by omega) s2 (b1.trans b2)⟩⟩) (fun _ => ?_)
    refine ⟨_, rfl, p, l, 9, rfl, sG1, by decide, by decide, fun z G2 z0 z1 s2 b2 => ⟨_, _, rfl, rfl, ?_⟩⟩
    refine ⟨fun σ G => ∃ (fo : Int) (u : Option V), σ = [some (.ref p), some (.int pk), some (.int fo), u] ∧ 0 < fo ∧ fo < g200 ∧ StL G p l ∧ Bt p H G, ?_, ?_⟩
    · refine ⟨_, rfl, p, l, 9, rfl, s2, by decide, by decide, fun m G3 m0 m9 s3 b3 => ⟨m, rfl, by omega, by omega, ?_⟩⟩
      refine for_it (walk_range (lo := 0) (n := m.toNat)) (fun i σ G => ∃ (fo : Int) (u : Option V), σ = [some (.ref p), some (.int pk), some (.int fo), u] ∧ 0 < fo ∧ fo < bnd i ∧ StL G p l ∧ Bt p H G) ⟨_, none, rfl, by omega, (by show _ < (10 : Int); omega), s3, b1.trans (b2.trans b3)⟩ (fun _ _ _ _ _ => trivial) (fun i v σ G G' hi ⟨fo, u, hσ, f0, fb, sG, bG⟩ ⟨e, ev⟩ => ?_) (fun σ G ⟨fo, u, hσ, f0, fb, sG, bG⟩ => ?_)
      · subst hσ e ev
        have fl := Int.lt_trans fb (bnd_lt i (by omega))
        refine ⟨_, rfl, _, _, rfl, rfl, ⟨by decide, by decide, by decide⟩, _, _, rfl, rfl, ?_, ?_⟩
        · show CMulW fo ((10 : Int) ^ (24 : Int).toNat)
          rw [ten24_eq]
          exact wide_mul (g200_log f0 fl) ten24_log (by decide) (by decide) (by decide)
        · refine ⟨_, rfl, _, _, rfl, rfl, ⟨by decide, by decide, by decide⟩, p, l, _, rfl, sG, ?_, ?_, fun d G4 d0 d1 s4 b4 => ⟨_, _, rfl, rfl, ?_⟩⟩
          · show (0 : Int) < (10 : Int) ^ (24 : Int).toNat
            rw [ten24_eq]
            exact ten24_pos
          · show (10 : Int) ^ (24 : Int).toNat ≤ _
            rw [ten24_eq]
            exact ten24_le
          · have d1' : d < (10 : Int) ^ (24 : Int).toNat := d1
            rw [ten24_eq] at d1'
            have hx : 0 < fo * (10 : Int) ^ (24 : Int).toNat + d ∧ fo * (10 : Int) ^ (24 : Int).toNat + d < bnd i * ten24 := by
              rw [ten24_eq]
              exact mul_step f0 fb d0 d1' ten24_pos
            exact ⟨_, _, rfl, hx.1, hx.2, s4, bG.trans b4⟩
      · subst hσ
        exact ⟨fo, u, rfl, f0, Int.lt_trans fb (bnd_lt _ (by omega)), sG, bG⟩
    · rintro σ G ⟨fo, u, rfl, f0, fl, sG, bG⟩
      refine ⟨_, rfl, rfl, _, rfl, ?_⟩
      refine ite2 (fun _ => ?_) (fun _ => ?_)
      · refine ⟨_, rfl, p, l, 3, rfl, sG, by decide, by decide, fun y G2 y0 y1 s2 b2 => ⟨rfl, _, rfl, ?_⟩⟩
        refine ite2 (fun _ => ?_) (fun _ => ⟨_, rfl, go fo G2 f0 fl s2 (bG.trans b2)⟩)
        refine ⟨_, _, rfl, rfl, ⟨by decide, by decide, by decide⟩, _, _, rfl, rfl, ⟨by decide, by decide, by decide⟩, _, _, rfl, rfl, by show CMulW ((10 : Int) ^ 64) ((10 : Int) ^ 64); unfold CMulW; decide +kernel, ?_⟩
        refine ⟨_, _, rfl, rfl, ⟨by decide, by decide, by decide⟩, _, _, rfl, rfl, by show CMulW ((10 : Int) ^ 64 * (10 : Int) ^ 64) ((10 : Int) ^ 64); unfold CMulW; decide +kernel, ?_⟩
        refine ⟨_, _, rfl, rfl, ⟨by decide, by decide, by decide⟩, _, _, rfl, rfl, by show CMulW ((10 : Int) ^ 64 * (10 : Int) ^ 64 * (10 : Int) ^ 64) ((10 : Int) ^ 8); unfold CMulW; decide +kernel, ?_⟩
        refine ⟨_, _, rfl, rfl, _, rfl, p, l, 3, rfl, s2, by decide, by decide, fun e G3 e0 e1 s3 b3 => ⟨_, _, rfl, rfl, ?_⟩⟩
        have hg := g200_eq
        have fin : ∀ g : Int, g = g200 → Q (.int (g - 1 - e)) G3 := fun g hg => go _ G3 (by omega) (by omega) s3 (bG.trans (b2.trans b3))
        exact fin _ g200_eq
      · exact ifN rfl ⟨_, rfl, go fo G f0 fl sG bG⟩
end
end K6

set_option Elab.async false
set_option linter.all false
set_option maxRecDepth 100000
set_option maxHeartbeats 4000000
set_option autoImplicit false
set_option pp.maxSteps 600
/-! The names that the law draws. -/
namespace K6
open PySem L2 TL K1D
abbrev sNames : Stmt := top 26
theorem len_sub : ∀ {a b : List Str}, a.Nodup → (∀ x ∈ a, x ∈ b) → a.length ≤ b.length
  | [], _, _, _ => Nat.zero_le _
  | x :: a, b, nd, h => by
    rw [List.nodup_cons] at nd
    have hx := h x List.mem_cons_self
    have ih := len_sub (b := b.erase x) nd.2 fun y hy => (List.mem_erase_of_ne fun e => nd.1 (by rw [← e]; exact hy)).mpr (h y (List.mem_cons_of_mem _ hy))
    rw [List.length_erase_of_mem hx] at ih
    have := List.length_pos_of_mem hx
    rw [List.length_cons]
    omega
/-- q and the i-th letter behind -/
def mk (q : List Nat) (c i : Nat) : Str := ⟨(q ++ [97 + (c + i) % 26]).toArray⟩
theorem tl_mk2 (q : List Nat) (c i : Nat) : tl (mk q c i) = q ++ [97 + (c + i) % 26] := rfl
theorem mk_inj {q : List Nat} {c i j : Nat} (hi : i < 26) (hj : j < 26) (h : mk q c i = mk q c j) : i = j := by
  have h2 : tl (mk q c i) = tl (mk q c j) := by rw [h]
  rw [tl_mk2, tl_mk2] at h2
  have h3 := List.append_cancel_left h2
  simp only [List.cons.injEq, and_true] at h3
  omega
theorem bump_new {l : List Str} {q : List Nat} {c k : Nat} (hk : k < 26) (hl : l.length = k) (h : ∀ i < k, mk q c i ∈ l) : mk q c k ∉ l := fun z => by
  have nd : ((List.range (k + 1)).map (mk q c)).Nodup := by
    unfold List.Nodup
    rw [List.pairwise_map]
    refine List.Pairwise.imp_of_mem (fun {a b} ha hb n e => n ?_) (List.nodup_range (n := k + 1))
    rw [List.mem_range] at ha hb
    exact mk_inj (by omega) (by omega) e
  have := len_sub nd fun x hx => by
    obtain ⟨i, hi, rfl⟩ := List.mem_map.mp hx
    rw [List.mem_range] at hi
    by_cases e : i = k
    · rw [e]; exact z
    · exact h i (by omega)
  rw [List.length_map, List.length_range] at this
  omega
def LetsAll (l : List Nat) : Prop := ∀ c ∈ l, 97 ≤ c ∧ c ≤ 122
theorem nm_of {l : List Nat} (h : LetsAll l) (h1 : 1 ≤ l.length) (h4 : l.length ≤ 4) : isNmL l = true := by
  unfold isNmL
  simp only [Bool.and_eq_true, decide_eq_true_eq, List.all_eq_true]
  exact ⟨⟨h1, h4⟩, fun c hc => (lets_iff c).mpr (h c hc)⟩
theorem nm_all {l : List Nat} (h : isNmL l = true) : LetsAll l ∧ 1 ≤ l.length ∧ l.length ≤ 4 := by
  unfold isNmL at h
  simp only [Bool.and_eq_true, decide_eq_true_eq, List.all_eq_true] at h
  exact ⟨fun c hc => (lets_iff c).mp (h.2 c hc), h.1.1, h.1.2⟩
theorem let_at {j : Nat} (h : j < 26) : letsT.cps.toList[j]? = some (97 + j) := by
  have : ∀ j < 26, letsT.cps.toList[j]? = some (97 + j) := by decide +kernel
  exact this j h
theorem let_ix {j : Nat} (h : j < 26) : ∃ rest, Builtin.Str.occurrences letsT ⟨#[97 + j]⟩ 0 letsT.length 1 = j :: rest := by
  have : ∀ j < 26, (Builtin.Str.occurrences letsT ⟨#[97 + j]⟩ 0 letsT.length 1).head? = some j := by decide +kernel
  have e := this j h
  cases q : Builtin.Str.occurrences letsT ⟨#[97 + j]⟩ 0 letsT.length 1 with
  | nil => rw [q] at e; cases e
  | cons a r => rw [q] at e; cases e; exact ⟨r, rfl⟩
theorem tl_init (x : Str) {q : List Nat} {c : Nat} (h : tl x = q ++ [c]) : tl (cutS x none (some (-1))) = q := by
  have l : x.length = q.length + 1 := by rw [len_tl, h, List.length_append]; rfl
  have e : cutS x none (some (-1)) = cutS x none (some ((q.length : Nat) : Int)) := by
    unfold cutS
    have e2 : HT.sIx x.length x.length (some (-1)) = HT.sIx x.length x.length (some ((q.length : Nat) : Int)) := by
      rw [HT.sIx_nat, l]
      unfold HT.sIx
      simp
      omega
    rw [e2]
  rw [e, tl_upto, h]
  simp
def spNames : Sp := fun vs H Q _ => ∃ (p l : Addr) (m : Nat), vs = [.ref p, .int m] ∧ StL H p l ∧ m ≤ 5 ∧ ∀ (L : Addr) (ns : List Str) (G : Hp), StL G p l → Bt p H G → H L = none → L ≠ p → G L = some (.lst (ns.map V.str)) → ns.length = m → ns.Nodup → (∀ x ∈ ns, isNmL (tl x) = true) → Q (.ref L) G
section
variable {P : Program} {w : World} {K : PySem.W.Frag} {mg : Str → Option Value} {base : Heap} {fD : Addr} {dD : FuncData}
theorem scNames : FnScope ["state", "many", "letters", "names", "k", "number", "name", "place", "again"] ["state", "many"] (defScope sNames) := ⟨rfl, rfl, rfl, by decide +kernel, rfl, by decide +kernel, by decide +kernel⟩
theorem ok_names {f : Addr} {fd : FuncData} (F : Fun K "_law_names" "_law_names" sNames f fd) (T : ProgTxt K mg) (U : DrawTxt P w K mg base fD dD) : FnOk P w K mg base CX0 2 f fd ["state", "many"] spNames := by
  refine F.ok scNames (fun vs H Q E h => ?_) (fun cdv A outer s H vs Q E hr h => ?_)
  · obtain ⟨p, l, m, rfl, _⟩ := h
    rfl
  · obtain ⟨p, l, m, rfl, hs, m5, go⟩ := h
    refine ⟨_, pss_cons (ps_set (i := 2) scNames.nd rfl (Or.inl rfl) pe_str)
      (pss_cons (ps_set (i := 3) scNames.nd rfl (Or.inl rfl) (pe_lst pa_nil))
      (pss_cons (ps_for PassesOwn.never rfl (pi_range1 (by rfl) T.range (pa_cons (pv 1) pa_nil)) (pg_name (i := 4) scNames.nd rfl (Or.inl rfl))
        (pss_cons (ps_set (i := 5) scNames.nd rfl (Or.inl rfl) (pe_call U.ok hr rfl U.g U.k U.b .nil pass0 (pa_cons (pv 0) (pa_cons pe_int pa_nil))))
        (pss_cons (ps_set (i := 6) scNames.nd rfl (Or.inl rfl) pe_str)
        (C8.pss_cut (ps_for PassesOwn.never rfl (pi_range1 (by rfl) T.range (pa_cons (pe_op op_add pe_int (pe_call U.ok hr rfl U.g U.k U.b .nil pass0 (pa_cons (pv 0) (pa_cons pe_int pa_nil)))) pa_nil)) (pg_name (i := 7) scNames.nd rfl (Or.inl rfl))
          (pss_cons (ps_set (i := 6) scNames.nd rfl (Or.inl rfl) (pe_op op_add_str (pv 6) (pe_ix ix_str (pv 2) (pe_op op_mod (pe_callTy call_int1 (by rfl) T.int (by decide +kernel) (pa_cons (pv 5) pa_nil)) pe_int) (fun _ _ => rfl))))
          (pss_one (ps_set (i := 5) scNames.nd rfl (Or.inl rfl) (pe_op op_fdiv (pv 5) pe_int)))))
        (C8.pss_cut (ps_if (PW.pt (pw_and (pt_cmpR op_gt (pv 4) pe_int (nomark _)) (pw_and1 (pt_cmpR op_eq (pe_call U.ok hr rfl U.g U.k U.b .nil pass0 (pa_cons (pv 0) (pa_cons pe_int pa_nil))) pe_int (nomark _)))))
          (pss_cons (ps_set (i := 7) scNames.nd rfl (Or.inl rfl) (pe_call U.ok hr rfl U.g U.k U.b .nil pass0 (pa_cons (pv 0) (pa_cons (pe_callB call_len_str (by rfl) T.len PySem.boot_len (pa_cons (pe_ix ix_list (pv 3) pe_int (fun _ _ => rfl)) pa_nil)) pa_nil))))
          (pss_one (ps_set (i := 6) scNames.nd rfl (Or.inl rfl) (pe_op op_add_str (pe_op op_add_str (pe_slice sl_str (pe_ix ix_list (pv 3) pe_int (fun _ _ => rfl)) po_none (po_some (pv 7))) (pe_ix ix_str (pv 6) pe_int (fun _ _ => rfl))) (pe_slice sl_str (pe_ix ix_list (pv 3) pe_int (fun _ _ => rfl)) (po_some (pe_op op_add (pv 7) pe_int)) po_none))))) pss_nil)
        (C8.pss_cut (ps_for PassesOwn.never rfl (pi_range1 (by rfl) T.range (pa_cons (pv 4) pa_nil)) (pg_name (i := 8) scNames.nd rfl (Or.inl rfl))
          (pss_one (ps_if (pt_cmpR op_in_seq (pv 6) (pv 3) (by rfl)) (pss_one (ps_set (i := 6) scNames.nd rfl (Or.inl rfl) (pe_op op_add_str (pe_slice sl_str (pv 6) po_none (po_some (pe_un un_neg pe_int)))
            (pe_ix ix_str (pv 2) (pe_op op_mod (pe_op op_add (pe_m1 PySem.F.slot_str_index PySem.F.type_str_index mt_sindex (pv 2) (pe_ix ix_str (pv 6) (pe_un un_neg pe_int) (fun _ _ => rfl))) pe_int) pe_int) (fun _ _ => rfl))))) pss_nil)))
        (pss_one (ps_expr (pe_bm PySem.F.plainAttrs_list PySem.F.slot_list_append PySem.F.type_list_append mt_append (pv 3) (pa_cons (pv 6) pa_nil))))))))))
      (pss_one (ps_ret (pv 3))))), ?_⟩
    refine ⟨by decide, fun L nL => ?_⟩
    obtain ⟨Lp, Ll⟩ := hs.ne nL
    have s1 := hs.up (o := .lst []) nL
    have b1 : Bt p H (upd H L (.lst [])) := Bt.new nL
    have e1 : upd H L (.lst []) L = some (.lst []) := upd_same
    generalize upd H L (.lst []) = G1 at s1 b1 e1 ⊢
    refine ⟨_, rfl, _, rfl, by omega, by omega, ?_⟩
    rw [Int.toNat_natCast]
    refine for_it (walk_range (lo := 0) (n := m)) (fun i σ G => ∃ (u4 u5 u6 u7 u8 : Option V) (ns : List Str), σ = [some (.ref p), some (.int (m : Int)), some (.str letsT), some (.ref L), u4, u5, u6, u7, u8] ∧ StL G p l ∧ Bt p H G ∧ G L = some (.lst (ns.map V.str)) ∧ ns.length = i ∧ ns.Nodup ∧ ∀ x ∈ ns, isNmL (tl x) = true)
      ⟨none, none, none, none, none, [], rfl, s1, b1, e1, rfl, .nil, fun x hx => by cases hx⟩ (fun _ _ _ _ _ => trivial) (fun i v σ G G' hi ⟨u4, u5, u6, u7, u8, ns, hσ, sG, bG, hL, ln, nd, nm⟩ ⟨e, ev⟩ => ?_) (fun σ G ⟨u4, u5, u6, u7, u8, ns, hσ, sG, bG, hL, ln, nd, nm⟩ => ?_)
    · subst hσ e ev
      show gName 4 (.int (0 + (i : Int))) _ _ _
      rw [Int.zero_add]
      refine ⟨_, rfl, p, l, 456976, rfl, sG, by decide, by decide, fun nu G2 nu0 nu1 s2 b2 => ?_⟩
      have hL2 := b2 _ _ Lp hL
      refine ⟨fun σ F => ∃ (nu : Int) (x : Str) (u7 : Option V), σ = [some (.ref p), some (.int (m : Int)), some (.str letsT), some (.ref L), some (.int (i : Int)), some (.int nu), some (.str x), u7, u8] ∧ StL F p l ∧ Bt p H F ∧ F L = some (.lst (ns.map V.str)) ∧ LetsAll (tl x) ∧ 1 ≤ (tl x).length ∧ (tl x).length ≤ 4, ?_, ?_⟩
      · refine ⟨_, rfl, p, l, 4, rfl, s2, by decide, by decide, fun d G3 d0 d4 s3 b3 => ⟨_, _, rfl, rfl, _, rfl, by omega, by omega, ?_⟩⟩
        refine for_it (walk_range (lo := 0) (n := (1 + d).toNat)) (fun j σ F => ∃ (nu : Int) (x : Str) (u7 : Option V), σ = [some (.ref p), some (.int (m : Int)), some (.str letsT), some (.ref L), some (.int (i : Int)), some (.int nu), some (.str x), u7, u8] ∧ F = G3 ∧ LetsAll (tl x) ∧ (tl x).length = j)
          ⟨nu, "", u7, rfl, rfl, (by rw [show tl ("" : Str) = [] from by decide +kernel]; exact fun c hc => by cases hc), by decide +kernel⟩ (fun _ _ _ _ _ => trivial) (fun j v σ F F' hj ⟨nu, x, u7, hσ, hF, la, lj⟩ ⟨e, ev⟩ => ?_) (fun σ F ⟨nu, x, u7, hσ, hF, la, lj⟩ => ?_)
        · subst hσ e ev hF
          have z0 := Int.emod_nonneg nu (show (26 : Int) ≠ 0 by decide)
          have z1 := Int.emod_lt_of_pos nu (show (0 : Int) < 26 by decide)
          obtain ⟨c, hc⟩ : ∃ c : Nat, nu % 26 = c := ⟨(nu % 26).toNat, by omega⟩
          have lx : x.length ≤ 4 := by rw [len_tl]; omega
          refine ⟨_, rfl, _, rfl, _, rfl, .inl ⟨_, rfl, _, _, rfl, rfl, (by show (0 : Int) < 26; decide), _, _, 97 + c, rfl, rfl, by rw [sizeLine_eq]; decide, by rw [hc]; exact atI_nat (let_at (by omega)), _, _, rfl, rfl, ?_, ?_⟩⟩
          · show x.length + 1 ≤ _
            rw [sizeLine_eq]
            omega
          · refine ⟨_, rfl, _, _, rfl, rfl, ⟨by decide, by decide⟩, _, _, _, rfl, rfl, ?_, ?_⟩
            · rw [tl_append]
              intro a ha
              rcases List.mem_append.mp ha with ha | ha
              · exact la a ha
              · rw [List.mem_singleton.mp (show a ∈ [97 + c] from ha)]
                omega
            · rw [tl_append, List.length_append]
              show _ + 1 = _
              omega
        · subst hσ hF
          exact ⟨nu, x, u7, rfl, s3, bG.trans (b2.trans b3), b3 _ _ Lp hL2, la, by omega, by omega⟩
      · rintro σ F ⟨nu, x, u7, rfl, sF, bF, hF, la, l1, l4⟩
        have lx : x.length ≤ 4 := by rw [len_tl]; omega
        refine ⟨fun σ F => ∃ (nu : Int) (x : Str) (u7 : Option V), σ = [some (.ref p), some (.int (m : Int)), some (.str letsT), some (.ref L), some (.int (i : Int)), some (.int nu), some (.str x), u7, u8] ∧ StL F p l ∧ Bt p H F ∧ F L = some (.lst (ns.map V.str)) ∧ isNmL (tl x) = true, ?_, ?_⟩
        · refine ⟨_, rfl, _, _, rfl, rfl, _, rfl, ?_⟩
          by_cases i0 : 0 < i
          · refine ifY (decide_eq_true (by omega)) ⟨_, rfl, p, l, 2, rfl, sF, by decide, by decide, fun z F2 y0 y1 sF2 bF2 => ⟨rfl, _, rfl, ?_⟩⟩
            have hF2 := bF2 _ _ Lp hF
            refine ite2 (fun _ => ?_) (fun _ => ⟨nu, x, u7, rfl, sF2, bF.trans bF2, hF2, nm_of la l1 l4⟩)
            obtain ⟨n0, r0, en⟩ : ∃ n0 r0, ns = n0 :: r0 := by
              cases ns with
              | nil => rw [List.length_nil] at ln; omega
              | cons a b => exact ⟨a, b, rfl⟩
            obtain ⟨a0, a1, a4⟩ := nm_all (nm n0 (by rw [en]; exact List.mem_cons_self))
            have ln0 := len_tl n0
            have at0 : atI (ns.map V.str) ((0 : Nat) : Int) = some (V.str n0) := atI_nat (by rw [en]; rfl)
            obtain ⟨c, r, ex⟩ : ∃ c r, tl x = c :: r := by
              cases q : tl x with
              | nil => rw [q] at l1; simp at l1
              | cons c r => exact ⟨c, r, rfl⟩
            refine ⟨_, rfl, _, rfl, L, _, _, _, rfl, rfl, SqL.of hF2, at0, n0, rfl, by rw [sizeLine_eq]; omega, p, l, _, rfl, sF2, by omega, by omega, fun pl F3 q0 q1 sF3 bF3 => ?_⟩
            have hF3 := bF3 _ _ Lp hF2
            obtain ⟨pn, rfl⟩ : ∃ pn : Nat, pl = pn := ⟨pl.toNat, by omega⟩
            have t1 := tl_upto n0 pn
            have t2 := tl_from n0 (pn + 1)
            have lc1 := cutS_length n0 none (some (pn : Int))
            have lc2 := cutS_length n0 (some ((pn + 1 : Nat) : Int)) none
            refine ⟨_, rfl, L, _, _, _, rfl, rfl, SqL.of hF3, at0, _, rfl, _, rfl, n0, rfl, by rw [sizeLine_eq]; omega, _, rfl, x, _, c, rfl, rfl, by rw [sizeLine_eq]; omega, (show atI _ ((0 : Nat) : Int) = some c from atI_nat (by rw [show x.cps.toList = c :: r from ex]; rfl)), _, _, rfl, rfl, ?_, ?_⟩
            · show (cutS n0 none (some (pn : Int))).length + 1 ≤ _
              rw [sizeLine_eq]; omega
            · refine ⟨_, rfl, L, _, _, _, rfl, rfl, SqL.of hF3, at0, _, rfl, _, _, rfl, rfl, _, rfl, n0, rfl, by rw [sizeLine_eq]; omega, _, _, rfl, rfl, ?_, ?_⟩
              · show (cutS n0 none (some (pn : Int)) ++ ⟨#[c]⟩).length + (cutS n0 (some ((pn + 1 : Nat) : Int)) none).length ≤ _
                rw [strLen_append, sizeLine_eq]
                show _ + 1 + _ ≤ _
                omega
              · refine ⟨nu, _, _, rfl, sF3, bF.trans (bF2.trans bF3), hF3, ?_⟩
                show isNmL (tl (cutS n0 none (some (pn : Int)) ++ ⟨#[c]⟩ ++ cutS n0 (some ((pn + 1 : Nat) : Int)) none)) = true
                rw [tl_append, tl_append, t1, t2]
                refine nm_of ?_ ?_ ?_
                · intro b hb
                  rcases List.mem_append.mp hb with hb | hb
                  · rcases List.mem_append.mp hb with hb | hb
                    · exact a0 b (List.mem_of_mem_take hb)
                    · rw [List.mem_singleton.mp (show b ∈ [c] from hb)]
                      exact la c (by rw [ex]; exact List.mem_cons_self)
                  · exact a0 b (List.mem_of_mem_drop hb)
                · rw [List.length_append, List.length_append]
                  show 1 ≤ _ + 1 + _
                  omega
                · rw [List.length_append, List.length_append, List.length_take, List.length_drop]
                  show _ + 1 + _ ≤ 4
                  omega
          · exact ifN (decide_eq_false (by omega)) (ifN rfl ⟨nu, x, u7, rfl, sF, bF, hF, nm_of la l1 l4⟩)
        · rintro σ F ⟨nu, x, u7, rfl, sF, bF, hF, nx⟩
          obtain ⟨xa, x1, x4⟩ := nm_all nx
          obtain ⟨q, c0, hc0, ex⟩ : ∃ q c0, c0 < 26 ∧ x = mk q c0 0 := by
            have ne : tl x ≠ [] := fun z => by rw [z] at x1; simp at x1
            have hl := xa _ (List.getLast_mem ne)
            refine ⟨(tl x).dropLast, (tl x).getLast ne - 97, by omega, ext_tl ?_⟩
            rw [tl_mk2, show 97 + ((tl x).getLast ne - 97 + 0) % 26 = (tl x).getLast ne by omega]
            exact (List.dropLast_concat_getLast ne).symm
          have qa : LetsAll q ∧ q.length ≤ 3 := by
            rw [ex, tl_mk2] at xa x4
            refine ⟨fun a ha => xa a (List.mem_append_left _ ha), ?_⟩
            rw [List.length_append] at x4
            have : ([97 + (c0 + 0) % 26] : List Nat).length = 1 := rfl
            omega
          have mkn : ∀ t, isNmL (tl (mk q c0 t)) = true := fun t => by
            rw [tl_mk2]
            refine nm_of (fun a ha => ?_) (by rw [List.length_append]; show 1 ≤ _ + 1; omega) (by rw [List.length_append]; show _ + 1 ≤ 4; omega)
            rcases List.mem_append.mp ha with ha | ha
            · exact qa.1 a ha
            · rw [List.mem_singleton.mp ha]
              omega
          refine ⟨fun σ F2 => ∃ (x : Str) (u8 : Option V), σ = [some (.ref p), some (.int (m : Int)), some (.str letsT), some (.ref L), some (.int (i : Int)), some (.int nu), some (.str x), u7, u8] ∧ F2 = F ∧ isNmL (tl x) = true ∧ x ∉ ns, ?_, ?_⟩
          · refine ⟨_, rfl, _, rfl, by omega, by omega, ?_⟩
            rw [Int.toNat_natCast]
            refine for_it (walk_range (lo := 0) (n := i)) (fun j σ F2 => ∃ (t : Nat) (u8 : Option V), σ = [some (.ref p), some (.int (m : Int)), some (.str letsT), some (.ref L), some (.int (i : Int)), some (.int nu), some (.str (mk q c0 t)), u7, u8] ∧ F2 = F ∧ (mk q c0 t ∉ ns ∨ (t = j ∧ ∀ t' < j, mk q c0 t' ∈ ns)))
              ⟨0, u8, by rw [ex], rfl, .inr ⟨rfl, fun t' h => by omega⟩⟩ (fun _ _ _ _ _ => trivial) (fun j v σ F2 F3 hj ⟨t, u8, hσ, hF2, inv⟩ ⟨e, ev⟩ => ?_) (fun σ F2 ⟨t, u8, hσ, hF2, inv⟩ => ?_)
            · subst hσ e ev hF2
              refine ⟨_, rfl, _, rfl, L, _, rfl, .inl (SqL.of hF), rfl, flat_strs _, _, rfl, ?_⟩
              rw [if_neg Bool.false_ne_true, in_strs]
              by_cases hm : mk q c0 t ∈ ns
              · rcases inv with inv | ⟨rfl, inv⟩
                · exact absurd hm inv
                have lq : (mk q c0 t).length ≤ 4 := by rw [len_tl]; exact (nm_all (mkn t)).2.2
                obtain ⟨rest, occ⟩ := let_ix (j := (c0 + t) % 26) (by omega)
                have lc := cutS_length (mk q c0 t) none (some (-1))
                refine ifY (decide_eq_true hm) ⟨_, rfl, _, rfl, _, rfl, mk q c0 t, rfl, by rw [sizeLine_eq]; omega, ?_⟩
                refine ⟨_, rfl, _, rfl, ⟨_, rfl⟩, _, rfl, _, rfl, mk q c0 t, _, 97 + (c0 + t) % 26, rfl, rfl, by rw [sizeLine_eq]; omega, atI_last q (97 + (c0 + t) % 26), letsT, _, (c0 + t) % 26, rest, rfl, rfl, occ, ?_⟩
                refine ⟨_, _, rfl, rfl, _, _, rfl, rfl, (by show (0 : Int) < 26; decide), _, _, 97 + (c0 + (t + 1)) % 26, rfl, rfl, by rw [sizeLine_eq]; decide, ?_, _, _, rfl, rfl, ?_, ?_⟩
                · rw [show ((((c0 + t) % 26 : Nat) : Int) + 1) % 26 = (((c0 + (t + 1)) % 26 : Nat) : Int) by omega]
                  exact atI_nat (let_at (by omega))
                · show (cutS (mk q c0 t) none (some (-1))).length + 1 ≤ _
                  rw [sizeLine_eq]; omega
                · refine ⟨t + 1, some (.int (0 + (t : Int))), ?_, rfl, .inr ⟨rfl, fun t' h => ?_⟩⟩
                  · have e7 : cutS (mk q c0 t) none (some (-1)) ++ ⟨#[97 + (c0 + (t + 1)) % 26]⟩ = mk q c0 (t + 1) := ext_tl (by
                      rw [tl_append, tl_init _ (tl_mk2 q c0 t), tl_mk2])
                    show List.set _ 6 (some (V.str (cutS (mk q c0 t) none (some (-1)) ++ ⟨#[97 + (c0 + (t + 1)) % 26]⟩))) = _
                    rw [e7]
                    rfl
                  · by_cases e8 : t' = t
                    · rw [e8]; exact hm
                    · exact inv t' (by omega)
              · exact ifN (decide_eq_false hm) ⟨t, _, rfl, rfl, .inl hm⟩
            · subst hσ hF2
              refine ⟨_, _, rfl, rfl, mkn t, ?_⟩
              rcases inv with inv | ⟨rfl, inv⟩
              · exact inv
              · exact bump_new (by omega) ln inv
          · rintro σ F2 ⟨y, u8', rfl, rfl, ny, hy⟩
            refine ⟨_, rfl, .inl ⟨rfl, _, SqL.of hF⟩, _, rfl, L, _, _, rfl, rfl, hF, by rw [List.length_map, sizeLine_eq]; omega, ?_⟩
            refine ⟨_, _, _, _, _, ns ++ [y], rfl, sF.set Lp Ll, bF.set nL, ?_, by rw [List.length_append, ln]; rfl, ?_, fun z hz => ?_⟩
            · rw [upd_same, List.map_append]
              rfl
            · rw [List.nodup_append]
              refine ⟨nd, by simp, fun a ha b hb e => ?_⟩
              rw [List.mem_singleton.mp hb] at e
              rw [e] at ha
              exact hy ha
            · rcases List.mem_append.mp hz with hz | hz
              · exact nm z hz
              · rw [List.mem_singleton.mp hz]; exact ny
    · subst hσ
      exact ⟨_, rfl, go L ns G sG bG nL Lp hL ln nd nm⟩
end
end K6

set_option Elab.async false
set_option linter.all false
set_option maxRecDepth 100000
set_option maxHeartbeats 4000000
set_option autoImplicit false
set_option pp.maxSteps 600
/-! The unknowns that the law draws. -/
namespace K6
open PySem L2 TL K1D
abbrev sUnk : Stmt := top 27
def signsT : Str := "abtxyzABTXYZ"
theorem sgn_at {j : Nat} (h : j < 12) : ∃ c, signsT.cps.toList[j]? = some c ∧ (c ∈ lets ∨ c ∈ caps) := by
  have : ∀ j < 12, ∃ c ∈ lets ++ caps, signsT.cps.toList[j]? = some c := by decide +kernel
  obtain ⟨c, h1, h2⟩ := this j h
  exact ⟨c, h2, List.mem_append.mp h1⟩
/-- an unknown's name is at its end -/
def Unk (u n : Str) : Prop := ∃ c, (c ∈ lets ∨ c ∈ caps) ∧ tl u = c :: 95 :: tl n
theorem Unk.var {u n : Str} (h : Unk u n) (hn : isNmL (tl n) = true) : isVarL (tl u) = true := by
  obtain ⟨c, hc, e⟩ := h
  rw [e]
  show (((decide (c ∈ lets) || decide (c ∈ caps)) && decide (95 = 95)) && isNmL (tl n)) = true
  rw [hn, Bool.and_true, decide_eq_true (rfl : (95 : Nat) = 95), Bool.and_true, Bool.or_eq_true, decide_eq_true_eq, decide_eq_true_eq]
  exact hc
theorem Unk.inj {u n m : Str} (h : Unk u n) (g : Unk u m) : n = m := by
  obtain ⟨c, _, e⟩ := h
  obtain ⟨d, _, e'⟩ := g
  rw [e] at e'
  simp only [List.cons.injEq, true_and] at e'
  exact ext_tl e'.2
inductive Unks : List Str → List Str → Prop
  | nil : Unks [] []
  | snoc {us ns : List Str} {u n : Str} (h : Unks us ns) (k : Unk u n) : Unks (us ++ [u]) (ns ++ [n])
theorem Unks.len {us ns : List Str} (h : Unks us ns) : us.length = ns.length := by
  induction h with
  | nil => rfl
  | snoc _ _ ih => rw [List.length_append, List.length_append, ih]; rfl
theorem Unks.mem {us ns : List Str} (h : Unks us ns) : ∀ u ∈ us, ∃ n ∈ ns, Unk u n := by
  induction h with
  | nil => intro u hu; cases hu
  | snoc _ k ih =>
    intro v hv
    rcases List.mem_append.mp hv with hv | hv
    · obtain ⟨n, hn, q⟩ := ih v hv
      exact ⟨n, List.mem_append_left _ hn, q⟩
    · rw [List.mem_singleton.mp hv]
      exact ⟨_, List.mem_append_right _ (List.mem_singleton.mpr rfl), k⟩
theorem Unks.nodup {us ns : List Str} (h : Unks us ns) (nd : ns.Nodup) : us.Nodup := by
  induction h with
  | nil => exact .nil
  | @snoc us ns u n h k ih =>
    rw [List.nodup_append] at nd ⊢
    refine ⟨ih nd.1, by simp, fun a ha b hb e => ?_⟩
    rw [List.mem_singleton.mp hb] at e
    rw [e] at ha
    obtain ⟨m, hm, q⟩ := h.mem u ha
    exact nd.2.2 m hm n (List.mem_singleton.mpr rfl) (q.inj k)
theorem lt_tot {x y : Str} (ne : x ≠ y) (h : ¬ tl x < tl y) : tl y < tl x := by
  have e : ∀ a b : Str, ltK (.text a) (.text b) = decide (tl a < tl b) := fun a b => PySem.W.dataLt_str _ _
  have := ltK_tot (a := .text x) (b := .text y) (by simp [NestedKey.data, PySem.W.alike]) (fun z => ne (NestedKey.text.inj z)) (by rw [e]; exact decide_eq_false h)
  rw [e] at this
  exact of_decide_eq_true this
theorem sorted_up : ∀ (x : Str) (r : List Str), PyProof.Rows.risingS x r = true → (x :: r).Nodup → (x :: r).Pairwise fun a b => tl a < tl b
  | x, [], _, _ => List.pairwise_singleton ..
  | x, z :: r, h, nd => by
    have h' : (!PySem.Spec.ltCps z.cps.toList x.cps.toList && PyProof.Rows.risingS z r) = true := h
    rw [Bool.and_eq_true, Bool.not_eq_true', PyProof.Rows.ltCps_eq] at h'
    rw [List.nodup_cons] at nd
    have ih := sorted_up z r h'.2 nd.2
    have xz : tl x < tl z := lt_tot (fun e => nd.1 (by rw [e]; exact List.mem_cons_self)) (of_decide_eq_false h'.1)
    refine .cons (fun y hy => ?_) ih
    rcases List.mem_cons.mp hy with e | hy
    · rw [e]; exact xz
    · exact ltL_trans xz ((List.pairwise_cons.mp ih).1 y hy)
def spUnk : Sp := fun vs H Q _ => ∃ (p l : Addr) (m : Nat), vs = [.ref p, .int m] ∧ StL H p l ∧ m ≤ 5 ∧ ∀ (L : Addr) (us : List Str) (G : Hp), StL G p l → Bt p H G → L ≠ p → G L = some (.lst (us.map V.str)) → us.length = m → (∀ x ∈ us, isVarL (tl x) = true) → us.Pairwise (fun a b => tl a < tl b) → Q (.ref L) G
section
variable {P : Program} {w : World} {K : PySem.W.Frag} {mg : Str → Option Value} {base : Heap} {fD fN : Addr} {dD dN : FuncData}
theorem scUnk : FnScope ["state", "many", "signs", "found", "name"] ["state", "many"] (defScope sUnk) := ⟨rfl, rfl, rfl, by decide +kernel, rfl, by decide +kernel, by decide +kernel⟩
theorem ok_unk {f : Addr} {fd : FuncData} (F : Fun K "_law_unknowns" "_law_unknowns" sUnk f fd) (T : ProgTxt K mg) (srt : mg "sorted" = none) (U : DrawTxt P w K mg base fD dD) (GN : FnOk P w K mg base CX0 2 fN dN ["state", "many"] spNames) (bN : Binds K dN ["state", "many"] []) (gN : mg "_law_names" = some (.ref fN)) (kN : PySem.W.keepIn K (.ref fN) = true) :
    FnOk P w K mg base CX0 3 f fd ["state", "many"] spUnk := by
  refine F.ok scUnk (fun vs H Q E h => ?_) (fun cdv A outer s H vs Q E hr h => ?_)
  · obtain ⟨p, l, m, rfl, _⟩ := h
    rfl
  · obtain ⟨p, l, m, rfl, hs, m5, go⟩ := h
    have h1 : Room 1 _ := hr.mono (by decide)
    refine ⟨_, pss_cons (ps_set (i := 2) scUnk.nd rfl (Or.inl rfl) pe_str)
      (pss_cons (ps_set (i := 3) scUnk.nd rfl (Or.inl rfl) (pe_lst pa_nil))
      (pss_cons (ps_for PassesOwn.never rfl (pi_list (pe_call GN hr rfl gN kN bN .nil pass0 (pa_cons (pv 0) (pa_cons (pv 1) pa_nil)))) (pg_name (i := 4) scUnk.nd rfl (Or.inl rfl))
        (pss_one (ps_expr (pe_bm PySem.F.plainAttrs_list PySem.F.slot_list_append PySem.F.type_list_append mt_append (pv 3) (pa_cons (pe_op op_add_str (pe_op op_add_str (pe_ix ix_str (pv 2) (pe_call U.ok h1 rfl U.g U.k U.b .nil pass0 (pa_cons (pv 0) (pa_cons (pe_callB call_len_str (by rfl) T.len PySem.boot_len (pa_cons (pv 2) pa_nil)) pa_nil))) (fun _ _ => rfl)) pe_str) (pv 4)) pa_nil)))))
      (pss_one (ps_ret (pe_callB cr_sortedS (by rfl) srt (by decide +kernel) (pa_cons (pv 3) pa_nil)))))), ?_⟩
    refine ⟨by decide, fun L nL => ?_⟩
    obtain ⟨Lp, Ll⟩ := hs.ne nL
    have s1 := hs.up (o := .lst []) nL
    have b1 : Bt p H (upd H L (.lst [])) := Bt.new nL
    have e1 : upd H L (.lst []) L = some (.lst []) := upd_same
    generalize upd H L (.lst []) = G1 at s1 b1 e1 ⊢
    refine ⟨_, rfl, _, rfl, p, l, m, rfl, s1, m5, fun M ns G2 s2 b2 nM Mp hM ln nd nm => ?_⟩
    have ML : M ≠ L := fun z => by rw [z, e1] at nM; cases nM
    have hL2 := b2 _ _ Lp e1
    refine ⟨M, rfl, ⟨_, SqL.of hM⟩, ?_⟩
    refine for_it (walk_list (K := K) (a := M) (xs := ns.map V.str)) (fun i σ G => ∃ (u4 : Option V) (us : List Str), σ = [some (.ref p), some (.int (m : Int)), some (.str signsT), some (.ref L), u4] ∧ StL G p l ∧ Bt p H G ∧ G M = some (.lst (ns.map V.str)) ∧ G L = some (.lst (us.map V.str)) ∧ Unks us (ns.take i))
      ⟨none, [], rfl, s2, b1.trans b2, hM, hL2, .nil⟩ (fun i σ G _ ⟨_, _, _, _, _, h, _⟩ => SqL.of h) (fun i v σ G G' hi ⟨u4, us, hσ, sG, bG, hMG, hL, uk⟩ ⟨e, hv⟩ => ?_) (fun σ G ⟨u4, us, hσ, sG, bG, hMG, hL, uk⟩ => ?_)
    · subst hσ e
      obtain ⟨n, rfl, hn⟩ := map_str_at hv
      have nn := nm n (List.mem_of_getElem? hn)
      have n4 := (nm_all nn).2.2
      have lu := uk.len
      rw [List.length_take] at lu
      refine ⟨_, rfl, .inl ⟨rfl, _, SqL.of hL⟩, _, rfl, _, rfl, _, rfl, signsT, rfl, by rw [sizeLine_eq]; decide, p, l, _, rfl, sG, by decide +kernel, by decide +kernel, fun z G2 z0 z1 sG2 bG2 => ?_⟩
      have z12 : z < 12 := Int.lt_of_lt_of_le z1 (by decide +kernel)
      obtain ⟨j, rfl⟩ : ∃ j : Nat, z = j := ⟨z.toNat, by omega⟩
      obtain ⟨c, hc, kc⟩ := sgn_at (j := j) (by omega)
      have hL3 := bG2 _ _ Lp hL
      refine ⟨_, _, c, rfl, rfl, by rw [sizeLine_eq]; decide, atI_nat hc, _, _, rfl, rfl, ?_, _, rfl, _, _, rfl, rfl, ?_, L, _, _, rfl, rfl, hL3, by rw [List.length_map, sizeLine_eq]; omega, ?_⟩
      · show 1 + ("_" : Str).length ≤ _
        rw [sizeLine_eq]
        decide +kernel
      · rw [strLen_append, len_tl n, sizeLine_eq]
        have : (⟨#[c]⟩ : Str).length = 1 := rfl
        have : (("_" : Str)).length = 1 := by decide +kernel
        omega
      · refine ⟨_, us ++ [⟨#[c]⟩ ++ "_" ++ n], rfl, sG2.set Lp Ll, (bG.trans bG2).set nL, (upd_ne ML).trans (bG2 _ _ Mp hMG), by rw [upd_same, List.map_append]; rfl, ?_⟩
        rw [take_snoc hn]
        refine .snoc uk ⟨c, kc, ?_⟩
        rw [tl_append, tl_append, show tl ("_" : Str) = [95] from by decide +kernel]
        rfl
    · subst hσ
      rw [List.length_map, List.take_length] at uk
      have lu := uk.len
      refine ⟨_, rfl, L, us, rfl, SqL.of hL, by omega, fun ys q pm so nq => ?_⟩
      have nd2 := pm.nodup_iff.mpr (uk.nodup nd)
      refine go q ys _ (sG.up nq) (bG.trans (Bt.new nq)) (sG.ne nq).1 upd_same (by rw [pm.length_eq, lu, ln]) (fun x hx => ?_) ?_
      · obtain ⟨n, hn, k⟩ := uk.mem x (pm.mem_iff.mp hx)
        exact k.var (nm n hn)
      · cases ys with
        | nil => exact .nil
        | cons x r => exact sorted_up x r so nd2
end
end K6

set_option Elab.async false
set_option linter.all false
set_option maxRecDepth 100000
set_option maxHeartbeats 4000000
set_option autoImplicit false
set_option pp.maxSteps 600
/-! The polynomial that the law draws. -/
namespace K6
open PySem L2 TL K1D
abbrev sLPoly : Stmt := top 29
theorem Bt.tups {K : PySem.W.Frag} {p l : Addr} {H G : Hp} (b : Bt p H G) (s : StL H p l) : Tups K H G := fun a xs e => b a _ (fun z => by
  obtain ⟨ns, a', v, f, m, n, sd, h1, _⟩ := s
  rw [z, h1] at e
  cases e) e
theorem DictP.bt {K : PySem.W.Frag} {w : World} {p l d : Addr} {H G : Hp} {tab : Poly} (D : DictP K w H d tab) (b : Bt p H G) (s : StL H p l) (dp : d ≠ p) : DictP K w G d tab := by
  obtain ⟨kvs, hd, ks, im, nd⟩ := D
  exact ⟨kvs, b _ _ dp hd, ks.up (b.tups s), im, nd⟩
/-- the exponents that are drawn -/
theorem exp_at {d : Int} (d0 : 0 ≤ d) (d1 : d < 40) {j : Nat} (h : j < 5) : ∃ e : Int, ([.int 1, .int 1, .int 2, .int 3, .int (1 + d)] : List V)[j]? = some (.int e) ∧ 1 ≤ e ∧ e ≤ 40 := by
  match j, h with
  | 0, _ => exact ⟨1, rfl, by decide, by decide⟩
  | 1, _ => exact ⟨1, rfl, by decide, by decide⟩
  | 2, _ => exact ⟨2, rfl, by decide, by decide⟩
  | 3, _ => exact ⟨3, rfl, by decide, by decide⟩
  | 4, _ => exact ⟨1 + d, rfl, by omega, by omega⟩
structure Drawn (q : Poly) : Prop where
  ok : ∀ t ∈ q, OkT t ∧ t.1.length ≤ 5
  up : q.Pairwise fun a b => ltM a.1 b.1
def spLPoly (K : PySem.W.Frag) : Sp := fun vs H Q _ => ∃ (p l q : Addr) (us : List Str) (m : Nat), vs = [.ref p, .ref q, .int m] ∧ StL H p l ∧ H q = some (.lst (us.map V.str)) ∧ q ≠ p ∧ us.length ≤ 5 ∧ (∀ x ∈ us, isVarL (tl x) = true) ∧ us.Pairwise (fun a b => tl a < tl b) ∧ m ≤ 30 ∧
  ∀ (a : Addr) (D : Poly) (G : Hp), StL G p l → Bt p H G → Drawn D → D.length ≤ 30 → KeyV K G (polyK D) (.ref a) → Q (.ref a) G
section
variable {P : Program} {w : World} {K : PySem.W.Frag} {mg : Str → Option Value} {base : Heap} {fD fZ : Addr} {dD dZ : FuncData}
theorem scLPoly : FnScope ["state", "names", "many", "table", "k", "row", "name"] ["state", "names", "many"] (defScope sLPoly) := ⟨rfl, rfl, rfl, by decide +kernel, rfl, by decide +kernel, by decide +kernel⟩
theorem ok_lpoly {f : Addr} {fd : FuncData} (F : Fun K "_law_poly" "_law_poly" sLPoly f fd) (T : ProgTxt K mg) (srt : mg "sorted" = none) (lst : mg "list" = none) (U : DrawTxt P w K mg base fD dD) (GZ : FnOk P w K mg base CX0 2 fZ dZ ["state"] spSize) (bZ : Binds K dZ ["state"] []) (gZ : mg "_law_size" = some (.ref fZ)) (kZ : PySem.W.keepIn K (.ref fZ) = true) :
    FnOk P w K mg base CX0 3 f fd ["state", "names", "many"] (spLPoly K) := by
  refine F.ok scLPoly (fun vs H Q E h => ?_) (fun cdv A outer s H vs Q E hr h => ?_)
  · obtain ⟨p, l, q, us, m, rfl, _⟩ := h
    rfl
  · obtain ⟨p, l, q, us, m, rfl, hs, hq, qp, lu, vu, uu, m30, go⟩ := h
    have h1 : Room 1 _ := hr.mono (by decide)
    refine ⟨_, pss_cons (ps_set (i := 3) scLPoly.nd rfl (Or.inr rfl) pe_nnew)
      (C8.pss_cut (ps_for PassesOwn.never rfl (pi_range1 (by rfl) T.range (pa_cons (pv 2) pa_nil)) (pg_name (i := 4) scLPoly.nd rfl (Or.inl rfl))
        (pss_cons (ps_set (i := 5) scLPoly.nd rfl (Or.inl rfl) (pe_lst pa_nil))
        (C8.pss_cut (ps_for PassesOwn.never rfl (pi_list (pv 1)) (pg_name (i := 6) scLPoly.nd rfl (Or.inl rfl))
          (pss_one (ps_if (pt_cmpR op_eq (pe_call U.ok h1 rfl U.g U.k U.b .nil pass0 (pa_cons (pv 0) (pa_cons pe_int pa_nil))) pe_int (nomark _))
            (pss_one (ps_expr (pe_bm PySem.F.plainAttrs_list PySem.F.slot_list_append PySem.F.type_list_append mt_append (pv 5) (pa_cons (pe_tup (pa_cons (pv 6) (pa_cons (pe_ix ix_tup (pe_tup (pa_cons pe_int (pa_cons pe_int (pa_cons pe_int (pa_cons pe_int (pa_cons (pe_op op_add pe_int (pe_call U.ok h1 rfl U.g U.k U.b .nil pass0 (pa_cons (pv 0) (pa_cons pe_int pa_nil)))) pa_nil))))))
                (pe_call U.ok h1 rfl U.g U.k U.b .nil pass0 (pa_cons (pv 0) (pa_cons pe_int pa_nil))) (fun _ _ => rfl)) pa_nil))) pa_nil)))) pss_nil)))
        (pss_one (ps_nput (hu9 hr) (pv 3) (pe_callTy call_tuple_of (by rfl) T.tuple (by decide +kernel) (pa_cons (pv 5) pa_nil)) (pe_op op_mul (pe_call GZ hr rfl gZ kZ bZ .nil pass0 (pa_cons (pv 0) pa_nil)) (pe_op op_sub pe_int (pe_op op_mul pe_int (pe_call U.ok h1 rfl U.g U.k U.b .nil pass0 (pa_cons (pv 0) (pa_cons pe_int pa_nil)))))) rfl)))))
      (pss_one (ps_ret (pe_callTy (show CallR _ (.type "tuple") (rTupOf K) from call_tuple_of) (by rfl) T.tuple (by decide +kernel) (pa_cons (pe_lc (own := [("row", 5)]) (g := gName 5) (tt := tYes) (te := tTup (tCons (tVar 5) (tCons (tNGet K w (tVar 3) (tVar 5)) tNil))) rfl scLPoly.nd
          (pi_list (pe_callB (show CallR _ (.builtin "sorted") (rSortT K monK) from cr_sortT hr.units al_mon (fun b => ⟨_, rfl⟩) (fun b => Nat.le_trans (dep_mon b) (by decide))) (by rfl) srt (by decide +kernel) (pa_cons (pe_callTy (show CallR _ (.type "list") (rListN w) from call_list_dN rfl) (by rfl) lst (by decide +kernel) (pa_cons (pv 3) pa_nil)) pa_nil)))
          (blkOk_by (own := [("row", 5)]) (N := ["state", "names", "many", "table", "k", "row", "name"]) (sc := defScope sLPoly) (by decide +kernel)) (fun _ _ _ _ _ => pg_name (i := 5) scLPoly.nd rfl (Or.inl rfl)) (fun _ _ _ _ _ => pts_nil)
          (fun _ _ _ _ _ => pe_tup (pa_cons (pv 5) (pa_cons (pe_nget (hu9 hr) (pv 3) (pv 5) (fun _ _ => rfl)) pa_nil)))) pa_nil))))), ?_⟩
    intro d nd
    obtain ⟨dp, dl⟩ := hs.ne nd
    have D0 : DictP K w (upd H d (dN w d [])) d [] := ⟨[], upd_same, fun y hy => (by cases hy), rfl, List.nodup_nil⟩
    have s0 := hs.up (o := dN w d []) nd
    have b0 : Bt p H (upd H d (dN w d [])) := Bt.new nd
    show C8.tCut _ _ _ _ (upd H d (dN w d []))
    generalize upd H d (dN w d []) = G1 at D0 s0 b0 ⊢
    refine ⟨fun σ G => ∃ (u4 u5 u6 : Option V) (tab : Poly), σ = [some (.ref p), some (.ref q), some (.int (m : Int)), some (.ref d), u4, u5, u6] ∧ StL G p l ∧ Bt p H G ∧ DictP K w G d tab ∧ (∀ t ∈ tab, OkT t ∧ t.1.length ≤ 5) ∧ tab.length ≤ 30, ?_, ?_⟩
    · refine ⟨_, rfl, _, rfl, by omega, by omega, ?_⟩
      rw [Int.toNat_natCast]
      refine for_it (walk_range (lo := 0) (n := m)) (fun i σ G => ∃ (u4 u5 u6 : Option V) (tab : Poly), σ = [some (.ref p), some (.ref q), some (.int (m : Int)), some (.ref d), u4, u5, u6] ∧ StL G p l ∧ Bt p H G ∧ DictP K w G d tab ∧ (∀ t ∈ tab, OkT t ∧ t.1.length ≤ 5) ∧ tab.length ≤ i)
        ⟨none, none, none, [], rfl, s0, b0, D0, fun t ht => (by cases ht), Nat.le_refl _⟩ (fun _ _ _ _ _ => trivial) (fun i v σ G G' hi ⟨u4, u5, u6, tab, hσ, sG, bG, D, ok, lt⟩ ⟨e, ev⟩ => ?_) (fun σ G ⟨u4, u5, u6, tab, hσ, sG, bG, D, ok, lt⟩ => ?_)
      · subst hσ e ev
        refine ⟨by decide, fun R nR => ?_⟩
        obtain ⟨Rp, Rl⟩ := sG.ne nR
        have HR := bt_none bG sG nR
        have sR := sG.up (o := .lst []) nR
        have bR : Bt p G' (upd G' R (.lst [])) := Bt.new nR
        have hR : upd G' R (.lst []) R = some (.lst []) := upd_same
        have Rd : R ≠ d := fun z => by
          obtain ⟨kvs, hd, _⟩ := D
          rw [z, hd] at nR; cases nR
        have Rq : R ≠ q := fun z => by rw [z, bG _ _ qp hq] at nR; cases nR
        have DR := D.bt bR sG dp
        have hqR := bR _ _ qp (bG _ _ qp hq)
        generalize upd G' R (.lst []) = G2 at sR bR hR DR hqR ⊢
        refine ⟨fun σ F => ∃ (u6 : Option V) (mo : Mon) (vs : List V), σ = [some (.ref p), some (.ref q), some (.int (m : Int)), some (.ref d), some (.int (0 + (i : Int))), some (.ref R), u6] ∧ StL F p l ∧ Bt p G' F ∧ DictP K w F d tab ∧ F R = some (.lst vs) ∧ KeyVs K F (mo.map facK) vs ∧ CanM mo ∧ mo.length ≤ 5, ?_, ?_⟩
        · refine ⟨_, rfl, q, rfl, ⟨_, SqL.of hqR⟩, ?_⟩
          refine for_it (walk_list (K := K) (a := q) (xs := us.map V.str)) (fun j σ F => ∃ (u6 : Option V) (mo : Mon) (vs : List V), σ = [some (.ref p), some (.ref q), some (.int (m : Int)), some (.ref d), some (.int (0 + (i : Int))), some (.ref R), u6] ∧ StL F p l ∧ Bt p G' F ∧ DictP K w F d tab ∧ F q = some (.lst (us.map V.str)) ∧ F R = some (.lst vs) ∧ KeyVs K F (mo.map facK) vs ∧ CanM mo ∧ mo.length ≤ j ∧ ∀ f ∈ mo, f.1 ∈ us.take j)
            ⟨_, [], [], rfl, sR, bR, DR, hqR, hR, .nil, ⟨fun f hf => (by cases hf), .nil⟩, Nat.le_refl _, fun f hf => (by cases hf)⟩ (fun j σ F _ ⟨_, _, _, _, _, _, _, h, _⟩ => SqL.of h) (fun j v σ F F' hj ⟨u6, mo, vs, hσ, sF, bF, DF, hqF, hRF, kv, cm, lm, sub⟩ ⟨e, hv⟩ => ?_) (fun σ F ⟨u6, mo, vs, hσ, sF, bF, DF, hqF, hRF, kv, cm, lm, sub⟩ => ?_)
          · subst hσ e
            obtain ⟨n, rfl, hn⟩ := map_str_at hv
            have mn := List.mem_of_getElem? hn
            have lj : j < us.length := (List.getElem?_eq_some_iff.mp hn).1
            have sub2 : ∀ f ∈ mo, f.1 ∈ us.take (j + 1) := fun f hf => by rw [take_snoc hn]; exact List.mem_append_left _ (sub f hf)
            refine ⟨_, rfl, p, l, 2, rfl, sF, by decide, by decide, fun z F2 z0 z1 sF2 bF2 => ⟨rfl, _, rfl, ?_⟩⟩
            have D2 := DF.bt bF2 sF dp
            have hR2 := bF2 _ _ Rp hRF
            have kv2 := KeyVs.up (bF2.tups (K := K) sF) _ _ kv
            refine ite2 (fun _ => ?_) (fun _ => ⟨_, mo, vs, rfl, sF2, bF.trans bF2, D2, bF2 _ _ qp hqF, hR2, kv2, cm, by omega, sub2⟩)
            refine ⟨_, rfl, .inl ⟨rfl, _, SqL.of hR2⟩, _, rfl, _, rfl, p, l, 40, rfl, sF2, by decide, by decide, fun e F3 e0 e1 sF3 bF3 => ⟨_, _, rfl, rfl, by show 5 ≤ sizeLine; decide, fun t nt => ?_⟩⟩
            have sF4 := sF3.up (o := .tup [.int 1, .int 1, .int 2, .int 3, .int (1 + e)]) nt
            have bF4 : Bt p F3 (upd F3 t (.tup [.int 1, .int 1, .int 2, .int 3, .int (1 + e)])) := Bt.new nt
            have ht4 : upd F3 t (.tup [.int 1, .int 1, .int 2, .int 3, .int (1 + e)]) t = some (.tup [.int 1, .int 1, .int 2, .int 3, .int (1 + e)]) := upd_same
            have tp := (sF3.ne nt).1
            generalize upd F3 t (.tup [.int 1, .int 1, .int 2, .int 3, .int (1 + e)]) = F4 at sF4 bF4 ht4 ⊢
            refine ⟨_, rfl, p, l, 5, rfl, sF4, by decide, by decide, fun y F5 y0 y1 sF5 bF5 => ?_⟩
            obtain ⟨yn, rfl⟩ : ∃ yn : Nat, y = yn := ⟨y.toNat, by omega⟩
            obtain ⟨ex, hex, ex1, ex40⟩ := exp_at e0 e1 (j := yn) (by omega)
            have ht5 := bF5 _ _ tp ht4
            have b25 := (bF3.trans bF4).trans bF5
            refine ⟨t, _, _, _, rfl, rfl, SqT.of ht5, atI_nat hex, by show 2 ≤ sizeLine; decide, fun c nc => ?_⟩
            have hR5 := b25 _ _ Rp hR2
            have hc6 : upd F5 c (.tup [.str n, .int ex]) c = some (.tup [.str n, .int ex]) := upd_same
            have sF6 := sF5.up (o := .tup [.str n, .int ex]) nc
            have bF6 : Bt p F5 (upd F5 c (.tup [.str n, .int ex])) := Bt.new nc
            have hR6 : upd F5 c (.tup [.str n, .int ex]) R = some (.lst vs) := (upd_ne (ne_of_none hR5 nc)).trans hR5
            have b26 := b25.trans bF6
            have D6 := D2.bt b26 sF2 dp
            have kv6 := KeyVs.up (b26.tups (K := K) sF2) _ _ kv2
            have hq6 := b26 _ _ qp (bF2 _ _ qp hqF)
            generalize upd F5 c (.tup [.str n, .int ex]) = F6 at hc6 sF6 bF6 hR6 b26 D6 kv6 hq6 ⊢
            have lv := keyVs_len kv
            rw [List.length_map] at lv
            refine ⟨R, _, _, rfl, rfl, hR6, by rw [lv, sizeLine_eq]; omega, ?_⟩
            have t7 : Tups K F6 (upd F6 R (.lst (vs ++ [.ref c]))) := tups_lst hR6
            refine ⟨_, mo ++ [(n, ex)], _, rfl, sF6.set Rp Rl, ?_, ?_, (upd_ne (Ne.symm Rq)).trans hq6, upd_same, ?_, ⟨fun f hf => ?_, ?_⟩, by rw [List.length_append]; show mo.length + 1 ≤ j + 1; omega, fun f hf => ?_⟩
            · exact ((bF.trans bF2).trans b26).set nR
            · obtain ⟨kvs, hd, ks, im, nd2⟩ := D6
              exact ⟨kvs, (upd_ne (Ne.symm Rd)).trans hd, ks.up t7, im, nd2⟩
            · rw [List.map_append]
              exact keyVs_app (KeyVs.up t7 _ _ kv6) (.cons (KeyV.up t7 _ _ (kv_fac.mpr ⟨c, rfl, hc6⟩)) .nil)
            · rcases List.mem_append.mp hf with hf | hf
              · exact cm.ok f hf
              · rw [List.mem_singleton.mp hf]
                exact ⟨vu n mn, ex1, ex40⟩
            · rw [List.pairwise_append]
              refine ⟨cm.up, List.pairwise_singleton .., fun a ha b hb => ?_⟩
              rw [List.mem_singleton.mp hb]
              have pw := (List.Pairwise.sublist (List.take_sublist (j + 1) us) uu)
              rw [take_snoc hn] at pw
              exact (List.pairwise_append.mp pw).2.2 _ (sub a ha) n (List.mem_singleton.mpr rfl)
            · rcases List.mem_append.mp hf with hf | hf
              · exact sub2 f hf
              · rw [List.mem_singleton.mp hf, take_snoc hn]
                exact List.mem_append_right _ (List.mem_singleton.mpr rfl)
          · subst hσ
            rw [List.length_map] at lm
            exact ⟨_, mo, vs, rfl, sF, bF, DF, hRF, kv, cm, by omega⟩
        · rintro σ F ⟨u6, mo, vs, rfl, sF, bF, DF, hRF, kv, cm, l5⟩
          refine ⟨_, rfl, p, l, rfl, sF, fun z F2 z0 zg sF2 bF2 => ⟨_, rfl, p, l, 2, rfl, sF2, by decide, by decide, fun b F3 b0 b2 sF3 bF3 => ?_⟩⟩
          have b23 := bF2.trans bF3
          have D3 := DF.bt b23 sF dp
          have hR3 := b23 _ _ Rp hRF
          have kv3 := KeyVs.up (b23.tups (K := K) sF) _ _ kv
          refine ⟨_, _, rfl, rfl, .inl (by decide), _, _, rfl, rfl, _, _, rfl, rfl, .inr ⟨by omega, by omega⟩, ?_⟩
          refine ⟨_, rfl, _, rfl, R, vs, rfl, .inl ⟨SqL.of hR3, fun t1 n1 => ?_⟩⟩
          have s4 : Same F3 (upd F3 t1 (.tup vs)) := same_new n1
          have h4 : upd F3 t1 (.tup vs) t1 = some (.tup vs) := upd_same
          have kv4 := KeyVs.up (same_tups (K := K) s4) _ _ kv3
          have sF4 := sF3.same s4
          have D4 := D3.up s4
          have b34 := b23.trans (Bt.same s4)
          generalize upd F3 t1 (.tup vs) = F4 at s4 h4 kv4 sF4 D4 b34 ⊢
          have km : KeyV K F4 (monK mo) (.ref t1) := kv_mon.mpr ⟨t1, vs, rfl, h4, kv4⟩
          obtain ⟨kvs, hd, ks, lk, im, put⟩ := D4.put km
          have hc : z * (1 - 2 * b) ≠ 0 ∧ absI (z * (1 - 2 * b)) = z := by
            have : b = 0 ∨ b = 1 := by omega
            unfold absI
            rcases this with rfl | rfl <;> omega
          have okn : OkT (mo, z * (1 - 2 * b)) := ⟨cm, hc.1, by show absI (z * (1 - 2 * b)) < g200; rw [hc.2]; exact zg⟩
          refine ⟨d, t1, kvs, monK mo, rfl, rfl, hd, ks, by rw [lk, sizeLine_eq]; omega, km, Nat.le_trans (dep_mon _) (by decide), ?_⟩
          have dl4 : d ≠ l := dl
          refine ⟨_, _, _, putP tab mo (z * (1 - 2 * b)), rfl, sF4.set dp dl4, (bG.trans (bF.trans b34)).set nd, put _, fun t ht => ?_, Nat.le_trans (putP_len _ _ _) (by omega)⟩
          rcases putP_mem ht with e | ht
          · rw [e]; exact ⟨okn, l5⟩
          · exact ok t ht
      · subst hσ
        exact ⟨u4, u5, u6, tab, rfl, sG, bG, D, ok, by omega⟩
    · rintro σ G ⟨u4, u5, u6, tab, rfl, sG, bG, D, ok, lt⟩
      have nd2 := D.elim fun _ h => h.2.2.2
      refine table_read (K := K) (w := w) (σ := [some (.ref p), some (.ref q), some (.int (m : Int)), some (.ref d), u4, u5, u6]) (i := 3) (r := 5) rfl (fun _ => rfl) (fun _ => rfl) (fun _ => rfl) D (by omega) (fun a F sF ka => ?_)
      have can := sortP_can (fun t ht => (ok t ht).1) nd2 (by omega)
      refine go a (sortP tab) F (sG.same sF) (bG.trans (Bt.same sF)) ⟨fun t ht => ⟨can.ok t ht, ?_⟩, can.up⟩ (by rw [(sortP_perm nd2).length_eq]; exact lt) ka
      exact (ok t ((sortP_perm nd2).mem_iff.mp ht)).2
end
end K6

set_option Elab.async false
set_option linter.all false
set_option maxRecDepth 100000
set_option maxHeartbeats 4000000
set_option autoImplicit false
set_option pp.maxSteps 600
/-! A text, changed by the law. -/
namespace K6
open PySem L2 TL K1D
abbrev sChg : Stmt := top 37
def pcs1 : List Str := ["+", "-", " ", "*", "^", "0", "1", "2", "9", "_", "a", "X", "  ", " + ", " - ", "\n", "\t", "x_a", "^1"]
def pcs2 : List Str := ["1*", "0*", "^2", "*x_a", "", "", "x_a^40", "x_a^41", "^007", "- ", "+ ", "."]
theorem pcs_len : (pcs1 ++ pcs2).length = 31 := by decide +kernel
theorem pcs_at {j : Nat} (h : j < 31) : ∃ z, (pcs1 ++ pcs2)[j]? = some z ∧ z.length ≤ 6 := by
  have a : ∀ z ∈ pcs1 ++ pcs2, z.length ≤ 6 := by decide +kernel
  have lt : j < (pcs1 ++ pcs2).length := by rw [pcs_len]; exact h
  exact ⟨_, List.getElem?_eq_getElem lt, a _ (List.getElem_mem lt)⟩
def spChg : Sp := fun vs H Q _ => ∃ (p l : Addr) (x : Str), vs = [.ref p, .str x] ∧ StL H p l ∧ x.length ≤ 5000000 ∧ ∀ (y : Str) (G : Hp), StL G p l → Bt p H G → y.length ≤ x.length + 30 → Q (.str y) G
section
variable {P : Program} {w : World} {K : PySem.W.Frag} {mg : Str → Option Value} {base : Heap} {fD : Addr} {dD : FuncData}
theorem scChg : FnScope ["state", "text", "pieces", "turn", "at", "gone"] ["state", "text"] (defScope sChg) := ⟨rfl, rfl, rfl, by decide +kernel, rfl, by decide +kernel, by decide +kernel⟩
theorem ok_chg {f : Addr} {fd : FuncData} (F : Fun K "_law_changed_text" "_law_changed_text" sChg f fd) (T : ProgTxt K mg) (U : DrawTxt P w K mg base fD dD) : FnOk P w K mg base CX0 2 f fd ["state", "text"] spChg := by
  refine F.ok scChg (fun vs H Q E h => ?_) (fun cdv A outer s H vs Q E hr h => ?_)
  · obtain ⟨p, l, x, rfl, _⟩ := h
    rfl
  · obtain ⟨p, l, x, rfl, hs, lx, go⟩ := h
    refine ⟨_, pss_cons (ps_set (i := 2) scChg.nd rfl (Or.inl rfl) (pe_lst (pa_cons pe_str (pa_cons pe_str (pa_cons pe_str (pa_cons pe_str (pa_cons pe_str (pa_cons pe_str (pa_cons pe_str (pa_cons pe_str (pa_cons pe_str (pa_cons pe_str (pa_cons pe_str (pa_cons pe_str (pa_cons pe_str (pa_cons pe_str (pa_cons pe_str (pa_cons pe_str (pa_cons pe_str (pa_cons pe_str (pa_cons pe_str pa_nil)))))))))))))))))))))
      (pss_cons (ps_set (i := 2) scChg.nd rfl (Or.inl rfl) (pe_op op_cat (pv 2) (pe_lst (pa_cons pe_str (pa_cons pe_str (pa_cons pe_str (pa_cons pe_str (pa_cons pe_str (pa_cons pe_str (pa_cons pe_str (pa_cons pe_str (pa_cons pe_str (pa_cons pe_str (pa_cons pe_str (pa_cons pe_str pa_nil)))))))))))))))
      (pss_cons (ps_for PassesOwn.never rfl (pi_range1 (by rfl) T.range (pa_cons (pe_op op_add pe_int (pe_call U.ok hr rfl U.g U.k U.b .nil pass0 (pa_cons (pv 0) (pa_cons pe_int pa_nil)))) pa_nil)) (pg_name (i := 3) scChg.nd rfl (Or.inl rfl))
        (pss_cons (ps_set (i := 4) scChg.nd rfl (Or.inl rfl) (pe_call U.ok hr rfl U.g U.k U.b .nil pass0 (pa_cons (pv 0) (pa_cons (pe_op op_add (pe_callB call_len_str (by rfl) T.len PySem.boot_len (pa_cons (pv 1) pa_nil)) pe_int) pa_nil))))
        (pss_cons (ps_set (i := 5) scChg.nd rfl (Or.inl rfl) (pe_call U.ok hr rfl U.g U.k U.b .nil pass0 (pa_cons (pv 0) (pa_cons pe_int pa_nil))))
        (pss_one (ps_set (i := 1) scChg.nd rfl (Or.inl rfl) (pe_op op_add_str (pe_op op_add_str (pe_slice sl_str (pv 1) po_none (po_some (pv 4))) (pe_ix ix_list (pv 2) (pe_call U.ok hr rfl U.g U.k U.b .nil pass0 (pa_cons (pv 0) (pa_cons (pe_callB call_len_seq (by rfl) T.len PySem.boot_len (pa_cons (pv 2) pa_nil)) pa_nil))) (fun _ _ => rfl))) (pe_slice sl_str (pv 1) (po_some (pe_op op_add (pv 4) (pv 5))) po_none)))))))
      (pss_one (ps_ret (pv 1))))), ?_⟩
    refine ⟨by show 19 ≤ sizeLine; decide, fun q nq => ?_⟩
    have e1 : upd H q (.lst (pcs1.map V.str)) q = some (.lst (pcs1.map V.str)) := upd_same
    have s1 := hs.up (o := .lst (pcs1.map V.str)) nq
    have b1 : Bt p H (upd H q (.lst (pcs1.map V.str))) := Bt.new nq
    show tSeq _ _ _ _ (upd H q (.lst (pcs1.map V.str)))
    generalize upd H q (.lst (pcs1.map V.str)) = G1 at e1 s1 b1 ⊢
    refine ⟨_, rfl, by show 12 ≤ sizeLine; decide, fun r nr => ?_⟩
    have e2 : upd G1 r (.lst (pcs2.map V.str)) r = some (.lst (pcs2.map V.str)) := upd_same
    have e3 : upd G1 r (.lst (pcs2.map V.str)) q = some (.lst (pcs1.map V.str)) := (upd_ne (ne_of_none e1 nr)).trans e1
    have s2 := s1.up (o := .lst (pcs2.map V.str)) nr
    have b2 : Bt p G1 (upd G1 r (.lst (pcs2.map V.str))) := Bt.new nr
    refine (?_ : rCat (.ref q) (.ref r) (upd G1 r (.lst (pcs2.map V.str))) _)
    generalize upd G1 r (.lst (pcs2.map V.str)) = G2 at e2 e3 s2 b2 ⊢
    refine ⟨q, r, _, _, rfl, rfl, e3, e2, by rw [sizeLine_eq]; decide +kernel, fun L nL => ?_⟩
    have e4 : upd G2 L (.lst (pcs1.map V.str ++ pcs2.map V.str)) L = some (.lst ((pcs1 ++ pcs2).map V.str)) := by rw [upd_same, List.map_append]
    have s3 := s2.up (o := .lst (pcs1.map V.str ++ pcs2.map V.str)) nL
    have b3 : Bt p G2 (upd G2 L (.lst (pcs1.map V.str ++ pcs2.map V.str))) := Bt.new nL
    have Lp := (s2.ne nL).1
    show tSeq _ _ _ _ (upd G2 L (.lst (pcs1.map V.str ++ pcs2.map V.str)))
    generalize upd G2 L (.lst (pcs1.map V.str ++ pcs2.map V.str)) = G3 at e4 s3 b3 ⊢
    have bH := (b1.trans b2).trans b3
    refine ⟨_, rfl, p, l, 3, rfl, s3, by decide, by decide, fun z G4 z0 z3 s4 b4 => ⟨_, _, rfl, rfl, _, rfl, by omega, by omega, ?_⟩⟩
    refine for_it (walk_range (lo := 0) (n := (1 + z).toNat)) (fun i σ G => ∃ (y : Str) (u3 u4 u5 : Option V), σ = [some (.ref p), some (.str y), some (.ref L), u3, u4, u5] ∧ StL G p l ∧ Bt p H G ∧ G L = some (.lst ((pcs1 ++ pcs2).map V.str)) ∧ y.length ≤ x.length + 6 * i)
      ⟨x, none, none, none, rfl, s4, bH.trans b4, b4 _ _ Lp e4, by omega⟩ (fun _ _ _ _ _ => trivial) (fun i v σ G G' hi ⟨y, u3, u4, u5, hσ, sG, bG, hL, ly⟩ ⟨e, ev⟩ => ?_) (fun σ G ⟨y, u3, u4, u5, hσ, sG, bG, hL, ly⟩ => ?_)
    · subst hσ e ev
      have y6 : y.length ≤ 5000030 := by omega
      refine ⟨_, rfl, _, rfl, y, rfl, by rw [sizeLine_eq]; omega, _, _, rfl, rfl, p, l, _, rfl, sG, by omega, by omega, fun a F a0 a1 sF bF => ?_⟩
      refine ⟨_, rfl, p, l, 3, rfl, sF, by decide, by decide, fun g F2 g0 g3 sF2 bF2 => ?_⟩
      have hL2 := (bF.trans bF2) _ _ Lp hL
      obtain ⟨an, rfl⟩ : ∃ an : Nat, a = an := ⟨a.toNat, by omega⟩
      obtain ⟨gn, rfl⟩ : ∃ gn : Nat, g = gn := ⟨g.toNat, by omega⟩
      have t1 := tl_upto y an
      have t2 := tl_from y (an + gn)
      have l1 : (cutS y none (some (an : Int))).length = min an (tl y).length := by rw [len_tl, t1, List.length_take]
      have l2 : (cutS y (some ((an + gn : Nat) : Int)) none).length = (tl y).length - (an + gn) := by rw [len_tl, t2, List.length_drop]
      have l0 := len_tl y
      refine ⟨_, rfl, _, rfl, _, rfl, y, rfl, by rw [sizeLine_eq]; omega, _, rfl, _, rfl, _, rfl, L, _, rfl, .inl (SqL.of hL2), p, l, _, rfl, sF2, ?_, ?_, fun j F3 j0 j1 sF3 bF3 => ?_⟩
      · rw [List.length_map, pcs_len]
        decide
      · rw [List.length_map, pcs_len]
        decide
      rw [List.length_map, pcs_len] at j1
      obtain ⟨jn, rfl⟩ : ∃ jn : Nat, j = jn := ⟨j.toNat, by omega⟩
      obtain ⟨pc, hpc, lpc⟩ := pcs_at (j := jn) (by omega)
      have hL3 := bF3 _ _ Lp hL2
      refine ⟨L, _, _, _, rfl, rfl, SqL.of hL3, atI_nat (v := .str pc) (by rw [List.getElem?_map, hpc]; rfl), _, _, rfl, rfl, ?_, ?_⟩
      · show (cutS y none (some (an : Int))).length + pc.length ≤ _
        rw [l1, sizeLine_eq]; omega
      · refine ⟨_, rfl, _, rfl, _, rfl, _, _, rfl, rfl, _, rfl, y, rfl, by rw [sizeLine_eq]; omega, _, _, rfl, rfl, ?_, ?_⟩
        · show (cutS y none (some (an : Int)) ++ pc).length + (cutS y (some ((an + gn : Nat) : Int)) none).length ≤ _
          rw [strLen_append, l1, l2, sizeLine_eq]; omega
        · refine ⟨_, _, _, _, rfl, sF3, bG.trans ((bF.trans bF2).trans bF3), hL3, ?_⟩
          show (cutS y none (some (an : Int)) ++ pc ++ cutS y (some ((an + gn : Nat) : Int)) none).length ≤ _
          rw [strLen_append, strLen_append, l1, l2]; omega
    · subst hσ
      exact ⟨_, rfl, go y G sG bG (by omega)⟩
end
end K6

set_option Elab.async false
set_option linter.all false
set_option maxRecDepth 100000
set_option maxHeartbeats 4000000
set_option pp.maxSteps 600
/-! t[::-1] of a tuple; no program here. -/
namespace HT
open PySem PySem.Spec PyProof.Rows
section
variable {prog : Program} {w : World} {A : Around} {E : Value → Shared → Prop} {s : Shared}
theorem sliceApplied_rev {sl : Addr} {vl vu vs : Value} {n : Nat} {Q : Int × Int × Nat → Shared → Prop} (hs : s.heap.IsSliceOf sl vl vu vs) (pl : IsPart vl none) (pu : IsPart vu none) (ps : IsPart vs (some (-1)))
    (h : Q ((n : Int) - 1, -1, n) s) : wpAny (model prog w) A (Builtin.Slice.sliceApplied (.ref sl) (pure (n : Int))) Q E s := by
  obtain ⟨os, hos, hcs, hds⟩ := id hs
  unfold Builtin.Slice.sliceApplied Builtin.Slice.sliceFields
  refine wpAny_bind (wpAny_bind (wpAny_field hos hds (x := vl) rfl (wpAny_bind (wpAny_field hos hds (x := vu) rfl (wpAny_bind (wpAny_field hos hds (x := vs) rfl (wpAny_pure ?_)))))))
  refine wpAny_bind (slicePart_ ps ?_)
  show wpAny _ _ (if ((-1 : Int) == 0) = true then _ else _) _ _ s
  rw [if_neg (by decide)]
  refine wpAny_bind (slicePart_ pl (wpAny_bind (slicePart_ pu (wpAny_bind (wpAny_pure ?_)))))
  have ha : Builtin.Slice.sliceAdjust none none (-1) (n : Int) = ((n : Int) - 1, -1) := rfl
  have hp : Builtin.Slice.slicePlaces ((n : Int) - 1) (-1) (-1) = n := by
    unfold Builtin.Slice.slicePlaces
    rw [if_neg (by decide)]
    by_cases z : (n : Int) - 1 > -1
    · rw [if_pos z]
      have e : ((n : Int) - 1 - -1 - 1) / (- -1) + 1 = (n : Int) := by
        rw [show (- -1 : Int) = 1 by decide, Int.ediv_one]
        omega
      rw [e, Int.toNat_natCast]
    · rw [if_neg z]
      show 0 = n
      omega
  show wpAny _ _ (pure ((Builtin.Slice.sliceAdjust none none (-1) (n : Int)).1, (-1 : Int), Builtin.Slice.slicePlaces (Builtin.Slice.sliceAdjust none none (-1) (n : Int)).1 (Builtin.Slice.sliceAdjust none none (-1) (n : Int)).2 (-1))) _ _ s
  rw [ha, hp]
  exact wpAny_pure h
theorem fm_congr {α β : Type} {f g : α → Option β} : ∀ {l : List α}, (∀ m ∈ l, f m = g m) → l.filterMap f = l.filterMap g
  | [], _ => rfl
  | a :: l, h => by rw [List.filterMap_cons, List.filterMap_cons, h a List.mem_cons_self, fm_congr fun m hm => h m (List.mem_cons_of_mem _ hm)]
theorem pick_rev (xs : Array Value) : ((List.range xs.size).filterMap fun (m : Nat) => xs[(((xs.size : Nat) : Int) - 1 + (m : Int) * -1).toNat]?).toArray = xs.toList.reverse.toArray := by
  have e : (List.range xs.size).filterMap (fun (m : Nat) => xs[(((xs.size : Nat) : Int) - 1 + (m : Int) * -1).toNat]?) = (List.range xs.size).filterMap ((xs[·]?) ∘ fun k => xs.size - 1 - k) := by
    refine fm_congr fun m hm => ?_
    have := List.mem_range.mp hm
    have e2 : (((xs.size : Nat) : Int) - 1 + (m : Int) * -1).toNat = xs.size - 1 - m := by omega
    rw [e2]
    rfl
  rw [e, ← List.filterMap_map, PySem.W.krv_range, List.filterMap_reverse, PySem.W.krv_all]
theorem getItem_tuple_rev {t sl : Addr} {items : Array Value} {vl vu vs : Value} {Q : Value → Shared → Prop} (ht : IsTup s.heap t items) (hs : s.heap.IsSliceOf sl vl vu vs) (pl : IsPart vl none) (pu : IsPart vu none) (ps : IsPart vs (some (-1)))
    (h : Q (.ref s.heap.objs.size) { s with heap := s.heap.push { cls := .type "tuple", data := .seq items.toList.reverse.toArray } })
    (hsz : items.size ≤ sizeLine) : wpAny (model prog w) A (getItem (.ref t) (.ref sl)) Q E s := by
  have htake : sizeOk (.seq items.toList.reverse.toArray) := by
    show items.toList.reverse.toArray.size ≤ sizeLine
    rw [List.size_toArray, List.length_reverse, Array.length_toList]
    exact hsz
  obtain ⟨os, hos, hcs, hds⟩ := id hs
  have hTs : s.TypeIs (.ref sl) "slice" := ⟨os, hos, hcs⟩
  unfold getItem
  try with_reducible refine wpAny_holding ?_
  first | refine wpAny_bind (wpAny_pure ?_) | skip
  refine wpAny_bind (wpAny_sequenceKey ht.typeIs (by decide) ?_)
  refine wpAny_bind (wpAny_callSpecial?_slot (name := Str.ofString "__getitem__") ht.typeIs PyProof.Rows.slot_tuple_getitem
    (wpAny_call_entry PyProof.Rows.slot_tuple_getitem ht.typeIs entry_tuple_getitem ?_ (args_tuple_getitem _ _)))
  show wpAny _ _ (Builtin.Tuple.tupleItemsOf (.ref t) >>= _) _ _ s
  refine wpAny_bind (tupleItemsOf_ ht ?_)
  refine wpAny_bind (wpAny_typeOf hTs ?_)
  rw [if_pos (by decide)]
  refine wpAny_bind (sliceApplied_rev hs pl pu ps ?_)
  have hno : ¬ ((((items.size : Nat) : Int) - 1 == 0 && (-1 : Int) == 1 && items.size == items.size) = true) := by
    rw [show ((-1 : Int) == 1) = false from by decide, Bool.and_false, Bool.false_and]
    exact Bool.false_ne_true
  show wpAny _ _ (if (((items.size : Nat) : Int) - 1 == 0 && (-1 : Int) == 1 && items.size == items.size) = true then _ else _) _ _ s
  rw [if_neg hno, pick_rev]
  first
    | exact wpAny_bind (m := Builtin.Tuple.tupleExact _) (wpAny_newObj_type (wpAny_pure ⟨_, rfl, wpAny_pure h⟩) htake)
    | exact wpAny_bind (m := Builtin.Tuple.tupleExact _) (wpAny_newObj_type (wpAny_bind (wpAny_pure (wpAny_pure ⟨_, rfl, wpAny_pure h⟩))) htake)
    | exact wpAny_bind (wpAny_bind (m := Builtin.Tuple.tupleExact _) (wpAny_newObj_type (wpAny_pure (wpAny_pure ⟨_, rfl, wpAny_pure h⟩)) htake))
    | exact wpAny_bind (wpAny_bind (m := Builtin.Tuple.tupleExact _) (wpAny_newObj_type (wpAny_pure ⟨_, rfl, wpAny_pure h⟩) htake))
end
end HT
namespace L2
open PySem PySem.Spec PyProof.Rows
section
variable {X : Cx}
def tRevT (K : PySem.W.Frag) (te : TE) : TE := fun σ H Q => te σ H fun x H1 => ∃ a xs, x = .ref a ∧ SqT K H1 a xs ∧ ∀ p, H1 p = none → Q (.ref p) (upd H1 p (.tup xs.reverse))
theorem pe_revTup {e : Expr} {te : TE} {k : Nat} {p1 p2 p3 pos : Pos} (he : PE X e te) : PE X (.Subscript e (.Slice none none (some (.UnaryOp .USub (.Constant (.int 1) k p1) p2)) p3) pos) (tRevT X.K te) := by
  refine ⟨fun pins s σ H Q I h => ?_⟩
  refine Subscript_ (thn (he.run pins s σ H _ I h) fun v s1 ⟨x, H1, I1, r1, a, xs, ex, hx, q⟩ => ?_)
  subst ex
  cases r1
  have hst : PO X (some (.UnaryOp .USub (.Constant (.int 1) k p1) p2)) (tPart (tUn (rU fun i => .int (-i)) (tC (.int 1)))) := po_some (pe_un un_neg pe_int)
  refine wpAny_Slice (thn (po_none.run pins s1 σ H1 (fun o H2 => o = none ∧ H2 = H1) I1 ⟨rfl, rfl⟩) fun vl s2 ⟨l, H2, I2, pl, el, e2⟩ => ?_)
  subst el e2
  refine thn (po_none.run pins s2 σ H2 (fun o H3 => o = none ∧ H3 = H2) I2 ⟨rfl, rfl⟩) fun vu s3 ⟨u, H3, I3, pu, eu, e3⟩ => ?_
  subst eu e3
  refine thn (hst.run pins s3 σ H3 (fun o H4 => o = some (-1) ∧ H4 = H3) I3 ⟨1, rfl, -1, rfl, rfl, rfl⟩) fun vs s4 ⟨o, H4, I4, ps, eo, e4⟩ => ?_
  subst eo e4
  have I5 : Inv X pins σ H4 { s4 with heap := s4.heap.push { cls := .type "slice", data := .fields #[vl, vu, vs] } } := I4.kept (t' := s4.toks) fun b ob q => Heap.get?_push_of_some _ q
  obtain ⟨its, r, ht, hz⟩ := I5.tuple hx
  have hlen := r.length
  show wpAny (model X.prog X.w) X.A (subscriptTail e (.Slice none none (some (.UnaryOp .USub (.Constant (.int 1) k p1) p2)) p3) (.ref a) (.ref s4.heap.objs.size)) (EP X pins σ Q) X.xe { s4 with heap := s4.heap.push { cls := .type "slice", data := .fields #[vl, vu, vs] } }
  refine tail_any (ops := [.ref a, .ref s4.heap.objs.size]) ht.typeIs PyProof.Rows.slot_tuple_getitem.lookup ?_ (by with_unfolding_all rfl)
  refine HT.getItem_tuple_rev ht (Heap.IsSliceOf.new _ vl vu vs) pl pu ps ?_ (by rw [List.size_toArray]; omega)
  refine ⟨.ref _, _, I5.laid (t' := s4.toks) (o := .tup xs.reverse) (fun b ob q => Heap.get?_push_of_some _ q) (Nat.le_refl _) ?_, rfl, q _ (I5.hok.fresh (Nat.le_refl _))⟩
  exact ⟨by rw [List.length_reverse]; exact hz, _, r.reverse, IsTup.new _ _⟩
end
end L2

set_option Elab.async false
set_option linter.all false
set_option maxRecDepth 100000
set_option autoImplicit false
set_option pp.maxSteps 600
/-! text.replace(constant, constant), where a token is known to be out; expressions that give a token out. -/
namespace L2
open PySem PySem.Spec PyProof.Rows
/-- behind it a token is out -/
def PEg (X : Cx) (e : Expr) (t : TE) : Prop :=
  ∀ (pins : List (Addr × Obj)) (s : Shared) (σ : St) (H : Hp) (Q : VK), Inv X pins σ H s → t σ H Q → wpAny (model X.prog X.w) X.A (eval e X.env) (fun v s1 => 1 ≤ s1.toks ∧ EP X pins σ Q v s1) X.xe s
def PAg (X : Cx) (es : List Expr) (t : TA) : Prop :=
  ∀ (pos : Pos) (pins : List (Addr × Obj)) (s : Shared) (σ : St) (H : Hp) (Q : List V → Hp → Prop), Inv X pins σ H s → t σ H Q → wpAny (model X.prog X.w) X.A (spliced (backTo pos (starEach es X.env))) (fun us s1 => 1 ≤ s1.toks ∧ AP X pins σ Q us s1) X.xe s
section
variable {X : Cx} {a b e : Expr} {es : List Expr} {ta tb te : TE} {t : TA} {pos : Pos}
theorem PET.of (h : PE X e te) : PET X e te := fun pins s σ H Q _ I q => h.run pins s σ H Q I q
theorem PAT.of (h : PA X es t) : PAT X es t := fun pos pins s σ H Q _ I q => h.run pos pins s σ H Q I q
theorem thn_toks {α : Type} {m : Sem α} {Q Q' : α → Shared → Prop} {M : Model} {A : Around} {E : Value → Shared → Prop} {s : Shared} (h : wpAny M A m Q E s) (hQ : ∀ a s', s.toks ≤ s'.toks → Q a s' → Q' a s') : wpAny M A m Q' E s :=
  wpAny_mono (PySem.wpAny_toks h) (fun a s' q => hQ a s' q.1 q.2) fun _ _ x => x.2
theorem peg_str {x : Str} {j : Nat} : PEg X (.Constant (.str x) j pos) (tC (.str x)) := fun pins s σ H Q I h =>
  Calls.Constant_str ⟨show 1 ≤ s.toks + 1 by omega, .str x, H, I.tok _, ⟨_, rfl⟩, h⟩
theorem peg_opR {op : Operator} {r : R2} (ho : OpR X (binaryOp op) r) (ha : PE X a ta) (hb : PEg X b tb) : PEg X (.BinOp a op b pos) (tOp r ta tb) := by
  intro pins s σ H Q I h
  refine wpAny_BinOp (thn (ha.run pins s σ H _ I h) fun v s1 ⟨x, H1, I1, r1, q1⟩ => ?_)
  refine thn (hb pins s1 σ H1 _ I1 q1) fun u s2 ⟨k2, y, H2, I2, r2, q2⟩ => ?_
  exact thn_toks (ho pins s2 σ H2 x y v u Q I2 r1 r2 q2) fun _ s3 k3 q3 => ⟨Nat.le_trans k2 k3, q3⟩
theorem pag_here (ha : PEg X e te) (hr : PA X es t) (hs : starEach (e :: es) X.env = (false, eval e X.env) :: starEach es X.env := by rfl) : PAg X (e :: es) (tCons te t) := by
  intro pos pins s σ H Q I h
  rw [hs]
  show wpAny _ _ (spliced ((false, eval e X.env) :: backTo pos (starEach es X.env))) _ _ s
  refine Calls.spliced_cons (thn (ha pins s σ H _ I h) fun u s1 ⟨k1, x, H1, I1, r1, q1⟩ => ?_)
  exact thn_toks (hr.run pos pins s1 σ H1 _ I1 q1) fun us s2 k2 ⟨xs, H2, I2, r2, q2⟩ => ⟨Nat.le_trans k1 k2, x :: xs, H2, I2, .cons r1 r2, q2⟩
theorem pag_skip (ha : PE X e te) (hr : PAg X es t) (hs : starEach (e :: es) X.env = (false, eval e X.env) :: starEach es X.env := by rfl) : PAg X (e :: es) (tCons te t) := by
  intro pos pins s σ H Q I h
  rw [hs]
  show wpAny _ _ (spliced ((false, eval e X.env) :: backTo pos (starEach es X.env))) _ _ s
  refine Calls.spliced_cons (thn (ha.run pins s σ H _ I h) fun u s1 ⟨x, H1, I1, r1, q1⟩ => ?_)
  exact thn (hr pos pins s1 σ H1 _ I1 q1) fun us s2 ⟨k2, xs, H2, I2, r2, q2⟩ => ⟨k2, x :: xs, H2, I2, .cons r1 r2, q2⟩
theorem peg_lst (h : PAg X es t) : PEg X (.List es pos) (tLst t) := by
  intro pins s σ H Q I hq
  refine wpAny_List_spliced (thn (h pos pins s σ H _ I hq) fun us s1 ⟨k1, xs, H1, I1, r, z, q⟩ => ⟨by rw [← r.length]; exact z, ?_⟩)
  have hf : H1 s1.heap.objs.size = none := I1.hok.fresh (Nat.le_refl _)
  refine ⟨k1, .ref s1.heap.objs.size, upd H1 s1.heap.objs.size (.lst xs), I1.laid (t' := s1.toks) (fun b u e => Heap.get?_push_of_some _ e) (Nat.le_refl _) ?_, rfl, q _ hf⟩
  exact ⟨z, us, 0, r, Heap.get?_push_size _ rfl⟩
theorem pet_op {op : Operator} {r : R2} (ho : OpR X (binaryOp op) r) (ha : PET X a ta) (hb : PET X b tb) : PET X (.BinOp a op b pos) (tOp r ta tb) := by
  intro pins s σ H Q h0 I h
  refine wpAny_BinOp (thn_toks (ha pins s σ H _ h0 I h) fun v s1 k1 ⟨x, H1, I1, r1, q1⟩ => ?_)
  refine thn (hb pins s1 σ H1 _ (Nat.le_trans h0 k1) I1 q1) fun u s2 ⟨y, H2, I2, r2, q2⟩ => ?_
  exact ho pins s2 σ H2 x y v u Q I2 r1 r2 q2
/-- a store behind which a token is out -/
theorem pss_setg {i : Nat} {x : Str} {rest : List Stmt} {u : TS} {pos' : Pos} (hN : X.N.Nodup) (hi : X.N[i]? = some x) (hx : Loc X.env.scope x) (he : PEg X e te) (h2 : PSsT X rest u)
    (hs : swapsWith e (some (.Name x pos')) pos.line X.env = pure false := by rfl) (hf : X.fn x = true ∨ X.env.scope.names.lookup x = some .local := by first | exact .inl rfl | exact .inr rfl | assumption) :
    PSs X (.Assign [.Name x pos'] e pos :: rest) (tSeq (tAsg te (gName i)) u) := by
  refine ⟨fun pins s σ H D I h => ?_⟩
  refine wpAny_execs_cons (wpAny_Assign_Name (thn (he pins s σ H _ I h) fun v s1 ⟨k1, y, H1, I1, r1, q1⟩ => ?_) hs)
  refine thn_toks (store_ok (Q := fun _ s2 => Inv X pins (σ.set i (some y)) H1 s2) I1 hN hi hx r1 (fun s2 I2 => I2) hf) fun _ s2 k2 I2 => ?_
  exact h2 pins s2 _ H1 D (Nat.le_trans k1 k2) I2 q1
theorem pst_set {i : Nat} {x : Str} {pos' : Pos} (hN : X.N.Nodup) (hi : X.N[i]? = some x) (hx : Loc X.env.scope x) (he : PET X e te)
    (hs : swapsWith e (some (.Name x pos')) pos.line X.env = pure false := by rfl) (hf : X.fn x = true ∨ X.env.scope.names.lookup x = some .local := by first | exact .inl rfl | exact .inr rfl | assumption) :
    PST X (.Assign [.Name x pos'] e pos) (tAsg te (gName i)) := by
  intro pins s σ H D h0 I h
  refine wpAny_Assign_Name (thn (he pins s σ H _ h0 I h) fun v s1 ⟨y, H1, I1, r1, q1⟩ => ?_) hs
  exact store_ok I1 hN hi hx r1 (fun s2 I2 => ⟨_, H1, I2, q1⟩) hf
theorem pst_ret (he : PET X e te) : PST X (.Return (some e) pos) (tRet te) := fun pins s σ H D h0 I h =>
  wpAny_Return_some (thn (he pins s σ H _ h0 I h) fun v s1 ⟨x, H1, I1, r1, q1⟩ => ⟨x, σ, H1, I1, r1, q1⟩)
theorem psst_one {st : Stmt} {u : TS} (h1 : PST X st u) : PSsT X [st] u := by
  intro pins s σ H D h0 I h
  refine wpAny_execs_cons (thn (h1 pins s σ H D h0 I h) fun f s1 q => ?_)
  cases f with
  | next => exact wpAny_execs_nil q
  | ret v => exact q
  | brk => exact q
  | cont => exact q
/-- what replacing one written text by another reads -/
def tRepC (ik : Nat) (y z : Str) : TE := fun σ H Q => ∃ x, σ[ik]? = some (some (.str x)) ∧ x.length + (x.length + 1) * z.length ≤ 16777216 ∧ Q (.str (Txt.replace x y z)) H
theorem pet_replC {ik : Nat} {kx y z : Str} {j0 j1 : Nat} {p1 c0 c1 apos : Pos} (hNk : X.N[ik]? = some kx) (hvk : Vis X.env.scope kx) (hyz : (y == z) = false)
    (hdk : (kx == ("__debug__" : Str)) = false := by decide) (hck : (kx == ("__classdict__" : Str)) = false := by decide)
    (hst : starEach [.Constant (.str y) j0 c0, .Constant (.str z) j1 c1] X.env = [(false, eval (.Constant (.str y) j0 c0) X.env), (false, eval (.Constant (.str z) j1 c1) X.env)] := by rfl)
    (hbase : attributeBase (.Name kx p1) "replace" X.env (eval (.Name kx p1) X.env) = eval (.Name kx p1) X.env := by rfl) (hline : (apos.endLine == pos.line) = true := by rfl) :
    PET X (.Call (.Attribute (.Name kx p1) "replace" apos) [.Constant (.str y) j0 c0, .Constant (.str z) j1 c1] [] pos) (tRepC ik y z) := by
  intro pins s σ H Q h0 I h
  obtain ⟨x, hx, hb, q⟩ := h
  refine PySem.Call_method2 hbase hst hline (raw_name hNk hvk I hx (fun v r => ?_) hdk hck)
  obtain ⟨tx, e⟩ := r
  subst e
  refine ⟨"str", _, F.plainAttrs_str, F.slot_str_replace, F.type_str_replace, typeIs_str _ _ _, (fun _ e => nomatch e), Calls.callWith_builtin rfl (Calls.evalArgs_plain (Calls.spliced_cons ?_))⟩
  refine Calls.Constant_str (Calls.spliced_cons (Calls.Constant_str (Calls.spliced_nil ?_)))
  exact PySem.SC.replace (show s.toks ≠ 0 by omega) (show s.toks + 1 ≠ 0 by omega) (show s.toks ≠ s.toks + 1 by omega) hyz hb fun t' k => ⟨.str (Txt.replace x y z), H, I.tok k, ⟨t', rfl⟩, q⟩
end
end L2

set_option Elab.async false
set_option linter.all false
set_option maxRecDepth 100000
set_option maxHeartbeats 4000000
set_option autoImplicit false
set_option pp.maxSteps 600
/-! Texts of the same sum, written otherwise. -/
namespace K6
open PySem L2 TL K1D
abbrev sTurned : Stmt := top 38
theorem WT.turn {t : Term} (h : WT t) : WT (t.1.reverse, t.2) := ⟨by rw [List.length_reverse]; exact h.rl, fun f hf => h.nl f (List.mem_reverse.mp hf), fun f hf => h.hl f (List.mem_reverse.mp hf), h.cl⟩
theorem szP_wt {p : Poly} (h : ∀ t ∈ p, WT t) : szP p ≤ p.length * 2247 := szP_le (c := 2244) fun t ht => (h t ht).sz
theorem cut_from (xs : List V) (k : Nat) : cutV xs (some (k : Int)) none = xs.drop (min k xs.length) := by
  unfold cutV
  rw [HT.sIx_nat, HT.sIx_none, List.take_of_length_le]
  rw [List.length_drop]
  exact Nat.le_refl _
theorem cut_upto (xs : List V) (k : Nat) : cutV xs none (some (k : Int)) = xs.take (min k xs.length) := by
  unfold cutV
  rw [HT.sIx_nat, HT.sIx_none, List.drop_zero, Nat.sub_zero]
theorem sl_any {K : PySem.W.Frag} {H : Hp} {a : Addr} {xs : List V} {lo hi : Option Int} {Q : VK} (h : SqT K H a xs) (go : ∀ (b : Addr) (G : Hp), Same H G → SqT K G b (cutV xs lo hi) → Q (.ref b) G) : rSlA K (.ref a) lo hi H Q := by
  refine ⟨a, xs, rfl, h, fun e => ?_, fun _ p np => ?_⟩
  · refine go a H (fun _ _ q => q) ?_
    have c : cutV xs lo hi = xs := by
      unfold cutV
      rw [e.1, e.2, List.drop_zero, Nat.sub_zero, List.take_length]
    rw [c]
    exact h
  · exact go p _ (same_new np) (SqT.of upd_same)
theorem cat_any {K : PySem.W.Frag} {H : Hp} {a b : Addr} {xs ys : List V} {Q : VK} (h : SqT K H a xs) (g : SqT K H b ys) (hz : xs.length + ys.length ≤ sizeLine) (go : ∀ (c : Addr) (G : Hp), Same H G → SqT K G c (xs ++ ys) → Q (.ref c) G) : rCatA K (.ref a) (.ref b) H Q := by
  refine ⟨a, b, xs, ys, rfl, rfl, h, g, hz, fun e => ?_, fun _ e => ?_, fun _ _ p np => ?_⟩
  · exact go b H (fun _ _ q => q) (by rw [e]; exact g)
  · exact go a H (fun _ _ q => q) (by rw [e, List.append_nil]; exact h)
  · exact go p _ (same_new np) (SqT.of upd_same)
theorem keyVs_rev {K : PySem.W.Frag} {H : Hp} : ∀ {ks : List NestedKey} {xs : List V}, KeyVs K H ks xs → KeyVs K H ks.reverse xs.reverse
  | [], _, h => by cases h; exact .nil
  | _ :: _, _, h => by
    cases h with
    | cons a b =>
      rw [List.reverse_cons, List.reverse_cons]
      exact keyVs_app (keyVs_rev b) (.cons a .nil)
def spTurned (K : PySem.W.Frag) : Sp := fun vs H Q _ => ∃ (p l a : Addr) (D : Poly), vs = [.ref p, .ref a] ∧ StL H p l ∧ KeyV K H (polyK D) (.ref a) ∧ (∀ t ∈ D, WT t) ∧ D.length ≤ 30 ∧
  ∀ (L : Addr) (ts : List Str) (G : Hp), StL G p l → Bt p H G → G L = some (.lst (ts.map V.str)) → ts.length = 16 → (∀ t ∈ ts, t.length ≤ 9000000) → Q (.ref L) G
section
variable {P : Program} {w : World} {K : PySem.W.Frag} {mg : Str → Option Value} {base : Heap} {fD fT : Addr} {dD dT : FuncData}
theorem scTurned : FnScope ["state", "poly", "at", "text", "rows", "found", "row", "number"] ["state", "poly"] (defScope sTurned) := ⟨rfl, rfl, rfl, by decide +kernel, rfl, by decide +kernel, by decide +kernel⟩
theorem ok_turned {f : Addr} {fd : FuncData} (F : Fun K "_law_turned" "_law_turned" sTurned f fd) (T : ProgTxt K mg) (U : DrawTxt P w K mg base fD dD) (GT : FnOk P w K mg base CX0 1 fT dT ["poly"] (spLText K)) (bT : Binds K dT ["poly"] []) (gT : mg "_law_text" = some (.ref fT)) (kT : PySem.W.keepIn K (.ref fT) = true) :
    FnOk P w K mg base CX0 2 f fd ["state", "poly"] (spTurned K) := by
  refine F.ok scTurned (fun vs H Q E h => ?_) (fun cdv A outer s H vs Q E hr h => ?_)
  · obtain ⟨p, l, a, D, rfl, _⟩ := h
    rfl
  · obtain ⟨p, l, a, D, rfl, hs, ka, wt, l30, go⟩ := h
    refine ⟨_, pss_cons (ps_set (i := 2) scTurned.nd rfl (Or.inl rfl) (pe_call U.ok hr rfl U.g U.k U.b .nil pass0 (pa_cons (pv 0) (pa_cons (pe_op op_add (pe_callB call_len_seq (by rfl) T.len PySem.boot_len (pa_cons (pv 1) pa_nil)) pe_int) pa_nil))))
      (pss_cons (ps_set (i := 3) scTurned.nd rfl (Or.inl rfl) (pe_call GT hr rfl gT kT bT .nil pass0 (pa_cons (pv 1) pa_nil)))
      (C8.pss_cut (ps_setLc (i := 4) (own := [("row", 6), ("number", 7)]) (g := gTup K 2 (gCons (gName 6) (gCons (gName 7) gNil))) (tt := tYes) (te := tTup (tCons (tRevT K (tVar 6)) (tCons (tVar 7) tNil))) rfl scTurned.nd rfl rfl (sw_true rfl rfl rfl (by decide +kernel)) (pi_tup (pv 1))
          (blkOk_by (own := [("row", 6), ("number", 7)]) (N := ["state", "poly", "at", "text", "rows", "found", "row", "number"]) (sc := defScope sTurned) (by decide +kernel))
          (fun _ _ _ _ _ => pg_tup rfl (pgs_cons (pg_name (i := 6) scTurned.nd rfl (Or.inl rfl)) (pgs_cons (pg_name (i := 7) scTurned.nd rfl (Or.inl rfl)) pgs_nil))) (fun _ _ _ _ _ => pts_nil)
          (fun _ _ _ _ _ => pe_tup (pa_cons (pe_revTup (pv 6)) (pa_cons (pv 7) pa_nil))))
      (pss_setg (i := 5) scTurned.nd rfl (Or.inl rfl) (peg_lst (pag_skip (pe_call GT hr rfl gT kT bT .nil pass0 (pa_cons (pe_op op_catA (pe_slice sl_tupA (pv 1) (po_some (pv 2)) po_none) (pe_slice sl_tupA (pv 1) po_none (po_some (pv 2)))) pa_nil))
          (pag_here (peg_opR op_add_str (pv 3) peg_str) (pa_cons (pe_op op_add_str pe_str (pv 3)) (pa_cons (pe_op op_add_str pe_str (pv 3)) (pa_cons (pe_call GT hr rfl gT kT bT .nil pass0 (pa_cons (pe_op op_catA (pv 1) (pe_slice sl_tupA (pv 1) po_none (po_some pe_int))) pa_nil)) pa_nil))))))
      (psst_cons (pst_set (i := 5) scTurned.nd rfl (Or.inl rfl) (pet_op op_cat (.of (pv 5)) (pet_lst (pat_cons (.of (pe_op op_add_str pe_str (pv 3))) (pat_cons (.of (pe_op op_add_str (pv 3) pe_str)) (pat_cons (.of (pe_op op_add_str (pv 3) pe_str))
          (pat_cons (.of (pe_call GT hr rfl gT kT bT .nil pass0 (pa_cons (pv 4) pa_nil))) (pat_cons (pet_replC (ik := 3) rfl (Or.inl rfl) (by decide +kernel)) (pat_cons (.of pe_str) (pat_cons (.of pe_str) pat_nil))))))))))
      (psst_one (pst_ret (pet_op op_cat (.of (pv 5)) (pet_lst (pat_cons (pet_replC (ik := 3) rfl (Or.inl rfl) (by decide +kernel)) (pat_cons (pet_replC (ik := 3) rfl (Or.inl rfl) (by decide +kernel)) (pat_cons (.of (pe_op op_add_str pe_str (pv 3))) (pat_cons (.of (pe_op op_add_str pe_str (pv 3))) pat_nil)))))))))))), ?_⟩
    obtain ⟨a', xs, ea, hxs, kxs⟩ := kv_poly.mp ka
    obtain rfl : a = a' := V.ref.inj ea
    have lx : xs.length = D.length := by rw [keyVs_len kxs, List.length_map]
    refine ⟨_, rfl, _, rfl, a, xs, rfl, .inr (SqT.of hxs), _, _, rfl, rfl, p, l, _, rfl, hs, by omega, by omega, fun z G1 z0 z1 s1 b1 => ?_⟩
    have ap : a ≠ p := fun e => by
      obtain ⟨_, _, _, _, _, _, _, hp, _⟩ := hs
      rw [e, hp] at hxs
      cases hxs
    have hx1 := b1 _ _ ap hxs
    have kx1 := KeyVs.up (b1.tups (K := K) hs) _ _ kxs
    have ws : ∀ t ∈ D, WS t := fun t ht => (wt t ht).ws
    have sz := szP_wt wt
    refine ⟨_, rfl, false, a, D, xs, rfl, SqT.of hx1, kx1, ws, by omega, by omega, fun G2 s12 => ?_⟩
    have hx2 := s12 _ _ hx1
    have kx2 := KeyVs.up (same_tups (K := K) s12) _ _ kx1
    have s2 := s1.same s12
    have b2 := b1.trans (Bt.same s12)
    have tl0 := pText_sz D
    refine ⟨fun σ G => ∃ (R : Addr) (rs : List V), σ = [some (.ref p), some (.ref a), some (.int z), some (.str (pText D)), some (.ref R), none, none, none] ∧ Same G2 G ∧ SqL K G R rs ∧ KeyVs K G ((D.map fun t => (t.1.reverse, t.2)).map termK) rs, ?_, ?_⟩
    · refine ⟨_, rfl, a, rfl, ⟨xs, SqT.of hx2⟩, fun R nR => ?_⟩
      refine lc_tup (xs := xs) (fun (i : Nat) (F : Hp) => Same G2 F ∧ ∃ zs : List V, F R = some (.lst zs) ∧ KeyVs K F (((D.take i).map fun t => (t.1.reverse, t.2)).map termK) zs) ⟨same_new nR, [], upd_same, .nil⟩
        (fun i F _ ⟨sF, _⟩ => SqT.of (sF _ _ hx2)) (fun i v F hv ⟨sF, zs, hR, kz⟩ => ?_) (fun F ⟨sF, zs, hR, kz⟩ => ?_)
      · obtain ⟨t, ht, kt⟩ := term_at kx2 hv
        obtain ⟨q2, u, rfl, hq, km⟩ := kv_term.mp kt
        obtain ⟨m, ms, rfl, hm, kf⟩ := kv_mon.mp km
        have hm2 := sF _ _ hm
        have kf2 := KeyVs.up (same_tups (K := K) sF) _ _ kf
        have HR := nR
        refine ⟨q2, _, rfl, SqT.of (sF _ _ hq), rfl, _, _, rfl, _, _, rfl, rfl, ?_⟩
        refine ⟨rfl, ?_⟩
        refine ⟨_, rfl, m, ms, rfl, SqT.of hm2, fun c nc => ⟨_, rfl, by show 2 ≤ sizeLine; decide, fun d nd => ?_⟩⟩
        have hc : upd F c (.tup ms.reverse) c = some (.tup ms.reverse) := upd_same
        have sc : Same F (upd F c (.tup ms.reverse)) := same_new nc
        have hd : upd (upd F c (.tup ms.reverse)) d (.tup [.ref c, .int t.2]) d = some (.tup [.ref c, .int t.2]) := upd_same
        have sd : Same (upd F c (.tup ms.reverse)) (upd (upd F c (.tup ms.reverse)) d (.tup [.ref c, .int t.2])) := same_new nd
        have hc2 := sd _ _ hc
        have s4 := sc.trans sd
        have hR4 := s4 _ _ hR
        have lz := keyVs_len kz
        rw [List.length_map, List.length_map, List.length_take] at lz
        refine ⟨zs, hR4, by rw [lz, sizeLine_eq]; omega, fun a o q => (upd_ne (ne_of_none q nR)).trans (s4 _ _ (sF a o q)), _, upd_same, ?_⟩
        have t5 := tups_lst (K := K) (o := .lst (zs ++ [.ref d])) hR4
        rw [take_snoc ht, List.map_append, List.map_append]
        have kr := keyVs_rev kf2
        rw [← List.map_reverse] at kr
        exact keyVs_app (KeyVs.up t5 _ _ (KeyVs.up (same_tups (K := K) s4) _ _ kz)) (.cons (KeyV.up t5 _ _ (kv_term.mpr ⟨d, .ref c, rfl, hd, kv_mon.mpr ⟨c, ms.reverse, rfl, hc2, KeyVs.up (same_tups (K := K) s4) _ _ kr⟩⟩)) .nil)
      · rw [List.take_of_length_le (by omega)] at kz
        refine ⟨R, zs, rfl, sF, SqL.of hR, kz⟩
    · rintro σ G ⟨R, rs, rfl, sG, hR, kR⟩
      have hx3 := sG _ _ hx2
      have kx3 := KeyVs.up (same_tups (K := K) sG) _ _ kx2
      have s3 := s2.same sG
      have b3 := b2.trans (Bt.same sG)
      obtain ⟨n, rfl⟩ : ∃ n : Nat, z = n := ⟨z.toNat, by omega⟩
      refine ⟨_, rfl, _, rfl, _, rfl, ?_⟩
      dsimp only [tNoPart]
      refine sl_any (K := K) (SqT.of hx3) fun c1 G4 s34 h4 => ?_
      rw [cut_from] at h4
      refine ⟨_, rfl, _, rfl, _, rfl, ?_⟩
      skip
      have hx4 := s34 _ _ hx3
      refine sl_any (K := K) (SqT.of hx4) fun c2 G5 s45 h5 => ?_
      rw [cut_upto] at h5
      refine (?_ : rCatA K (.ref c1) (.ref c2) G5 _)
      refine cat_any (K := K) (SqB.up (b := false) h4 s45) h5 (by rw [sizeLine_eq, List.length_drop, List.length_take]; omega) fun c3 G6 s56 h6 => ?_
      have s36 := (s34.trans s45).trans s56
      have k6 := KeyVs.up (same_tups (K := K) s36) _ _ kx3
      have k6c := keyVs_app (keyVs_drop (min n xs.length) k6) (keyVs_take (min n xs.length) k6)
      rw [← List.map_drop, ← List.map_take, ← List.map_append] at k6c
      have mem6 : ∀ t ∈ D.drop (min n xs.length) ++ D.take (min n xs.length), t ∈ D := fun t ht => (List.mem_append.mp ht).elim List.mem_of_mem_drop List.mem_of_mem_take
      have len6 : (D.drop (min n xs.length) ++ D.take (min n xs.length)).length ≤ 30 := by rw [List.length_append, List.length_drop, List.length_take]; omega
      have sz6 := szP_wt fun t ht => wt t (mem6 t ht)
      refine ⟨false, c3, _, _, rfl, h6, k6c, fun t ht => ws t (mem6 t ht), by omega, by omega, fun G7 s67 => ?_⟩
      have tl6 := pText_sz (D.drop (min n xs.length) ++ D.take (min n xs.length))
      generalize pText (D.drop (min n xs.length) ++ D.take (min n xs.length)) = y0 at tl6 ⊢
      have ly0 : y0.length ≤ 70000 := by omega
      generalize hty : pText D = y at tl0 ⊢
      have ly : y.length ≤ 70000 := by omega
      have s37 := s36.trans s67
      have cl : ∀ c ∈ ([" + 0", "+ ", "0 + ", " ", "\n", "-", "- "] : List Str), c.length ≤ 4 := by decide +kernel
      have c1 : ((" + 0" : Str)).length = 4 := by decide +kernel
      have c2' : (("+ " : Str)).length = 2 := by decide +kernel
      have c3' : (("0 + " : Str)).length = 4 := by decide +kernel
      refine ⟨_, rfl, _, _, rfl, rfl, by rw [sizeLine_eq, c1]; omega, ?_⟩
      refine ⟨_, rfl, _, _, rfl, rfl, by rw [sizeLine_eq, c2']; omega, ?_⟩
      refine ⟨_, rfl, _, _, rfl, rfl, by rw [sizeLine_eq, c3']; omega, ?_⟩
      have hx7 := s37 _ _ hx3
      have kx7 := KeyVs.up (same_tups (K := K) s37) _ _ kx3
      refine ⟨_, rfl, _, rfl, _, rfl, ?_⟩
      refine sl_any (K := K) (SqT.of hx7) fun d1 G8 s78 h8 => ?_
      rw [show (1 : Int) = ((1 : Nat) : Int) from rfl, cut_upto] at h8
      refine cat_any (K := K) (SqT.of (s78 _ _ hx7)) h8 (by rw [sizeLine_eq, List.length_take]; omega) fun d2 G9 s89 h9 => ?_
      have s79 := s78.trans s89
      have k9 := KeyVs.up (same_tups (K := K) s79) _ _ kx7
      have k9c := keyVs_app k9 (keyVs_take (min 1 xs.length) k9)
      rw [← List.map_take, ← List.map_append] at k9c
      have mem9 : ∀ t ∈ D ++ D.take (min 1 xs.length), t ∈ D := fun t ht => (List.mem_append.mp ht).elim id List.mem_of_mem_take
      have len9 : (D ++ D.take (min 1 xs.length)).length ≤ 60 := by rw [List.length_append, List.length_take]; omega
      have sz9 := szP_wt fun t ht => wt t (mem9 t ht)
      refine ⟨false, d2, _, _, rfl, h9, k9c, fun t ht => ws t (mem9 t ht), by omega, by omega, fun GA s9A => ?_⟩
      have tl9 := pText_sz (D ++ D.take (min 1 xs.length))
      generalize pText (D ++ D.take (min 1 xs.length)) = y4 at tl9 ⊢
      have ly4 : y4.length ≤ 140000 := by omega
      have s3A := (s37.trans s79).trans s9A
      refine ⟨by show 5 ≤ sizeLine; decide, fun L1 nL1 => ?_⟩
      have e1 : upd GA L1 (.lst ([y0, y ++ " + 0", "+ " ++ y, "0 + " ++ y, y4].map V.str)) L1 = some (.lst ([y0, y ++ " + 0", "+ " ++ y, "0 + " ++ y, y4].map V.str)) := upd_same
      have s3B := s3A.trans (same_new (o := .lst ([y0, y ++ " + 0", "+ " ++ y, "0 + " ++ y, y4].map V.str)) nL1)
      have c4 : ((" " : Str)).length = 1 := by decide +kernel
      have c5 : (("\n" : Str)).length = 1 := by decide +kernel
      have l1 : ∀ t ∈ ([y0, y ++ " + 0", "+ " ++ y, "0 + " ++ y, y4] : List Str), t.length ≤ 9000000 := by
        intro t ht
        simp only [List.mem_cons, List.not_mem_nil, or_false] at ht
        rcases ht with e | e | e | e | e <;> rw [e] <;> first | omega | (rw [strLen_append, c1]; omega) | (rw [strLen_append, c2']; omega) | (rw [strLen_append, c3']; omega)
      have n1 : ([y0, y ++ " + 0", "+ " ++ y, "0 + " ++ y, y4] : List Str).length = 5 := rfl
      show tSeq _ _ _ _ (upd GA L1 (.lst ([y0, y ++ " + 0", "+ " ++ y, "0 + " ++ y, y4].map V.str)))
      generalize upd GA L1 (.lst ([y0, y ++ " + 0", "+ " ++ y, "0 + " ++ y, y4].map V.str)) = GB at e1 s3B ⊢
      generalize ([y0, y ++ " + 0", "+ " ++ y, "0 + " ++ y, y4] : List Str) = ts1 at e1 l1 n1
      refine ⟨_, rfl, _, rfl, _, _, rfl, rfl, by rw [sizeLine_eq, c4]; omega, ?_⟩
      refine ⟨_, rfl, _, _, rfl, rfl, by rw [sizeLine_eq, c4]; omega, ?_⟩
      refine ⟨_, rfl, _, _, rfl, rfl, by rw [sizeLine_eq, c5]; omega, ?_⟩
      have wtr : ∀ t ∈ D.map fun t => (t.1.reverse, t.2), WT t := fun t ht => by
        obtain ⟨u, hu, rfl⟩ := List.mem_map.mp ht
        exact (wt u hu).turn
      have lr : (D.map fun t => (t.1.reverse, t.2)).length ≤ 30 := by rw [List.length_map]; exact l30
      have szr := szP_wt wtr
      refine ⟨_, rfl, true, R, _, rs, rfl, SqB.up (b := true) hR s3B, KeyVs.up (same_tups (K := K) s3B) _ _ kR, fun t ht => (wtr t ht).ws, by omega, by omega, fun GC sBC => ?_⟩
      have tlr := pText_sz (D.map fun t => (t.1.reverse, t.2))
      generalize pText (D.map fun t => (t.1.reverse, t.2)) = y8 at tlr ⊢
      have ly8 : y8.length ≤ 70000 := by omega
      have r1 := TK.replace_len y " " ""
      have r2 := TK.replace_len y "*" " * "
      have r3 := TK.replace_len y "+" "-"
      have z0' : (("" : Str)).length = 0 := by decide +kernel
      have z3 : ((" * " : Str)).length = 3 := by decide +kernel
      have z1' : (("-" : Str)).length = 1 := by decide +kernel
      have z2 : (("- " : Str)).length = 2 := by decide +kernel
      have z5 : (("1*x_a" : Str)).length = 5 := by decide +kernel
      rw [z0'] at r1
      rw [z3] at r2
      rw [z1'] at r3
      refine ⟨y, rfl, by rw [z0']; omega, ?_⟩
      refine ⟨by show 7 ≤ sizeLine; decide, fun L2 nL2 => ?_⟩
      have e2 : upd GC L2 (.lst ([" " ++ y, y ++ " ", y ++ "\n", y8, Txt.replace y " " "", "1*x_a", ""].map V.str)) L2 = some (.lst ([" " ++ y, y ++ " ", y ++ "\n", y8, Txt.replace y " " "", "1*x_a", ""].map V.str)) := upd_same
      have s2D : Same GC (upd GC L2 (.lst ([" " ++ y, y ++ " ", y ++ "\n", y8, Txt.replace y " " "", "1*x_a", ""].map V.str))) := same_new nL2
      have l2 : ∀ t ∈ ([" " ++ y, y ++ " ", y ++ "\n", y8, Txt.replace y " " "", "1*x_a", ""] : List Str), t.length ≤ 9000000 := by
        intro t ht
        simp only [List.mem_cons, List.not_mem_nil, or_false] at ht
        rcases ht with e | e | e | e | e | e | e <;> rw [e] <;> first | omega | (rw [strLen_append, c4]; omega) | (rw [strLen_append, c5]; omega)
      have n2 : ([" " ++ y, y ++ " ", y ++ "\n", y8, Txt.replace y " " "", "1*x_a", ""] : List Str).length = 7 := rfl
      refine (?_ : rCat (.ref L1) (.ref L2) (upd GC L2 (.lst ([" " ++ y, y ++ " ", y ++ "\n", y8, Txt.replace y " " "", "1*x_a", ""].map V.str))) _)
      generalize upd GC L2 (.lst ([" " ++ y, y ++ " ", y ++ "\n", y8, Txt.replace y " " "", "1*x_a", ""].map V.str)) = GD at e2 s2D ⊢
      generalize ([" " ++ y, y ++ " ", y ++ "\n", y8, Txt.replace y " " "", "1*x_a", ""] : List Str) = ts2 at e2 l2 n2
      have eD := (sBC.trans s2D) _ _ e1
      refine ⟨L1, L2, _, _, rfl, rfl, eD, e2, by rw [List.length_map, List.length_map, n1, n2]; decide, fun L3 nL3 => ?_⟩
      have e3 : upd GD L3 (.lst (ts1.map V.str ++ ts2.map V.str)) L3 = some (.lst ((ts1 ++ ts2).map V.str)) := by rw [upd_same, List.map_append]
      have s3D := ((s3B.trans sBC).trans s2D).trans (same_new (o := .lst (ts1.map V.str ++ ts2.map V.str)) nL3)
      generalize upd GD L3 (.lst (ts1.map V.str ++ ts2.map V.str)) = GE at e3 s3D ⊢
      refine ⟨_, rfl, y, rfl, by rw [z3]; omega, ?_⟩
      refine ⟨y, rfl, by rw [z1']; omega, ?_⟩
      refine ⟨_, rfl, _, _, rfl, rfl, by rw [sizeLine_eq, z1']; omega, ?_⟩
      refine ⟨_, rfl, _, _, rfl, rfl, by rw [sizeLine_eq, z2]; omega, ?_⟩
      refine ⟨by show 4 ≤ sizeLine; decide, fun L4 nL4 => ?_⟩
      have e4 : upd GE L4 (.lst ([Txt.replace y "*" " * ", Txt.replace y "+" "-", "-" ++ y, "- " ++ y].map V.str)) L4 = some (.lst ([Txt.replace y "*" " * ", Txt.replace y "+" "-", "-" ++ y, "- " ++ y].map V.str)) := upd_same
      have s4F : Same GE (upd GE L4 (.lst ([Txt.replace y "*" " * ", Txt.replace y "+" "-", "-" ++ y, "- " ++ y].map V.str))) := same_new nL4
      have l4 : ∀ t ∈ ([Txt.replace y "*" " * ", Txt.replace y "+" "-", "-" ++ y, "- " ++ y] : List Str), t.length ≤ 9000000 := by
        intro t ht
        simp only [List.mem_cons, List.not_mem_nil, or_false] at ht
        rcases ht with e | e | e | e <;> rw [e] <;> first | omega | (rw [strLen_append, z1']; omega) | (rw [strLen_append, z2]; omega)
      have n4 : ([Txt.replace y "*" " * ", Txt.replace y "+" "-", "-" ++ y, "- " ++ y] : List Str).length = 4 := rfl
      refine (?_ : rCat (.ref L3) (.ref L4) (upd GE L4 (.lst ([Txt.replace y "*" " * ", Txt.replace y "+" "-", "-" ++ y, "- " ++ y].map V.str))) _)
      generalize upd GE L4 (.lst ([Txt.replace y "*" " * ", Txt.replace y "+" "-", "-" ++ y, "- " ++ y].map V.str)) = GF at e4 s4F ⊢
      generalize ([Txt.replace y "*" " * ", Txt.replace y "+" "-", "-" ++ y, "- " ++ y] : List Str) = ts4 at e4 l4 n4
      refine ⟨L3, L4, _, _, rfl, rfl, s4F _ _ e3, e4, by rw [List.length_map, List.length_map, List.length_append, n1, n2, n4]; decide, fun L5 nL5 => ?_⟩
      have s3F := (s3D.trans s4F).trans (same_new (o := .lst ((ts1 ++ ts2).map V.str ++ ts4.map V.str)) nL5)
      refine go L5 (ts1 ++ ts2 ++ ts4) _ (s3.same s3F) (b3.trans (Bt.same s3F)) (by rw [upd_same, List.map_append (l₁ := ts1 ++ ts2)]) (by rw [List.length_append, List.length_append, n1, n2, n4]) fun t ht => ?_
      rcases List.mem_append.mp ht with ht | ht
      · rcases List.mem_append.mp ht with ht | ht
        · exact l1 t ht
        · exact l2 t ht
      · exact l4 t ht
end
end K6

set_option Elab.async false
set_option linter.all false
set_option maxRecDepth 100000
set_option maxHeartbeats 4000000
set_option autoImplicit false
set_option pp.maxSteps 600
set_option exponentiation.threshold 100000
/-! Texts at the bounds. -/
namespace K6
open PySem L2 TL K1D
abbrev sGreat : Stmt := top 39
theorem wt_one {x : Str} {e k : Int} (lx : x.length ≤ 6) (he : e.natAbs < 10 ^ 31) (hk : k.natAbs < 10 ^ 202) : ∀ t ∈ ([([(x, e)], k)] : Poly), WT t := fun t ht => by
  rw [List.mem_singleton.mp ht]
  exact ⟨by show 1 ≤ 10; decide, fun f hf => by rw [List.mem_singleton.mp hf]; exact lx, fun f hf => by rw [List.mem_singleton.mp hf]; exact he, hk⟩
theorem key_one {K : PySem.W.Frag} {H : Hp} {a b c : Addr} {x : Str} {e k : Int} (ha : H a = some (.tup [.str x, .int e])) (hb : H b = some (.tup [.ref a])) (hc : H c = some (.tup [.ref b, .int k])) : KeyVs K H (([([(x, e)], k)] : Poly).map termK) [.ref c] :=
  .cons (kv_term.mpr ⟨c, .ref b, rfl, hc, kv_mon.mpr ⟨b, _, rfl, hb, .cons (kv_fac.mpr ⟨a, rfl, ha⟩) .nil⟩⟩) .nil
def highs : List Int := [1, 2, 40, 41, 100, 10 ^ 30]
theorem highs_lt : ∀ e ∈ highs, e.natAbs < 10 ^ 31 := by decide +kernel
theorem wt_none {k : Int} (hk : k.natAbs < 10 ^ 202) : ∀ t ∈ ([([], k)] : Poly), WT t := fun t ht => by
  rw [List.mem_singleton.mp ht]
  exact ⟨by show 0 ≤ 10; decide, fun f hf => (by cases hf), fun f hf => (by cases hf), hk⟩
theorem key_none {K : PySem.W.Frag} {H : Hp} {b c : Addr} {k : Int} (hb : H b = some (.tup [])) (hc : H c = some (.tup [.ref b, .int k])) : KeyVs K H (([([], k)] : Poly).map termK) [.ref c] :=
  .cons (kv_term.mpr ⟨c, .ref b, rfl, hc, kv_mon.mpr ⟨b, _, rfl, hb, .nil⟩⟩) .nil
def nums (g : Int) : List Int := [g - 1, 1 - g, g, 0 - g, g * 10]
theorem nums_lt : ∀ e ∈ nums g200, e.natAbs < 10 ^ 202 := by decide +kernel
theorem nines {n : Int} (h1 : 1 ≤ n) (h2 : n ≤ 3000) : MulOk ("9" : Str) n := by
  have a9 : (("9" : Str)).length = 1 := by decide +kernel
  refine ⟨?_, fun _ _ => ?_, fun _ _ => ?_⟩
  · rw [decide_eq_false (by omega), decide_eq_false (by omega)]
    rfl
  · rw [a9]
    have h : (1 : Int) ≤ (2 ^ 63 - 1) / n := Int.le_ediv_of_mul_le (by omega) (by omega)
    show ¬ ((1 : Int) > (2 ^ 63 - 1) / n)
    omega
  · rw [a9]
    show decide _ = false
    exact decide_eq_false (by rw [sizeLine_eq]; omega)
def spGreat (K : PySem.W.Frag) : Sp := fun vs H Q _ => ∃ (p l q : Addr) (us : List Str), vs = [.ref p, .ref q] ∧ StL H p l ∧ H q = some (.lst (us.map V.str)) ∧ q ≠ p ∧ 0 < us.length ∧ us.length ≤ 5 ∧ (∀ x ∈ us, x.length ≤ 6) ∧
  ∀ (L : Addr) (ts : List Str) (G : Hp), StL G p l → Bt p H G → G L = some (.lst (ts.map V.str)) → ts.length = 21 → (∀ t ∈ ts, t.length ≤ 9000000) → Q (.ref L) G
section
variable {P : Program} {w : World} {K : PySem.W.Frag} {mg : Str → Option Value} {base : Heap} {fD fT : Addr} {dD dT : FuncData}
theorem scGreat : FnScope ["state", "names", "most", "name", "found", "high", "number"] ["state", "names"] (defScope sGreat) := ⟨rfl, rfl, rfl, by decide +kernel, rfl, by decide +kernel, by decide +kernel⟩
theorem ok_great {f : Addr} {fd : FuncData} (F : Fun K "_law_great" "_law_great" sGreat f fd) (T : ProgTxt K mg) (U : DrawTxt P w K mg base fD dD) (GT : FnOk P w K mg base CX0 1 fT dT ["poly"] (spLText K)) (bT : Binds K dT ["poly"] []) (gT : mg "_law_text" = some (.ref fT)) (kT : PySem.W.keepIn K (.ref fT) = true) :
    FnOk P w K mg base CX0 2 f fd ["state", "names"] (spGreat K) := by
  refine F.ok scGreat (fun vs H Q E h => ?_) (fun cdv A outer s H vs Q E hr h => ?_)
  · obtain ⟨p, l, q, us, rfl, _⟩ := h
    rfl
  · obtain ⟨p, l, q, us, rfl, hs, hq, qp, u0, u5, u6, go⟩ := h
    refine ⟨_, pss_cons (ps_set (i := 2) scGreat.nd rfl (Or.inl rfl) (pe_op op_mulW (pe_op op_mulW (pe_op op_mulW (pe_op op_pow pe_int pe_int) (pe_op op_pow pe_int pe_int)) (pe_op op_pow pe_int pe_int)) (pe_op op_pow pe_int pe_int)))
      (pss_cons (ps_set (i := 3) scGreat.nd rfl (Or.inl rfl) (pe_ix ix_list (pv 1) (pe_call U.ok hr rfl U.g U.k U.b .nil pass0 (pa_cons (pv 0) (pa_cons (pe_callB call_len_seq (by rfl) T.len PySem.boot_len (pa_cons (pv 1) pa_nil)) pa_nil))) (fun _ _ => rfl)))
      (pss_cons (ps_set (i := 4) scGreat.nd rfl (Or.inl rfl) (pe_lst pa_nil))
      (C8.pss_cut (ps_for PassesOwn.never rfl (pi_tup (pe_tup (pa_cons pe_int (pa_cons pe_int (pa_cons pe_int (pa_cons pe_int (pa_cons pe_int (pa_cons (pe_op op_pow pe_int pe_int) pa_nil)))))))) (pg_name (i := 5) scGreat.nd rfl (Or.inl rfl)) (pss_one (ps_expr (pe_bm PySem.F.plainAttrs_list PySem.F.slot_list_append PySem.F.type_list_append mt_append (pv 4) (pa_cons (pe_call GT hr rfl gT kT bT .nil pass0 (pa_cons (pe_tup (pa_cons (pe_tup (pa_cons (pe_tup (pa_cons (pe_tup (pa_cons (pv 3) (pa_cons (pv 5) pa_nil))) pa_nil)) (pa_cons pe_int pa_nil))) pa_nil)) pa_nil)) pa_nil)))))
      (C8.pss_cut (ps_for PassesOwn.never rfl (pi_tup (pe_tup (pa_cons (pe_op op_sub (pv 2) pe_int) (pa_cons (pe_op op_sub pe_int (pv 2)) (pa_cons (pv 2) (pa_cons (pe_op op_sub pe_int (pv 2)) (pa_cons (pe_op op_mulW (pv 2) pe_int) pa_nil))))))) (pg_name (i := 6) scGreat.nd rfl (Or.inl rfl)) (pss_one (ps_set (i := 4) scGreat.nd rfl (Or.inl rfl) (pe_op op_cat (pv 4) (pe_lst (pa_cons (pe_call GT hr rfl gT kT bT .nil pass0 (pa_cons (pe_tup (pa_cons (pe_tup (pa_cons (pe_tup pa_nil) (pa_cons (pv 6) pa_nil))) pa_nil)) pa_nil)) (pa_cons (pe_call GT hr rfl gT kT bT .nil pass0 (pa_cons (pe_tup (pa_cons (pe_tup (pa_cons (pe_tup (pa_cons (pe_tup (pa_cons (pv 3) (pa_cons pe_int pa_nil))) pa_nil)) (pa_cons (pv 6) pa_nil))) pa_nil)) pa_nil)) pa_nil)))))))
      (pss_cons (ps_set (i := 4) scGreat.nd rfl (Or.inl rfl) (pe_op op_cat (pv 4) (pe_lst (pa_cons (pe_op op_add_str (pv 3) pe_str) (pa_cons (pe_op op_add_str (pv 3) pe_str) (pa_cons (pe_op op_add_str (pv 3) pe_str) (pa_cons (pe_op op_add_str pe_str (pv 3)) pa_nil)))))))
      (pss_one (ps_ret (pe_op op_cat (pv 4) (pe_lst (pa_cons (pe_op op_add_str (pe_op op_add_str (pv 3) pe_str) (pe_op op_mulS pe_str (pe_op op_add pe_int (pe_call U.ok hr rfl U.g U.k U.b .nil pass0 (pa_cons (pv 0) (pa_cons pe_int pa_nil)))))) pa_nil)))))))))), ?_⟩
    refine ⟨_, _, rfl, rfl, ⟨by decide, by decide, by decide⟩, _, _, rfl, rfl, ⟨by decide, by decide, by decide⟩, _, _, rfl, rfl, by show CMulW ((10 : Int) ^ 64) ((10 : Int) ^ 64); unfold CMulW; decide +kernel, ?_⟩
    refine ⟨_, _, rfl, rfl, ⟨by decide, by decide, by decide⟩, _, _, rfl, rfl, by show CMulW ((10 : Int) ^ 64 * (10 : Int) ^ 64) ((10 : Int) ^ 64); unfold CMulW; decide +kernel, ?_⟩
    refine ⟨_, _, rfl, rfl, ⟨by decide, by decide, by decide⟩, _, _, rfl, rfl, by show CMulW ((10 : Int) ^ 64 * (10 : Int) ^ 64 * (10 : Int) ^ 64) ((10 : Int) ^ 8); unfold CMulW; decide +kernel, ?_⟩
    obtain ⟨g, hg⟩ : ∃ g : Int, g = ((10 : Int) ^ (64 : Int).toNat * (10 : Int) ^ (64 : Int).toNat * (10 : Int) ^ (64 : Int).toNat * (10 : Int) ^ (8 : Int).toNat) := ⟨_, rfl⟩
    refine (?_ : tSeq _ _ _ [some (.ref p), some (.ref q), some (.int ((10 : Int) ^ (64 : Int).toNat * (10 : Int) ^ (64 : Int).toNat * (10 : Int) ^ (64 : Int).toNat * (10 : Int) ^ (8 : Int).toNat)), none, none, none, none] H)
    rw [← hg]
    have hg2 : g = g200 := hg.trans g200_eq
    refine ⟨_, rfl, _, rfl, _, rfl, q, _, rfl, .inl (SqL.of hq), p, l, _, rfl, hs, ?_, ?_, fun z G1 z0 z1 s1 b1 => ?_⟩
    · rw [List.length_map]; omega
    · rw [List.length_map]; omega
    rw [List.length_map] at z1
    obtain ⟨n, rfl⟩ : ∃ n : Nat, z = n := ⟨z.toNat, by omega⟩
    have hq1 := b1 _ _ qp hq
    have ex : us[n]? = some (us[n]'(by omega)) := List.getElem?_eq_getElem _
    generalize us[n]'(by omega) = x at ex
    have lx := u6 x (List.mem_of_getElem? ex)
    refine ⟨q, _, _, _, rfl, rfl, SqL.of hq1, atI_nat (v := .str x) (by rw [List.getElem?_map, ex]; rfl), ?_⟩
    refine ⟨by decide, fun L nL => ?_⟩
    have s2 := s1.up (o := .lst []) nL
    have b2 := b1.trans (Bt.new (o := .lst []) nL)
    have e2 : upd G1 L (.lst []) L = some (.lst (([] : List Str).map V.str)) := upd_same
    have Lp := (s1.ne nL).1
    show C8.tCut _ _ _ _ (upd G1 L (.lst []))
    generalize upd G1 L (.lst []) = G2 at s2 b2 e2 ⊢
    refine ⟨fun σ G => ∃ (u5 : Option V) (ts : List Str), σ = [some (.ref p), some (.ref q), some (.int g), some (.str x), some (.ref L), u5, none] ∧ StL G p l ∧ Bt p H G ∧ G L = some (.lst (ts.map V.str)) ∧ ts.length = 6 ∧ ∀ t ∈ ts, t.length ≤ 9000000, ?_, ?_⟩
    · refine ⟨_, _, rfl, rfl, ⟨by decide, by decide, by decide⟩, by show 6 ≤ sizeLine; decide, fun t nt => ⟨t, rfl, ⟨_, SqT.of upd_same⟩, ?_⟩⟩
      have s3 := s2.up (o := .tup (highs.map V.int)) nt
      have b3 := b2.trans (Bt.new (o := .tup (highs.map V.int)) nt)
      have tp := (s2.ne nt).1
      have e3 : upd G2 t (.tup (highs.map V.int)) L = some (.lst (([] : List Str).map V.str)) := (upd_ne (ne_of_none e2 nt)).trans e2
      have ht : upd G2 t (.tup (highs.map V.int)) t = some (.tup (highs.map V.int)) := upd_same
      refine for_it (walk_tup (K := K) (a := t) (xs := highs.map V.int)) (fun i σ G => ∃ (u5 : Option V) (ts : List Str), σ = [some (.ref p), some (.ref q), some (.int g), some (.str x), some (.ref L), u5, none] ∧ StL G p l ∧ Bt p H G ∧ G t = some (.tup (highs.map V.int)) ∧ G L = some (.lst (ts.map V.str)) ∧ ts.length = i ∧ ∀ y ∈ ts, y.length ≤ 9000000)
        ⟨none, [], rfl, s3, b3, ht, e3, rfl, fun y hy => (by cases hy)⟩ (fun i σ G _ ⟨_, _, _, _, _, h, _⟩ => SqT.of h) (fun i v σ G G' hi ⟨u5, ts, hσ, sG, bG, tG, hL, lt, bd⟩ ⟨e, hv⟩ => ?_) (fun σ G ⟨u5, ts, hσ, sG, bG, tG, hL, lt, bd⟩ => ?_)
      · subst hσ e
        rw [List.getElem?_map] at hv
        obtain ⟨ee, he, rfl⟩ := Option.map_eq_some_iff.mp hv
        have hl := highs_lt ee (List.mem_of_getElem? he)
        have i6 : i < 6 := by
          have := (List.getElem?_eq_some_iff.mp he).1
          exact this
        refine ⟨_, rfl, .inl ⟨rfl, _, SqL.of hL⟩, _, rfl, _, rfl, by show 2 ≤ sizeLine; decide, fun a na => ⟨by show 1 ≤ sizeLine; decide, fun b nb => ⟨by show 2 ≤ sizeLine; decide, fun c nc => ⟨by show 1 ≤ sizeLine; decide, fun d nd => ?_⟩⟩⟩⟩
        have wt := wt_one (x := x) (e := ee) (k := 1) lx hl (by decide +kernel)
        have szp := szP_wt wt
        have kk := key_one (K := K) (x := x) (e := ee) (k := 1) (a := a) (b := b) (c := c) (H := upd (upd (upd (upd G' a (.tup [.str x, .int ee])) b (.tup [.ref a])) c (.tup [.ref b, .int 1])) d (.tup [.ref c]))
          ((same_new nd) _ _ ((same_new nc) _ _ ((same_new nb) _ _ upd_same))) ((same_new nd) _ _ ((same_new nc) _ _ upd_same)) ((same_new nd) _ _ upd_same)
        refine ⟨false, d, [([(x, ee)], 1)], _, rfl, SqT.of upd_same, kk, fun t ht => (wt t ht).ws, Nat.le_trans szp (by show 1 * 2247 ≤ 16000000; decide), by show 1 ≤ 2001; decide, fun G6 s6 => ?_⟩
        have tl6 := pText_sz [([(x, ee)], 1)]
        have szq : szP [([(x, ee)], 1)] ≤ 2247 := szp
        have sA := ((((same_new na).trans (same_new nb)).trans (same_new nc)).trans (same_new nd)).trans s6
        refine ⟨L, _, _, rfl, rfl, sA _ _ hL, by rw [List.length_map, lt, sizeLine_eq]; omega, ?_⟩
        have Ll : L ≠ l := (s1.ne nL).2
        have Lt : t ≠ L := fun z => by rw [z, e2] at nt; cases nt
        refine ⟨_, ts ++ [pText [([(x, ee)], 1)]], rfl, (sG.same sA).set Lp Ll, ?_, (upd_ne Lt).trans (sA _ _ tG), by rw [upd_same, List.map_append]; rfl, by rw [List.length_append, lt]; rfl, fun y hy => ?_⟩
        · exact (bG.trans (Bt.same sA)).set (bt_none b1 s1 nL)
        · rcases List.mem_append.mp hy with hy | hy
          · exact bd y hy
          · rw [List.mem_singleton.mp hy]; omega
      · subst hσ
        exact ⟨u5, ts, rfl, sG, bG, hL, lt, bd⟩
    · rintro σ G ⟨u5, ts, rfl, sG, bG, hL, lt, bd⟩
      refine ⟨fun σ F => ∃ (u5 u6 : Option V) (M : Addr) (ts : List Str), σ = [some (.ref p), some (.ref q), some (.int g), some (.str x), some (.ref M), u5, u6] ∧ StL F p l ∧ Bt p H F ∧ F M = some (.lst (ts.map V.str)) ∧ ts.length = 16 ∧ ∀ t ∈ ts, t.length ≤ 9000000, ?_, ?_⟩
      · refine ⟨_, rfl, _, _, rfl, rfl, _, rfl, _, _, rfl, rfl, _, rfl, _, rfl, _, _, rfl, rfl, _, rfl, _, _, rfl, rfl, by rw [hg2]; unfold CMulW; decide +kernel, by show 5 ≤ sizeLine; decide, fun t nt => ⟨t, rfl, ⟨_, SqT.of upd_same⟩, ?_⟩⟩
        have s3 := sG.up (o := .tup ((nums g).map V.int)) nt
        have b3 := bG.trans (Bt.new (o := .tup ((nums g).map V.int)) nt)
        have tp := (sG.ne nt).1
        have e3 : upd G t (.tup ((nums g).map V.int)) L = some (.lst (ts.map V.str)) := (upd_ne (ne_of_none hL nt)).trans hL
        have ht : upd G t (.tup ((nums g).map V.int)) t = some (.tup ((nums g).map V.int)) := upd_same
        refine for_it (walk_tup (K := K) (a := t) (xs := (nums g).map V.int)) (fun i σ F => ∃ (u6 : Option V) (M : Addr) (ys : List Str), σ = [some (.ref p), some (.ref q), some (.int g), some (.str x), some (.ref M), u5, u6] ∧ StL F p l ∧ Bt p H F ∧ F t = some (.tup ((nums g).map V.int)) ∧ F M = some (.lst (ys.map V.str)) ∧ ys.length = 6 + 2 * i ∧ ∀ y ∈ ys, y.length ≤ 9000000)
          ⟨none, L, ts, rfl, s3, b3, ht, e3, by omega, bd⟩ (fun i σ F _ ⟨_, _, _, _, _, _, h, _⟩ => SqT.of h) (fun i v σ F F' hi ⟨u6, M, ys, hσ, sF, bF, tF, hM, ly, bd⟩ ⟨e, hv⟩ => ?_) (fun σ F ⟨u6, M, ys, hσ, sF, bF, tF, hM, ly, bd⟩ => ?_)
        · subst hσ e
          rw [List.getElem?_map] at hv
          obtain ⟨ee, he, rfl⟩ := Option.map_eq_some_iff.mp hv
          have hl := nums_lt ee (by rw [← hg2]; exact List.mem_of_getElem? he)
          have i5 : i < 5 := (List.getElem?_eq_some_iff.mp he).1
          have wt := wt_none (k := ee) hl
          have szp := szP_wt wt
          have wt2 := wt_one (x := x) (e := 2) (k := ee) lx (by decide +kernel) hl
          have szp2 := szP_wt wt2
          refine ⟨_, rfl, by show 0 ≤ sizeLine; decide, fun b nb => ⟨_, rfl, by show 2 ≤ sizeLine; decide, fun c nc => ⟨by show 1 ≤ sizeLine; decide, fun d nd => ?_⟩⟩⟩
          have kk := key_none (K := K) (k := ee) (b := b) (c := c) (H := upd (upd (upd F' b (.tup [])) c (.tup [.ref b, .int ee])) d (.tup [.ref c])) ((same_new nd) _ _ ((same_new nc) _ _ upd_same)) ((same_new nd) _ _ upd_same)
          refine ⟨false, d, [([], ee)], _, rfl, SqT.of upd_same, kk, fun t ht => (wt t ht).ws, Nat.le_trans szp (by show 1 * 2247 ≤ 16000000; decide), by show 1 ≤ 2001; decide, fun G6 s6 => ?_⟩
          have tl6 := pText_sz [([], ee)]
          have szq : szP [([], ee)] ≤ 2247 := szp
          have sA := (((same_new nb).trans (same_new nc)).trans (same_new nd)).trans s6
          refine ⟨_, rfl, by show 2 ≤ sizeLine; decide, fun a1 na1 => ⟨by show 1 ≤ sizeLine; decide, fun b1 nb1 => ⟨_, rfl, by show 2 ≤ sizeLine; decide, fun c1 nc1 => ⟨by show 1 ≤ sizeLine; decide, fun d1 nd1 => ?_⟩⟩⟩⟩
          have kk2 := key_one (K := K) (x := x) (e := 2) (k := ee) (a := a1) (b := b1) (c := c1) (H := upd (upd (upd (upd G6 a1 (.tup [.str x, .int 2])) b1 (.tup [.ref a1])) c1 (.tup [.ref b1, .int ee])) d1 (.tup [.ref c1]))
            ((same_new nd1) _ _ ((same_new nc1) _ _ ((same_new nb1) _ _ upd_same))) ((same_new nd1) _ _ ((same_new nc1) _ _ upd_same)) ((same_new nd1) _ _ upd_same)
          refine ⟨false, d1, [([(x, 2)], ee)], _, rfl, SqT.of upd_same, kk2, fun t ht => (wt2 t ht).ws, Nat.le_trans szp2 (by show 1 * 2247 ≤ 16000000; decide), by show 1 ≤ 2001; decide, fun G7 s7 => ?_⟩
          have tl7 := pText_sz [([(x, 2)], ee)]
          have szq2 : szP [([(x, 2)], ee)] ≤ 2247 := szp2
          have sB := sA.trans (((((same_new na1).trans (same_new nb1)).trans (same_new nc1)).trans (same_new nd1)).trans s7)
          refine ⟨by show 2 ≤ sizeLine; decide, fun L2 nL2 => ?_⟩
          have sC := sB.trans (same_new (o := .lst [.str (pText [([], ee)]), .str (pText [([(x, 2)], ee)])]) nL2)
          refine (?_ : rCat (.ref M) (.ref L2) (upd G7 L2 (.lst [.str (pText [([], ee)]), .str (pText [([(x, 2)], ee)])])) _)
          refine ⟨M, L2, _, _, rfl, rfl, sC _ _ hM, upd_same, by rw [List.length_map, ly, sizeLine_eq]; show 6 + 2 * i + 2 ≤ _; omega, fun L3 nL3 => ?_⟩
          have sD := sC.trans (same_new (o := .lst (ys.map V.str ++ [.str (pText [([], ee)]), .str (pText [([(x, 2)], ee)])])) nL3)
          refine ⟨_, L3, ys ++ [pText [([], ee)], pText [([(x, 2)], ee)]], rfl, sF.same sD, bF.trans (Bt.same sD), sD _ _ tF, by rw [upd_same, List.map_append]; rfl, by rw [List.length_append, ly]; show 6 + 2 * i + 2 = _; omega, fun y hy => ?_⟩
          rcases List.mem_append.mp hy with hy | hy
          · exact bd y hy
          · simp only [List.mem_cons, List.not_mem_nil, or_false] at hy
            rcases hy with e | e <;> rw [e] <;> omega
        · subst hσ
          rw [List.length_map] at ly
          exact ⟨u5, u6, M, ys, rfl, sF, bF, hM, by rw [ly]; rfl, bd⟩
      · rintro σ G ⟨u5, u6, M, ys, rfl, sG, bG, hM, ly, bd⟩
        have a1 : (("^0" : Str)).length = 2 := by decide +kernel
        have a2 : (("^01" : Str)).length = 3 := by decide +kernel
        have a3 : (("^-1" : Str)).length = 3 := by decide +kernel
        have a4 : (("0*" : Str)).length = 2 := by decide +kernel
        have a5 : (("^" : Str)).length = 1 := by decide +kernel
        have a9 : (("9" : Str)).length = 1 := by decide +kernel
        refine ⟨_, rfl, _, rfl, _, _, rfl, rfl, by rw [sizeLine_eq, a1]; omega, ?_⟩
        refine ⟨_, rfl, _, _, rfl, rfl, by rw [sizeLine_eq, a2]; omega, ?_⟩
        refine ⟨_, rfl, _, _, rfl, rfl, by rw [sizeLine_eq, a3]; omega, ?_⟩
        refine ⟨_, rfl, _, _, rfl, rfl, by rw [sizeLine_eq, a4]; omega, ?_⟩
        refine ⟨by show 4 ≤ sizeLine; decide, fun L2 nL2 => ?_⟩
        have e4 : upd G L2 (.lst ([x ++ "^0", x ++ "^01", x ++ "^-1", "0*" ++ x].map V.str)) L2 = some (.lst ([x ++ "^0", x ++ "^01", x ++ "^-1", "0*" ++ x].map V.str)) := upd_same
        have s4 : Same G (upd G L2 (.lst ([x ++ "^0", x ++ "^01", x ++ "^-1", "0*" ++ x].map V.str))) := same_new nL2
        have l4 : ∀ t ∈ ([x ++ "^0", x ++ "^01", x ++ "^-1", "0*" ++ x] : List Str), t.length ≤ 9000000 := by
          intro t ht
          simp only [List.mem_cons, List.not_mem_nil, or_false] at ht
          rcases ht with e | e | e | e <;> rw [e] <;> first | (rw [strLen_append, a1]; omega) | (rw [strLen_append, a2]; omega) | (rw [strLen_append, a3]; omega) | (rw [strLen_append, a4]; omega)
        have n4 : ([x ++ "^0", x ++ "^01", x ++ "^-1", "0*" ++ x] : List Str).length = 4 := rfl
        refine (?_ : rCat (.ref M) (.ref L2) (upd G L2 (.lst ([x ++ "^0", x ++ "^01", x ++ "^-1", "0*" ++ x].map V.str))) _)
        generalize upd G L2 (.lst ([x ++ "^0", x ++ "^01", x ++ "^-1", "0*" ++ x].map V.str)) = GF at e4 s4 ⊢
        generalize ([x ++ "^0", x ++ "^01", x ++ "^-1", "0*" ++ x] : List Str) = ts4 at e4 l4 n4
        refine ⟨M, L2, _, _, rfl, rfl, s4 _ _ hM, e4, by rw [List.length_map, List.length_map, ly, n4]; decide, fun L3 nL3 => ?_⟩
        have e5 : upd GF L3 (.lst (ys.map V.str ++ ts4.map V.str)) L3 = some (.lst ((ys ++ ts4).map V.str)) := by rw [upd_same, List.map_append]
        have s5 := s4.trans (same_new (o := .lst (ys.map V.str ++ ts4.map V.str)) nL3)
        have sG5 := sG.same s5
        have b5 := bG.trans (Bt.same s5)
        have L3p := ((sG.same s4).ne nL3).1
        generalize upd GF L3 (.lst (ys.map V.str ++ ts4.map V.str)) = GE at e5 s5 sG5 b5 ⊢
        refine ⟨_, rfl, _, rfl, _, _, rfl, rfl, by rw [sizeLine_eq, a5]; omega, ?_⟩
        refine ⟨_, rfl, p, l, 3000, rfl, sG5, by decide, by decide, fun z G6 z0 z1 s6 b6 => ⟨_, _, rfl, rfl, ?_⟩⟩
        have ml := PyProof.Rows.len_mul_leN (x := ("9" : Str)) (n := 1 + z) (L := 1) (N := 3000) (by rw [a9]; exact Nat.le_refl _) (by omega)
        refine ⟨_, _, rfl, rfl, nines (by omega) (by omega), _, _, rfl, rfl, by rw [strLen_append, a5, sizeLine_eq]; omega, ?_⟩
        refine ⟨by show 1 ≤ sizeLine; decide, fun L4 nL4 => ?_⟩
        refine (?_ : rCat (.ref L3) (.ref L4) (upd G6 L4 (.lst ([x ++ "^" ++ Txt.mul "9" (1 + z)].map V.str))) _)
        have s7 : Same G6 (upd G6 L4 (.lst ([x ++ "^" ++ Txt.mul "9" (1 + z)].map V.str))) := same_new nL4
        refine ⟨L3, L4, _, _, rfl, rfl, s7 _ _ (b6 _ _ L3p e5), upd_same, by rw [List.length_map, List.length_map, List.length_append, ly, n4]; show 16 + 4 + 1 ≤ sizeLine; decide, fun L5 nL5 => ?_⟩
        have s8 := s7.trans (same_new (o := .lst ((ys ++ ts4).map V.str ++ [x ++ "^" ++ Txt.mul "9" (1 + z)].map V.str)) nL5)
        refine go L5 (ys ++ ts4 ++ [x ++ "^" ++ Txt.mul "9" (1 + z)]) _ (s6.same s8) (b5.trans (b6.trans (Bt.same s8))) (by rw [upd_same, List.map_append (l₁ := ys ++ ts4)]) (by rw [List.length_append, List.length_append, ly, n4]; rfl) fun t ht => ?_
        rcases List.mem_append.mp ht with ht | ht
        · rcases List.mem_append.mp ht with ht | ht
          · exact bd t ht
          · exact l4 t ht
        · rw [List.mem_singleton.mp ht, strLen_append, strLen_append, a5]
          omega
end
end K6

set_option Elab.async false
set_option linter.all false
set_option maxRecDepth 100000
set_option maxHeartbeats 4000000
set_option autoImplicit false
set_option pp.maxSteps 600
/-! Two thousand terms and one more. -/
namespace K6
open PySem L2 TL K1D
abbrev sMany : Stmt := top 40
/-! ### the rows -/
def posF (f : Fac) : Bool := decide (0 < f.2)
def row3 (a b c : Str) (x y z : Int) : Mon := ([(a, x), (b, y), (c, z)] : Mon).filter posF
def expo (m : Mon) (s : Str) : Int := ((m.find? fun f => decide (f.1 = s)).map (·.2)).getD 0
theorem expo_row {a b c : Str} (ab : a ≠ b) (ac : a ≠ c) (bc : b ≠ c) {x y z : Int} (hx : 0 ≤ x) (hy : 0 ≤ y) (hz : 0 ≤ z) : expo (row3 a b c x y z) a = x ∧ expo (row3 a b c x y z) b = y ∧ expo (row3 a b c x y z) c = z := by
  have ba := ab.symm
  have ca := ac.symm
  have cb := bc.symm
  unfold expo row3
  by_cases h1 : 0 < x <;> by_cases h2 : 0 < y <;> by_cases h3 : 0 < z <;> simp [posF, List.filter_cons, List.find?_cons, h1, h2, h3, ab, ac, bc, ba, ca, cb] <;> omega
def rowN (k : Nat) : Mon := row3 "x_a" "y_a" "y_b" ((k : Int) % 13) (((k : Int) / 13) % 13) ((k : Int) / 169)
theorem rowN_inj {k j : Nat} (h : rowN k = rowN j) : k = j := by
  have e1 := expo_row (a := ("x_a" : Str)) (b := "y_a") (c := "y_b") (by decide +kernel) (by decide +kernel) (by decide +kernel) (x := (k : Int) % 13) (y := ((k : Int) / 13) % 13) (z := (k : Int) / 169) (by omega) (by omega) (by omega)
  have e2 := expo_row (a := ("x_a" : Str)) (b := "y_a") (c := "y_b") (by decide +kernel) (by decide +kernel) (by decide +kernel) (x := (j : Int) % 13) (y := ((j : Int) / 13) % 13) (z := (j : Int) / 169) (by omega) (by omega) (by omega)
  have h1 := congrArg (fun m => expo m "x_a") h
  have h2 := congrArg (fun m => expo m "y_a") h
  have h3 := congrArg (fun m => expo m "y_b") h
  simp only [rowN] at h1 h2 h3
  rw [e1.1, e2.1] at h1
  rw [e1.2.1, e2.2.1] at h2
  rw [e1.2.2, e2.2.2] at h3
  omega
theorem rowN_can {k : Nat} (h : k < 2197) : CanM (rowN k) ∧ (rowN k).length ≤ 3 := by
  refine ⟨⟨fun f hf => ?_, ?_⟩, ?_⟩
  · obtain ⟨h1, h2⟩ := List.mem_filter.mp hf
    have h2' := of_decide_eq_true (show decide (0 < f.2) = true from h2)
    simp only [List.mem_cons, List.not_mem_nil, or_false] at h1
    rcases h1 with e | e | e <;> subst e
    · exact ⟨by show isVarL (tl ("x_a" : Str)) = true; decide +kernel, by show 1 ≤ (k : Int) % 13; have : 0 < (k : Int) % 13 := h2'; omega, by show (k : Int) % 13 ≤ 40; omega⟩
    · exact ⟨by show isVarL (tl ("y_a" : Str)) = true; decide +kernel, by show 1 ≤ ((k : Int) / 13) % 13; have : 0 < ((k : Int) / 13) % 13 := h2'; omega, by show ((k : Int) / 13) % 13 ≤ 40; omega⟩
    · exact ⟨by show isVarL (tl ("y_b" : Str)) = true; decide +kernel, by show 1 ≤ (k : Int) / 169; have : 0 < (k : Int) / 169 := h2'; omega, by show (k : Int) / 169 ≤ 40; omega⟩
  · refine List.Pairwise.sublist (List.filter_sublist) ?_
    have l1 : tl ("x_a" : Str) < tl ("y_a" : Str) := by decide +kernel
    have l2 : tl ("x_a" : Str) < tl ("y_b" : Str) := by decide +kernel
    have l3 : tl ("y_a" : Str) < tl ("y_b" : Str) := by decide +kernel
    refine .cons (fun b hb => ?_) (.cons (fun b hb => ?_) (.cons (fun b hb => (by cases hb)) .nil))
    · simp only [List.mem_cons, List.not_mem_nil, or_false] at hb
      rcases hb with e | e <;> subst e
      · exact l1
      · exact l2
    · simp only [List.mem_cons, List.not_mem_nil, or_false] at hb
      subst hb
      exact l3
  · exact List.length_filter_le _ _
/-! ### their order -/
theorem ltK_term {a b : Term} (ne : a.1 ≠ b.1) : ltK (termK a) (termK b) = true ↔ ltM a.1 b.1 := by
  have e : ltK (termK a) (termK b) = PySem.W.dataLt (.tuple [(monK a.1).data, .int a.2]) (.tuple [(monK b.1).data, .int b.2]) := by simp [ltK, termK, NestedKey.data, NestedKey.datas]
  have nq : PyData.eqv (monK a.1).data (monK b.1).data = false := by
    rw [Bool.eq_false_iff]
    exact fun h => ne (monK_inj ((eqv_iff _ _).mp h))
  rw [e, PySem.W.dataLt_pair (al_mon _ _) (by simp [PySem.W.alike]), nq, if_neg Bool.false_ne_true]
  rfl
def sortT (p : Poly) : Poly := p.mergeSort (PySem.W.dataLe false fun b => (termK b).data)
theorem sortT_perm (p : Poly) : (sortT p).Perm p := List.mergeSort_perm _ _
theorem le_terms : ∀ a b : Term, PySem.W.dataLe false (fun b => (termK b).data) a b = !ltK (termK b) (termK a) := fun a b => by
  rw [PySem.W.dataLe_eq]
  rfl
theorem termK_inj {a b : Term} (h : termK a = termK b) : a = b := by
  obtain ⟨a1, a2⟩ := a
  obtain ⟨b1, b2⟩ := b
  unfold termK at h
  simp only [NestedKey.tup.injEq, List.cons.injEq, NestedKey.num.injEq, and_true] at h
  rw [monK_inj h.1, h.2]
theorem not_ltT_trans {a b c : Term} (h : ltK (termK b) (termK a) = false) (g : ltK (termK c) (termK b) = false) : ltK (termK c) (termK a) = false := by
  cases q : ltK (termK c) (termK a) with
  | false => rfl
  | true =>
    by_cases e : a = b
    · subst e
      rw [g] at q
      cases q
    · have := ltK_trans q (ltK_tot (al_term b a) (fun z => e (termK_inj z).symm) h)
      rw [g] at this
      cases this
theorem sortT_up {p : Poly} (nd : KeyND p) : (sortT p).Pairwise fun a b => ltM a.1 b.1 := by
  have q := List.pairwise_mergeSort (le := PySem.W.dataLe false fun b : Term => (termK b).data) (fun a b c h1 h2 => ?_) (fun a b => ?_) p
  · have nd' : (sortT p).Pairwise fun a b => a.1 ≠ b.1 := by
      have : ((sortT p).map (·.1)).Nodup := ((sortT_perm p).map _).nodup_iff.mpr nd
      exact List.pairwise_map.mp this
    refine (List.Pairwise.and q nd').imp fun {a b} ⟨h, ne⟩ => ?_
    rw [le_terms, Bool.not_eq_true'] at h
    exact (ltK_term ne).mp (ltK_tot (al_term b a) (fun z => ne (congrArg (·.1) (termK_inj z)).symm) h)
  · rw [le_terms, Bool.not_eq_true'] at h1 h2 ⊢
    exact not_ltT_trans h1 h2
  · rw [le_terms, le_terms]
    cases q : ltK (termK b) (termK a) with
    | false => rfl
    | true => rw [ltK_asymm q]; rfl
structure Big (q : Poly) : Prop where
  ok : ∀ t ∈ q, OkT t ∧ t.1.length ≤ 5
  up : q.Pairwise fun a b => ltM a.1 b.1
def spMany (K : PySem.W.Frag) : Sp := fun vs H Q _ => ∃ (p l : Addr) (m : Nat), vs = [.ref p, .int m] ∧ StL H p l ∧ m ≤ 2001 ∧
  ∀ (a : Addr) (D : Poly) (G : Hp), StL G p l → Bt p H G → Big D → D.length = m → KeyV K G (polyK D) (.ref a) → Q (.ref a) G
section
variable {P : Program} {w : World} {K : PySem.W.Frag} {mg : Str → Option Value} {base : Heap} {fD : Addr} {dD : FuncData}
theorem scMany : FnScope ["state", "many", "rows", "k", "row", "pair"] ["state", "many"] (defScope sMany) := ⟨rfl, rfl, rfl, by decide +kernel, rfl, by decide +kernel, by decide +kernel⟩
theorem ok_many {f : Addr} {fd : FuncData} (F : Fun K "_law_many" "_law_many" sMany f fd) (T : ProgTxt K mg) (srt : mg "sorted" = none) (U : DrawTxt P w K mg base fD dD) :
    FnOk P w K mg base CX0 2 f fd ["state", "many"] (spMany K) := by
  refine F.ok scMany (fun vs H Q E h => ?_) (fun cdv A outer s H vs Q E hr h => ?_)
  · obtain ⟨p, l, m, rfl, _⟩ := h
    rfl
  · obtain ⟨p, l, m, rfl, hs, m5, go⟩ := h
    have h1 : Room 1 _ := hr.mono (by decide)
    refine ⟨_, (pss_cons (ps_set (i := 2) scMany.nd rfl (Or.inl rfl) (pe_lst pa_nil))
      (pss_cons (ps_for PassesOwn.never rfl (pi_range1 (by rfl) T.range (pa_cons (pv 1) pa_nil)) (pg_name (i := 3) scMany.nd rfl (Or.inl rfl)) (pss_cons (ps_set (i := 4) scMany.nd rfl (Or.inl rfl) (pe_lst (pa_cons (pe_tup (pa_cons pe_str (pa_cons (pe_op op_mod (pe_callTy call_int1 (by rfl) T.int (by decide +kernel) (pa_cons (pv 3) pa_nil)) pe_int) pa_nil))) (pa_cons (pe_tup (pa_cons pe_str (pa_cons (pe_op op_mod (pe_callTy call_int1 (by rfl) T.int (by decide +kernel) (pa_cons (pe_op op_fdiv (pv 3) pe_int) pa_nil)) pe_int) pa_nil))) (pa_cons (pe_tup (pa_cons pe_str (pa_cons (pe_op op_fdiv (pv 3) pe_int) pa_nil))) pa_nil)))))
        (pss_one (ps_expr (pe_bm PySem.F.plainAttrs_list PySem.F.slot_list_append PySem.F.type_list_append mt_append (pv 2) (pa_cons (pe_tup (pa_cons (pe_callTy call_tuple_of (by rfl) T.tuple (by decide +kernel) (pa_cons (pe_lc (own := [("pair", 5)]) (g := gName 5) (tt := tTest (tOp (rI0 fun i j => .bl (decide (j < i))) (tOp (rIxT K) (tVar 5) (tC (.int 1))) (tC (.int 0)))) (te := tVar 5) rfl scMany.nd (pi_list (pv 4)) (blkOk_by (own := [("pair", 5)]) (N := ["state", "many", "rows", "k", "row", "pair"]) (sc := defScope sMany) (by decide +kernel)) (fun _ _ _ _ _ => pg_name (i := 5) scMany.nd rfl (Or.inl rfl)) (fun _ _ _ _ _ => pts_one (pt_cmpR op_gt (pe_ix ix_tup (pv 5) pe_int (fun _ _ => rfl)) pe_int (nomark _))) (fun _ _ _ _ _ => pv 5)) pa_nil)) (pa_cons (pe_op op_add pe_int (pe_call U.ok h1 rfl U.g U.k U.b .nil pass0 (pa_cons (pv 0) (pa_cons pe_int pa_nil)))) pa_nil))) pa_nil))))))
      (pss_one (ps_ret (pe_callTy (show CallR _ (.type "tuple") (rTupOf K) from call_tuple_of) (by rfl) T.tuple (by decide +kernel) (pa_cons (pe_callB (show CallR _ (.builtin "sorted") (rSortT K termK) from cr_sortT hr.units al_term (fun b => ⟨_, rfl⟩) (fun b => Nat.le_trans (dep_term b) (by decide))) (by rfl) srt (by decide +kernel) (pa_cons (pv 2) pa_nil)) pa_nil)))))), ?_⟩
    refine ⟨by decide, fun L nL => ?_⟩
    obtain ⟨Lp, Ll⟩ := hs.ne nL
    have s1 := hs.up (o := .lst []) nL
    have b1 : Bt p H (upd H L (.lst [])) := Bt.new nL
    have e1 : upd H L (.lst []) L = some (.lst []) := upd_same
    generalize upd H L (.lst []) = G1 at s1 b1 e1 ⊢
    refine ⟨_, rfl, _, rfl, by omega, by omega, ?_⟩
    rw [Int.toNat_natCast]
    refine for_it (walk_range (lo := 0) (n := m)) (fun i σ G => ∃ (u3 u4 : Option V) (acc : Poly) (vs : List V), σ = [some (.ref p), some (.int (m : Int)), some (.ref L), u3, u4, none] ∧ StL G p l ∧ Bt p H G ∧ G L = some (.lst vs) ∧ KeyVs K G (acc.map termK) vs ∧ acc.map (·.1) = (List.range i).map rowN ∧ ∀ t ∈ acc, t.2 = 1 ∨ t.2 = 2)
      ⟨none, none, [], [], rfl, s1, b1, e1, .nil, rfl, fun t ht => (by cases ht)⟩ (fun _ _ _ _ _ => trivial) (fun i v σ G G' hi ⟨u3, u4, acc, vs, hσ, sG, bG, hL, kv, em, c12⟩ ⟨e, ev⟩ => ?_) (fun σ G ⟨u3, u4, acc, vs, hσ, sG, bG, hL, kv, em, c12⟩ => ?_)
    · subst hσ e ev
      show gName 3 (.int (0 + (i : Int))) _ _ _
      rw [Int.zero_add]
      have i2 : i < 2197 := by omega
      have la : acc.length = i := by
        have := congrArg List.length em
        rw [List.length_map, List.length_map, List.length_range] at this
        exact this
      refine ⟨_, rfl, .inl ⟨_, rfl, _, _, rfl, rfl, (by show (0 : Int) < 13; decide), by show 2 ≤ sizeLine; decide, fun a na => ?_⟩⟩
      refine ⟨_, rfl, _, _, rfl, rfl, ⟨by decide, by decide⟩, .inl ⟨_, rfl, _, _, rfl, rfl, (by show (0 : Int) < 13; decide), by show 2 ≤ sizeLine; decide, fun b nb => ?_⟩⟩
      refine ⟨_, rfl, _, _, rfl, rfl, ⟨by decide, by decide⟩, by show 2 ≤ sizeLine; decide, fun c nc => ?_⟩
      refine ⟨by show 3 ≤ sizeLine; decide, fun R nR => ?_⟩
      obtain ⟨facs, hf⟩ : ∃ f : Mon, f = [(("x_a" : Str), (i : Int) % 13), ("y_a", ((i : Int) / 13) % 13), ("y_b", (i : Int) / 169)] := ⟨_, rfl⟩
      have sa := same_new (o := .tup [.str "x_a", .int ((i : Int) % 13)]) na
      have sb := same_new (o := .tup [.str "y_a", .int (((i : Int) / 13) % 13)]) nb
      have sc := same_new (o := .tup [.str "y_b", .int ((i : Int) / 169)]) nc
      have sR := same_new (o := .lst [.ref a, .ref b, .ref c]) nR
      have s5 := ((sa.trans sb).trans sc).trans sR
      have ha := (sb.trans (sc.trans sR)) a _ upd_same
      have hb := (sc.trans sR) b _ upd_same
      have hc := sR c _ upd_same
      have hR : upd (upd (upd (upd G' a (.tup [.str "x_a", .int ((i : Int) % 13)])) b (.tup [.str "y_a", .int (((i : Int) / 13) % 13)])) c (.tup [.str "y_b", .int ((i : Int) / 169)])) R (.lst [.ref a, .ref b, .ref c]) R = some (.lst [.ref a, .ref b, .ref c]) := upd_same
      generalize upd (upd (upd (upd G' a (.tup [.str "x_a", .int ((i : Int) % 13)])) b (.tup [.str "y_a", .int (((i : Int) / 13) % 13)])) c (.tup [.str "y_b", .int ((i : Int) / 169)])) R (.lst [.ref a, .ref b, .ref c]) = G5 at s5 ha hb hc hR ⊢
      have kf : KeyVs K G5 (facs.map facK) [.ref a, .ref b, .ref c] := by
        rw [hf]
        exact .cons (kv_fac.mpr ⟨a, rfl, ha⟩) (.cons (kv_fac.mpr ⟨b, rfl, hb⟩) (.cons (kv_fac.mpr ⟨c, rfl, hc⟩) .nil))
      clear na nb nc nR sa sb sc sR ha hb hc
      have hL5 := s5 _ _ hL
      have sG5 := sG.same s5
      have b5 := bG.trans (Bt.same s5)
      have kv5 := KeyVs.up (same_tups (K := K) s5) _ _ kv
      have l3 : facs.length = 3 := by rw [hf]; rfl
      refine ⟨_, rfl, .inl ⟨rfl, _, SqL.of hL5⟩, _, rfl, R, rfl, ⟨_, SqL.of hR⟩, fun D nD => ?_⟩
      refine lc_it (walk_list (K := K) (a := R) (xs := [.ref a, .ref b, .ref c])) (fun j F => Same G5 F ∧ ∃ ys, F D = some (.lst ys) ∧ KeyVs K F (((facs.take j).filter posF).map facK) ys) ⟨same_new nD, [], upd_same, .nil⟩ (fun j F _ h => h.1.seq (SqL.of hR)) (fun j v F F' hj ⟨sF, ys, hD, ky⟩ ⟨e, hv⟩ => ?_) (fun F ⟨sF, ys, hD, ky⟩ => ?_)
      · subst e
        obtain ⟨k, hk, kx⟩ := keyVs_get (KeyVs.up (same_tups (K := K) sF) _ _ kf) hv
        rw [List.getElem?_map] at hk
        obtain ⟨f, hf2, rfl⟩ := Option.map_eq_some_iff.mp hk
        obtain ⟨q, rfl, hq⟩ := kv_fac.mp kx
        have fs := filter_snoc posF hf2
        have ly := keyVs_len ky
        rw [List.length_map] at ly
        have lf := List.length_filter_le posF (facs.take j)
        rw [List.length_take] at lf
        refine ⟨rfl, _, rfl, q, _, _, _, rfl, rfl, SqT.of hq, (show atI _ ((1 : Nat) : Int) = some _ from atI_nat rfl), _, _, rfl, rfl, _, rfl, ?_⟩
        by_cases h0 : 0 < f.2
        · refine ifY (decide_eq_true h0) ⟨_, rfl, ys, hD, by rw [ly, sizeLine_eq]; omega, fun b o e => (upd_ne (ne_of_none e nD)).trans (sF b o e), _, upd_same, ?_⟩
          rw [fs, if_pos (show posF f = true from decide_eq_true h0), List.map_append]
          have t5 := tups_lst (K := K) (o := .lst (ys ++ [.ref q])) hD
          exact keyVs_app (KeyVs.up t5 _ _ ky) (.cons (KeyV.up t5 _ _ kx) .nil)
        · refine ifN (decide_eq_false h0) ⟨sF, ys, hD, ?_⟩
          rw [fs, if_neg (by rw [show posF f = false from decide_eq_false h0]; exact Bool.false_ne_true), List.append_nil]
          exact ky
      · rw [List.take_of_length_le (by rw [l3]; exact Nat.le_refl _), show facs.filter posF = rowN i from by rw [hf]; rfl] at ky
        have can := rowN_can i2
        refine ⟨D, _, rfl, .inl ⟨SqL.of hD, fun T1 nT => ?_⟩⟩
        have sT : Same F (upd F T1 (.tup ys)) := same_new nT
        have hT : upd F T1 (.tup ys) T1 = some (.tup ys) := upd_same
        have sF2 := sF.trans sT
        generalize upd F T1 (.tup ys) = F2 at sT hT sF2 ⊢
        have km : KeyV K F2 (monK (rowN i)) (.ref T1) := kv_mon.mpr ⟨T1, ys, rfl, hT, KeyVs.up (same_tups (K := K) sT) _ _ ky⟩
        have sG6 := sG5.same sF2
        refine ⟨_, rfl, p, l, 2, rfl, sG6, by decide, by decide, fun z F3 z0 z1 sG7 b7 => ⟨_, _, rfl, rfl, by show 2 ≤ sizeLine; decide, fun q nq => ?_⟩⟩
        have s8 : Same F3 (upd F3 q (.tup [.ref T1, .int (1 + z)])) := same_new nq
        have hq : upd F3 q (.tup [.ref T1, .int (1 + z)]) q = some (.tup [.ref T1, .int (1 + z)]) := upd_same
        generalize upd F3 q (.tup [.ref T1, .int (1 + z)]) = F4 at s8 hq ⊢
        have b8 := b7.trans (Bt.same s8)
        have hL8 := b8 _ _ Lp (sF2 _ _ hL5)
        have sG8 := sG7.same s8
        have t8 := b8.tups (K := K) sG6
        have kv8 := KeyVs.up t8 _ _ (KeyVs.up (same_tups (K := K) sF2) _ _ kv5)
        have km8 := KeyV.up t8 _ _ km
        have lv := keyVs_len kv8
        rw [List.length_map, la] at lv
        have t9 := tups_lst (K := K) (o := .lst (vs ++ [.ref q])) hL8
        refine ⟨L, _, _, rfl, rfl, hL8, by rw [lv, sizeLine_eq]; omega, ?_⟩
        refine ⟨_, _, acc ++ [(rowN i, 1 + z)], vs ++ [.ref q], rfl, sG8.set Lp Ll, (b5.trans ((Bt.same sF2).trans b8)).set nL, upd_same, ?_, ?_, fun t ht => ?_⟩
        · rw [List.map_append]
          exact keyVs_app (KeyVs.up t9 _ _ kv8) (.cons (KeyV.up t9 _ _ (kv_term.mpr ⟨q, .ref T1, rfl, hq, km8⟩)) .nil)
        · rw [List.map_append, em, List.range_succ, List.map_append]
          rfl
        · rcases List.mem_append.mp ht with ht | ht
          · exact c12 t ht
          · rw [List.mem_singleton.mp ht]
            show 1 + z = 1 ∨ 1 + z = 2
            omega
    · subst hσ
      have la : acc.length = m := by
        have := congrArg List.length em
        rw [List.length_map, List.length_map, List.length_range] at this
        exact this
      have nd : KeyND acc := by
        show (acc.map (·.1)).Nodup
        rw [em]
        show ((List.range m).map rowN).Pairwise (· ≠ ·)
        rw [List.pairwise_map]
        exact (List.nodup_range (n := m)).imp fun {a b} h e => h (rowN_inj e)
      have okA : ∀ t ∈ acc, OkT t ∧ t.1.length ≤ 5 := fun t ht => by
        have h1 : t.1 ∈ (List.range m).map rowN := by rw [← em]; exact List.mem_map.mpr ⟨t, ht, rfl⟩
        obtain ⟨k, hk, e⟩ := List.mem_map.mp h1
        have km := List.mem_range.mp hk
        obtain ⟨c1, c2⟩ := rowN_can (k := k) (by omega)
        rw [e] at c1 c2
        refine ⟨⟨c1, ?_, ?_⟩, by omega⟩
        · rcases c12 t ht with q | q <;> rw [q] <;> decide
        · rcases c12 t ht with q | q <;> rw [q] <;> decide +kernel
      refine ⟨_, rfl, acc, L, vs, rfl, SqL.of hL, kv, fun zs q kz nq => ?_⟩
      have sq : Same G (upd G q (.lst zs)) := same_new nq
      have hq : upd G q (.lst zs) q = some (.lst zs) := upd_same
      generalize upd G q (.lst zs) = G5 at sq hq kz ⊢
      refine ⟨q, zs, rfl, .inl ⟨SqL.of hq, fun T1 nT => ?_⟩⟩
      have sT : Same G5 (upd G5 T1 (.tup zs)) := same_new nT
      have s9 := sq.trans sT
      have pm := sortT_perm acc
      refine go T1 (sortT acc) _ (sG.same s9) (bG.trans (Bt.same s9)) ⟨fun t ht => okA t (pm.mem_iff.mp ht), sortT_up nd⟩ (by rw [pm.length_eq, la]) (kv_poly.mpr ⟨T1, zs, rfl, upd_same, KeyVs.up (same_tups (K := K) s9) _ _ kz⟩)
end
end K6

set_option Elab.async false
set_option linter.all false
set_option maxRecDepth 100000
set_option maxHeartbeats 8000000
set_option autoImplicit false
set_option pp.maxSteps 600
/-! The law itself. -/
namespace K6
open PySem L2 TL K1D
abbrev sLaw : Stmt := top 41
def spLaw (K : PySem.W.Frag) : Sp := fun vs H Q _ => ∃ (a : Addr) (ns : List Int), vs = [.ref a] ∧ SqL K H a (ns.map V.int) ∧ ns.length ≤ 1000 ∧ ∀ H', Q (.bl true) H'
structure LawFns (P : Program) (w : World) (K : PySem.W.Frag) (mg : Str → Option Value) (base : Heap) (C fA fN fP fT fW fR fS fC fI fU fG fK fY : Addr) (dA dN dP dT dW dR dS dC dI dU dG dK dY : FuncData) : Prop where
  okA : FnOk P w K mg base CX0 1 fA dA ["script"] (spStart K)
  bA : Binds K dA ["script"] []
  gA : mg "_law_start" = some (.ref fA)
  kA : PySem.W.keepIn K (.ref fA) = true
  okN : FnOk P w K mg base CX0 3 fN dN ["state", "many"] spUnk
  bN : Binds K dN ["state", "many"] []
  gN : mg "_law_unknowns" = some (.ref fN)
  kN : PySem.W.keepIn K (.ref fN) = true
  okP : FnOk P w K mg base CX0 3 fP dP ["state", "names", "many"] (spLPoly K)
  bP : Binds K dP ["state", "names", "many"] []
  gP : mg "_law_poly" = some (.ref fP)
  kP : PySem.W.keepIn K (.ref fP) = true
  okT : FnOk P w K mg base CX0 1 fT dT ["poly"] (spLText K)
  bT : Binds K dT ["poly"] []
  gT : mg "_law_text" = some (.ref fT)
  kT : PySem.W.keepIn K (.ref fT) = true
  okW : FnOk P w K mg base CX0 2 fW dW ["p"] (spPText K)
  bW : Binds K dW ["p"] []
  cW : KBn K dW ["p"] 0 ["p"] (fun _ ws => ws) (fun _ zs => zs)
  gW : mg "poly_text" = some (.ref fW)
  kW : PySem.W.keepIn K (.ref fW) = true
  okR : FnOk P w K mg base (L2N.CX P w) 5 fR dR ["text"] (spRPoly K C)
  bR : Binds K dR ["text"] []
  cR : KBn K dR ["text"] 0 ["text"] (fun _ ws => ws) (fun _ zs => zs)
  gR : mg "read_poly" = some (.ref fR)
  kR : PySem.W.keepIn K (.ref fR) = true
  okS : FnOk P w K mg base CX0 6 fS dS ["actual", "due"] (spSame 5)
  bS : Binds K dS ["actual", "due"] []
  gS : mg "_law_same" = some (.ref fS)
  kS : PySem.W.keepIn K (.ref fS) = true
  okC : FnOk P w K mg base CX0 2 fC dC ["state", "text"] spChg
  bC : Binds K dC ["state", "text"] []
  gC : mg "_law_changed_text" = some (.ref fC)
  kC : PySem.W.keepIn K (.ref fC) = true
  okI : FnOk P w K mg base CX0 7 fI dI ["text"] spIsRead
  bI : Binds K dI ["text"] []
  gI : mg "_law_is_read" = some (.ref fI)
  kI : PySem.W.keepIn K (.ref fI) = true
  okU : FnOk P w K mg base CX0 2 fU dU ["state", "poly"] (spTurned K)
  bU : Binds K dU ["state", "poly"] []
  gU : mg "_law_turned" = some (.ref fU)
  kU : PySem.W.keepIn K (.ref fU) = true
  okG : FnOk P w K mg base CX0 2 fG dG ["state", "names"] (spGreat K)
  bG : Binds K dG ["state", "names"] []
  gG : mg "_law_great" = some (.ref fG)
  kG : PySem.W.keepIn K (.ref fG) = true
  okK : FnOk P w K mg base CX0 6 fK dK ["text"] (spAsked K)
  bK : Binds K dK ["text"] []
  gK : mg "_law_asked" = some (.ref fK)
  kK : PySem.W.keepIn K (.ref fK) = true
  okY : FnOk P w K mg base CX0 2 fY dY ["state", "many"] (spMany K)
  bY : Binds K dY ["state", "many"] []
  gY : mg "_law_many" = some (.ref fY)
  kY : PySem.W.keepIn K (.ref fY) = true
theorem kw0 {X : Cx} {E : L2.St → XK} : ∀ (pins : List (Addr × Obj)) (σ : L2.St) (H : Hp) (s : Shared) (e : Value) (s' : Shared), Inv X pins σ H s → CX0 X.stack H s (E σ) e s' → X.xe e s' := fun _ _ _ _ _ _ _ h => h.elim
theorem Alike.succ {H : Hp} {n : Nat} {x y : V} (h : Alike H n x y) : Alike H (n + 1) x y := by
  induction h with
  | non n => exact .non _
  | int n i => exact .int _ i
  | str n x => exact .str _ x
  | tup hp hq l s _ ih => exact .tup hp hq l s ih
theorem StL.ne_lst {H : Hp} {p l L : Addr} {xs : List V} (h : StL H p l) (hL : H L = some (.lst xs)) : L ≠ p := fun z => by
  obtain ⟨ns, a, v, f, m, n, s, h1, _⟩ := h
  rw [z, h1] at hL
  cases hL
theorem StL.ne_tup {H : Hp} {p l L : Addr} {xs : List V} (h : StL H p l) (hL : H L = some (.tup xs)) : L ≠ p := fun z => by
  obtain ⟨ns, a, v, f, m, n, s, h1, _⟩ := h
  rw [z, h1] at hL
  cases hL
theorem many_at {d : Int} (d0 : 0 ≤ d) (d1 : d < 12) {j : Nat} (h : j < 5) : ∃ e : Nat, ([.int (1 + d), .int 0, .int 1, .int 4, .int 30] : List V)[j]? = some (.int e) ∧ e ≤ 30 := by
  match j, h with
  | 0, _ => exact ⟨(1 + d).toNat, by rw [Int.toNat_of_nonneg (by omega)]; rfl, by omega⟩
  | 1, _ => exact ⟨0, rfl, by decide⟩
  | 2, _ => exact ⟨1, rfl, by decide⟩
  | 3, _ => exact ⟨4, rfl, by decide⟩
  | 4, _ => exact ⟨30, rfl, by decide⟩
theorem Drawn.can {D : Poly} (h : Drawn D) (l : D.length ≤ 30) : CanP D := ⟨fun t ht => (h.ok t ht).1, h.up, by omega⟩
theorem rPoly_big {p : Poly} (ok : ∀ t ∈ p, OkT t) (l : p.length = 2001) : rPoly (pText p) = none := by
  have ne : p ≠ [] := fun e => by rw [e] at l; simp at l
  unfold rPoly
  rw [if_neg (pText_ne0 ok ne), split_pText ok ne, signed_pWords ok ne, if_pos]
  have := flat_len p
  omega
/-- the polynomial that stands at a -/
structure Cur (K : PySem.W.Frag) (H G : Hp) (p l a : Addr) (D : Poly) : Prop where
  st : StL G p l
  bt : Bt p H G
  ka : KeyV K G (polyK D) (.ref a)
theorem Cur.step {K : PySem.W.Frag} {H G F : Hp} {p l a : Addr} {D : Poly} (h : Cur K H G p l a D) (s : StL F p l) (b : Bt p G F) : Cur K H F p l a D := ⟨s, h.bt.trans b, KeyV.up (b.tups h.st) _ _ h.ka⟩
theorem Cur.same {K : PySem.W.Frag} {H G F : Hp} {p l a : Addr} {D : Poly} (h : Cur K H G p l a D) (s : Same G F) : Cur K H F p l a D := h.step (h.st.same s) (Bt.same s)
section
variable {P : Program} {w : World} {K : PySem.W.Frag} {mg : Str → Option Value} {base : Heap} {C fD fA fN fP fT fW fR fS fC fI fU fG fK fY : Addr} {dD dA dN dP dT dW dR dS dC dI dU dG dK dY : FuncData}
theorem scLaw : FnScope ["script", "state", "names", "many", "turn", "poly", "text", "k", "texts", "none", "most"] ["script"] (defScope sLaw) := ⟨rfl, rfl, rfl, by decide +kernel, rfl, by decide +kernel, by decide +kernel⟩
theorem ok_law {f : Addr} {fd : FuncData} (F : Fun K "law" "law" sLaw f fd) (T : ProgTxt K mg) (U : DrawTxt P w K mg base fD dD) (M : LawFns P w K mg base C fA fN fP fT fW fR fS fC fI fU fG fK fY dA dN dP dT dW dR dS dC dI dU dG dK dY) :
    FnOk P w K mg base CX0 8 f fd ["script"] (spLaw K) := by
  refine F.ok scLaw (fun vs H Q E h => ?_) (fun cdv A outer s H vs Q E hr h => ?_)
  · obtain ⟨a, ns, rfl, _⟩ := h
    rfl
  · obtain ⟨s0, ns, rfl, hS, hl, go⟩ := h
    have h1 : Room 1 _ := hr.mono (by decide)
    have h2 : Room 2 _ := hr.mono (by decide)
    have h3 : Room 3 _ := hr.mono (by decide)
    have h5 : Room 5 _ := hr.mono (by decide)
    have h6 : Room 6 _ := hr.mono (by decide)
    refine ⟨_, (pss_cons (ps_set (i := 1) scLaw.nd rfl (Or.inl rfl) (pe_call M.okA h1 rfl M.gA M.kA M.bA .nil pass0 (pa_cons (pv 0) pa_nil))) (pss_cons (ps_set (i := 2) scLaw.nd rfl (Or.inl rfl) (pe_call M.okN h3 rfl M.gN M.kN M.bN .nil pass0 (pa_cons (pv 1) (pa_cons (pe_op op_add pe_int (pe_call U.ok h1 rfl U.g U.k U.b .nil pass0 (pa_cons (pv 1) (pa_cons pe_int pa_nil)))) pa_nil)))) (pss_cons (ps_set (i := 3) scLaw.nd rfl (Or.inl rfl) (pe_ix ix_tup (pe_tup (pa_cons (pe_op op_add pe_int (pe_call U.ok h1 rfl U.g U.k U.b .nil pass0 (pa_cons (pv 1) (pa_cons pe_int pa_nil)))) (pa_cons pe_int (pa_cons pe_int (pa_cons pe_int (pa_cons pe_int pa_nil)))))) (pe_call U.ok h1 rfl U.g U.k U.b .nil pass0 (pa_cons (pv 1) (pa_cons pe_int pa_nil))) (fun _ _ => rfl))) (C8.pss_cut (ps_for PassesOwn.never rfl (pi_range1 (by rfl) T.range (pa_cons pe_int pa_nil)) (pg_name (i := 4) scLaw.nd rfl (Or.inl rfl)) (pss_cons (ps_set (i := 5) scLaw.nd rfl (Or.inl rfl) (pe_call M.okP h3 rfl M.gP M.kP M.bP .nil pass0 (pa_cons (pv 1) (pa_cons (pv 2) (pa_cons (pv 3) pa_nil))))) (pss_cons (ps_set (i := 6) scLaw.nd rfl (Or.inl rfl) (pe_call M.okT h1 rfl M.gT M.kT M.bT .nil pass0 (pa_cons (pv 5) pa_nil))) (C8.pss_cut (ps_if (PW.pt (pw_or (pt_not (pt_val (pe_call M.okS h6 rfl M.gS M.kS M.bS .nil pass0 (pa_cons (pe_call M.okW h2 rfl M.gW M.kW M.bW .nil pass0 (pa_cons (pv 5) pa_nil)) (pa_cons (pv 6) pa_nil))))) (pw_or1 (pt_not (pt_val (pe_call M.okS h6 rfl M.gS M.kS M.bS .nil pass0 (pa_cons (pe_callS M.okR h5 rfl M.gR M.kR M.bR (fun σ => L2N.passAt takes0N σ) (pa_cons (pv 6) pa_nil)) (pa_cons (pv 5) pa_nil)))))))) (pss_one (ps_ret pe_bl)) pss_nil) (C8.pss_cut (ps_if (PW.pt (pw_or (pt_not (pt_val (pe_call M.okS h6 rfl M.gS M.kS M.bS .nil pass0 (pa_cons (pe_kw (E := fun _ => E0) (ks := ["p"]) M.okW h2 rfl M.gW M.kW M.cW kw0 (pk_cons (pv 5) pk_nil)) (pa_cons (pv 6) pa_nil))))) (pw_or1 (pt_not (pt_val (pe_call M.okS h6 rfl M.gS M.kS M.bS .nil pass0 (pa_cons (pe_kw (E := WE fun _ _ _ _ => False) (ks := ["text"]) M.okR h5 rfl M.gR M.kR M.cR (fun pn σ => L2N.passAt takes0N σ pn) (pk_cons (pv 6) pk_nil)) (pa_cons (pv 5) pa_nil)))))))) (pss_one (ps_ret pe_bl)) pss_nil) (C8.pss_cut (ps_for PassesOwn.never rfl (pi_range1 (by rfl) T.range (pa_cons pe_int pa_nil)) (pg_name (i := 7) scLaw.nd rfl (Or.inl rfl)) (pss_one (ps_if (pt_not (pt_val (pe_call M.okI hr rfl M.gI M.kI M.bI .nil pass0 (pa_cons (pe_call M.okC h2 rfl M.gC M.kC M.bC .nil pass0 (pa_cons (pv 1) (pa_cons (pv 6) pa_nil))) pa_nil)))) (pss_one (ps_ret pe_bl)) pss_nil))) (pss_cons (ps_set (i := 8) scLaw.nd rfl (Or.inl rfl) (pe_call M.okU h2 rfl M.gU M.kU M.bU .nil pass0 (pa_cons (pv 1) (pa_cons (pv 5) pa_nil)))) (pss_one (ps_for PassesOwn.never rfl (pi_range1 (by rfl) T.range (pa_cons pe_int pa_nil)) (pg_name (i := 7) scLaw.nd rfl (Or.inl rfl)) (pss_one (ps_if (pt_not (pt_val (pe_call M.okI hr rfl M.gI M.kI M.bI .nil pass0 (pa_cons (pe_ix ix_list (pv 8) (pe_call U.ok h1 rfl U.g U.k U.b .nil pass0 (pa_cons (pv 1) (pa_cons (pe_callB call_len_seq (by rfl) T.len PySem.boot_len (pa_cons (pv 8) pa_nil)) pa_nil))) (fun _ _ => rfl)) pa_nil)))) (pss_one (ps_ret pe_bl)) pss_nil))))))))))) (pss_cons (ps_set (i := 8) scLaw.nd rfl (Or.inl rfl) (pe_call M.okG h2 rfl M.gG M.kG M.bG .nil pass0 (pa_cons (pv 1) (pa_cons (pv 2) pa_nil)))) (C8.pss_cut (ps_for PassesOwn.never rfl (pi_range1 (by rfl) T.range (pa_cons pe_int pa_nil)) (pg_name (i := 7) scLaw.nd rfl (Or.inl rfl)) (pss_one (ps_if (pt_not (pt_val (pe_call M.okI hr rfl M.gI M.kI M.bI .nil pass0 (pa_cons (pe_ix ix_list (pv 8) (pe_call U.ok h1 rfl U.g U.k U.b .nil pass0 (pa_cons (pv 1) (pa_cons (pe_callB call_len_seq (by rfl) T.len PySem.boot_len (pa_cons (pv 8) pa_nil)) pa_nil))) (fun _ _ => rfl)) pa_nil)))) (pss_one (ps_ret pe_bl)) pss_nil))) (C8.pss_cut (ps_for PassesOwn.never rfl (pi_tup (pe_tup (pa_cons pe_non (pa_cons pe_int (pa_cons pe_bl (pa_cons (pe_lst (pa_cons (pv 6) pa_nil)) (pa_cons (pe_tup (pa_cons (pv 6) pa_nil)) (pa_cons (pe_tup pa_nil) (pa_cons (pv 5) pa_nil))))))))) (pg_name (i := 9) scLaw.nd rfl (Or.inl rfl)) (pss_one (ps_if (pt_not (pt_val (pe_call M.okS h6 rfl M.gS M.kS M.bS .nil pass0 (pa_cons (pe_call M.okK h6 rfl M.gK M.kK M.bK .nil pass0 (pa_cons (pv 9) pa_nil)) (pa_cons (pe_tup (pa_cons pe_str (pa_cons pe_int pa_nil))) pa_nil))))) (pss_one (ps_ret pe_bl)) pss_nil))) (pss_cons (ps_if (pt_cmpR op_gt (pe_call U.ok h1 rfl U.g U.k U.b .nil pass0 (pa_cons (pv 1) (pa_cons pe_int pa_nil))) pe_int (nomark _)) (pss_one (ps_ret pe_bl)) pss_nil) (pss_cons (ps_set (i := 10) scLaw.nd rfl (Or.inl rfl) (pe_call M.okY h2 rfl M.gY M.kY M.bY .nil pass0 (pa_cons (pv 1) (pa_cons pe_int pa_nil)))) (pss_cons (ps_if (pt_not (pt_val (pe_call M.okS h6 rfl M.gS M.kS M.bS .nil pass0 (pa_cons (pe_callS M.okR h5 rfl M.gR M.kR M.bR (fun σ => L2N.passAt takes0N σ) (pa_cons (pe_call M.okT h1 rfl M.gT M.kT M.bT .nil pass0 (pa_cons (pv 10) pa_nil)) pa_nil)) (pa_cons (pv 10) pa_nil))))) (pss_one (ps_ret pe_bl)) pss_nil) (pss_one (ps_ret (pe_call M.okS h6 rfl M.gS M.kS M.bS .nil pass0 (pa_cons (pe_call M.okK h6 rfl M.gK M.kK M.bK .nil pass0 (pa_cons (pe_call M.okT h1 rfl M.gT M.kT M.bT .nil pass0 (pa_cons (pe_call M.okY h2 rfl M.gY M.kY M.bY .nil pass0 (pa_cons (pv 1) (pa_cons pe_int pa_nil))) pa_nil)) pa_nil)) (pa_cons (pe_tup (pa_cons pe_str (pa_cons pe_int pa_nil))) pa_nil))))))))))))))), ?_⟩
    refine ⟨_, rfl, s0, ns, rfl, hS, hl, fun p l G1 s1 st1 => ?_⟩
    refine ⟨_, rfl, _, rfl, p, l, 5, rfl, st1, by decide, by decide, fun z G2 z0 z1 st2 b2 => ⟨_, _, rfl, rfl, ?_⟩⟩
    obtain ⟨n5, rfl⟩ : ∃ n : Nat, z = n := ⟨z.toNat, by omega⟩
    refine ⟨p, l, 1 + n5, rfl, st2, by omega, fun q us G3 st3 b3 qp hq lu vu uu => ?_⟩
    refine ⟨_, rfl, p, l, 12, rfl, st3, by decide, by decide, fun e F3 e0 e1 sF3 bF3 => ⟨_, _, rfl, rfl, by show 5 ≤ sizeLine; decide, fun t nt => ?_⟩⟩
    have sF4 := sF3.up (o := .tup [.int (1 + e), .int 0, .int 1, .int 4, .int 30]) nt
    have ht4 : upd F3 t (.tup [.int (1 + e), .int 0, .int 1, .int 4, .int 30]) t = some (.tup [.int (1 + e), .int 0, .int 1, .int 4, .int 30]) := upd_same
    have bF4 : Bt p F3 (upd F3 t (.tup [.int (1 + e), .int 0, .int 1, .int 4, .int 30])) := Bt.new nt
    have tp := (sF3.ne nt).1
    generalize upd F3 t (.tup [.int (1 + e), .int 0, .int 1, .int 4, .int 30]) = F4 at sF4 ht4 bF4 ⊢
    refine ⟨_, rfl, p, l, 5, rfl, sF4, by decide, by decide, fun y F5 y0 y1 sF5 bF5 => ?_⟩
    obtain ⟨yn, rfl⟩ : ∃ yn : Nat, y = yn := ⟨y.toNat, by omega⟩
    obtain ⟨m, hm, m30⟩ := many_at e0 e1 (j := yn) (by omega)
    refine ⟨t, _, _, _, rfl, rfl, SqT.of (bF5 _ _ tp ht4), atI_nat hm, ?_⟩
    have hq5 := ((bF3.trans bF4).trans bF5) _ _ qp hq
    have u0 : 0 < us.length := by omega
    have u5 : us.length ≤ 5 := by omega
    clear hq ht4 tp hm bF3 bF4 bF5 sF3 sF4 nt st3 b3 st2 b2 st1 s1 e0 e1 y0 y1 z0 z1
    clear F3 F4 G3 G2 G1 t
    have u6 : ∀ x ∈ us, x.length ≤ 6 := fun x hx => by rw [len_tl x]; exact (var_signs (vu x hx)).2.2.2
    refine ⟨fun σ G => ∃ (u4 u7 u8 : Option V) (a : Addr) (D : Poly), σ = [some (.ref s0), some (.ref p), some (.ref q), some (.int (m : Int)), u4, some (.ref a), some (.str (pText D)), u7, u8, none, none] ∧ Cur K F5 G p l a D ∧ (pText D).length ≤ 100000, ?_, ?_⟩
    · refine ⟨2, rfl, by decide, by decide, for_range (lo := 0) (n := 2) (fun i σ G => ∃ u4 u5 u6 u7 u8 : Option V, σ = [some (.ref s0), some (.ref p), some (.ref q), some (.int (m : Int)), u4, u5, u6, u7, u8, none, none] ∧ StL G p l ∧ Bt p F5 G ∧ (0 < i → ∃ (a : Addr) (D : Poly), u5 = some (.ref a) ∧ u6 = some (.str (pText D)) ∧ KeyV K G (polyK D) (.ref a) ∧ (pText D).length ≤ 100000))
        ⟨_, _, _, _, _, rfl, sF5, Bt.refl, fun h => absurd h (Nat.lt_irrefl 0)⟩ (fun i σ G hi ⟨u4, u5', u6', u7, u8, hσ, sG, bG, _⟩ => ?_) (fun σ G ⟨u4, u5', u6', u7, u8, hσ, sG, bG, h⟩ => ?_)⟩
      · subst hσ
        refine ⟨_, rfl, _, rfl, _, rfl, p, l, q, us, m, rfl, sG, bG _ _ qp hq5, qp, u5, vu, uu, m30, fun a D G2 s2 b2 dr d30 ka => ?_⟩
        have C2 : Cur K F5 G2 p l a D := ⟨s2, bG.trans b2, ka⟩
        have can := dr.can d30
        have er := rPoly_text can
        have wt : ∀ t ∈ D, WT t := fun t ht => (dr.ok t ht).1.wt (by have := (dr.ok t ht).2; omega)
        have ow : ∀ t ∈ D, OkT t ∧ WT t := fun t ht => ⟨(dr.ok t ht).1, wt t ht⟩
        have ws : ∀ t ∈ D, WS t := fun t ht => (wt t ht).ws
        have sz := szP_wt wt
        have tl0 := pText_sz D
        have rl : ∀ t ∈ D, t.1.length ≤ 16000000 := fun t ht => by have := (dr.ok t ht).2; omega
        clear ka s2 b2 sG bG
        obtain ⟨a', xs, ea, hxs, kxs⟩ := kv_poly.mp C2.ka
        obtain rfl : a = a' := V.ref.inj ea
        refine ⟨_, rfl, false, a, D, xs, rfl, SqT.of hxs, kxs, ws, by omega, by omega, fun G3 s3 => ?_⟩
        have C3 := C2.same s3
        clear hxs kxs ea s3 C2
        refine ⟨fun σ G => σ = [some (.ref s0), some (.ref p), some (.ref q), some (.int (m : Int)), some (.int (0 + (i : Int))), some (.ref a), some (.str (pText D)), u7, u8, none, none] ∧ Cur K F5 G p l a D, ?_, ?_⟩
        · refine ⟨_, rfl, a, D, rfl, C3.ka, ow, by omega, fun G4 s4 => ⟨_, rfl, _, _, rfl, .str 5 _, fun G5 s5 => ⟨_, rfl, ifN rfl ?_⟩⟩⟩
          have C5 := C3.same (s4.trans s5)
          refine ⟨_, rfl, _, rfl, .inl ⟨_, rfl, by omega, fun D' eD b G6 s6 kb => ?_, fun en => (by rw [er] at en; cases en)⟩⟩
          rw [er] at eD
          cases eD
          have C6 := C5.same s6
          exact ⟨_, rfl, _, _, rfl, (alike_poly kb C6.ka (by omega) rl).succ, fun G7 s7 => ⟨_, rfl, ifN rfl ⟨rfl, C6.same s7⟩⟩⟩
        rintro σ G4 ⟨rfl, C4⟩
        clear C3 G3
        refine ⟨fun σ G => σ = [some (.ref s0), some (.ref p), some (.ref q), some (.int (m : Int)), some (.int (0 + (i : Int))), some (.ref a), some (.str (pText D)), u7, u8, none, none] ∧ Cur K F5 G p l a D, ?_, ?_⟩
        · refine ⟨_, rfl, rfl, a, D, rfl, C4.ka, ow, by omega, fun G4 s4 => ⟨_, rfl, _, _, rfl, .str 5 _, fun G5 s5 => ⟨_, rfl, ifN rfl ?_⟩⟩⟩
          have C5 := C4.same (s4.trans s5)
          refine ⟨_, rfl, rfl, _, rfl, .inl ⟨_, rfl, by omega, fun D' eD b G6 s6 kb => ?_, fun en => (by rw [er] at en; cases en)⟩⟩
          rw [er] at eD
          cases eD
          have C6 := C5.same s6
          exact ⟨_, rfl, _, _, rfl, (alike_poly kb C6.ka (by omega) rl).succ, fun G7 s7 => ⟨_, rfl, ifN rfl ⟨rfl, C6.same s7⟩⟩⟩
        rintro σ G5 ⟨rfl, C5⟩
        clear C4 G4
        refine ⟨fun σ G => ∃ u7 : Option V, σ = [some (.ref s0), some (.ref p), some (.ref q), some (.int (m : Int)), some (.int (0 + (i : Int))), some (.ref a), some (.str (pText D)), u7, u8, none, none] ∧ Cur K F5 G p l a D, ?_, ?_⟩
        · refine ⟨6, rfl, by decide, by decide, for_range (lo := 0) (n := 6) (fun j σ G => ∃ u7 : Option V, σ = [some (.ref s0), some (.ref p), some (.ref q), some (.int (m : Int)), some (.int (0 + (i : Int))), some (.ref a), some (.str (pText D)), u7, u8, none, none] ∧ Cur K F5 G p l a D)
            ⟨_, rfl, C5⟩ (fun j σ G hj ⟨u7, hσ, C⟩ => ?_) (fun σ G ⟨u7, hσ, C⟩ => ⟨u7, hσ, C⟩)⟩
          subst hσ
          refine ⟨_, rfl, _, rfl, p, l, _, rfl, C.st, by omega, fun x G6 s6 b6 lx => ⟨_, rfl, by omega, fun G7 s7 => ⟨_, rfl, ifN rfl ⟨_, rfl, (C.step s6 b6).same s7⟩⟩⟩⟩
        rintro σ G6 ⟨u7', rfl, C6⟩
        clear C5 G5
        refine ⟨_, rfl, _, rfl, p, l, a, D, rfl, C6.st, C6.ka, wt, d30, fun L ts G7 s7 b7 hL lts bts => ?_⟩
        have C7 := C6.step s7 b7
        have Lp := s7.ne_lst hL
        clear C6 s7 b7
        refine ⟨4, rfl, by decide, by decide, for_range (lo := 0) (n := 4) (fun j σ G => ∃ u7 : Option V, σ = [some (.ref s0), some (.ref p), some (.ref q), some (.int (m : Int)), some (.int (0 + (i : Int))), some (.ref a), some (.str (pText D)), u7, some (.ref L), none, none] ∧ Cur K F5 G p l a D ∧ G L = some (.lst (ts.map V.str)))
            ⟨_, rfl, C7, hL⟩ (fun j σ G hj ⟨u7, hσ, C, hLG⟩ => ?_) (fun σ G ⟨u7, hσ, C, hLG⟩ => ?_)⟩
        · subst hσ
          refine ⟨_, rfl, _, rfl, _, rfl, L, _, rfl, .inl (SqL.of hLG), p, l, _, rfl, C.st, by rw [List.length_map, lts]; decide, by rw [List.length_map, lts]; decide, fun z G8 z0 z1 s8 b8 => ?_⟩
          rw [List.length_map, lts] at z1
          obtain ⟨n, rfl⟩ : ∃ n : Nat, z = n := ⟨z.toNat, by omega⟩
          have ex : ts[n]? = some (ts[n]'(by omega)) := List.getElem?_eq_getElem _
          generalize ts[n]'(by omega) = x at ex
          have hL8 := b8 _ _ Lp hLG
          refine ⟨L, _, _, _, rfl, rfl, SqL.of hL8, atI_nat (v := .str x) (by rw [List.getElem?_map, ex]; rfl), _, rfl, bts x (List.mem_of_getElem? ex), fun G9 s9 => ⟨_, rfl, ifN rfl ⟨_, rfl, (C.step s8 b8).same s9, s9 _ _ hL8⟩⟩⟩
        · subst hσ
          exact ⟨_, _, _, _, _, rfl, C.st, C.bt, fun _ => ⟨a, D, rfl, rfl, C.ka, by omega⟩⟩
      · obtain ⟨a, D, rfl, rfl, ka, lD⟩ := h (by decide)
        exact ⟨u4, u7, u8, a, D, hσ, ⟨sG, bG, ka⟩, lD⟩
    rintro σ G ⟨u4, u7, u8, a, D, rfl, C, lD⟩
    clear sF5
    refine ⟨_, rfl, _, rfl, p, l, q, us, rfl, C.st, C.bt _ _ qp hq5, qp, u0, u5, u6, fun L ts G7 s7 b7 hL lts bts => ?_⟩
    have C7 := C.step s7 b7
    have Lp := s7.ne_lst hL
    clear s7 b7 C
    refine ⟨fun σ G => ∃ u7 : Option V, σ = [some (.ref s0), some (.ref p), some (.ref q), some (.int (m : Int)), u4, some (.ref a), some (.str (pText D)), u7, some (.ref L), none, none] ∧ Cur K F5 G p l a D, ?_, ?_⟩
    · refine ⟨5, rfl, by decide, by decide, for_range (lo := 0) (n := 5) (fun j σ G => ∃ u7 : Option V, σ = [some (.ref s0), some (.ref p), some (.ref q), some (.int (m : Int)), u4, some (.ref a), some (.str (pText D)), u7, some (.ref L), none, none] ∧ Cur K F5 G p l a D ∧ G L = some (.lst (ts.map V.str)))
          ⟨_, rfl, C7, hL⟩ (fun j σ G hj ⟨u7, hσ, C, hLG⟩ => ?_) (fun σ G ⟨u7, hσ, C, hLG⟩ => ⟨u7, hσ, C⟩)⟩
      subst hσ
      refine ⟨_, rfl, _, rfl, _, rfl, L, _, rfl, .inl (SqL.of hLG), p, l, _, rfl, C.st, by rw [List.length_map, lts]; decide, by rw [List.length_map, lts]; decide, fun z G8 z0 z1 s8 b8 => ?_⟩
      rw [List.length_map, lts] at z1
      obtain ⟨n, rfl⟩ : ∃ n : Nat, z = n := ⟨z.toNat, by omega⟩
      have ex : ts[n]? = some (ts[n]'(by omega)) := List.getElem?_eq_getElem _
      generalize ts[n]'(by omega) = x at ex
      have hL8 := b8 _ _ Lp hLG
      refine ⟨L, _, _, _, rfl, rfl, SqL.of hL8, atI_nat (v := .str x) (by rw [List.getElem?_map, ex]; rfl), _, rfl, bts x (List.mem_of_getElem? ex), fun G9 s9 => ⟨_, rfl, ifN rfl ⟨_, rfl, (C.step s8 b8).same s9, s9 _ _ hL8⟩⟩⟩
    rintro σ G8 ⟨u7', rfl, C8⟩
    clear C7 hL Lp
    refine ⟨fun σ G => ∃ u9 : Option V, σ = [some (.ref s0), some (.ref p), some (.ref q), some (.int (m : Int)), u4, some (.ref a), some (.str (pText D)), u7', some (.ref L), u9, none] ∧ StL G p l, ?_, ?_⟩
    · refine ⟨_, rfl, by show 1 ≤ sizeLine; decide, fun x1 n1 => ⟨_, rfl, by show 1 ≤ sizeLine; decide, fun x2 n2 => ⟨by show 0 ≤ sizeLine; decide, fun x3 n3 => ⟨_, rfl, by show 7 ≤ sizeLine; decide, fun x4 n4 => ⟨x4, rfl, ⟨_, SqT.of upd_same⟩, ?_⟩⟩⟩⟩⟩
      have e1 := same_new (o := .lst [.str (pText D)]) n1
      have e2 := same_new (o := .tup [.str (pText D)]) n2
      have e3 := same_new (o := .tup []) n3
      have e4 := same_new (o := .tup [.non, .int 5, .bl true, .ref x1, .ref x2, .ref x3, .ref a]) n4
      have f1 := ((e2.trans e3).trans e4) x1 _ upd_same
      have f2 := (e3.trans e4) x2 _ upd_same
      have f3 := e4 x3 _ upd_same
      have C9 := C8.same (((e1.trans e2).trans e3).trans e4)
      have f4 : upd (upd (upd (upd G8 x1 (.lst [.str (pText D)])) x2 (.tup [.str (pText D)])) x3 (.tup [])) x4 (.tup [.non, .int 5, .bl true, .ref x1, .ref x2, .ref x3, .ref a]) x4 = some (.tup [.non, .int 5, .bl true, .ref x1, .ref x2, .ref x3, .ref a]) := upd_same
      generalize upd (upd (upd (upd G8 x1 (.lst [.str (pText D)])) x2 (.tup [.str (pText D)])) x3 (.tup [])) x4 (.tup [.non, .int 5, .bl true, .ref x1, .ref x2, .ref x3, .ref a]) = G9 at f1 f2 f3 f4 C9 ⊢
      clear e1 e2 e3 e4 n1 n2 n3 n4 C8
      obtain ⟨a', xs, ea, hxs, _⟩ := kv_poly.mp C9.ka
      obtain rfl : a = a' := V.ref.inj ea
      refine for_it (walk_tup (K := K) (a := x4) (xs := [.non, .int 5, .bl true, .ref x1, .ref x2, .ref x3, .ref a])) (fun i σ G => ∃ u9 : Option V, σ = [some (.ref s0), some (.ref p), some (.ref q), some (.int (m : Int)), u4, some (.ref a), some (.str (pText D)), u7', some (.ref L), u9, none] ∧ Same G9 G)
        ⟨_, rfl, Same.refl _⟩ (fun i σ G _ ⟨_, _, h⟩ => SqT.of (h _ _ f4)) (fun i v σ G G' hi ⟨u9, hσ, sG⟩ ⟨e, hv⟩ => ?_) (fun σ G ⟨u9, hσ, sG⟩ => ⟨u9, hσ, C9.st.same sG⟩)
      subst hσ e
      have nv : NotStr K G' v := by
        match i, hi with
        | 0, _ => cases hv; exact ⟨_, .non, by decide +kernel⟩
        | 1, _ => cases hv; exact ⟨_, .int 5, by decide +kernel⟩
        | 2, _ => cases hv; exact ⟨_, .bl true, by decide +kernel⟩
        | 3, _ => cases hv; exact ⟨_, .lst (sG _ _ f1), by decide +kernel⟩
        | 4, _ => cases hv; exact ⟨_, .tup (sG _ _ f2), by decide +kernel⟩
        | 5, _ => cases hv; exact ⟨_, .tup (sG _ _ f3), by decide +kernel⟩
        | 6, _ => cases hv; exact ⟨_, .tup (sG _ _ hxs), by decide +kernel⟩
      refine ⟨_, rfl, _, rfl, .inr ⟨nv, fun b G1 s1 hb => ⟨by show 2 ≤ sizeLine; decide, fun r nr => ⟨_, _, rfl, alike_bad ((upd_ne (ne_of_none hb nr)).trans hb) upd_same, fun H' s' => ⟨_, rfl, ifN rfl ⟨_, rfl, sG.trans (s1.trans ((same_new nr).trans s'))⟩⟩⟩⟩⟩⟩
    rintro σ G9 ⟨u9, rfl, s9⟩
    clear C8 u7 G8
    refine ⟨_, rfl, p, l, 40, rfl, s9, by decide, by decide, fun z G1 z0 z1 s1 b1 => ⟨_, _, rfl, rfl, _, rfl, ?_⟩⟩
    refine ite2 (fun _ => go _) (fun _ => ?_)
    refine ⟨_, rfl, p, l, 2000, rfl, s1, by decide, fun b B1 G2 s2 b2 big lB kB => ?_⟩
    have wtB : ∀ {B : Poly}, Big B → ∀ t ∈ B, WT t := fun h t ht => (h.ok t ht).1.wt (by have := (h.ok t ht).2; omega)
    obtain ⟨b', xs, eb, hxs, kxs⟩ := kv_poly.mp kB
    obtain rfl : b = b' := V.ref.inj eb
    have sz := szP_wt (wtB big)
    have tl0 := pText_sz B1
    have er := rPoly_text (p := B1) ⟨fun t ht => (big.ok t ht).1, big.up, by omega⟩
    refine ⟨_, rfl, false, b, B1, xs, rfl, SqT.of hxs, kxs, fun t ht => (wtB big t ht).ws, by omega, by omega, fun G3 s3 => ?_⟩
    refine ⟨_, rfl, .inl ⟨_, rfl, by omega, fun D' eD c G4 s4 kc => ?_, fun en => (by rw [er] at en; cases en)⟩⟩
    rw [er] at eD
    cases eD
    have kb4 := KeyV.up (same_tups (K := K) (s3.trans s4)) _ _ kB
    refine ⟨_, rfl, _, _, rfl, (alike_poly kc kb4 (by omega) fun t ht => by have := (big.ok t ht).2; omega).succ, fun G5 s5 => ⟨_, rfl, ifN rfl ?_⟩⟩
    have st5 := s2.same ((s3.trans s4).trans s5)
    clear sz tl0 hxs kxs kb4 kc kB eb er
    refine ⟨_, rfl, p, l, 2001, rfl, st5, by decide, fun b2 B2 G6 s6 b6 big2 lB2 kB2 => ?_⟩
    obtain ⟨b', xs, eb, hxs, kxs⟩ := kv_poly.mp kB2
    obtain rfl : b2 = b' := V.ref.inj eb
    have sz := szP_wt (wtB big2)
    have tl0 := pText_sz B2
    have er := rPoly_big (fun t ht => (big2.ok t ht).1) lB2
    refine ⟨false, b2, B2, xs, rfl, SqT.of hxs, kxs, fun t ht => (wtB big2 t ht).ws, by omega, by omega, fun G7 s7 => ?_⟩
    refine ⟨_, rfl, .inl ⟨_, rfl, by omega, fun D' eD => (by rw [er] at eD; cases eD), fun _ c G8 s8 hc => ?_⟩⟩
    exact ⟨by show 2 ≤ sizeLine; decide, fun r nr => ⟨_, _, rfl, alike_bad ((upd_ne (ne_of_none hc nr)).trans hc) upd_same, fun H' s' => go H'⟩⟩
end
end K6

set_option Elab.async false
set_option linter.all false
set_option maxRecDepth 100000
set_option maxHeartbeats 8000000
/-! What the top has written; the end. -/
namespace K6
open PySem L2 TL
/-- an own error class over the base at B, at C -/
structure ClsFacts (K : PySem.W.Frag) (B C f : Addr) (x fld : Str) : Prop where
  gC : PySem.W.nsIn K mainGlobals x = some (some (.ref C))
  xL : ∃ nm q N bs sn sub ab col dd k0 k1 k2 k3 k5, K.lookup C = some (excClassObj nm q C N bs [.ref B, .type "Exception", .type "BaseException", .type "object"] true sn sub ab col dd k0 k1 k2 k3 k5 "Exception.__new__")
  sa : PySem.W.findIn K (.ref C) "__setattr__" = some (some (.builtin "object.__setattr__"))
  ga : PySem.W.findIn K (.ref C) "__getattribute__" = some (some (.builtin "BaseException.__getattribute__"))
  gg : PySem.W.findIn K (.ref C) "__getattr__" = some none
  nb : PySem.W.findIn K (.ref C) fld = some none
  cc : PySem.W.findIn K (.ref C) "__class__" = some (some (.builtin "object.__class__"))
  iC : PySem.W.findIn K (.ref C) "__init__" = some (some (.ref f))
  tI : PySem.W.typeIn K (.ref f) = some (.type "function")
  kC : PySem.W.keepIn K (.ref C) = true
  tC : PySem.W.typeIn K (.ref C) = some (.type "type")
section
variable {K : PySem.W.Frag} {B C f : Addr} {x fld : Str}
def line (B C : Addr) : List Value := [.ref C, .ref B, .type "Exception", .type "BaseException", .type "object"]
theorem ClsFacts.cls (T : ClsFacts K B C f x fld) : ∃ cd, PySem.W.clsIn K C = some cd ∧ cd.mro = line B C ∧ cd.hasDict = true := by
  obtain ⟨nm, q, N, bs, sn, sub, ab, col, dd, k0, k1, k2, k3, k5, h⟩ := T.xL
  refine ⟨{ name := nm, bases := bs, mro := line B C, ns := N, qualname := q, hasDict := true, slotNames := sn, subclasses := sub, abstract := ab, collection := col, hasDel := false }, ?_, rfl, rfl⟩
  unfold PySem.W.clsIn
  rw [h]
  rfl
theorem ClsFacts.sub (T : ClsFacts K B C f x fld) (v : Value) : PySem.W.subIn K (.ref C) v = some ((line B C).contains v) := by
  obtain ⟨cd, h1, h2, _⟩ := T.cls
  show PySem.W.mroIn K C v = _
  unfold PySem.W.mroIn
  rw [h1, Option.bind_some, h2]
  rfl
theorem ClsFacts.err (T : ClsFacts K B C f x fld) : ErrC K C where
  cls := by
    obtain ⟨nm, q, N, bs, sn, sub, ab, col, dd, k0, k1, k2, k3, k5, h⟩ := T.xL
    exact ⟨nm, q, N, bs, _, sn, sub, ab, col, dd, k0, k1, k2, k3, k5, h, [B], rfl⟩
  sa := T.sa
  exC := (T.sub _).trans (by rfl)
  tyC := T.tC
  kC := T.kC
theorem ClsFacts.has (T : ClsFacts K B C f x fld) : PySem.W.hasDictIn K C = true := by
  obtain ⟨cd, h1, _, h3⟩ := T.cls
  unfold PySem.W.hasDictIn
  rw [h1]
  exact h3
theorem ClsFacts.xf (T : ClsFacts K B C f x fld) : XfC K C := ⟨T.ga, T.gg, (T.sub _).trans (by rfl), T.has⟩
theorem ClsFacts.ask (T : ClsFacts K B C f x fld) (g1 : PySem.W.specialIn K (.builtin "object.__class__") "__get__" = some (some (.builtin "getset_descriptor.__get__"))) (g2 : PySem.W.takesIn K (.builtin "object.__class__") = some true) : AskC K C where
  cl := by
    obtain ⟨cd, h1, _⟩ := T.cls
    rw [h1]
    rfl
  ga := T.ga
  gg := T.gg
  exC := (T.sub _).trans (by rfl)
  cls := T.cc
  get := g1
  tak := g2
  obj := (T.sub _).trans (by rfl)
theorem ref_bne {a b : Addr} (h : a ≠ b) : (Value.ref a == Value.ref b) = false := by simp [h]
theorem kit_of_cls {D : Addr} {b : Bool} (h1 : (PySem.W.clsIn K D).isSome = true) (h2 : PySem.W.typeIn K (.ref D) = some (.type "type")) (h3 : PySem.W.subIn K (.ref C) (.ref D) = some b) (h4 : C = D → b = true) : PySem.W.kitOne K (.ref C) (.ref D) = some b := by
  unfold PySem.W.kitOne
  by_cases e : C = D
  · subst e
    rw [if_pos (by simp), h4 rfl]
  · rw [if_neg (by simp [e])]
    show (if ((PySem.W.clsIn K D).isSome && PySem.W.typeIn K (.ref D) == some (.type "type")) = true then PySem.W.subIn K (.ref C) (.ref D) else none) = _
    rw [h1, h2, if_pos (by rfl), h3]
theorem exm_of_cls {D : Addr} {b : Bool} (h0 : PySem.W.subIn K (.ref D) (.type "BaseException") = some true) (h1 : (PySem.W.clsIn K D).isSome = true) (h2 : PySem.W.typeIn K (.ref D) = some (.type "type")) (h3 : PySem.W.subIn K (.ref C) (.ref D) = some b) : PySem.W.exmOne K (.ref C) (.ref D) = some b := by
  unfold PySem.W.exmOne
  rw [h0, if_pos (by rfl)]
  show (if ((PySem.W.clsIn K D).isSome && PySem.W.typeIn K (.ref D) == some (.type "type")) = true then PySem.W.subIn K (.ref C) (.ref D) else none) = _
  rw [h1, h2, if_pos (by rfl), h3]
theorem ClsFacts.other (T : ClsFacts K B C f x fld) {D : Addr} (hB : D ≠ B) : PySem.W.subIn K (.ref C) (.ref D) = some (decide (C = D)) := by
  rw [T.sub]
  by_cases e : C = D
  · subst e
    simp [line]
  · have e2 : ¬ D = C := fun z => e z.symm
    simp [line, e, e2, hB]
end
theorem all_mk {l : PySem.W.OpenLaw} {w : World} {K : PySem.W.Frag} {h : Heap} {mg : Str → Option Value} {fa B D M : Addr} (X : K.In h) (G : h.Ns mainGlobals mg) (hfa : mg "law" = some (.ref fa))
    {C f0 N0 : Addr} {nm0 q0 : Str} {bs0 sub0 : List Value} {sn0 : List Str} {ab0 : Bool} {col0 : Option Bool} {dd0 od0 an0 : Option Addr} {m0a m0b m0c m0d m0e : Option Value} {oc0 kV0 dc0 pm0 cd0 ct0 : Value} {sl0 : Array (Option Value)} {tLets tCaps tFigs tFour tMost tTerms tExpo : _}
    {Fisname : Addr} {od_isname an_isname : Option Addr} {sl_isname : Array (Option Value)} {oc_isname kV_isname dc_isname pm_isname cd_isname ct_isname : Value}
    {Fisvar : Addr} {od_isvar an_isvar : Option Addr} {sl_isvar : Array (Option Value)} {oc_isvar kV_isvar dc_isvar pm_isvar cd_isvar ct_isvar : Value}
    {Fisfig : Addr} {od_isfig an_isfig : Option Addr} {sl_isfig : Array (Option Value)} {oc_isfig kV_isfig dc_isfig pm_isfig cd_isfig ct_isfig : Value}
    {Fptext : Addr} {od_ptext an_ptext : Option Addr} {sl_ptext : Array (Option Value)} {oc_ptext kV_ptext dc_ptext pm_ptext cd_ptext ct_ptext : Value}
    {Frpoly : Addr} {od_rpoly an_rpoly : Option Addr} {sl_rpoly : Array (Option Value)} {oc_rpoly kV_rpoly dc_rpoly pm_rpoly cd_rpoly ct_rpoly : Value}
    {Fttext : Addr} {od_ttext an_ttext : Option Addr} {sl_ttext : Array (Option Value)} {oc_ttext kV_ttext dc_ttext pm_ttext cd_ttext ct_ttext : Value}
    {Frterm : Addr} {od_rterm an_rterm : Option Addr} {sl_rterm : Array (Option Value)} {oc_rterm kV_rterm dc_rterm pm_rterm cd_rterm ct_rterm : Value}
    {Frfac : Addr} {od_rfac an_rfac : Option Addr} {sl_rfac : Array (Option Value)} {oc_rfac kV_rfac dc_rfac pm_rfac cd_rfac ct_rfac : Value}
    {Fstart : Addr} {od_start an_start : Option Addr} {sl_start : Array (Option Value)} {oc_start kV_start dc_start pm_start cd_start ct_start : Value}
    {Fdraw : Addr} {od_draw an_draw : Option Addr} {sl_draw : Array (Option Value)} {oc_draw kV_draw dc_draw pm_draw cd_draw ct_draw : Value}
    {Fsame : Addr} {od_same an_same : Option Addr} {sl_same : Array (Option Value)} {oc_same kV_same dc_same pm_same cd_same ct_same : Value}
    {Fnames : Addr} {od_names an_names : Option Addr} {sl_names : Array (Option Value)} {oc_names kV_names dc_names pm_names cd_names ct_names : Value}
    {Funk : Addr} {od_unk an_unk : Option Addr} {sl_unk : Array (Option Value)} {oc_unk kV_unk dc_unk pm_unk cd_unk ct_unk : Value}
    {Fsize : Addr} {od_size an_size : Option Addr} {sl_size : Array (Option Value)} {oc_size kV_size dc_size pm_size cd_size ct_size : Value}
    {Flpoly : Addr} {od_lpoly an_lpoly : Option Addr} {sl_lpoly : Array (Option Value)} {oc_lpoly kV_lpoly dc_lpoly pm_lpoly cd_lpoly ct_lpoly : Value}
    {Fltext : Addr} {od_ltext an_ltext : Option Addr} {sl_ltext : Array (Option Value)} {oc_ltext kV_ltext dc_ltext pm_ltext cd_ltext ct_ltext : Value}
    {Flnum : Addr} {od_lnum an_lnum : Option Addr} {sl_lnum : Array (Option Value)} {oc_lnum kV_lnum dc_lnum pm_lnum cd_lnum ct_lnum : Value}
    {Flname : Addr} {od_lname an_lname : Option Addr} {sl_lname : Array (Option Value)} {oc_lname kV_lname dc_lname pm_lname cd_lname ct_lname : Value}
    {Flterm : Addr} {od_lterm an_lterm : Option Addr} {sl_lterm : Array (Option Value)} {oc_lterm kV_lterm dc_lterm pm_lterm cd_lterm ct_lterm : Value}
    {Flread : Addr} {od_lread an_lread : Option Addr} {sl_lread : Array (Option Value)} {oc_lread kV_lread dc_lread pm_lread cd_lread ct_lread : Value}
    {Fasked : Addr} {od_asked an_asked : Option Addr} {sl_asked : Array (Option Value)} {oc_asked kV_asked dc_asked pm_asked cd_asked ct_asked : Value}
    {Fisread : Addr} {od_isread an_isread : Option Addr} {sl_isread : Array (Option Value)} {oc_isread kV_isread dc_isread pm_isread cd_isread ct_isread : Value}
    {Fchg : Addr} {od_chg an_chg : Option Addr} {sl_chg : Array (Option Value)} {oc_chg kV_chg dc_chg pm_chg cd_chg ct_chg : Value}
    {Fturned : Addr} {od_turned an_turned : Option Addr} {sl_turned : Array (Option Value)} {oc_turned kV_turned dc_turned pm_turned cd_turned ct_turned : Value}
    {Fgreat : Addr} {od_great an_great : Option Addr} {sl_great : Array (Option Value)} {oc_great kV_great dc_great pm_great cd_great ct_great : Value}
    {Fmany : Addr} {od_many an_many : Option Addr} {sl_many : Array (Option Value)} {oc_many kV_many dc_many pm_many cd_many ct_many : Value}
    {Flaw : Addr} {od_law an_law : Option Addr} {sl_law : Array (Option Value)} {oc_law kV_law dc_law pm_law cd_law ct_law : Value}
    (a0 : PySem.W.nsIn K mainGlobals "BadValue" = some (some (.ref C)))
    (x0 : K.lookup C = some (excClassObj nm0 q0 C N0 bs0 [.ref B, .type "Exception", .type "BaseException", .type "object"] true sn0 sub0 ab0 col0 dd0 m0a m0b m0c m0d m0e "Exception.__new__"))
    (s0 : PySem.W.findIn K (.ref C) "__setattr__" = some (some (.builtin "object.__setattr__")))
    (g0 : PySem.W.findIn K (.ref C) "__getattribute__" = some (some (.builtin "BaseException.__getattribute__")))
    (h0 : PySem.W.findIn K (.ref C) "__getattr__" = some none)
    (n0 : PySem.W.findIn K (.ref C) "at" = some none)
    (c0 : PySem.W.findIn K (.ref C) "__class__" = some (some (.builtin "object.__class__")))
    (i0 : PySem.W.findIn K (.ref C) "__init__" = some (some (.ref f0)))
    (t0 : PySem.W.typeIn K (.ref f0) = some (.type "function"))
    (l0 : K.lookup f0 = some ⟨oc0, od0, .func (PySem.W.fnOf "__init__" "BadValue.__init__" (defArgs sBadValue) (defBody sBadValue) (defScope sBadValue) .none kV0 dc0 pm0 an0 cd0 ct0), sl0⟩)
    (d0 : PySem.W.codeIn K cd0 "BadValue.__init__" = true)
    (k0 : PySem.W.keepIn K (.ref f0) = true)
    (kk0 : PySem.W.keepIn K (.ref C) = true)
    (T0 : PySem.W.typeIn K (.ref C) = some (.type "type"))
    (a_isname : PySem.W.nsIn K mainGlobals "is_name" = some (some (.ref Fisname)))
    (l_isname : K.lookup Fisname = some ⟨oc_isname, od_isname, .func (PySem.W.fnOf "is_name" "is_name" (defArgs sIsName) (defBody sIsName) (defScope sIsName) .none kV_isname dc_isname pm_isname an_isname cd_isname ct_isname), sl_isname⟩)
    (c_isname : PySem.W.codeIn K cd_isname "is_name" = true)
    (k_isname : PySem.W.keepIn K (.ref Fisname) = true)
    (a_isvar : PySem.W.nsIn K mainGlobals "is_variable" = some (some (.ref Fisvar)))
    (l_isvar : K.lookup Fisvar = some ⟨oc_isvar, od_isvar, .func (PySem.W.fnOf "is_variable" "is_variable" (defArgs sIsVar) (defBody sIsVar) (defScope sIsVar) .none kV_isvar dc_isvar pm_isvar an_isvar cd_isvar ct_isvar), sl_isvar⟩)
    (c_isvar : PySem.W.codeIn K cd_isvar "is_variable" = true)
    (k_isvar : PySem.W.keepIn K (.ref Fisvar) = true)
    (a_isfig : PySem.W.nsIn K mainGlobals "is_figures" = some (some (.ref Fisfig)))
    (l_isfig : K.lookup Fisfig = some ⟨oc_isfig, od_isfig, .func (PySem.W.fnOf "is_figures" "is_figures" (defArgs sIsFig) (defBody sIsFig) (defScope sIsFig) .none kV_isfig dc_isfig pm_isfig an_isfig cd_isfig ct_isfig), sl_isfig⟩)
    (c_isfig : PySem.W.codeIn K cd_isfig "is_figures" = true)
    (k_isfig : PySem.W.keepIn K (.ref Fisfig) = true)
    (a_ptext : PySem.W.nsIn K mainGlobals "poly_text" = some (some (.ref Fptext)))
    (l_ptext : K.lookup Fptext = some ⟨oc_ptext, od_ptext, .func (PySem.W.fnOf "poly_text" "poly_text" (defArgs sPText) (defBody sPText) (defScope sPText) .none kV_ptext dc_ptext pm_ptext an_ptext cd_ptext ct_ptext), sl_ptext⟩)
    (c_ptext : PySem.W.codeIn K cd_ptext "poly_text" = true)
    (k_ptext : PySem.W.keepIn K (.ref Fptext) = true)
    (a_rpoly : PySem.W.nsIn K mainGlobals "read_poly" = some (some (.ref Frpoly)))
    (l_rpoly : K.lookup Frpoly = some ⟨oc_rpoly, od_rpoly, .func (PySem.W.fnOf "read_poly" "read_poly" (defArgs sRPoly) (defBody sRPoly) (defScope sRPoly) .none kV_rpoly dc_rpoly pm_rpoly an_rpoly cd_rpoly ct_rpoly), sl_rpoly⟩)
    (c_rpoly : PySem.W.codeIn K cd_rpoly "read_poly" = true)
    (k_rpoly : PySem.W.keepIn K (.ref Frpoly) = true)
    (a_ttext : PySem.W.nsIn K mainGlobals "_term_text" = some (some (.ref Fttext)))
    (l_ttext : K.lookup Fttext = some ⟨oc_ttext, od_ttext, .func (PySem.W.fnOf "_term_text" "_term_text" (defArgs sTText) (defBody sTText) (defScope sTText) .none kV_ttext dc_ttext pm_ttext an_ttext cd_ttext ct_ttext), sl_ttext⟩)
    (c_ttext : PySem.W.codeIn K cd_ttext "_term_text" = true)
    (k_ttext : PySem.W.keepIn K (.ref Fttext) = true)
    (a_rterm : PySem.W.nsIn K mainGlobals "_read_term" = some (some (.ref Frterm)))
    (l_rterm : K.lookup Frterm = some ⟨oc_rterm, od_rterm, .func (PySem.W.fnOf "_read_term" "_read_term" (defArgs sRTerm) (defBody sRTerm) (defScope sRTerm) .none kV_rterm dc_rterm pm_rterm an_rterm cd_rterm ct_rterm), sl_rterm⟩)
    (c_rterm : PySem.W.codeIn K cd_rterm "_read_term" = true)
    (k_rterm : PySem.W.keepIn K (.ref Frterm) = true)
    (a_rfac : PySem.W.nsIn K mainGlobals "_read_factor" = some (some (.ref Frfac)))
    (l_rfac : K.lookup Frfac = some ⟨oc_rfac, od_rfac, .func (PySem.W.fnOf "_read_factor" "_read_factor" (defArgs sRFac) (defBody sRFac) (defScope sRFac) .none kV_rfac dc_rfac pm_rfac an_rfac cd_rfac ct_rfac), sl_rfac⟩)
    (c_rfac : PySem.W.codeIn K cd_rfac "_read_factor" = true)
    (k_rfac : PySem.W.keepIn K (.ref Frfac) = true)
    (a_start : PySem.W.nsIn K mainGlobals "_law_start" = some (some (.ref Fstart)))
    (l_start : K.lookup Fstart = some ⟨oc_start, od_start, .func (PySem.W.fnOf "_law_start" "_law_start" (defArgs sStart) (defBody sStart) (defScope sStart) .none kV_start dc_start pm_start an_start cd_start ct_start), sl_start⟩)
    (c_start : PySem.W.codeIn K cd_start "_law_start" = true)
    (k_start : PySem.W.keepIn K (.ref Fstart) = true)
    (a_draw : PySem.W.nsIn K mainGlobals "_law_draw" = some (some (.ref Fdraw)))
    (l_draw : K.lookup Fdraw = some ⟨oc_draw, od_draw, .func (PySem.W.fnOf "_law_draw" "_law_draw" (defArgs sDraw) (defBody sDraw) (defScope sDraw) .none kV_draw dc_draw pm_draw an_draw cd_draw ct_draw), sl_draw⟩)
    (c_draw : PySem.W.codeIn K cd_draw "_law_draw" = true)
    (k_draw : PySem.W.keepIn K (.ref Fdraw) = true)
    (a_same : PySem.W.nsIn K mainGlobals "_law_same" = some (some (.ref Fsame)))
    (l_same : K.lookup Fsame = some ⟨oc_same, od_same, .func (PySem.W.fnOf "_law_same" "_law_same" (defArgs sSame) (defBody sSame) (defScope sSame) .none kV_same dc_same pm_same an_same cd_same ct_same), sl_same⟩)
    (c_same : PySem.W.codeIn K cd_same "_law_same" = true)
    (k_same : PySem.W.keepIn K (.ref Fsame) = true)
    (a_names : PySem.W.nsIn K mainGlobals "_law_names" = some (some (.ref Fnames)))
    (l_names : K.lookup Fnames = some ⟨oc_names, od_names, .func (PySem.W.fnOf "_law_names" "_law_names" (defArgs sNames) (defBody sNames) (defScope sNames) .none kV_names dc_names pm_names an_names cd_names ct_names), sl_names⟩)
    (c_names : PySem.W.codeIn K cd_names "_law_names" = true)
    (k_names : PySem.W.keepIn K (.ref Fnames) = true)
    (a_unk : PySem.W.nsIn K mainGlobals "_law_unknowns" = some (some (.ref Funk)))
    (l_unk : K.lookup Funk = some ⟨oc_unk, od_unk, .func (PySem.W.fnOf "_law_unknowns" "_law_unknowns" (defArgs sUnk) (defBody sUnk) (defScope sUnk) .none kV_unk dc_unk pm_unk an_unk cd_unk ct_unk), sl_unk⟩)
    (c_unk : PySem.W.codeIn K cd_unk "_law_unknowns" = true)
    (k_unk : PySem.W.keepIn K (.ref Funk) = true)
    (a_size : PySem.W.nsIn K mainGlobals "_law_size" = some (some (.ref Fsize)))
    (l_size : K.lookup Fsize = some ⟨oc_size, od_size, .func (PySem.W.fnOf "_law_size" "_law_size" (defArgs sSize) (defBody sSize) (defScope sSize) .none kV_size dc_size pm_size an_size cd_size ct_size), sl_size⟩)
    (c_size : PySem.W.codeIn K cd_size "_law_size" = true)
    (k_size : PySem.W.keepIn K (.ref Fsize) = true)
    (a_lpoly : PySem.W.nsIn K mainGlobals "_law_poly" = some (some (.ref Flpoly)))
    (l_lpoly : K.lookup Flpoly = some ⟨oc_lpoly, od_lpoly, .func (PySem.W.fnOf "_law_poly" "_law_poly" (defArgs sLPoly) (defBody sLPoly) (defScope sLPoly) .none kV_lpoly dc_lpoly pm_lpoly an_lpoly cd_lpoly ct_lpoly), sl_lpoly⟩)
    (c_lpoly : PySem.W.codeIn K cd_lpoly "_law_poly" = true)
    (k_lpoly : PySem.W.keepIn K (.ref Flpoly) = true)
    (a_ltext : PySem.W.nsIn K mainGlobals "_law_text" = some (some (.ref Fltext)))
    (l_ltext : K.lookup Fltext = some ⟨oc_ltext, od_ltext, .func (PySem.W.fnOf "_law_text" "_law_text" (defArgs sLText) (defBody sLText) (defScope sLText) .none kV_ltext dc_ltext pm_ltext an_ltext cd_ltext ct_ltext), sl_ltext⟩)
    (c_ltext : PySem.W.codeIn K cd_ltext "_law_text" = true)
    (k_ltext : PySem.W.keepIn K (.ref Fltext) = true)
    (a_lnum : PySem.W.nsIn K mainGlobals "_law_is_number" = some (some (.ref Flnum)))
    (l_lnum : K.lookup Flnum = some ⟨oc_lnum, od_lnum, .func (PySem.W.fnOf "_law_is_number" "_law_is_number" (defArgs sLNum) (defBody sLNum) (defScope sLNum) .none kV_lnum dc_lnum pm_lnum an_lnum cd_lnum ct_lnum), sl_lnum⟩)
    (c_lnum : PySem.W.codeIn K cd_lnum "_law_is_number" = true)
    (k_lnum : PySem.W.keepIn K (.ref Flnum) = true)
    (a_lname : PySem.W.nsIn K mainGlobals "_law_is_name" = some (some (.ref Flname)))
    (l_lname : K.lookup Flname = some ⟨oc_lname, od_lname, .func (PySem.W.fnOf "_law_is_name" "_law_is_name" (defArgs sLName) (defBody sLName) (defScope sLName) .none kV_lname dc_lname pm_lname an_lname cd_lname ct_lname), sl_lname⟩)
    (c_lname : PySem.W.codeIn K cd_lname "_law_is_name" = true)
    (k_lname : PySem.W.keepIn K (.ref Flname) = true)
    (a_lterm : PySem.W.nsIn K mainGlobals "_law_term" = some (some (.ref Flterm)))
    (l_lterm : K.lookup Flterm = some ⟨oc_lterm, od_lterm, .func (PySem.W.fnOf "_law_term" "_law_term" (defArgs sLTerm) (defBody sLTerm) (defScope sLTerm) .none kV_lterm dc_lterm pm_lterm an_lterm cd_lterm ct_lterm), sl_lterm⟩)
    (c_lterm : PySem.W.codeIn K cd_lterm "_law_term" = true)
    (k_lterm : PySem.W.keepIn K (.ref Flterm) = true)
    (a_lread : PySem.W.nsIn K mainGlobals "_law_read" = some (some (.ref Flread)))
    (l_lread : K.lookup Flread = some ⟨oc_lread, od_lread, .func (PySem.W.fnOf "_law_read" "_law_read" (defArgs sLRead) (defBody sLRead) (defScope sLRead) .none kV_lread dc_lread pm_lread an_lread cd_lread ct_lread), sl_lread⟩)
    (c_lread : PySem.W.codeIn K cd_lread "_law_read" = true)
    (k_lread : PySem.W.keepIn K (.ref Flread) = true)
    (a_asked : PySem.W.nsIn K mainGlobals "_law_asked" = some (some (.ref Fasked)))
    (l_asked : K.lookup Fasked = some ⟨oc_asked, od_asked, .func (PySem.W.fnOf "_law_asked" "_law_asked" (defArgs sAsked) (defBody sAsked) (defScope sAsked) .none kV_asked dc_asked pm_asked an_asked cd_asked ct_asked), sl_asked⟩)
    (c_asked : PySem.W.codeIn K cd_asked "_law_asked" = true)
    (k_asked : PySem.W.keepIn K (.ref Fasked) = true)
    (a_isread : PySem.W.nsIn K mainGlobals "_law_is_read" = some (some (.ref Fisread)))
    (l_isread : K.lookup Fisread = some ⟨oc_isread, od_isread, .func (PySem.W.fnOf "_law_is_read" "_law_is_read" (defArgs sIsRead) (defBody sIsRead) (defScope sIsRead) .none kV_isread dc_isread pm_isread an_isread cd_isread ct_isread), sl_isread⟩)
    (c_isread : PySem.W.codeIn K cd_isread "_law_is_read" = true)
    (k_isread : PySem.W.keepIn K (.ref Fisread) = true)
    (a_chg : PySem.W.nsIn K mainGlobals "_law_changed_text" = some (some (.ref Fchg)))
    (l_chg : K.lookup Fchg = some ⟨oc_chg, od_chg, .func (PySem.W.fnOf "_law_changed_text" "_law_changed_text" (defArgs sChg) (defBody sChg) (defScope sChg) .none kV_chg dc_chg pm_chg an_chg cd_chg ct_chg), sl_chg⟩)
    (c_chg : PySem.W.codeIn K cd_chg "_law_changed_text" = true)
    (k_chg : PySem.W.keepIn K (.ref Fchg) = true)
    (a_turned : PySem.W.nsIn K mainGlobals "_law_turned" = some (some (.ref Fturned)))
    (l_turned : K.lookup Fturned = some ⟨oc_turned, od_turned, .func (PySem.W.fnOf "_law_turned" "_law_turned" (defArgs sTurned) (defBody sTurned) (defScope sTurned) .none kV_turned dc_turned pm_turned an_turned cd_turned ct_turned), sl_turned⟩)
    (c_turned : PySem.W.codeIn K cd_turned "_law_turned" = true)
    (k_turned : PySem.W.keepIn K (.ref Fturned) = true)
    (a_great : PySem.W.nsIn K mainGlobals "_law_great" = some (some (.ref Fgreat)))
    (l_great : K.lookup Fgreat = some ⟨oc_great, od_great, .func (PySem.W.fnOf "_law_great" "_law_great" (defArgs sGreat) (defBody sGreat) (defScope sGreat) .none kV_great dc_great pm_great an_great cd_great ct_great), sl_great⟩)
    (c_great : PySem.W.codeIn K cd_great "_law_great" = true)
    (k_great : PySem.W.keepIn K (.ref Fgreat) = true)
    (a_many : PySem.W.nsIn K mainGlobals "_law_many" = some (some (.ref Fmany)))
    (l_many : K.lookup Fmany = some ⟨oc_many, od_many, .func (PySem.W.fnOf "_law_many" "_law_many" (defArgs sMany) (defBody sMany) (defScope sMany) .none kV_many dc_many pm_many an_many cd_many ct_many), sl_many⟩)
    (c_many : PySem.W.codeIn K cd_many "_law_many" = true)
    (k_many : PySem.W.keepIn K (.ref Fmany) = true)
    (a_law : PySem.W.nsIn K mainGlobals "law" = some (some (.ref Flaw)))
    (l_law : K.lookup Flaw = some ⟨oc_law, od_law, .func (PySem.W.fnOf "law" "law" (defArgs sLaw) (defBody sLaw) (defScope sLaw) .none kV_law dc_law pm_law an_law cd_law ct_law), sl_law⟩)
    (c_law : PySem.W.codeIn K cd_law "law" = true)
    (k_law : PySem.W.keepIn K (.ref Flaw) = true)
    (aB : PySem.W.nsIn K mainGlobals "FigureError" = some (some (.ref B)))
    (xB : PySem.W.isClsIn K B = true)
    (gB : PySem.W.specialIn K (.ref B) "__getattribute__" = some (some (.builtin "type.__getattribute__")))
    (rB : PySem.W.readsIn (mc := .type "type") K B = true)
    (iB : PySem.W.findCls K (.ref B) (.type "type") "__init__" = some (.val (.builtin "Exception.__init__")))
    (tB : PySem.W.typeIn K (.ref B) = some (.type "type"))
    (aD : PySem.W.nsIn K mainGlobals "BadStep" = some (some (.ref D)))
    (xD : PySem.W.isClsIn K D = true)
    (tD : PySem.W.typeIn K (.ref D) = some (.type "type"))
    (sD : PySem.W.subIn K (.ref C) (.ref D) = some false)
    (aM : PySem.W.nsIn K mainGlobals "TooMany" = some (some (.ref M)))
    (xM : PySem.W.isClsIn K M = true)
    (tM : PySem.W.typeIn K (.ref M) = some (.type "type"))
    (sM : PySem.W.subIn K (.ref C) (.ref M) = some false)
    (oG : PySem.W.specialIn K (.builtin "object.__class__") "__get__" = some (some (.builtin "getset_descriptor.__get__")))
    (oT : PySem.W.takesIn K (.builtin "object.__class__") = some true)
    (aLets : PySem.W.nsIn K mainGlobals "LETTERS" = some (some (.str letsT tLets)))
    (aCaps : PySem.W.nsIn K mainGlobals "CAPITALS" = some (some (.str capsT tCaps)))
    (aFigs : PySem.W.nsIn K mainGlobals "FIGURES" = some (some (.str figsT tFigs)))
    (aFour : PySem.W.nsIn K mainGlobals "LONGEST_NAME" = some (some (.int 4 tFour)))
    (aMost : PySem.W.nsIn K mainGlobals "MOST_FIGURES" = some (some (.int 200 tMost)))
    (aTerms : PySem.W.nsIn K mainGlobals "MOST_TERMS" = some (some (.int 2000 tTerms)))
    (aExpo : PySem.W.nsIn K mainGlobals "GREATEST_EXPONENT" = some (some (.int 40 tExpo)))
    (z_isinstance : PySem.W.nsIn K mainGlobals "isinstance" = some none)
    (z_str : PySem.W.nsIn K mainGlobals "str" = some none)
    (z_len : PySem.W.nsIn K mainGlobals "len" = some none)
    (z_all : PySem.W.nsIn K mainGlobals "all" = some none)
    (z_any : PySem.W.nsIn K mainGlobals "any" = some none)
    (z_int : PySem.W.nsIn K mainGlobals "int" = some none)
    (z_abs : PySem.W.nsIn K mainGlobals "abs" = some none)
    (z_tuple : PySem.W.nsIn K mainGlobals "tuple" = some none)
    (z_range : PySem.W.nsIn K mainGlobals "range" = some none)
    (z_list : PySem.W.nsIn K mainGlobals "list" = some none)
    (z_bool : PySem.W.nsIn K mainGlobals "bool" = some none)
    (z_sorted : PySem.W.nsIn K mainGlobals "sorted" = some none) :
    ∃ fd : FuncData, (∀ (s : Shared) (v : Value), BindsTo s fd ⟨[v], []⟩ [("script", v)]) ∧ ∀ base : Heap, K.In base → base.Ns mainGlobals mg → FnOk l.prog w K mg base CX0 8 fa fd ["script"] (spLaw K) := by
  have e := hfa.symm.trans (PySem.W.mg_of X G a_law)
  cases e
  have E0 : ClsFacts K B C f0 "BadValue" "at" := ⟨a0, ⟨_, _, _, _, _, _, _, _, _, _, _, _, _, _, x0⟩, s0, g0, h0, n0, c0, i0, t0, kk0, T0⟩
  have F0 := fun_mk (st := sBadValue) l0 d0 k0
  have b0 := F0.binds (ps := ["self", "at"]) fun _ _ _ _ _ _ us hl => match us, hl with | [_, _], _ => rfl
  have Qisname := fun_mk (st := sIsName) l_isname c_isname k_isname
  have bisname := Qisname.binds (ps := ["thing"]) fun _ _ _ _ _ _ us hl => match us, hl with | [_], _ => rfl
  have misname := PySem.W.mg_of X G a_isname
  have Qisvar := fun_mk (st := sIsVar) l_isvar c_isvar k_isvar
  have bisvar := Qisvar.binds (ps := ["thing"]) fun _ _ _ _ _ _ us hl => match us, hl with | [_], _ => rfl
  have misvar := PySem.W.mg_of X G a_isvar
  have Qisfig := fun_mk (st := sIsFig) l_isfig c_isfig k_isfig
  have bisfig := Qisfig.binds (ps := ["text", "most"]) fun _ _ _ _ _ _ us hl => match us, hl with | [_, _], _ => rfl
  have misfig := PySem.W.mg_of X G a_isfig
  have Qptext := fun_mk (st := sPText) l_ptext c_ptext k_ptext
  have bptext := Qptext.binds (ps := ["p"]) fun _ _ _ _ _ _ us hl => match us, hl with | [_], _ => rfl
  have mptext := PySem.W.mg_of X G a_ptext
  have Qrpoly := fun_mk (st := sRPoly) l_rpoly c_rpoly k_rpoly
  have brpoly := Qrpoly.binds (ps := ["text"]) fun _ _ _ _ _ _ us hl => match us, hl with | [_], _ => rfl
  have mrpoly := PySem.W.mg_of X G a_rpoly
  have Qttext := fun_mk (st := sTText) l_ttext c_ttext k_ttext
  have bttext := Qttext.binds (ps := ["monomial", "size"]) fun _ _ _ _ _ _ us hl => match us, hl with | [_, _], _ => rfl
  have mttext := PySem.W.mg_of X G a_ttext
  have Qrterm := fun_mk (st := sRTerm) l_rterm c_rterm k_rterm
  have brterm := Qrterm.binds (ps := ["sign", "word"]) fun _ _ _ _ _ _ us hl => match us, hl with | [_, _], _ => rfl
  have mrterm := PySem.W.mg_of X G a_rterm
  have Qrfac := fun_mk (st := sRFac) l_rfac c_rfac k_rfac
  have brfac := Qrfac.binds (ps := ["factor"]) fun _ _ _ _ _ _ us hl => match us, hl with | [_], _ => rfl
  have mrfac := PySem.W.mg_of X G a_rfac
  have Qstart := fun_mk (st := sStart) l_start c_start k_start
  have bstart := Qstart.binds (ps := ["script"]) fun _ _ _ _ _ _ us hl => match us, hl with | [_], _ => rfl
  have mstart := PySem.W.mg_of X G a_start
  have Qdraw := fun_mk (st := sDraw) l_draw c_draw k_draw
  have bdraw := Qdraw.binds (ps := ["state", "many"]) fun _ _ _ _ _ _ us hl => match us, hl with | [_, _], _ => rfl
  have mdraw := PySem.W.mg_of X G a_draw
  have Qsame := fun_mk (st := sSame) l_same c_same k_same
  have bsame := Qsame.binds (ps := ["actual", "due"]) fun _ _ _ _ _ _ us hl => match us, hl with | [_, _], _ => rfl
  have msame := PySem.W.mg_of X G a_same
  have Qnames := fun_mk (st := sNames) l_names c_names k_names
  have bnames := Qnames.binds (ps := ["state", "many"]) fun _ _ _ _ _ _ us hl => match us, hl with | [_, _], _ => rfl
  have mnames := PySem.W.mg_of X G a_names
  have Qunk := fun_mk (st := sUnk) l_unk c_unk k_unk
  have bunk := Qunk.binds (ps := ["state", "many"]) fun _ _ _ _ _ _ us hl => match us, hl with | [_, _], _ => rfl
  have munk := PySem.W.mg_of X G a_unk
  have Qsize := fun_mk (st := sSize) l_size c_size k_size
  have bsize := Qsize.binds (ps := ["state"]) fun _ _ _ _ _ _ us hl => match us, hl with | [_], _ => rfl
  have msize := PySem.W.mg_of X G a_size
  have Qlpoly := fun_mk (st := sLPoly) l_lpoly c_lpoly k_lpoly
  have blpoly := Qlpoly.binds (ps := ["state", "names", "many"]) fun _ _ _ _ _ _ us hl => match us, hl with | [_, _, _], _ => rfl
  have mlpoly := PySem.W.mg_of X G a_lpoly
  have Qltext := fun_mk (st := sLText) l_ltext c_ltext k_ltext
  have bltext := Qltext.binds (ps := ["poly"]) fun _ _ _ _ _ _ us hl => match us, hl with | [_], _ => rfl
  have mltext := PySem.W.mg_of X G a_ltext
  have Qlnum := fun_mk (st := sLNum) l_lnum c_lnum k_lnum
  have blnum := Qlnum.binds (ps := ["word"]) fun _ _ _ _ _ _ us hl => match us, hl with | [_], _ => rfl
  have mlnum := PySem.W.mg_of X G a_lnum
  have Qlname := fun_mk (st := sLName) l_lname c_lname k_lname
  have blname := Qlname.binds (ps := ["word"]) fun _ _ _ _ _ _ us hl => match us, hl with | [_], _ => rfl
  have mlname := PySem.W.mg_of X G a_lname
  have Qlterm := fun_mk (st := sLTerm) l_lterm c_lterm k_lterm
  have blterm := Qlterm.binds (ps := ["word"]) fun _ _ _ _ _ _ us hl => match us, hl with | [_], _ => rfl
  have mlterm := PySem.W.mg_of X G a_lterm
  have Qlread := fun_mk (st := sLRead) l_lread c_lread k_lread
  have blread := Qlread.binds (ps := ["text"]) fun _ _ _ _ _ _ us hl => match us, hl with | [_], _ => rfl
  have mlread := PySem.W.mg_of X G a_lread
  have Qasked := fun_mk (st := sAsked) l_asked c_asked k_asked
  have basked := Qasked.binds (ps := ["text"]) fun _ _ _ _ _ _ us hl => match us, hl with | [_], _ => rfl
  have masked := PySem.W.mg_of X G a_asked
  have Qisread := fun_mk (st := sIsRead) l_isread c_isread k_isread
  have bisread := Qisread.binds (ps := ["text"]) fun _ _ _ _ _ _ us hl => match us, hl with | [_], _ => rfl
  have misread := PySem.W.mg_of X G a_isread
  have Qchg := fun_mk (st := sChg) l_chg c_chg k_chg
  have bchg := Qchg.binds (ps := ["state", "text"]) fun _ _ _ _ _ _ us hl => match us, hl with | [_, _], _ => rfl
  have mchg := PySem.W.mg_of X G a_chg
  have Qturned := fun_mk (st := sTurned) l_turned c_turned k_turned
  have bturned := Qturned.binds (ps := ["state", "poly"]) fun _ _ _ _ _ _ us hl => match us, hl with | [_, _], _ => rfl
  have mturned := PySem.W.mg_of X G a_turned
  have Qgreat := fun_mk (st := sGreat) l_great c_great k_great
  have bgreat := Qgreat.binds (ps := ["state", "names"]) fun _ _ _ _ _ _ us hl => match us, hl with | [_, _], _ => rfl
  have mgreat := PySem.W.mg_of X G a_great
  have Qmany := fun_mk (st := sMany) l_many c_many k_many
  have bmany := Qmany.binds (ps := ["state", "many"]) fun _ _ _ _ _ _ us hl => match us, hl with | [_, _], _ => rfl
  have mmany := PySem.W.mg_of X G a_many
  have Qlaw := fun_mk (st := sLaw) l_law c_law k_law
  refine ⟨PySem.W.fnOf "law" "law" (defArgs sLaw) (defBody sLaw) (defScope sLaw) .none kV_law dc_law pm_law an_law cd_law ct_law, fun s v => .of_eq rfl, fun base _ _ => ?_⟩
  have mz : ∀ {x : Str}, PySem.W.nsIn K mainGlobals x = some none → mg x = none := fun q => PySem.W.mg_none_of X G q
  have clB : (PySem.W.clsIn K B).isSome = true := xB
  have mB := PySem.W.mg_of X G aB
  have clC : (PySem.W.clsIn K C).isSome = true := by
    obtain ⟨cd, q, _⟩ := E0.cls
    rw [q]
    rfl
  have CD : C ≠ D := fun z => by
    rw [← z, E0.sub] at sD
    simp [line] at sD
  have CM : C ≠ M := fun z => by
    rw [← z, E0.sub] at sM
    simp [line] at sM
  have U : ValTxt l.prog w K mg base B C D M f0 _ := ⟨PySem.W.mg_of X G a0, E0.err, i0, t0, n0, b0, iniBadValue F0 ⟨gB, rB, iB⟩ mB, mB, PySem.W.mg_of X G aD, PySem.W.mg_of X G aM,
    exm_of_cls E0.err.exC clC T0 ((E0.sub _).trans (by simp [line])), kit_of_cls clB tB ((E0.sub _).trans (by simp [line])) (fun _ => rfl), kit_of_cls xD tD sD (fun z => absurd z CD), kit_of_cls xM tM sM (fun z => absurd z CM), E0.ask oG oT, E0.xf⟩
  have TP : ProgTxt K mg := ⟨mz z_isinstance, mz z_str, mz z_len, mz z_all, mz z_any, mz z_int, mz z_abs, mz z_tuple, mz z_range, ⟨_, PySem.W.mg_of X G aLets⟩, ⟨_, PySem.W.mg_of X G aCaps⟩, ⟨_, PySem.W.mg_of X G aFigs⟩, ⟨_, PySem.W.mg_of X G aFour⟩, ⟨_, PySem.W.mg_of X G aMost⟩, ⟨_, PySem.W.mg_of X G aTerms⟩, ⟨_, PySem.W.mg_of X G aExpo⟩⟩
  have TS_ : SameTxt K mg Fsame := ⟨mz z_isinstance, mz z_tuple, mz z_list, mz z_str, mz z_bool, mz z_int, mz z_len, mz z_range, msame, k_same⟩
  have Gname := ok_isname (P := l.prog) (w := w) (base := base) Qisname TP
  have Gfig := ok_isfig (P := l.prog) (w := w) (base := base) Qisfig TP
  have TI : FacTxt l.prog w K mg base Fisname Fisvar Fisfig _ _ _ := ⟨Gname, bisname, misname, k_isname, bisvar, misvar, k_isvar, Gfig, bisfig, misfig, k_isfig⟩
  have Gvar := ok_isvar Qisvar TP TI
  have Grf := ok_rfac Qrfac TP TI Gvar
  have Grt := ok_rterm Qrterm TP ⟨Gfig, bisfig, misfig, k_isfig, Grf, brfac, mrfac, k_rfac⟩
  have Grp := ok_rpoly Qrpoly TP U ⟨Grt, brterm, mrterm, k_rterm⟩
  have Gtt := ok_ttext (P := l.prog) (w := w) (base := base) Qttext TP
  have Gpt := ok_ptext Qptext TP Gtt bttext mttext k_ttext
  have Gst := ok_start (P := l.prog) (w := w) (base := base) Qstart TP (mz z_list)
  have Gdr := ok_draw (P := l.prog) (w := w) (base := base) Qdraw TP
  have TD : DrawTxt l.prog w K mg base Fdraw _ := ⟨Gdr, bdraw, mdraw, k_draw⟩
  have S0 := ok_same0 (P := l.prog) (w := w) (base := base) Qsame TS_
  have S5 := ok_sameS Qsame bsame TS_ (ok_sameS Qsame bsame TS_ (ok_sameS Qsame bsame TS_ (ok_sameS Qsame bsame TS_ (ok_sameS Qsame bsame TS_ S0))))
  have Gna := ok_names Qnames TP TD
  have Gun := ok_unk Qunk TP (mz z_sorted) TD Gna bnames mnames k_names
  have Gsz := ok_size Qsize TP TD
  have Glp := ok_lpoly Qlpoly TP (mz z_sorted) (mz z_list) TD Gsz bsize msize k_size
  have Glt := ok_ltext (P := l.prog) (w := w) (base := base) Qltext TP
  have Gln := ok_lnum (P := l.prog) (w := w) (base := base) Qlnum TP
  have Glm := ok_lname (P := l.prog) (w := w) (base := base) Qlname TP
  have Gle := ok_lterm Qlterm TP ⟨mz z_sorted, Gln, blnum, mlnum, k_lnum, Glm, blname, mlname, k_lname⟩
  have Glr := ok_lread Qlread TP ⟨mz z_sorted, mz z_list, Gle, blterm, mlterm, k_lterm, Glt, bltext, mltext, k_ltext⟩
  have Gas := ok_asked Qasked TP U ⟨Grp, brpoly, mrpoly, k_rpoly⟩
  have Gir := ok_isread Qisread ⟨Glr, blread, mlread, k_lread, Gas, basked, masked, k_asked, S5, bsame, msame, k_same⟩
  have Gch := ok_chg Qchg TP TD
  have Gtu := ok_turned Qturned TP TD Glt bltext mltext k_ltext
  have Ggr := ok_great Qgreat TP TD Glt bltext mltext k_ltext
  have Gma := ok_many Qmany TP (mz z_sorted) TD
  exact ok_law Qlaw TP TD ⟨Gst, bstart, mstart, k_start, Gun, bunk, munk, k_unk, Glp, blpoly, mlpoly, k_lpoly, Glt, bltext, mltext, k_ltext, Gpt, bptext, kw_one Qptext (fun _ _ _ _ _ _ _ => rfl), mptext, k_ptext, Grp, brpoly, kw_one Qrpoly (fun _ _ _ _ _ _ _ => rfl), mrpoly, k_rpoly, S5, bsame, msame, k_same, Gch, bchg, mchg, k_chg, Gir, bisread, misread, k_isread, Gtu, bturned, mturned, k_turned, Ggr, bgreat, mgreat, k_great, Gas, basked, masked, k_asked, Gma, bmany, mmany, k_many⟩
end K6

set_option Elab.async false
set_option linter.all false
set_option maxRecDepth 100000
namespace K6
open PySem L2 TL
theorem walk {l : PySem.W.OpenLaw} {q : Program} {loose : List Str} {XP : (Str → Option Value) → Heap → Prop} {YP : World → Heap → Prop} {d : DefRec} {K : Params → PySem.W.Frag} (hn : l.most = some 63) (hdf : d.params.defaults = [])
    (hY : ∀ (w : World) (h : Heap), YP w h → (K w.params).In h)
    (F : ∀ (w : World) (mg : Str → Option Value) (fa : Addr) (h : Heap), XP mg h → (K w.params).In h → h.Ns mainGlobals mg → mg d.name = some (.ref fa) →
      ∃ fd : FuncData, (∀ (s : Shared) (u : Value), BindsTo s fd ⟨[u], []⟩ [("script", u)]) ∧ ∀ base : Heap, (K w.params).In base → base.Ns mainGlobals mg → FnOk l.prog w (K w.params) mg base CX0 8 fa fd ["script"] (spLaw (K w.params))) :
    PySem.W.WalkO q loose XP YP l.row.toRowW d [] (fun f vs => PySem.call f vs) := by
  refine Att.attach_call hn hdf fun w s₀ s₁ mg mb fa o pm cd doc a vs ns GG Y ho hd hcd hmg hobj hints hlen hg => ?_
  have KX := hY w _ Y
  obtain ⟨fd, hb, hF⟩ := F w mg fa _ GG.X KX GG.T.g hmg
  exact law_call (k := 8) KX GG.T.g GG.T.b GG.T.builtins GG.T.nolimit hg hobj hints (Nat.le_trans hlen (by decide)) ⟨rfl, by decide, by decide⟩ hF hb (fun H hO hS => ⟨a, ns, rfl, hS, by omega, fun _ => rfl⟩) fun _ _ _ z => z
end K6
open PySem PySem.W PyProof.Rows in
set_option maxRecDepth 100000 in
set_option maxHeartbeats 0 in
theorem PySem.Challenge.cw_figurehold_k06_texts_of_polynomials_holds : PySem.Challenge.rw_figurehold_k06_texts_of_polynomials.Holds := by
  w_on; o_law; k_head; (case hw => w_witness2)
  k_fill
  refine K6.walk (l := PySem.Challenge.rw_figurehold_k06_texts_of_polynomials) rfl rfl (fun w h Y => PySem.W.kIn_of Y) ?F
  case F =>
    intro w mg fa h XX KX G hmg
    refine' K6.all_mk KX G hmg ?zz_a0 ?zz_x0 ?zz_s0 ?zz_g0 ?zz_h0 ?zz_n0 ?zz_c0 ?zz_i0 ?zz_t0 ?zz_l0 ?zz_d0 ?zz_k0 ?zz_kk0 ?zz_T0 ?zz_a_isname ?zz_l_isname ?zz_c_isname ?zz_k_isname ?zz_a_isvar ?zz_l_isvar ?zz_c_isvar ?zz_k_isvar ?zz_a_isfig ?zz_l_isfig ?zz_c_isfig ?zz_k_isfig ?zz_a_ptext ?zz_l_ptext ?zz_c_ptext ?zz_k_ptext ?zz_a_rpoly ?zz_l_rpoly ?zz_c_rpoly ?zz_k_rpoly ?zz_a_ttext ?zz_l_ttext ?zz_c_ttext ?zz_k_ttext ?zz_a_rterm ?zz_l_rterm ?zz_c_rterm ?zz_k_rterm ?zz_a_rfac ?zz_l_rfac ?zz_c_rfac ?zz_k_rfac ?zz_a_start ?zz_l_start ?zz_c_start ?zz_k_start ?zz_a_draw ?zz_l_draw ?zz_c_draw ?zz_k_draw ?zz_a_same ?zz_l_same ?zz_c_same ?zz_k_same ?zz_a_names ?zz_l_names ?zz_c_names ?zz_k_names ?zz_a_unk ?zz_l_unk ?zz_c_unk ?zz_k_unk ?zz_a_size ?zz_l_size ?zz_c_size ?zz_k_size ?zz_a_lpoly ?zz_l_lpoly ?zz_c_lpoly ?zz_k_lpoly ?zz_a_ltext ?zz_l_ltext ?zz_c_ltext ?zz_k_ltext ?zz_a_lnum ?zz_l_lnum ?zz_c_lnum ?zz_k_lnum ?zz_a_lname ?zz_l_lname ?zz_c_lname ?zz_k_lname ?zz_a_lterm ?zz_l_lterm ?zz_c_lterm ?zz_k_lterm ?zz_a_lread ?zz_l_lread ?zz_c_lread ?zz_k_lread ?zz_a_asked ?zz_l_asked ?zz_c_asked ?zz_k_asked ?zz_a_isread ?zz_l_isread ?zz_c_isread ?zz_k_isread ?zz_a_chg ?zz_l_chg ?zz_c_chg ?zz_k_chg ?zz_a_turned ?zz_l_turned ?zz_c_turned ?zz_k_turned ?zz_a_great ?zz_l_great ?zz_c_great ?zz_k_great ?zz_a_many ?zz_l_many ?zz_c_many ?zz_k_many ?zz_a_law ?zz_l_law ?zz_c_law ?zz_k_law ?zz_aB ?zz_xB ?zz_gB ?zz_rB ?zz_iB ?zz_tB ?zz_aD ?zz_xD ?zz_tD ?zz_sD ?zz_aM ?zz_xM ?zz_tM ?zz_sM ?zz_oG ?zz_oT ?zz_aLets ?zz_aCaps ?zz_aFigs ?zz_aFour ?zz_aMost ?zz_aTerms ?zz_aExpo ?zz_z_isinstance ?zz_z_str ?zz_z_len ?zz_z_all ?zz_z_any ?zz_z_int ?zz_z_abs ?zz_z_tuple ?zz_z_range ?zz_z_list ?zz_z_bool ?zz_z_sorted
    (case zz_a0 => k_is)
    (case zz_x0 => k_is)
    (case zz_s0 => k_is)
    (case zz_g0 => k_is)
    (case zz_h0 => k_is)
    (case zz_n0 => k_is)
    (case zz_c0 => k_is)
    (case zz_i0 => k_is)
    (case zz_t0 => k_is)
    (case zz_l0 => k_is)
    (case zz_d0 => k_is)
    (case zz_k0 => k_is)
    (case zz_kk0 => k_is)
    (case zz_T0 => k_is)
    (case zz_a_isname => k_is)
    (case zz_l_isname => k_is)
    (case zz_c_isname => k_is)
    (case zz_k_isname => k_is)
    (case zz_a_isvar => k_is)
    (case zz_l_isvar => k_is)
    (case zz_c_isvar => k_is)
    (case zz_k_isvar => k_is)
    (case zz_a_isfig => k_is)
    (case zz_l_isfig => k_is)
    (case zz_c_isfig => k_is)
    (case zz_k_isfig => k_is)
    (case zz_a_ptext => k_is)
    (case zz_l_ptext => k_is)
    (case zz_c_ptext => k_is)
    (case zz_k_ptext => k_is)
    (case zz_a_rpoly => k_is)
    (case zz_l_rpoly => k_is)
    (case zz_c_rpoly => k_is)
    (case zz_k_rpoly => k_is)
    (case zz_a_ttext => k_is)
    (case zz_l_ttext => k_is)
    (case zz_c_ttext => k_is)
    (case zz_k_ttext => k_is)
    (case zz_a_rterm => k_is)
    (case zz_l_rterm => k_is)
    (case zz_c_rterm => k_is)
    (case zz_k_rterm => k_is)
    (case zz_a_rfac => k_is)
    (case zz_l_rfac => k_is)
    (case zz_c_rfac => k_is)
    (case zz_k_rfac => k_is)
    (case zz_a_start => k_is)
    (case zz_l_start => k_is)
    (case zz_c_start => k_is)
    (case zz_k_start => k_is)
    (case zz_a_draw => k_is)
    (case zz_l_draw => k_is)
    (case zz_c_draw => k_is)
    (case zz_k_draw => k_is)
    (case zz_a_same => k_is)
    (case zz_l_same => k_is)
    (case zz_c_same => k_is)
    (case zz_k_same => k_is)
    (case zz_a_names => k_is)
    (case zz_l_names => k_is)
    (case zz_c_names => k_is)
    (case zz_k_names => k_is)
    (case zz_a_unk => k_is)
    (case zz_l_unk => k_is)
    (case zz_c_unk => k_is)
    (case zz_k_unk => k_is)
    (case zz_a_size => k_is)
    (case zz_l_size => k_is)
    (case zz_c_size => k_is)
    (case zz_k_size => k_is)
    (case zz_a_lpoly => k_is)
    (case zz_l_lpoly => k_is)
    (case zz_c_lpoly => k_is)
    (case zz_k_lpoly => k_is)
    (case zz_a_ltext => k_is)
    (case zz_l_ltext => k_is)
    (case zz_c_ltext => k_is)
    (case zz_k_ltext => k_is)
    (case zz_a_lnum => k_is)
    (case zz_l_lnum => k_is)
    (case zz_c_lnum => k_is)
    (case zz_k_lnum => k_is)
    (case zz_a_lname => k_is)
    (case zz_l_lname => k_is)
    (case zz_c_lname => k_is)
    (case zz_k_lname => k_is)
    (case zz_a_lterm => k_is)
    (case zz_l_lterm => k_is)
    (case zz_c_lterm => k_is)
    (case zz_k_lterm => k_is)
    (case zz_a_lread => k_is)
    (case zz_l_lread => k_is)
    (case zz_c_lread => k_is)
    (case zz_k_lread => k_is)
    (case zz_a_asked => k_is)
    (case zz_l_asked => k_is)
    (case zz_c_asked => k_is)
    (case zz_k_asked => k_is)
    (case zz_a_isread => k_is)
    (case zz_l_isread => k_is)
    (case zz_c_isread => k_is)
    (case zz_k_isread => k_is)
    (case zz_a_chg => k_is)
    (case zz_l_chg => k_is)
    (case zz_c_chg => k_is)
    (case zz_k_chg => k_is)
    (case zz_a_turned => k_is)
    (case zz_l_turned => k_is)
    (case zz_c_turned => k_is)
    (case zz_k_turned => k_is)
    (case zz_a_great => k_is)
    (case zz_l_great => k_is)
    (case zz_c_great => k_is)
    (case zz_k_great => k_is)
    (case zz_a_many => k_is)
    (case zz_l_many => k_is)
    (case zz_c_many => k_is)
    (case zz_k_many => k_is)
    (case zz_a_law => k_is)
    (case zz_l_law => k_is)
    (case zz_c_law => k_is)
    (case zz_k_law => k_is)
    (case zz_aB => k_is)
    (case zz_xB => k_is)
    (case zz_gB => k_is)
    (case zz_rB => k_is)
    (case zz_iB => k_is)
    (case zz_tB => k_is)
    (case zz_aD => k_is)
    (case zz_xD => k_is)
    (case zz_tD => k_is)
    (case zz_sD => k_is)
    (case zz_aM => k_is)
    (case zz_xM => k_is)
    (case zz_tM => k_is)
    (case zz_sM => k_is)
    (case zz_oG => k_is)
    (case zz_oT => k_is)
    (case zz_aLets => k_is)
    (case zz_aCaps => k_is)
    (case zz_aFigs => k_is)
    (case zz_aFour => k_is)
    (case zz_aMost => k_is)
    (case zz_aTerms => k_is)
    (case zz_aExpo => k_is)
    (case zz_z_isinstance => k_is)
    (case zz_z_str => k_is)
    (case zz_z_len => k_is)
    (case zz_z_all => k_is)
    (case zz_z_any => k_is)
    (case zz_z_int => k_is)
    (case zz_z_abs => k_is)
    (case zz_z_tuple => k_is)
    (case zz_z_range => k_is)
    (case zz_z_list => k_is)
    (case zz_z_bool => k_is)
    (case zz_z_sorted => k_is)

