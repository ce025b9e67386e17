import PyProof.Rows.All
import Wide.All
import OpenK.AllK
import Wide.FinOn
import HandS.ForMost
import HandS.ForExc
import HandS.Conv
import HandS.TupSets
import HandS.DictTup
import HandS.DeepEq
import HandS.OwnEq
import KE.KDictPairs
import KE.KDictDisplayH
import KE.KDictItemsList
import HandS.ListItems
import HandS.DictEq
import HandS.ListEq
import KE.DataMinMax
import HandS.SortKw
import KE.KStateDown
import Lean
import HandS.Defaults
import HandS.IsInst
import HandS.Wide
import HandS.Walk
import HandS.Head0
import HandS.Head1
import HandS.Head2
import HandS.HeadEnd
import HandS.HeadHook1
import HandS.HeadHook2
import HandS.ExcInit
import HandS.ExcValue
import HandS.ExcIs
import HandS.TupLe
import HandS.TupMul
import HandS.TupAny
import HandS.TupLen
import HandS.Gcd
import HandS.Flow
import KE.KExcIs
import KE.GoesMore
import KE.GoesEnum
import KE.KDictCopyH
import HandS.DictComp
import HandS.FStr
import KE.KxField
import PySem.Challenge.RW_boxedroots_k25_whole_bounds_that_hold
import HandS.Head3
import HandS.Style
import KE.KMathGC
import KE.BitLaws
import HandS.SetKeys
set_option Elab.async false
set_option linter.all false
set_option maxRecDepth 100000
set_option maxHeartbeats 4000000
/-! dicts whose keys are tuples of ints: sorted(d) -/
namespace DX
open PySem PySem.Spec PyProof.Rows L2
/-- a key of ints -/
abbrev ik (k : List Int) : List L2.Key := k.map Sum.inl
theorem ik_kV (k : List Int) : (ik k).map kV = k.map V.int := by
  rw [List.map_map]; rfl
theorem ik_inj {k l : List Int} (h : ik k = ik l) : k = l := by
  induction k generalizing l with
  | nil => cases l with
    | nil => rfl
    | cons => cases h
  | cons a k ih => cases l with
    | nil => cases h
    | cons b l =>
      rw [ik, ik, List.map_cons, List.map_cons] at h
      injection h with h1 h2
      injection h1 with h1
      rw [h1, ih h2]
theorem perm_lift {α β : Type} {f : α → β} {m n : List β} (h : m.Perm n) : ∀ l : List α, l.map f = n → ∃ l' : List α, l'.map f = m ∧ l'.Perm l := by
  induction h with
  | nil => intro l e; exact ⟨l, e, .refl l⟩
  | @cons x m n _ ih =>
    intro l e
    cases l with
    | nil => cases e
    | cons a l =>
      rw [List.map_cons] at e
      injection e with e1 e2
      obtain ⟨l', g1, g2⟩ := ih l e2
      exact ⟨a :: l', by rw [List.map_cons, e1, g1], g2.cons a⟩
  | swap x y m =>
    intro l e
    match l, e with
    | a :: b :: l, e =>
      rw [List.map_cons, List.map_cons] at e
      injection e with e1 e2
      injection e2 with e2 e3
      exact ⟨b :: a :: l, by rw [List.map_cons, List.map_cons, e1, e2, e3], .swap a b l⟩
  | trans _ _ ih1 ih2 =>
    intro l e
    obtain ⟨l1, g1, g2⟩ := ih2 l e
    obtain ⟨l2, g3, g4⟩ := ih1 l1 g1
    exact ⟨l2, g3, g4.trans g2⟩
/-- the tuple of the ints k stands at b -/
abbrev KAt (H : Hp) (b : Addr) (k : List Int) : Prop := H b = some (.tup (k.map V.int))
def rSortDT (d : Nat) (B : Int) : List V → Hp → VK → Prop := fun vs H Q => ∃ (a : Addr) (kvs : List (List L2.Key × V)) (ks : List (List Int)), vs = [.ref a] ∧ Rd H a (.dT kvs) ∧ kvs.map (·.1) = ks.map ik ∧ ks.length < 64 ∧ (∀ k ∈ ks, k.length = d ∧ TS.Bd B k) ∧
  ∀ (bs : List Addr) (ks' : List (List Int)) (p : Addr), ks'.Perm ks → ks'.Pairwise (fun m n => TS.code B m ≤ TS.code B n) → Paired (KAt H) bs ks' → H p = none → Q (.ref p) (upd H p (.lst (bs.map V.ref)))
/-- the pairs (address, key) of a dict -/
theorem keys_at {H : Hp} : ∀ {kvs : List (List L2.Key × V)} {xs : List (List L2.Key × Addr × Value)} {ks : List (List Int)}, KT H kvs xs → kvs.map (·.1) = ks.map ik → ∃ L : List (Addr × List Int), L.map (·.2) = ks ∧ L.map (·.1) = xs.map (fun x => x.2.1) ∧ ∀ q ∈ L, KAt H q.1 q.2
  | [], _, ks, .nil, e => by
    cases ks with
    | nil => exact ⟨[], rfl, rfl, fun q hq => by cases hq⟩
    | cons => cases e
  | p :: kvs, x :: xs, ks, .cons h t, e => by
    cases ks with
    | nil => cases e
    | cons k ks =>
      rw [List.map_cons, List.map_cons] at e
      injection e with e1 e2
      obtain ⟨L, g1, g2, g3⟩ := keys_at t e2
      refine ⟨(x.2.1, k) :: L, by rw [List.map_cons, g1], by rw [List.map_cons, List.map_cons, g2], fun q hq => ?_⟩
      rcases List.mem_cons.mp hq with z | z
      · rw [z]
        have := h.2.1
        rw [e1, ik_kV] at this
        exact this
      · exact g3 q z
section
variable {X : Cx}
theorem tup_raw {pins : List (Addr × Obj)} {σ : L2.St} {H : Hp} {s : Shared} (I : Inv X pins σ H s) {t : Addr} {ns : List Int} (h : KAt H t ns) : TS.TupInts s.heap (.ref t) ns := tupI_raw I (SqT.of h)
theorem cr_sortDT (hc : X.calm = true) {d : Nat} {B : Int} (hd : 1 ≤ d) : CallR X (.builtin "sorted") (rSortDT d B) := by
  intro pins s σ H vs us Q I r q
  obtain ⟨a, kvs, ks, rfl, rd, hks, h64, hB, q⟩ := q
  obtain ⟨u, rfl, ru⟩ := r.one
  cases ru
  obtain ⟨z, lo, xs, rel, o, es, ep, ho, hx, hdt, he, hn⟩ := (show ObjOk X.prog X.w H s.heap a (.dT kvs) from rd.ok I.hok)
  obtain ⟨L, g1, g2, g3⟩ := keys_at rel hks
  have lx : xs.length = ks.length := by
    have e := congrArg List.length hks
    rw [List.length_map, List.length_map] at e
    rw [← Paired.length rel, e]
  have le : es.size = xs.length := size_of_entries he
  refine Calls.call_function_entry kind_sorted plain_sorted entry_sorted (args_sorted1 _) ?_
  unfold Builtin.«sorted»
  refine wpAny_bind (m := checkCount "sorted" 1 1 _) (wpAny_pure ?_)
  refine wpAny_bind (PySem.W.kdu_collect (A := X.A.in1) (kdl_raw lo hx hdt) (I.ok.hd hc) ho (by rw [le, lx, sizeLine_eq]; omega) fun h' tk acc hk hacc => ?_)
  have hal : acc.toList.length = ks.length := by rw [Array.length_toList, hacc.1, le, lx]
  have hL : L.length = ks.length := by rw [← g1, List.length_map]
  have ev : L.map (fun q => Value.ref q.1) = acc.toList := by
    refine List.ext_getElem? fun j => ?_
    cases hj : acc.toList[j]? with
    | none =>
      have := List.getElem?_eq_none_iff.mp hj
      rw [List.getElem?_eq_none_iff, List.length_map]
      omega
    | some v =>
      obtain ⟨en, hen, hv⟩ := hacc.2 j v (by rw [← Array.getElem?_toList]; exact hj)
      have qe := entry_at he j
      rw [hen] at qe
      have hx1 : (xs.map fun x => x.2.1)[j]? = (L.map (·.1))[j]? := by rw [g2]
      rw [List.getElem?_map, List.getElem?_map] at hx1
      cases hb : xs[j]? with
      | none => rw [hb] at qe; cases qe
      | some b =>
        rw [hb] at qe hx1
        have e2 : en = entryOfKey (tupleKind (mixKind X.prog X.w)) b := Option.some.inj qe
        cases hq : L[j]? with
        | none => rw [hq] at hx1; cases hx1
        | some p =>
          rw [hq] at hx1
          have e3 : b.2.1 = p.1 := Option.some.inj hx1
          rw [List.getElem?_map, hq, hv, e2]
          show some (Value.ref p.1) = some (Value.ref b.2.1)
          rw [e3]
  have I1 : Inv X pins σ H { s with heap := h', toks := tk } := I.kept hk
  refine wpAny_bind (wpAny_newList ?_ (by rw [hal, sizeLine_eq]; omega))
  have ho2 : (h'.push (seqObj "list" acc.toList.toArray 0)).get? h'.objs.size = some (seqObj "list" acc.toList.toArray 0) := Heap.get?_push_size _ rfl
  have I2 : Inv X pins σ H { s with heap := h'.push (seqObj "list" acc.toList.toArray 0), toks := tk } := I1.kept (t' := tk) fun b ob e => Heap.get?_push_of_some _ e
  have ok : TS.TupsOk (h'.push (seqObj "list" acc.toList.toArray 0)) d B acc.toList := fun v hv => by
    rw [← ev] at hv
    obtain ⟨p, hp, rfl⟩ := List.mem_map.mp hv
    have hm : p.2 ∈ ks := by rw [← g1]; exact List.mem_map.mpr ⟨p, hp, rfl⟩
    exact ⟨p.2, tup_raw I2 (g3 p hp), (hB _ hm).1, (hB _ hm).2⟩
  show wpAny _ _ _ _ _ { s with heap := h'.push (seqObj "list" acc.toList.toArray 0), toks := tk }
  refine wpAny_bind (wpAny_holding (TS.call_sort_tups (s := { s with heap := h'.push (seqObj "list" acc.toList.toArray 0), toks := tk }) ho2 (by rw [hal]; exact h64) hd ok fun out a1 a2 => ?_))
  obtain ⟨c, hc2⟩ := PyProof.Rows.sortedHeap_at (vs := acc.toList) (out := out) ho2
  obtain ⟨L', e1, e2⟩ := perm_lift a1 L ev
  have hz : (L'.map fun p => V.ref p.1).length ≤ sizeLine := by rw [List.length_map, e2.length_eq, hL, sizeLine_eq]; omega
  have pr : Paired (KAt H) (L'.map (·.1)) (L'.map (·.2)) := by
    have key : ∀ M : List (Addr × List Int), (∀ p ∈ M, p ∈ L) → Paired (KAt H) (M.map (·.1)) (M.map (·.2)) := by
      intro M
      induction M with
      | nil => intro _; exact .nil
      | cons p M ih => exact fun hM => .cons (g3 p (hM p List.mem_cons_self)) (ih fun x hx => hM x (List.mem_cons_of_mem _ hx))
    exact key L' fun p hp => e2.mem_iff.mp hp
  have q1 := q (L'.map (·.1)) (L'.map (·.2)) h'.objs.size (by rw [← g1]; exact e2.map _) (by
    rw [List.pairwise_map]
    rw [← e1] at a2
    refine List.Pairwise.imp_of_mem (fun {u v} hu hv h => ?_) (List.pairwise_map.mp a2)
    have f1 := (tup_raw I2 (g3 u (e2.mem_iff.mp hu))).ints
    have f2 := (tup_raw I2 (g3 v (e2.mem_iff.mp hv))).ints
    rw [← f1, ← f2]
    exact h) pr (I1.hok.fresh (Nat.le_refl _))
  rw [List.map_map] at q1
  have q2 : Q (.ref h'.objs.size) (upd H h'.objs.size (.lst (L'.map fun p => V.ref p.1))) := q1
  refine wpAny_pure ⟨_, rfl, .ref h'.objs.size, upd H h'.objs.size (.lst (L'.map fun p => V.ref p.1)), I1.laid (t' := tk) (fun b ob e => ?_) (Nat.le_refl _) ⟨hz, out.toList, c, ?_, by rw [Array.toArray_toList]; exact hc2⟩, rfl, q2⟩
  · have hb : b < h'.objs.size := Heap.lt_size e
    rw [PyProof.Rows.sortedHeap_old (Nat.ne_of_lt hb) (by rw [size_push']; exact Nat.lt_succ_of_lt hb)]
    exact Heap.get?_push_of_some _ e
  · rw [← e1]
    have key : ∀ M : List (Addr × List Int), Vals (M.map fun p => V.ref p.1) (M.map fun p => Value.ref p.1) := by
      intro M
      induction M with
      | nil => exact .nil
      | cons p M ih => exact .cons rfl ih
    exact key L'
end
end DX

set_option Elab.async false
set_option linter.all false
set_option maxRecDepth 100000
set_option maxHeartbeats 4000000
/-! dicts whose keys are tuples: dict(pairs), {k: v}, list(d.items()) -/
namespace DX
open PySem PySem.Spec PyProof.Rows L2
/-- a key, its tuple's place, what stands at it -/
abbrev Ent := List L2.Key × Addr × V
abbrev entK (es : List Ent) : List (List L2.Key × V) := es.map fun e => (e.1, e.2.2)
/-- pairs put one behind the other -/
def mT (kvs : List (List L2.Key × V)) (more : List (List L2.Key × V)) : List (List L2.Key × V) := more.foldl (fun acc kv => putK acc kv.1 kv.2) kvs
theorem length_mT : ∀ (more kvs : List (List L2.Key × V)), (mT kvs more).length ≤ kvs.length + more.length
  | [], kvs => Nat.le_refl _
  | p :: r, kvs => by
    have h1 := length_mT r (putK kvs p.1 p.2)
    have h2 := length_putK kvs p.1 p.2
    have e : mT kvs (p :: r) = mT (putK kvs p.1 p.2) r := rfl
    rw [e, List.length_cons]
    omega
/-- the key's tuple stands -/
abbrev KeyAt (H : Hp) (e : Ent) : Prop := H e.2.1 = some (.tup (e.1.map kV))
theorem kt_all {H : Hp} : ∀ {es : List Ent} {rs : List (List L2.Key × Addr × Value)} {kvs : List (List L2.Key × V)} {xs : List (List L2.Key × Addr × Value)}, Paired (fun (e : Ent) (r : List L2.Key × Addr × Value) => e.1 = r.1 ∧ e.2.1 = r.2.1 ∧ KeyAt H e ∧ RelV e.2.2 r.2.2) es rs → KT H kvs xs →
    KT H (mT kvs (entK es)) (storedAllH xs rs)
  | _, _, _, _, .nil, k => k
  | e :: es, r :: rs, kvs, xs, .cons h t, k => by
    obtain ⟨h1, h2, h3, h4⟩ := h
    have k1 : KT H (putK kvs e.1 e.2.2) (storedH xs r.1 r.2.1 r.2.2) := by
      have z := k.put e.1 h3 h4
      rw [h2] at z
      rw [← h1]
      exact z
    have z := kt_all t k1
    exact z
section
variable {X : Cx}
/-- what the pairs of the list are, by the heap -/
theorem raw_pairs {pins : List (Addr × Obj)} {σ : L2.St} {H : Hp} {s : Shared} (I : Inv X pins σ H s) : ∀ {ps : List Addr} {es : List Ent}, Paired (fun p (e : Ent) => SqT X.K H p [.ref e.2.1, e.2.2] ∧ KeyAt H e) ps es →
    ∃ rs : List (List L2.Key × Addr × Value), Paired (fun (e : Ent) (r : List L2.Key × Addr × Value) => e.1 = r.1 ∧ e.2.1 = r.2.1 ∧ KeyAt H e ∧ RelV e.2.2 r.2.2) es rs ∧ rs.length = ps.length ∧
      (∀ (j : Nat) (r : List L2.Key × Addr × Value), rs[j]? = some r → ∃ b, ps[j]? = some b ∧ s.heap.IsTuple b #[.ref r.2.1, r.2.2]) ∧ ∀ r ∈ rs, (tupleKind (mixKind X.prog X.w)).is s.heap r.1 r.2.1
  | _, _, .nil => ⟨[], .nil, rfl, (fun j r e => by cases e), (fun r hr => by cases hr)⟩
  | p :: ps, e :: es, .cons h t => by
    obtain ⟨rs, g1, g2, g3, g4⟩ := raw_pairs I t
    obtain ⟨its, rv, ht, _⟩ := I.tuple h.1
    obtain ⟨u, y, ei, ru, ry⟩ := vals2 rv
    subst ei
    cases ru
    refine ⟨(e.1, e.2.1, y) :: rs, .cons ⟨rfl, rfl, h.2, ry⟩ g1, by rw [List.length_cons, List.length_cons, g2], fun j r q => ?_, fun r hr => ?_⟩
    · cases j with
      | zero =>
        cases Option.some.inj q
        exact ⟨p, rfl, ht⟩
      | succ j => exact g3 j r q
    · rcases List.mem_cons.mp hr with z | z
      · rw [z]
        exact key_of I.hok h.2
      · exact g4 r z
def rDictT (K : PySem.W.Frag) : List V → Hp → VK → Prop := fun xs H Q => ∃ (a : Addr) (ps : List Addr) (es : List Ent), xs = [.ref a] ∧ SqL K H a (ps.map V.ref) ∧ Paired (fun p (e : Ent) => SqT K H p [.ref e.2.1, e.2.2] ∧ KeyAt H e) ps es ∧
  ∀ p, H p = none → Q (.ref p) (upd H p (.dT (mT [] (entK es))))
theorem call_dictPT (hc : X.calm = true) (hu : X.A.units + 2 < cLine) : CallR X (.type "dict") (rDictT X.K) := by
  intro pins s σ H xs us Q I r q
  obtain ⟨a, ps, es, rfl, hl, hp, q⟩ := q
  obtain ⟨u, rfl, ru⟩ := r.one
  cases ru
  obtain ⟨its, rv, pl, hz⟩ := I.list hl
  have ei := refs_at rv
  subst ei
  rw [List.length_map] at hz
  obtain ⟨rs, g1, g2, g3, g4⟩ := raw_pairs I hp
  obtain ⟨o, n, ho, hco, hdo, hdat⟩ := pl
  have pi : PairItems s.heap (ps.map Value.ref).toArray (fun j => ps.getD j 0) (rs.map fun r => (Value.ref r.2.1, r.2.2)) := by
    refine ⟨by simp [g2], fun j k v e => ?_⟩
    rw [List.getElem?_map] at e
    cases e1 : rs[j]? with
    | none => rw [e1] at e; cases e
    | some r =>
      rw [e1] at e
      cases Option.some.inj e
      obtain ⟨b, f1, f2⟩ := g3 j r e1
      have f3 : ps.getD j 0 = b := by rw [List.getD_eq_getElem?_getD, f1]; rfl
      show _ ∧ PairAt s.heap (ps.getD j 0) _ _
      rw [f3]
      exact ⟨by simp [f1, f3], .inl f2⟩
  have big : ∀ b ob, s.heap.get? b = some ob → b ≠ s.heap.objs.size := fun b ob e => Nat.ne_of_lt (Heap.lt_size e)
  refine call_dict_pairsH (knd := tupleKind (mixKind X.prog X.w)) (ps := rs) (PairArg.list a (ps.map Value.ref).toArray (fun j => ps.getD j 0) (rs.map fun r => (Value.ref r.2.1, r.2.2))) (I.ok.hd hc) (by show X.A.units + 1 + 1 < cLine; omega) ⟨⟨o, n, ho, hco, hdo, hdat⟩, pi⟩ ⟨by rw [List.length_map], fun i key v e => ?_⟩ (fun h' hk x hx => ?_) (by rw [List.length_map, g2]; exact hz) fun h' tk hd' hk => ?_
  · have e' : (rs.map fun r => (Value.ref r.2.1, r.2.2))[i]? = some (key, v) := e
    rw [List.getElem?_map] at e'
    cases e1 : rs[i]? with
    | none => rw [e1] at e'; cases e'
    | some r =>
      rw [e1] at e'
      cases Option.some.inj e'
      exact ⟨r.1, r.2.1, rfl, rfl⟩
  · exact PySem.tupleKind_stays.stays (h := s.heap) (fun b ob vs m e _ => hk b ob (big b ob e) (fun z => nomatch z) e) (g4 x hx)
  · have kt : KT H (mT [] (entK es)) (storedAllH [] rs) := kt_all g1 .nil
    have hm : (s.heap.objs.size == sysModules) = false := beq_eq_false_iff_ne.mpr (Nat.ne_of_gt I.big)
    have hlen : (mT [] (entK es)).length ≤ sizeLine := by
      have z := length_mT (entK es) []
      rw [List.length_nil, Nat.zero_add, List.length_map] at z
      have z2 : es.length = rs.length := Paired.length g1
      omega
    have hn := I.hok.fresh (Nat.le_refl s.heap.objs.size)
    obtain ⟨od, eds, ep, f1, f2, f3, f4, f5, f6⟩ := hd'
    refine ⟨.ref s.heap.objs.size, upd H s.heap.objs.size (.dT (mT [] (entK es))), I.laid (t' := tk) (fun b ob e => hk b ob (fun z => nomatch z) e) (Nat.le_refl _) ⟨hlen, hm, _, kt.keeps fun b ys e => ?_, od, eds, ep, f1, f2, f3, f4, f6⟩, rfl, q _ hn⟩
    rw [upd_ne (ne_of_none e hn)]
    exact e
/-- {t: v}, t a tuple -/
def tDispT (trs : List (TE × TE)) : TE := fun σ H Q => ∀ p, H p = none → tPairs trs σ (upd H p (.dT [])) fun ps H2 => H2 p = some (.dT []) ∧ ∃ es : List Ent, ps = es.map (fun e => (V.ref e.2.1, e.2.2)) ∧ es.length ≤ 15 ∧ (∀ e ∈ es, KeyAt H2 e) ∧ Q (.ref p) (upd H2 p (.dT (mT [] (entK es))))
theorem carriesT {P : Program} {w : World} {H : Hp} {h : Heap} (ok : HOk P w H h) : ∀ {es : List Ent} {ws : List (Value × Value)}, VV (es.map fun e => (V.ref e.2.1, e.2.2)) ws → (∀ e ∈ es, KeyAt H e) →
    ∃ rs, CarriesH (tupleKind (mixKind P w)) h ws rs ∧ Paired (fun (e : Ent) (r : List L2.Key × Addr × Value) => e.1 = r.1 ∧ e.2.1 = r.2.1 ∧ KeyAt H e ∧ RelV e.2.2 r.2.2) es rs
  | [], _, r, _ => by
    rw [List.map_nil] at r
    cases r
    exact ⟨[], True.intro, .nil⟩
  | e :: es, _, r, hk => by
    rw [List.map_cons] at r
    cases r with
    | @cons a b as bs h t =>
      obtain ⟨rs, c, q⟩ := carriesT ok t fun x hx => hk x (List.mem_cons_of_mem _ hx)
      obtain ⟨b1, b2⟩ := b
      obtain ⟨h1, h2⟩ := h
      cases (show b1 = Value.ref e.2.1 from h1)
      have ke := hk e List.mem_cons_self
      exact ⟨(e.1, e.2.1, b2) :: rs, ⟨rfl, rfl, key_of ok ke, c⟩, .cons ⟨rfl, rfl, ke, h2⟩ q⟩
theorem pe_dispT {pos : Pos} {keys : List (Option Expr)} {values : List Expr} {trs : List (TE × TE)} (hu : X.A.units < cLine) (h : PPs X pos keys values trs) (hall : keys.all (·.isSome) = true) (hl : keys.length = values.length) (h0 : keys ≠ [])
    (h15 : keys.length ≤ 15) : PE X (.Dict keys values pos) (tDispT trs) := by
  refine ⟨fun pins s σ H Q I q => ?_⟩
  have hn := I.hok.fresh (Nat.le_refl s.heap.objs.size)
  have I1 := I.laid (a := s.heap.objs.size) (o := .dT []) (h' := s.heap.push { cls := .type "dict", data := .dict #[] }) (t' := s.toks) (fun _ _ q => Heap.get?_push_of_some _ q) (Nat.le_refl _) (dt_empty s.heap I.big)
  have hln := pairTrees_length keys values X.env pos hall hl
  have hne : pairTrees keys values X.env pos ≠ [] := fun e => h0 (List.length_eq_zero_iff.mp (by rw [← hln, e]; rfl))
  rw [arm_eval_Dict, zip_pairTrees keys values X.env pos hall hl, dictDisplay_pairs _ hne (by omega)]
  refine wpAny_bind (wpAny_standAt (wpAny_bind ?_))
  refine wpAny_subDictH (knd := tupleKind (mixKind X.prog X.w)) hu (by rw [hln]; exact h15) (thn (h.run pins _ σ _ _ I1 (q _ hn)) fun ws s2 ⟨ps, H2, I2, rel, e, es, ep, lk, ka, q2⟩ => ?_)
  subst ep
  obtain ⟨rs, c, rk⟩ := carriesT I2.hok rel ka
  obtain ⟨z, hd, xs0, r0, dd⟩ := dt_of I2.hok e
  cases r0
  refine ⟨rs, c, dd, fun h' tk dd' hs => wpAny_pure ⟨.ref s.heap.objs.size, _, ?_, rfl, q2⟩⟩
  have kt : KT H2 (mT [] (entK es)) (storedAllH [] rs) := kt_all rk .nil
  have hz : (mT [] (entK es)).length ≤ sizeLine := by
    have z := length_mT (entK es) []
    rw [List.length_nil, Nat.zero_add, List.length_map] at z
    rw [sizeLine_eq]
    omega
  obtain ⟨od, eds, ep, f1, f2, f3, f4, f5, f6⟩ := dd'
  refine d_write I2 (by rw [e]; exact True.intro) hs ⟨od, f1⟩ ⟨hz, hd, _, kt.keeps fun b ys eb => ?_, od, eds, ep, f1, f2, f3, f4, f6⟩
  rw [upd_ne (ne_of eb e (fun z => nomatch z))]
  exact eb
/-! list(d.items()) -/
/-- tuples put at their places -/
def putA : Hp → List (Addr × List V) → Hp
  | H, [] => H
  | H, p :: r => putA (upd H p.1 (.tup p.2)) r
theorem putA_off {b : Addr} : ∀ (ps : List (Addr × List V)) (H : Hp), b ∉ ps.map (·.1) → putA H ps b = H b
  | [], _, _ => rfl
  | p :: r, H, h => by
    rw [List.map_cons, List.mem_cons, not_or] at h
    show putA (upd H p.1 (.tup p.2)) r b = H b
    rw [putA_off r _ h.2, upd_ne h.1]
theorem putA_at : ∀ (ps : List (Addr × List V)) (H : Hp), (ps.map (·.1)).Nodup → ∀ p ∈ ps, putA H ps p.1 = some (.tup p.2)
  | [], _, _, p, hp => by cases hp
  | q :: r, H, nd, p, hp => by
    rw [List.map_cons, List.nodup_cons] at nd
    show putA (upd H q.1 (.tup q.2)) r p.1 = _
    rcases List.mem_cons.mp hp with e | hp
    · rw [e, putA_off r _ nd.1, upd_same]
    · exact putA_at r _ nd.2 p hp
/-- the entries by their places -/
theorem ents_of {H : Hp} : ∀ {kvs : List (List L2.Key × V)} {xs : List (List L2.Key × Addr × Value)}, KT H kvs xs → ∃ es : List Ent, entK es = kvs ∧ (∀ e ∈ es, KeyAt H e) ∧ Paired (fun (e : Ent) (x : List L2.Key × Addr × Value) => e.2.1 = x.2.1 ∧ RelV e.2.2 x.2.2) es xs
  | _, _, .nil => ⟨[], rfl, (fun e he => by cases he), .nil⟩
  | p :: kvs, x :: xs, .cons h t => by
    obtain ⟨es, g1, g2, g3⟩ := ents_of t
    refine ⟨(p.1, x.2.1, p.2) :: es, by rw [entK, List.map_cons]; exact congrArg _ g1, fun e he => ?_, .cons ⟨rfl, h.2.2⟩ g3⟩
    rcases List.mem_cons.mp he with z | z
    · rw [z]
      exact h.2.1
    · exact g2 e z
def rItemsT : V → Hp → VK → Prop := fun x H Q => ∃ (d : Addr) (kvs : List (List L2.Key × V)), x = .ref d ∧ Rd H d (.dT kvs) ∧
  ∀ (H' : Hp) (p : Addr) (ts : List Addr) (es : List Ent), Same H H' → H p = none → H' p = some (.lst (ts.map V.ref)) → entK es = kvs → (∀ e ∈ es, KeyAt H e) → Paired (fun t (e : Ent) => H' t = some (.tup [.ref e.2.1, e.2.2])) ts es → Q (.ref p) H'
def tListItemsT (te : TE) : TE := fun σ H Q => te σ H fun x H1 => rItemsT x H1 Q
theorem laidT {pins : List (Addr × Obj)} {σ : L2.St} {H : Hp} {s : Shared} {h' : Heap} {tk : Nat} {kvs : List (List L2.Key × V)} {xs : List (List L2.Key × Addr × Value)} {eds : Array DictEntry} {acc : Array Value} {c : Nat} {as : List Addr} (I : Inv X pins σ H s) (hz : kvs.length ≤ sizeLine) (kt : KT H kvs xs)
    (he : eds.toList = xs.map (entryOfKey (tupleKind (mixKind X.prog X.w)))) (hk : ∀ b o, s.heap.get? b = some o → h'.get? b = some o) (hS : h'.get? s.heap.objs.size = some { cls := .type "list", dict := none, data := .seq acc c, slots := #[] }) (hl : as.length = eds.size) (hG : PySem.W.DilG eds s.heap.objs.size h' as) (hacc : acc.toList = as.map Value.ref) :
    ∃ (H' : Hp) (es : List Ent), Same H H' ∧ H s.heap.objs.size = none ∧ H' s.heap.objs.size = some (.lst (as.map V.ref)) ∧ entK es = kvs ∧ (∀ e ∈ es, KeyAt H e) ∧ Paired (fun t (e : Ent) => H' t = some (.tup [.ref e.2.1, e.2.2])) as es ∧ Inv X pins σ H' { s with heap := h', toks := tk } := by
  obtain ⟨es, g1, g2, g3⟩ := ents_of kt
  have lx : eds.size = xs.length := size_of_entries he
  have le : es.length = xs.length := Paired.length g3
  have la : as.length = es.length := by omega
  have lk : kvs.length = es.length := by rw [← g1, List.length_map]
  have n0 : H s.heap.objs.size = none := I.hok.fresh (Nat.le_refl _)
  have nn : ∀ t ∈ as, H t = none := fun t ht => I.hok.fresh (Nat.le_of_lt (hG.above t ht))
  have ns : s.heap.objs.size ∉ as := fun z => Nat.lt_irrefl _ (hG.above _ z)
  have nd : as.Nodup := List.Pairwise.imp (fun {a b} (h : a < b) => Nat.ne_of_lt h) hG.rise
  let ps : List (Addr × List V) := as.zip (es.map fun e => [V.ref e.2.1, e.2.2])
  have p1 : ps.map (·.1) = as := List.map_fst_zip (by rw [List.length_map]; omega)
  let H1 := upd H s.heap.objs.size (.lst (as.map V.ref))
  let H' := putA H1 ps
  have off : ∀ b, b ∉ as → H' b = H1 b := fun b hb => putA_off ps H1 (by rw [p1]; exact hb)
  have at' : ∀ p ∈ ps, H' p.1 = some (.tup p.2) := putA_at ps H1 (by rw [p1]; exact nd)
  have sm : Same H H' := fun b o e => by
    rw [off b (fun z => by rw [nn b z] at e; cases e)]
    show upd H s.heap.objs.size _ b = _
    rw [upd_ne (ne_of_none e n0)]
    exact e
  have eS : H' s.heap.objs.size = some (.lst (as.map V.ref)) := by rw [off _ ns]; exact upd_same
  have pr : Paired (fun t (e : Ent) => H' t = some (.tup [.ref e.2.1, e.2.2])) as es := by
    have key : ∀ (as : List Addr) (es : List Ent), as.length = es.length → (∀ p ∈ as.zip (es.map fun e => [V.ref e.2.1, e.2.2]), H' p.1 = some (.tup p.2)) → Paired (fun t (e : Ent) => H' t = some (.tup [.ref e.2.1, e.2.2])) as es := by
      intro as
      induction as with
      | nil =>
        intro es h _
        cases es with
        | nil => exact .nil
        | cons => cases h
      | cons a as ih =>
        intro es h hp
        cases es with
        | nil => cases h
        | cons e es => exact .cons (hp (a, [V.ref e.2.1, e.2.2]) List.mem_cons_self) (ih es (Nat.succ.inj h) fun p hm => hp p (List.mem_cons_of_mem _ hm))
    exact key as es la at'
  have low : ∀ b o, s.heap.get? b = some o → b ∉ as ∧ b ≠ s.heap.objs.size := fun b o e => ⟨fun z => absurd (Heap.lt_size e) (Nat.not_lt.mpr (Nat.le_of_lt (hG.above b z))), Nat.ne_of_lt (Heap.lt_size e)⟩
  refine ⟨H', es, sm, n0, eS, g1, g2, pr, ?_⟩
  refine I.call' (ch := []) rfl ⟨fun b o q _ _ _ => hk b o q, fun b o q _ _ _ => ⟨o.slots, hk b o q⟩, fun b o q n _ => ?_, fun b o q _ => ⟨o, hk b o q⟩, fun b xs q => sm b _ q, fun b o u q => sm b _ q, fun b ps q => ⟨#[], by rw [sm b _ q]; simp⟩⟩ (fun b u q => ?_) I.bare fun b z => by simp at z
  · obtain ⟨z1, z2⟩ := low b o q
    rw [off b z1]
    show upd H s.heap.objs.size _ b = _
    rw [upd_ne z2]
    exact n
  · by_cases hb : b ∈ as
    · obtain ⟨j, hj⟩ := List.mem_iff_getElem?.mp hb
      obtain ⟨e, hej, he2⟩ := LiI.paired_get pr hj
      rw [he2] at q
      cases q
      obtain ⟨x, hxj, hx1, hx2⟩ := LiI.paired_get g3 hej
      obtain ⟨hjl, ho⟩ := hG.pairs j b hj
      have ee := entry_at he j
      rw [Array.getElem?_eq_getElem hjl, hxj] at ee
      have ee := Option.some.inj ee
      rw [ee] at ho
      refine ⟨by show 2 ≤ sizeLine; decide, [.ref x.2.1, x.2.2], .cons (by rw [hx1]; rfl) (.cons hx2 .nil), ⟨_, ho, rfl, _, rfl⟩⟩
    · by_cases hb2 : b = s.heap.objs.size
      · rw [hb2] at q ⊢
        rw [eS] at q
        cases q
        refine ⟨by rw [List.length_map]; omega, acc.toList, c, by rw [hacc]; exact LiI.vals_refs as, ?_⟩
        rw [Array.toArray_toList]
        exact hS
      · have e1 : H' b = H b := by
          rw [off b hb]
          exact upd_ne hb2
        rw [e1] at q
        exact (I.hok b u q).stay (fun d v _ y => hk d v y) (fun d y => sm d _ y) fun d xs y => sm d _ y
variable {e : Expr} {te : TE} {p apos cpos pos : Pos}
theorem pe_listItemsT (hc : X.calm = true) (he : PE X e te) (hg : Gl X "list") (hm : X.mg "list" = none) (hv : bootBuiltins "list" = some (.type "list")) (hbase : attributeBase e "items" X.env (eval e X.env) = eval e X.env := by rfl) (hline : (apos.endLine == cpos.line) = true := by rfl)
    (hs : starEach [.Call (.Attribute e "items" apos) [] [] cpos] X.env = (false, eval (.Call (.Attribute e "items" apos) [] [] cpos) X.env) :: starEach [] X.env := by rfl) :
    PE X (.Call (.Name "list" p) [.Call (.Attribute e "items" apos) [] [] cpos] [] pos) (tListItemsT te) := by
  refine ⟨fun pins s σ H Q I hq => ?_⟩
  refine wpAny_Call_Name_kw (ld_blt I hg hm hv (callWith_type1 ?_ hs rfl))
  rw [hs]
  refine Calls.spliced_cons (wpAny_Call_method (T := "dict") (id := "dict.items") hbase rfl hline F.plainAttrs_dict F.slot_dict_items F.type_dict_items (thn (he.run pins s σ H _ I hq) fun u s1 ⟨x, H1, I1, rx, d, kvs, ex, hd, q⟩ => ?_))
  subst ex
  obtain rfl : u = Value.ref d := rx
  obtain ⟨hz, lo, xs, kt, o, eds, ep, ho, hx, hdt, hen, hnd⟩ := (show ObjOk X.prog X.w H1 s1.heap d (.dT kvs) from hd.ok I1.hok)
  have raw : s1.heap.DictRaw d eds ep := ⟨o, ho, hx, hdt⟩
  have I2 : Inv X pins σ H1 { s1 with heap := s1.heap.push { cls := .type "dict_items", data := .fields #[.ref d] } } := I1.kept (t' := s1.toks) fun b ob q => Heap.get?_push_of_some _ q
  have lx : eds.size = xs.length := size_of_entries hen
  have lk : kvs.length = xs.length := Paired.length kt
  refine ⟨raw.typeIs, fun b q => by cases q; exact ⟨o, ho, hx.2.1⟩, ?_⟩
  show wpAny _ _ (callWith cpos (.builtin "dict.items") [.ref d] [] []) _ X.xe s1
  refine method_meetsIn F.slot_dict_items F.entry_dict_items rfl (PySem.evalArgs_none ⟨rfl, raw.typeIs, F.args_dict_items_1 _, _, DT.meetsItems (es := eds) (ep := ep) lo, ⟨⟨o, ho, hx, hdt⟩, ?_⟩⟩)
  refine Calls.spliced_nil ?_
  refine PySem.W.dil_call (es := eds) (ep := ep) (I1.ok.hd hc) ⟨_, Heap.get?_push_size _ rfl, rfl, rfl⟩ (raw.at fun ob e => Heap.get?_push_of_some _ e) (by omega) fun h' tk acc c as hk hS hl hG hacc => ?_
  obtain ⟨H', es, k1, k2, k3, k4, k5, k6, J⟩ := laidT (tk := tk) I2 hz kt hen hk hS hl hG hacc
  exact ⟨.ref _, H', J, rfl, q H' _ as es k1 k2 k3 k4 k5 k6⟩
end
end DX

set_option Elab.async false
set_option linter.all false
set_option maxRecDepth 100000
set_option maxHeartbeats 4000000
/-! == with either answer: lists, tuples, dicts with tuple keys -/
namespace DX
open PySem PySem.Spec PyProof.Rows L2
section
variable {P : Program} {w : World} {κ : Type} [DecidableEq κ] {knd : HeapKind P w κ} {A : Around} {E : Value → Shared → Prop} {s : Shared}
theorem same_run {nm : String} {a b : Addr} {xs ys : List (κ × Addr × Value)} {e : κ × Addr × Value → Bool} {Q : Bool → Shared → Prop} (ha : (a == sysModules) = false) (hb : (b == sysModules) = false) (hu : knd.room A)
    (da : s.heap.DictOfH knd a xs) (db : s.heap.DictOfH knd b ys) (he : ∀ x ∈ xs, (atKey ys x.1 = none ∧ e x = false) ∨ ∃ p, atKey ys x.1 = some p ∧ SeqAt.EqP P w A s x.2.2 p.2 (e x))
    (h : Q (xs.length == ys.length && xs.all e) s) : wpAny (model P w) A (Builtin.Dict.samePairs nm a b) Q E s := by
  obtain ⟨oa, es, ep, ga, _, va, ea, ia, na⟩ := da
  obtain ⟨ob, fs, ep', gb, _, vb, eb, ib, nb⟩ := db
  have la : es.size = xs.length := size_of_entries ea
  have lb : fs.size = ys.length := size_of_entries eb
  unfold Builtin.Dict.samePairs Builtin.Dict.showsAll
  rw [if_neg (by rw [ha]; decide), if_neg (by rw [hb]; decide)]
  refine wpAny_bind (wpAny_pure (wpAny_bind (wpAny_pure (wpAny_bind (wpAny_dictEntries ga va ?_)))))
  dsimp only
  refine wpAny_bind (wpAny_dictEntries gb vb ?_)
  by_cases z : es.size = fs.size
  · have h1 : Q (xs.all e) s := by
      have z2 : xs.length = ys.length := by omega
      rw [z2] at h
      simpa using h
    rw [if_neg (by rw [z]; simp)]
    refine wpAny_bind (wpAny_dictEpoch ga va (wpAny_bind ?_))
    rw [Std.Legacy.Range.forIn_eq_forIn_range']; simp only [Std.Legacy.Range.size, Nat.sub_zero, Nat.add_sub_cancel, Nat.div_one]
    refine wpAny_forIn_list _ (fun rest q t => t = s ∧ q = (none, ()) ∧ ∃ i, rest = List.range' i (es.size - i) ∧ i ≤ es.size ∧ (xs.take i).all e = true) _ (fun j rest q t hq => ?_) (fun q t hq => ?_) _ _ ⟨rfl, rfl, 0, by simp, Nat.zero_le _, rfl⟩
    · obtain ⟨rfl, rfl, i, hr, hi, hpre⟩ := hq
      have hlt : i < es.size := Nat.lt_of_not_le fun g => by rw [Nat.sub_eq_zero_of_le g] at hr; simp at hr
      have e1 : es.size - i = (es.size - (i + 1)) + 1 := by omega
      rw [e1, List.range'_succ] at hr
      obtain ⟨rfl, hrest⟩ : j = i ∧ rest = List.range' (i + 1) (es.size - (i + 1)) := by
        injection hr with g1 g2; exact ⟨g1, g2⟩
      have hx : xs[j]? = some xs[j] := List.getElem?_eq_getElem (by omega)
      have hm : xs[j] ∈ xs := List.getElem_mem (by omega)
      generalize xs[j] = x at hx hm
      refine wpAny_bind (wpAny_dictEntries ga va ?_)
      rw [entry_at ea j, hx]
      show wpAny _ _ (holding [Value.ref x.2.1, x.2.2] _ >>= _) _ _ _
      have nx : e x = true → (xs.take (j + 1)).all e = true := fun g => by
        rw [List.take_add_one, hx, List.all_append, hpre]; simp [g]
      have no : e x = false → xs.all e = false := fun g => List.all_eq_false.mpr ⟨x, hm, by rw [g]; decide⟩
      refine wpAny_bind (wpAny_holding (wpAny_bind (wpAny_dictFind_heap hu (ia x hm) gb vb eb ib nb (fun g => ?_) fun k p g => ?_)))
      · rcases he x hm with ⟨_, g2⟩ | ⟨p, g1, _⟩
        · refine wpAny_pure ?_
          show wpAny _ _ (if (!false) = true then _ else _) _ _ _
          rw [if_pos (by decide)]
          rw [no g2] at h1
          exact wpAny_pure (wpAny_pure h1)
        · rw [atKey_none_of_get g] at g1; cases g1
      · rcases he x hm with ⟨g1, _⟩ | ⟨p', g1, g2⟩
        · rw [atKey_of_get nb g] at g1; cases g1
        · rw [atKey_of_get nb g] at g1
          cases Option.some.inj g1
          refine wpAny_bind (wpAny_dictEntries gb vb ?_)
          rw [entry_at eb k, g]
          refine wpAny_holding (g2 _ _ ?_)
          cases ec : e x with
          | false =>
            rw [no ec] at h1
            show wpAny _ _ (if (!false) = true then _ else _) _ _ _
            rw [if_pos (by decide)]; exact wpAny_pure (wpAny_pure h1)
          | true =>
            show wpAny _ _ (if (!true) = true then _ else _) _ _ _
            rw [if_neg (by decide)]
            refine wpAny_bind (wpAny_dictEpoch ga va ?_)
            rw [if_neg (by simp)]; exact wpAny_pure ⟨rfl, rfl, j + 1, hrest, hlt, nx ec⟩
    · obtain ⟨rfl, rfl, i, hr, hi, hpre⟩ := hq
      have hin : i = es.size := Nat.le_antisymm hi (Nat.le_of_not_lt fun g => by
        have e1 : es.size - i = (es.size - (i + 1)) + 1 := by omega
        rw [e1, List.range'_succ] at hr; cases hr)
      rw [hin, la, List.take_length] at hpre
      rw [hpre] at h1
      exact wpAny_pure h1
  · rw [if_pos (by simpa using z)]
    have z2 : (xs.length == ys.length) = false := by
      rw [beq_eq_false_iff_ne]; omega
    rw [z2, Bool.false_and] at h
    exact wpAny_bind (wpAny_rule (wpAny_pure h))
theorem rc_dT {a b : Addr} {xs ys : List (κ × Addr × Value)} {e : κ × Addr × Value → Bool} (ha : (a == sysModules) = false) (hb : (b == sysModules) = false) (hr : knd.room A.in1) (hu : A.units < cLine)
    (da : s.heap.DictOfH knd a xs) (db : s.heap.DictOfH knd b ys) (he : ∀ x ∈ xs, (atKey ys x.1 = none ∧ e x = false) ∨ ∃ p, atKey ys x.1 = some p ∧ SeqAt.EqP P w A.in1 s x.2.2 p.2 (e x))
    (E Q : Value → Shared → Prop) (h : Q (.bool (xs.length == ys.length && xs.all e)) s) : wpAny (model P w) A (richCompare .Eq (.ref a) (.ref b)) Q E s := by
  refine wpAny_richCompare_same_room (op := .Eq) da.typeIs db.typeIs F.slot_dict_eq (wpAny_call_entry F.slot_dict_eq da.typeIs F.entry_dict_eq ?_ (F.args_dict_eq_2 _ _)) hu
  show wpAny _ _ (Builtin.Dict.dictSlotArgs "__eq__" ⟨[.ref a, .ref b], []⟩ >>= _) _ _ s
  refine wpAny_bind ?_
  unfold Builtin.Dict.dictSlotArgs
  refine wpAny_bind (wpAny_notOrdered_dict da.typeIs (wpAny_pure (wpAny_bind (wpAny_isInstance (T := "dict") db.typeIs F.sub_dict_dict ?_))))
  simp only [Bool.not_true, Bool.false_eq_true, if_false]
  refine wpAny_bind (wpAny_pure (wpAny_bind (wpAny_pure (wpAny_bind (same_run ha hb hr da db he (wpAny_pure ⟨_, rfl, (fun x => nomatch x), ?_⟩))))))
  simpa using h
end
end DX

set_option Elab.async false
set_option linter.all false
set_option maxRecDepth 100000
set_option maxHeartbeats 4000000
/-! the loops of == of lists and of tuples, with either answer, an invariant kept -/
namespace DX
open PySem PySem.Spec PyProof.Rows L2
open AutoSeq1 (wpAny_loadPart')
open MeetsSeq MeetsSeq2 MeetsSeq3 SeqRoads2
section
variable {P : Program} {w : World} {A : Around} {R : Result → Shared → Prop}
/-- N items in each of the lists, the i-th two comparing as e tells -/
def Lsts (P : Program) (w : World) (A : Around) (E : Value → Shared → Prop) (l b : Addr) (N : Nat) (I : Shared → Prop) (e : Nat → Bool) : Prop :=
  ∀ s, I s → ∃ (xs ys : Array Value) (n m : Nat), s.heap.get? l = some { cls := .type "list", data := .seq xs n } ∧ s.heap.get? b = some { cls := .type "list", data := .seq ys m } ∧ xs.size = N ∧ ys.size = N ∧
    ∀ i (h1 : i < xs.size) (h2 : i < ys.size), wpAny (model P w) A.in1 (eqBool xs[i] ys[i]) (fun r t => r = e i ∧ I t) E s
theorem all_no {N i : Nat} {e : Nat → Bool} (h : i < N) (g : e i = false) : (List.range N).all e = false := List.all_eq_false.mpr ⟨i, List.mem_range.mpr h, by rw [g]; decide⟩
theorem all_next {i : Nat} {e : Nat → Bool} (h : (List.range i).all e = true) (g : e i = true) : (List.range (i + 1)).all e = true := by
  rw [List.range_succ, List.all_append, h]; simp [g]
theorem lst_loop (l b : Addr) (N : Nat) (I : Shared → Prop) (e : Nat → Bool) (hl : Lsts P w A (fun x t => R (.error x) t) l b N I e)
    (fin : ∀ t, I t → R (.ok (.ret (.bool ((List.range N).all e)))) t) (k : Nat) :
    ∀ i : Nat, N - i = k → i ≤ N → (List.range i).all e = true → ∀ s, I s →
      wpAny (model P w) A.in1 (Builtin.«list.__eq__.loop» ⟨[.ref l, .ref b, rawInt i, rawInt 2], []⟩) (GQ.FinOf P w A R) (fun x t => R (.error x) t) s := by
  induction k with
  | zero =>
    intro i hk hi pre s h
    obtain ⟨xs, ys, n, m, g1, g2, z1, z2, _⟩ := hl s h
    obtain rfl : i = N := by omega
    have hR := fin s h
    rw [pre] at hR
    obtain ⟨hp, g, d, tk, os⟩ := s
    have o1 : xs[((i : Nat) : Int).toNat]? = none := by simp; omega
    have o2 : ys[((i : Nat) : Int).toNat]? = none := by simp; omega
    wp_walk using wpAny_loadPart' g1, wpAny_loadPart' g2
    rw [o1, o2]
    wp_walk using wpAny_loadPart' g1, wpAny_loadPart' g2
    show R (.ok (.ret (.bool (xs.size == ys.size)))) _
    rw [z1, z2, beq_self_eq_true]; exact hR
  | succ k ih =>
    intro i hk hi pre s h
    obtain ⟨xs, ys, n, m, g1, g2, z1, z2, turn⟩ := hl s h
    have l1 : i < xs.size := by omega
    have l2 : i < ys.size := by omega
    have ht := turn i l1 l2
    obtain ⟨hp, g, d, tk, os⟩ := s
    have o1 : xs[((i : Nat) : Int).toNat]? = some xs[i] := by simp [l1]
    have o2 : ys[((i : Nat) : Int).toNat]? = some ys[i] := by simp [l2]
    have cast : ((i : Int) + 1) = ((i + 1 : Nat) : Int) := by omega
    wp_walk using wpAny_loadPart' g1, wpAny_loadPart' g2
    rw [o1, o2]
    refine wpAny_bind (wpAny_mono ht (fun r t q => ?_) fun _ _ x => x)
    obtain ⟨rfl, q⟩ := q
    cases ec : e i with
    | true =>
      have rec' := ih (i + 1) (by omega) (by omega) (all_next pre ec) t q
      obtain ⟨hp2, gg2, d2, tk2, os2⟩ := t
      wp_walk
      rw [cast]
      exact ⟨plainId_quiet plain_eq_loop _, codeAny_builtin entry_eq_loop (by rw [Around.under_plainId plain_eq_loop _]; exact rec')⟩
    | false =>
      have hR := fin t q
      rw [all_no (by omega) ec] at hR
      obtain ⟨xs', ys', n', m', g1', g2', z1', z2', _⟩ := hl t q
      have o1' : xs'[((i : Nat) : Int).toNat]? = some (xs'[i]'(by omega)) := by simp [show i < xs'.size by omega]
      have o2' : ys'[((i : Nat) : Int).toNat]? = some (ys'[i]'(by omega)) := by simp [show i < ys'.size by omega]
      obtain ⟨hp2, gg2, d2, tk2, os2⟩ := t
      wp_walk using wpAny_loadPart' g1', wpAny_loadPart' g2'
      rw [o1', o2']
      wp_walk
      simpa using hR
theorem lst_body (l b : Addr) (N : Nat) (I : Shared → Prop) (e : Nat → Bool) (hl : Lsts P w A (fun x t => R (.error x) t) l b N I e)
    (fin : ∀ t, I t → R (.ok (.ret (.bool ((List.range N).all e)))) t) {s : Shared} (h : I s) :
    wpAny (model P w) A.in1 (Builtin.«list.__eq__» ⟨[.ref l, .ref b], []⟩) (GQ.FinOf P w A R) (fun x t => R (.error x) t) s := by
  obtain ⟨xs, ys, n, m, g1, g2, z1, z2, _⟩ := hl s h
  have rec' := lst_loop (A := A) (R := R) l b N I e hl fin N 0 rfl (Nat.zero_le _) rfl s h
  obtain ⟨hp, g, d, tk, os⟩ := s
  have fl := AutoSeq1.sub_list_list
  have ne : ¬ (xs.size != ys.size) = true := by simp [z1, z2]
  wp_walk using wpAny_loadPart' g1, wpAny_loadPart' g2
  exact ⟨plainId_quiet plain_eq_loop _, codeAny_builtin entry_eq_loop (by rw [Around.under_plainId plain_eq_loop _]; exact rec')⟩
theorem tup_body (l b : Addr) (xs ys : Array Value) (n m : Nat) (dd dd2 : Option Addr) (sl sl2 : Array (Option Value)) (I : Shared → Prop) (e : Nat → Bool)
    (turn : ∀ i (h1 : i < xs.size) (h2 : i < ys.size) s, I s → wpAny (model P w) A.in1 (eqBool xs[i] ys[i]) (fun r t => r = e i ∧ I t) (fun x t => R (.error x) t) s)
    (fin : ∀ t, I t → R (.ok (.ret (.bool ((List.range (min xs.size ys.size)).all e && xs.size == ys.size)))) t) {s : Shared} (g1 : s.heap.get? l = some { cls := .type "tuple", dict := dd, data := .seq xs n, slots := sl })
    (g2 : s.heap.get? b = some { cls := .type "tuple", dict := dd2, data := .seq ys m, slots := sl2 }) (h : I s) :
    wpAny (model P w) A.in1 (Builtin.«tuple.__eq__» ⟨[.ref l, .ref b], []⟩) (GQ.FinOf P w A R) (fun x t => R (.error x) t) s := by
  have ft := AutoSeq1.sub_tuple_tuple
  have zl : (xs.toList.zip ys.toList).length = min xs.size ys.size := by simp
  have h0 := h
  obtain ⟨hp, g, d, tk, os⟩ := s
  wp_walk using wpAny_loadPart' g1, wpAny_loadPart' g2, wpAny_forIn_list _ (fun rest q t => q.1 = none ∧ ∃ i, rest = (xs.toList.zip ys.toList).drop i ∧ i ≤ min xs.size ys.size ∧ (List.range i).all e = true ∧ I t) _
  case turn =>
    rintro ⟨y, x⟩ rest q t ⟨hq, i, hz, hi, pre, hI⟩
    have hlt : i < (xs.toList.zip ys.toList).length := Nat.lt_of_not_le fun g => by rw [List.drop_of_length_le g] at hz; cases hz
    have l1 : i < xs.size := by omega
    have l2 : i < ys.size := by omega
    rw [List.drop_eq_getElem_cons hlt] at hz
    injection hz with hyx hrest
    obtain rfl : y = xs[i] := by simpa using congrArg Prod.fst hyx
    obtain rfl : x = ys[i] := by simpa using congrArg Prod.snd hyx
    refine wpAny_bind (wpAny_mono (turn i l1 l2 t hI) (fun r t2 q2 => ?_) fun _ _ x => x)
    obtain ⟨rfl, q2⟩ := q2
    cases ec : e i with
    | true => wp_walk; exact ⟨rfl, i + 1, hrest, by omega, all_next pre ec, q2⟩
    | false =>
      have hR := fin t2 q2
      rw [all_no (by omega) ec, Bool.false_and] at hR
      wp_walk; simpa using hR
  case fin =>
    rintro ⟨b1, b2⟩ t ⟨hq, i, hz, hi, pre, hI⟩
    simp only at hq
    subst hq
    have hge : min xs.size ys.size ≤ i := Nat.le_of_not_lt fun g => by
      rw [List.drop_eq_getElem_cons (by omega)] at hz; cases hz
    have hR := fin t hI
    rw [show min xs.size ys.size = i by omega, pre, Bool.true_and] at hR
    wp_walk
    simpa [Builtin.Tuple.tupleCompareSizes] using hR
  case h => exact ⟨rfl, 0, rfl, Nat.zero_le _, rfl, h0⟩
end
section
variable {P : Program} {w : World} {A : Around} {E : Value → Shared → Prop} {s : Shared}
theorem rc_lsts {l b : Addr} {N : Nat} {Q : Value → Shared → Prop} {e : Nat → Bool} (hu : A.units < cLine) (I : Shared → Prop) (hl : Lsts P w A E l b N I e)
    (fin : ∀ t, I t → Q (.bool ((List.range N).all e)) t) (h : I s) : wpAny (model P w) A (richCompare .Eq (.ref l) (.ref b)) Q E s := by
  obtain ⟨xs, ys, n, m, g1, g2, _⟩ := hl s h
  refine wpAny_richCompare_same_room (op := .Eq) ⟨_, g1, rfl⟩ ⟨_, g2, rfl⟩ F.slot_list_eq (GQ.call_here F.slot_list_eq ⟨_, g1, rfl⟩ F.entry_list_eq (F.args_list_eq_2 _ _) ?_) hu
  exact lst_body (R := wants (fun v t => v ≠ .notImplemented ∧ Q v t) E) l b N I e hl (fun t q => ⟨(fun x => nomatch x), fin t q⟩) h
theorem rc_tups {l b : Addr} {xs ys : Array Value} {Q : Value → Shared → Prop} {e : Nat → Bool} (hu : A.units < cLine) (I : Shared → Prop) (hl : s.heap.IsTuple l xs) (hb : s.heap.IsTuple b ys)
    (turn : ∀ i (h1 : i < xs.size) (h2 : i < ys.size) s, I s → wpAny (model P w) A.in1 (eqBool xs[i] ys[i]) (fun r t => r = e i ∧ I t) E s)
    (fin : ∀ t, I t → Q (.bool ((List.range (min xs.size ys.size)).all e && xs.size == ys.size)) t) (h : I s) : wpAny (model P w) A (richCompare .Eq (.ref l) (.ref b)) Q E s := by
  obtain ⟨⟨c1, d1, v1, s1⟩, o1, e1, n, f1⟩ := id hl
  obtain ⟨⟨c2, d2, v2, s2⟩, o2, e2, m, f2⟩ := id hb
  simp only at e1 f1 e2 f2
  subst e1 f1 e2 f2
  refine wpAny_richCompare_same_room (op := .Eq) ⟨_, o1, rfl⟩ ⟨_, o2, rfl⟩ F.slot_tuple_eq (GQ.call_here F.slot_tuple_eq ⟨_, o1, rfl⟩ F.entry_tuple_eq (F.args_tuple_eq_2 _ _) ?_) hu
  exact tup_body (R := wants (fun v t => v ≠ .notImplemented ∧ Q v t) E) l b xs ys n m d1 d2 s1 s2 I e turn (fun t q => ⟨(fun x => nomatch x), fin t q⟩) o1 o2 h
end
end DX

set_option Elab.async false
set_option linter.all false
set_option maxRecDepth 100000
set_option maxHeartbeats 4000000
/-! == of nested values with either answer -/
namespace DX
open PySem PySem.Spec PyProof.Rows L2
/-- do the two hold the same under the same keys (flat values) -/
def dEq (ks ls : List (List L2.Key × V)) : Bool := ks.length == ls.length && ks.all fun p => match valV ls p.1 with
  | some u => eqV p.2 u
  | none => false
abbrev OwnE := Addr → Addr → Bool → Hp → Prop
/-- one level; E tells of the items -/
def EqS (K : PySem.W.Frag) (H : Hp) (E : V → V → Bool → Prop) (x y : V) (b : Bool) : Prop :=
  (∃ a c xs ys, x = .ref a ∧ y = .ref c ∧ H a = some (.lst xs) ∧ H c = some (.lst ys) ∧ xs.length ≠ ys.length ∧ b = false) ∨
  (∃ a c xs ys, ∃ e : Nat → Bool, x = .ref a ∧ y = .ref c ∧ H a = some (.lst xs) ∧ H c = some (.lst ys) ∧ xs.length = ys.length ∧ (∀ i x y, xs[i]? = some x → ys[i]? = some y → E x y (e i)) ∧ b = (List.range xs.length).all e) ∨
  (∃ a c xs ys, ∃ e : Nat → Bool, x = .ref a ∧ y = .ref c ∧ SqT K H a xs ∧ SqT K H c ys ∧ (∀ i x y, xs[i]? = some x → ys[i]? = some y → E x y (e i)) ∧ b = ((List.range (min xs.length ys.length)).all e && xs.length == ys.length)) ∨
  (∃ a c ks ls, x = .ref a ∧ y = .ref c ∧ Rd H a (.dT ks) ∧ Rd H c (.dT ls) ∧ (∀ p ∈ ks, flatV p.2 = true) ∧ (∀ p ∈ ls, flatV p.2 = true) ∧ b = dEq ks ls)
def EqB (K : PySem.W.Frag) (D : OwnE) (H : Hp) : Nat → V → V → Bool → Prop
  | 0 => fun _ _ _ => False
  | n + 1 => fun x y b => (flatV x = true ∧ flatV y = true ∧ b = eqV x y) ∨ (∃ a, x = .ref a ∧ y = .ref a ∧ b = true) ∨ (∃ a xs z, x = .ref a ∧ H a = some (.lst xs) ∧ y = .str z ∧ b = false) ∨
    ((x = y → b = true) ∧ EqS K H (EqB K D H n) x y b) ∨ ∃ a c, x = .ref a ∧ y = .ref c ∧ (a = c → b = true) ∧ D a c b H
/-- the own == tells what D says, and leaves all as it is -/
def OwnR (X : Cx) (m : Nat) (D : OwnE) : Prop := ∀ (A : Around) (pins : List (Addr × Obj)) (s : Shared) (σ : L2.St) (H : Hp) (a c : Addr) (b : Bool), Sub X m A → Inv X pins σ H s → D a c b H →
  wpAny (model X.prog X.w) A (richCompare .Eq (.ref a) (.ref c)) (fun r t => r = .bool b ∧ Inv X pins σ H t) X.xe s
def noD : OwnE := fun _ _ _ _ => False
theorem ownR_no {X : Cx} : OwnR X 0 noD := fun _ _ _ _ _ _ _ _ _ _ d => d.elim
section
variable {X : Cx} {pins : List (Addr × Obj)} {σ : L2.St} {H : Hp} {s : Shared} {A : Around}
theorem valT {ks : List (List L2.Key × V)} {xs : List (List L2.Key × Addr × Value)} (r : KT H ks xs) (k : List L2.Key) : RelO (valV ks k) ((atKey xs k).map (·.2)) := r.val k
theorem kt_mem : ∀ {ks : List (List L2.Key × V)} {xs : List (List L2.Key × Addr × Value)}, KT H ks xs → ∀ x ∈ xs, ∃ p ∈ ks, p.1 = x.1 ∧ RelV p.2 x.2.2
  | _, _, .nil, x, hx => by cases hx
  | p :: ks, y :: xs, .cons h t, x, hx => by
    rcases List.mem_cons.mp hx with e | hx
    · exact ⟨p, List.mem_cons_self, by rw [e]; exact h.1, by rw [e]; exact h.2.2⟩
    · obtain ⟨q, h1, h2⟩ := kt_mem t x hx
      exact ⟨q, List.mem_cons_of_mem _ h1, h2⟩
theorem kt_all_eq {f : List L2.Key → V → Bool} {g : List L2.Key × Addr × Value → Bool} : ∀ {ks : List (List L2.Key × V)} {xs : List (List L2.Key × Addr × Value)}, KT H ks xs → (∀ p x, p ∈ ks → x ∈ xs → p.1 = x.1 → RelV p.2 x.2.2 → g x = f p.1 p.2) → xs.all g = ks.all fun p => f p.1 p.2
  | _, _, .nil, _ => rfl
  | p :: ks, y :: xs, .cons h t, hh => by
    rw [List.all_cons, List.all_cons, hh p y List.mem_cons_self List.mem_cons_self h.1 h.2.2, kt_all_eq t fun p x hp hx => hh p x (List.mem_cons_of_mem _ hp) (List.mem_cons_of_mem _ hx)]
theorem valV_mem {κ : Type} [DecidableEq κ] {k : κ} {u : V} : ∀ {ls : List (κ × V)}, valV ls k = some u → ∃ p ∈ ls, p.1 = k ∧ p.2 = u
  | [], h => by cases h
  | p :: ls, h => by
    by_cases e : p.1 = k
    · rw [valV_pos e] at h
      exact ⟨p, List.mem_cons_self, e, Option.some.inj h⟩
    · rw [valV_neg e] at h
      obtain ⟨q, h1, h2⟩ := valV_mem h
      exact ⟨q, List.mem_cons_of_mem _ h1, h2⟩
/-- the flag of one entry -/
def fl (ls : List (List L2.Key × V)) (k : List L2.Key) (v : V) : Bool := match valV ls k with
  | some u => eqV v u
  | none => false
theorem dT_run (I : Inv X pins σ H s) {a c : Addr} {ks ls : List (List L2.Key × V)} (ha : Rd H a (.dT ks)) (hc : Rd H c (.dT ls)) (fk : ∀ p ∈ ks, flatV p.2 = true) (fl' : ∀ p ∈ ls, flatV p.2 = true) (hu : A.units + 1 < cLine) (E Q : Value → Shared → Prop)
    (h : Q (.bool (dEq ks ls)) s) : wpAny (model X.prog X.w) A (richCompare .Eq (.ref a) (.ref c)) Q E s := by
  obtain ⟨z1, lo1, xs, r1, d1⟩ := dt_rd I.hok ha
  obtain ⟨z2, lo2, ys, r2, d2⟩ := dt_rd I.hok hc
  -- what the first one holds at a key, as an abstract value
  let e : List L2.Key × Addr × Value → Bool := fun x => match valV ks x.1 with
    | some v => fl ls x.1 v
    | none => false
  have nd : (ks.map (·.1)).Nodup := by
    obtain ⟨_, _, _, _, _, _, _, _, hn⟩ := d1
    have key : ∀ {ks : List (List L2.Key × V)} {xs : List (List L2.Key × Addr × Value)}, KT H ks xs → ks.map (·.1) = xs.map (·.1) := by
      intro ks xs r
      induction r with
      | nil => rfl
      | cons h t ih => rw [List.map_cons, List.map_cons, h.1, ih]
    rw [key r1]
    exact hn
  have ev : ∀ p ∈ ks, valV ks p.1 = some p.2 := fun p hp => by
    have key : ∀ {ks : List (List L2.Key × V)}, (ks.map (·.1)).Nodup → ∀ p ∈ ks, valV ks p.1 = some p.2 := by
      intro ks
      induction ks with
      | nil => intro _ p hp; cases hp
      | cons q ks ih =>
        intro nd p hp
        rw [List.map_cons, List.nodup_cons] at nd
        rcases List.mem_cons.mp hp with z | z
        · rw [z]
          exact valV_pos rfl
        · rw [valV_neg (fun g => nd.1 (by rw [g]; exact List.mem_map.mpr ⟨p, z, rfl⟩))]
          exact ih nd.2 p z
    exact key nd p hp
  refine rc_dT (knd := tupleKind (mixKind X.prog X.w)) (e := e) lo1 lo2 (show A.units + 1 < cLine from hu) (by omega) d1 d2 (fun x hx => ?_) E Q ?_
  · obtain ⟨p, hp, hp1, hp2⟩ := kt_mem r1 x hx
    have e1 : e x = fl ls x.1 p.2 := by
      show (match valV ks x.1 with | some v => fl ls x.1 v | none => false) = _
      rw [← hp1, ev p hp]
    have rv := valT r2 x.1
    cases hv : valV ls x.1 with
    | none =>
      rw [hv] at rv
      refine .inl ⟨?_, by rw [e1]; unfold fl; rw [hv]⟩
      cases ha : atKey ys x.1 with
      | none => rfl
      | some q => rw [ha] at rv; exact rv.elim
    | some u =>
      rw [hv] at rv
      obtain ⟨w', hw, rw'⟩ := RelO.some_of rv
      obtain ⟨q, hq, rfl⟩ := Option.map_eq_some_iff.mp hw
      refine .inr ⟨q, hq, ?_⟩
      obtain ⟨p2, m2, _, m3⟩ := valV_mem hv
      have z := (eqAt_V (A := A.in1) (s := s) hp2 rw' (fk p hp) (by rw [← m3]; exact fl' p2 m2)).eqP (prog := X.prog) (w := X.w)
      rw [e1]
      unfold fl
      rw [hv]
      exact z
  · have a1 : xs.length = ks.length := (Paired.length r1).symm
    have a2 : ys.length = ls.length := (Paired.length r2).symm
    have a3 : xs.all e = ks.all fun p => fl ls p.1 p.2 := kt_all_eq (f := fun k v => fl ls k v) r1 fun p x hp hx h1 h2 => by
      show (match valV ks x.1 with | some v => fl ls x.1 v | none => false) = _
      rw [← h1, ev p hp]
    rw [a1, a2, a3]
    exact h
theorem eqS_run {F : V → V → Bool → Prop} {n : Nat} (sb : Sub X (n + 1) A)
    (ih : ∀ (A' : Around) (s : Shared) (x y : V) (b : Bool) (u v : Value), Sub X n A' → Inv X pins σ H s → RelV x u → RelV y v → F x y b → wpAny (model X.prog X.w) A' (eqBool u v) (fun r t => r = b ∧ Inv X pins σ H t) X.xe s)
    (I : Inv X pins σ H s) {x y : V} {b : Bool} {u v : Value} (rx : RelV x u) (ry : RelV y v) (h : EqS X.K H F x y b) : wpAny (model X.prog X.w) A (richCompare .Eq u v) (fun r t => r = .bool b ∧ Inv X pins σ H t) X.xe s := by
  have hu : A.units + 1 < cLine := by have := sb.room.un; omega
  rcases h with ⟨a, c, xs, ys, rfl, rfl, ha, hc, ne, rfl⟩ | ⟨a, c, xs, ys, e, rfl, rfl, ha, hc, hl, he, rfl⟩ | ⟨a, c, xs, ys, e, rfl, rfl, ha, hc, he, rfl⟩ | ⟨a, c, ks, ls, rfl, rfl, ha, hc, fk, fl, rfl⟩
  · cases rx
    cases ry
    obtain ⟨us, r1, p1, _⟩ := I.list (SqL.of ha)
    obtain ⟨ws, r2, p2, _⟩ := I.list (SqL.of hc)
    refine SeqAt.RcAt.lists_lengths p1.isList p2.isList ?_ (by omega) X.prog X.w X.xe _ ⟨rfl, I⟩
    have z1 := r1.length
    have z2 := r2.length
    simp only [List.size_toArray, bne_iff_ne, ne_eq]
    omega
  · cases rx
    cases ry
    refine rc_lsts (N := xs.length) (e := e) (by omega) (fun t => Inv X pins σ H t) (fun t J => ?_) (fun t J => ⟨rfl, J⟩) I
    obtain ⟨_, us, n1, r1, o1⟩ := J.hok a _ ha
    obtain ⟨_, ws, n2, r2, o2⟩ := J.hok c _ hc
    refine ⟨us.toArray, ws.toArray, n1, n2, o1, o2, by rw [List.size_toArray, ← r1.length], by rw [List.size_toArray, ← r2.length, ← hl], fun i h1 h2 => ?_⟩
    have k1 : i < xs.length := by rw [r1.length]; simpa using h1
    have k2 : i < ys.length := by rw [r2.length]; simpa using h2
    obtain ⟨p, hp, rp⟩ := r1.get (List.getElem?_eq_getElem k1)
    obtain ⟨q, hq, rq⟩ := r2.get (List.getElem?_eq_getElem k2)
    have e1 : us.toArray[i] = p := by
      have : us[i]? = some us.toArray[i] := by simp at h1; simp [h1]
      rw [hp] at this
      exact (Option.some.inj this).symm
    have e2 : ws.toArray[i] = q := by
      have : ws[i]? = some ws.toArray[i] := by simp at h2; simp [h2]
      rw [hq] at this
      exact (Option.some.inj this).symm
    rw [e1, e2]
    exact ih A.in1 t _ _ _ _ _ sb.in1 J rp rq (he i _ _ (List.getElem?_eq_getElem k1) (List.getElem?_eq_getElem k2))
  · cases rx
    cases ry
    obtain ⟨us, r1, o1, _⟩ := I.tuple ha
    obtain ⟨ws, r2, o2, _⟩ := I.tuple hc
    have z1 : us.toArray.size = xs.length := by rw [List.size_toArray, ← r1.length]
    have z2 : ws.toArray.size = ys.length := by rw [List.size_toArray, ← r2.length]
    refine rc_tups (e := e) (by omega) (fun t => Inv X pins σ H t) o1 o2 (fun i h1 h2 t J => ?_) (fun t J => ⟨by rw [z1, z2], J⟩) I
    have k1 : i < xs.length := by omega
    have k2 : i < ys.length := by omega
    obtain ⟨p, hp, rp⟩ := r1.get (List.getElem?_eq_getElem k1)
    obtain ⟨q, hq, rq⟩ := r2.get (List.getElem?_eq_getElem k2)
    have e1 : us.toArray[i] = p := by
      have : us[i]? = some us.toArray[i] := by simp at h1; simp [h1]
      rw [hp] at this
      exact (Option.some.inj this).symm
    have e2 : ws.toArray[i] = q := by
      have : ws[i]? = some ws.toArray[i] := by simp at h2; simp [h2]
      rw [hq] at this
      exact (Option.some.inj this).symm
    rw [e1, e2]
    exact ih A.in1 t _ _ _ _ _ sb.in1 J rp rq (he i _ _ (List.getElem?_eq_getElem k1) (List.getElem?_eq_getElem k2))
  · cases rx
    cases ry
    exact dT_run I ha hc fk fl hu _ _ ⟨rfl, I⟩
theorem refs_run {b : Bool} {a c : Addr} (g : a = c → b = true) (I : Inv X pins σ H s) (h : wpAny (model X.prog X.w) A (richCompare .Eq (.ref a) (.ref c)) (fun r t => r = .bool b ∧ Inv X pins σ H t) X.xe s) :
    wpAny (model X.prog X.w) A (eqBool (.ref a) (.ref c)) (fun r t => r = b ∧ Inv X pins σ H t) X.xe s := by
  by_cases e : a = c
  · subst e
    rw [g rfl]
    exact SeqAt.EqAt.same (A := A) (s := s) (.ref a) X.prog X.w X.xe _ ⟨rfl, I⟩
  · refine GQ.eqBool_refG e (wpAny_mono h (fun r t q => ⟨b, q.1, rfl, q.2⟩) fun _ _ x => x)
theorem eqB_run {D : OwnE} {m : Nat} (own : OwnR X m D) : ∀ (n : Nat) (A : Around) (s : Shared) (x y : V) (b : Bool) (u v : Value), Sub X (n + m) A → Inv X pins σ H s → RelV x u → RelV y v → EqB X.K D H n x y b →
    wpAny (model X.prog X.w) A (eqBool u v) (fun r t => r = b ∧ Inv X pins σ H t) X.xe s
  | 0, _, _, _, _, _, _, _, _, _, _, _, h => h.elim
  | n + 1, A, s, x, y, b, u, v, sb, I, rx, ry, h => by
    have hu : A.units + 1 < cLine := by have := sb.room.un; omega
    rcases h with ⟨fx, fy, rfl⟩ | ⟨a, rfl, rfl, rfl⟩ | ⟨a, xs, z, rfl, ha, rfl, rfl⟩ | ⟨g, h⟩ | ⟨a, c, rfl, rfl, g, d⟩
    · exact eqAt_V (A := A) (s := s) rx ry fx fy X.prog X.w X.xe _ ⟨rfl, I⟩
    · cases rx
      cases ry
      exact SeqAt.EqAt.same (A := A) (s := s) (.ref a) X.prog X.w X.xe _ ⟨rfl, I⟩
    · cases rx
      obtain ⟨t, rfl⟩ := (show ∃ t, v = Value.str z t from ry)
      obtain ⟨us, _, p1, _⟩ := I.list (SqL.of ha)
      exact SeqAt.EqAt.list_str (A := A) (s := s) z t p1.isList (by omega) X.prog X.w X.xe _ ⟨rfl, I⟩
    · have step := eqS_run (n := n + m) (F := EqB X.K D H n) (A := A) (sb.mono (by omega)) (fun A' s' x y b u v sb' J r1 r2 d => eqB_run own n A' s' x y b u v sb' J r1 r2 d) I rx ry h
      obtain ⟨a, c, rfl, rfl⟩ : ∃ a c, x = .ref a ∧ y = .ref c := by
        rcases h with ⟨a, c, _, _, e1, e2, _⟩ | ⟨a, c, _, _, _, e1, e2, _⟩ | ⟨a, c, _, _, _, e1, e2, _⟩ | ⟨a, c, _, _, e1, e2, _⟩ <;> exact ⟨a, c, e1, e2⟩
      cases rx
      cases ry
      exact refs_run (fun e => g (by rw [e])) I step
    · cases rx
      cases ry
      exact refs_run g I (own A pins s σ H a c b (sb.mono (by omega)) I d)
/-- x == y, x != y, lists, tuples, dicts with tuple keys, an own == -/
def rEqB (K : PySem.W.Frag) (D : OwnE) (n : Nat) : R2 := fun x y H Q => ∃ b, ((∃ a c, x = .ref a ∧ y = .ref c ∧ D a c b H) ∨ EqS K H (EqB K D H n) x y b) ∧ Q (.bl b) H
theorem op_eqB {D : OwnE} {n m : Nat} (own : OwnR X m D) (hr : Room (n + m + 1) X.A) : OpR X (compareOp .Eq) (rEqB X.K D n) := by
  intro pins s σ H x y v u Q I rx ry h
  obtain ⟨b, h, q⟩ := h
  show wpAny (model X.prog X.w) X.A (richCompare .Eq v u) (EP X pins σ Q) X.xe s
  have sb : Sub X (n + m + 1) X.A := ⟨hr, rfl⟩
  rcases h with ⟨a, c, rfl, rfl, d⟩ | h
  · cases rx
    cases ry
    refine wpAny_mono (own X.A pins s σ H a c b (sb.mono (by omega)) I d) (fun r t z => ?_) fun _ _ x => x
    obtain ⟨rfl, J⟩ := z
    exact ⟨.bl b, H, J, rfl, q⟩
  · refine wpAny_mono (eqS_run (n := n + m) (F := EqB X.K D H n) sb (fun A' s' x y b u v sb' J r1 r2 d => eqB_run own n A' s' x y b u v sb' J r1 r2 d) I rx ry h) (fun r t z => ?_) fun _ _ x => x
    obtain ⟨rfl, J⟩ := z
    exact ⟨.bl b, H, J, rfl, q⟩
end
end DX

set_option Elab.async false
set_option linter.all false
set_option maxRecDepth 100000
set_option maxHeartbeats 4000000
/-! an own == with either answer; != of tuples; more built-ins -/
namespace DX
open PySem PySem.Spec PyProof.Rows L2
/-- what the own == promises -/
def spEqB (D : OwnE) : Sp := fun vs H Q _ => ∃ a c b, vs = [.ref a, .ref c] ∧ D a c b H ∧ Q (.bl b) H
section
variable {X : Cx} {n : Nat}
theorem ownR_ins {D : OwnE} {CX : CXT} {C f : Addr} {fd : FuncData} {ps : List Str} {E : XK} (F : FnOk X.prog X.w X.K X.mg X.base CX n f fd ps (spEqB D)) (hs : PySem.W.findIn X.K (.ref C) "__eq__" = some (some (.ref f))) (hf : PySem.W.isFn X.K (.ref f) = true) (hb : Binds X.K fd ps []) (hx : Passes CX X E)
    (hD : ∀ a c b H, D a c b H → (∃ dx fs, H a = some (.ins C dx fs)) ∧ ((∃ dy gs, H c = some (.ins C dy gs)) ∨ ((∃ ys, SqT X.K H c ys) ∧ PySem.W.notFirst X.K C (.type "tuple") = true))) : OwnR X n D := by
  intro A pins s σ H a c b sb I d
  obtain ⟨⟨dx, fs, ha⟩, hc⟩ := hD a c b H d
  obtain ⟨mA, J, _⟩ := ins_get I.hok ha
  obtain ⟨od, J, _⟩ := J.look
  obtain ⟨m, hF⟩ := I.fr
  have main : wpAny (model X.prog X.w) A (call (.ref f) [.ref a, .ref c]) (PySem.W.CmpBack fun r t => r = .bool b ∧ Inv X pins σ H t) X.xe s := by
    have hsp : spEqB D [.ref a, .ref c] H (fun v H' => v = .bl b ∧ H' = H) E := ⟨a, c, b, rfl, d, rfl, rfl⟩
    have e0 : Env0 X.prog X.w X.K X.mg X.base A X.stack s H := by
      have e := I.env0
      exact ⟨by rw [sb.fr]; exact e.frames, e.mod, e.bs, e.bsz, e.funs, e.frf, e.hok, e.bare⟩
    have hl := F.len _ _ _ _ hsp
    have r2 : Vals [V.ref a, V.ref c] [Value.ref a, Value.ref c] := .cons rfl (.cons rfl .nil)
    refine wpAny_call (codeAny_mono (F.run A X.stack s H ⟨[.ref a, .ref c], []⟩ [.ref a, .ref c] [.ref a, .ref c] _ E sb.room e0 (by simpa using hb s [.ref a, .ref c] I.kIn (by simpa using hl)) r2 hsp) fun r t hq => ?_)
    cases r with
    | error e => exact hx pins σ H s e t I hq
    | ok fl =>
      cases fl with
      | ret u =>
        obtain ⟨z, H', I', rz, ez, eH⟩ := I.after hq
        subst ez eH
        cases rz
        exact ⟨rfl, I'⟩
      | next => exact False.elim hq
      | brk => exact False.elim hq
      | cont => exact False.elim hq
  rcases hc with ⟨dy, gs, hc⟩ | ⟨⟨ys, hc⟩, hn⟩
  · obtain ⟨mB, J', _⟩ := ins_get I.hok hc
    obtain ⟨od', J', _⟩ := J'.look
    exact PySem.W.cmp_K (op := .Eq) (tb := .ref C) sb.room.units0 hF I.ok.mod.kin J J'.type (by simp [PySem.W.notFirst]) hs hf main
  · obtain ⟨its, _, ⟨o, ho, hcl, _⟩, _⟩ := I.tuple hc
    have tt : PySem.W.Looks (model X.prog X.w) s.heap (typeOf (.ref c)) (.type "tuple") := by
      have tz : PySem.W.Looks (model X.prog X.w) s.heap (typeOf (.ref c)) o.cls := (PySem.W.Looks.ld ho).andThen .now
      rw [hcl] at tz; exact tz
    exact PySem.W.cmp_K (op := .Eq) (tb := .type "tuple") sb.room.units0 hF I.ok.mod.kin J tt hn hs hf main
end
/-! != of tuples -/
section
open AutoSeq1 (wpAny_loadPart')
open MeetsSeq MeetsSeq2 MeetsSeq3 SeqRoads2
variable {P : Program} {w : World} {A : Around} {R : Result → Shared → Prop}
theorem tup_ne_body (l b : Addr) (xs ys : Array Value) (n m : Nat) (dd dd2 : Option Addr) (sl sl2 : Array (Option Value)) (I : Shared → Prop) (e : Nat → Bool)
    (turn : ∀ i (h1 : i < xs.size) (h2 : i < ys.size) s, I s → wpAny (model P w) A.in1 (eqBool xs[i] ys[i]) (fun r t => r = e i ∧ I t) (fun x t => R (.error x) t) s)
    (fin : ∀ t, I t → R (.ok (.ret (.bool (!((List.range (min xs.size ys.size)).all e && xs.size == ys.size))))) t) {s : Shared} (g1 : s.heap.get? l = some { cls := .type "tuple", dict := dd, data := .seq xs n, slots := sl })
    (g2 : s.heap.get? b = some { cls := .type "tuple", dict := dd2, data := .seq ys m, slots := sl2 }) (h : I s) :
    wpAny (model P w) A.in1 (Builtin.«tuple.__ne__» ⟨[.ref l, .ref b], []⟩) (GQ.FinOf P w A R) (fun x t => R (.error x) t) s := by
  have ft := AutoSeq1.sub_tuple_tuple
  have zl : (xs.toList.zip ys.toList).length = min xs.size ys.size := by simp
  have h0 := h
  obtain ⟨hp, g, d, tk, os⟩ := s
  wp_walk using wpAny_loadPart' g1, wpAny_loadPart' g2, wpAny_forIn_list _ (fun rest q t => q.1 = none ∧ ∃ i, rest = (xs.toList.zip ys.toList).drop i ∧ i ≤ min xs.size ys.size ∧ (List.range i).all e = true ∧ I t) _
  case turn =>
    rintro ⟨y, x⟩ rest q t ⟨hq, i, hz, hi, pre, hI⟩
    have hlt : i < (xs.toList.zip ys.toList).length := Nat.lt_of_not_le fun g => by rw [List.drop_of_length_le g] at hz; cases hz
    have l1 : i < xs.size := by omega
    have l2 : i < ys.size := by omega
    rw [List.drop_eq_getElem_cons hlt] at hz
    injection hz with hyx hrest
    obtain rfl : y = xs[i] := by simpa using congrArg Prod.fst hyx
    obtain rfl : x = ys[i] := by simpa using congrArg Prod.snd hyx
    refine wpAny_bind (wpAny_mono (turn i l1 l2 t hI) (fun r t2 q2 => ?_) fun _ _ x => x)
    obtain ⟨rfl, q2⟩ := q2
    cases ec : e i with
    | true => wp_walk; exact ⟨rfl, i + 1, hrest, by omega, all_next pre ec, q2⟩
    | false =>
      have hR := fin t2 q2
      rw [all_no (by omega) ec, Bool.false_and] at hR
      wp_walk; simpa using hR
  case fin =>
    rintro ⟨b1, b2⟩ t ⟨hq, i, hz, hi, pre, hI⟩
    simp only at hq
    subst hq
    have hge : min xs.size ys.size ≤ i := Nat.le_of_not_lt fun g => by
      rw [List.drop_eq_getElem_cons (by omega)] at hz; cases hz
    have hR := fin t hI
    rw [show min xs.size ys.size = i by omega, pre, Bool.true_and] at hR
    have e2 : (xs.size != ys.size) = !(xs.size == ys.size) := rfl
    rw [← e2] at hR
    wp_walk
    simpa [Builtin.Tuple.tupleCompareSizes] using hR
  case h => exact ⟨rfl, 0, rfl, Nat.zero_le _, rfl, h0⟩
end
section
variable {P : Program} {w : World} {A : Around} {E : Value → Shared → Prop} {s : Shared}
theorem rc_tups_ne {l b : Addr} {xs ys : Array Value} {Q : Value → Shared → Prop} {e : Nat → Bool} (hu : A.units < cLine) (I : Shared → Prop) (hl : s.heap.IsTuple l xs) (hb : s.heap.IsTuple b ys)
    (turn : ∀ i (h1 : i < xs.size) (h2 : i < ys.size) s, I s → wpAny (model P w) A.in1 (eqBool xs[i] ys[i]) (fun r t => r = e i ∧ I t) E s)
    (fin : ∀ t, I t → Q (.bool (!((List.range (min xs.size ys.size)).all e && xs.size == ys.size))) t) (h : I s) : wpAny (model P w) A (richCompare .NotEq (.ref l) (.ref b)) Q E s := by
  obtain ⟨⟨c1, d1, v1, s1⟩, o1, e1, n, f1⟩ := id hl
  obtain ⟨⟨c2, d2, v2, s2⟩, o2, e2, m, f2⟩ := id hb
  simp only at e1 f1 e2 f2
  subst e1 f1 e2 f2
  refine wpAny_richCompare_same_room (op := .NotEq) ⟨_, o1, rfl⟩ ⟨_, o2, rfl⟩ F.slot_tuple_ne (GQ.call_here F.slot_tuple_ne ⟨_, o1, rfl⟩ F.entry_tuple_ne (F.args_tuple_ne_2 _ _) ?_) hu
  exact tup_ne_body (R := wants (fun v t => v ≠ .notImplemented ∧ Q v t) E) l b xs ys n m d1 d2 s1 s2 I e turn (fun t q => ⟨(fun x => nomatch x), fin t q⟩) o1 o2 h
end
section
variable {X : Cx}
/-- x != y, tuples -/
def rNeB (K : PySem.W.Frag) (D : OwnE) (n : Nat) : R2 := fun x y H Q => ∃ a c xs ys, ∃ e : Nat → Bool, x = .ref a ∧ y = .ref c ∧ SqT K H a xs ∧ SqT K H c ys ∧ (∀ i x y, xs[i]? = some x → ys[i]? = some y → EqB K D H n x y (e i)) ∧ Q (.bl (!((List.range (min xs.length ys.length)).all e && xs.length == ys.length))) H
theorem op_neB {D : OwnE} {n m : Nat} (own : OwnR X m D) (hr : Room (n + m + 1) X.A) : OpR X (compareOp .NotEq) (rNeB X.K D n) := by
  intro pins s σ H x y v u Q I rx ry h
  obtain ⟨a, c, xs, ys, e, rfl, rfl, ha, hc, he, q⟩ := h
  cases rx
  cases ry
  show wpAny (model X.prog X.w) X.A (richCompare .NotEq (.ref a) (.ref c)) (EP X pins σ Q) X.xe s
  have sb : Sub X (n + m + 1) X.A := ⟨hr, rfl⟩
  obtain ⟨us, r1, o1, _⟩ := I.tuple ha
  obtain ⟨ws, r2, o2, _⟩ := I.tuple hc
  have z1 : us.toArray.size = xs.length := by rw [List.size_toArray, ← r1.length]
  have z2 : ws.toArray.size = ys.length := by rw [List.size_toArray, ← r2.length]
  refine rc_tups_ne (e := e) hr.units0 (fun t => Inv X pins σ H t) o1 o2 (fun i h1 h2 t J => ?_) (fun t J => ⟨.bl _, H, J, by rw [z1, z2]; rfl, q⟩) I
  have k1 : i < xs.length := by omega
  have k2 : i < ys.length := by omega
  obtain ⟨p, hp, rp⟩ := r1.get (List.getElem?_eq_getElem k1)
  obtain ⟨q, hq, rq⟩ := r2.get (List.getElem?_eq_getElem k2)
  have e1 : us.toArray[i] = p := by
    have : us[i]? = some us.toArray[i] := by simp at h1; simp [h1]
    rw [hp] at this
    exact (Option.some.inj this).symm
  have e2 : ws.toArray[i] = q := by
    have : ws[i]? = some ws.toArray[i] := by simp at h2; simp [h2]
    rw [hq] at this
    exact (Option.some.inj this).symm
  rw [e1, e2]
  exact eqB_run own n X.A.in1 t _ _ _ _ _ sb.in1 J rp rq (he i _ _ (List.getElem?_eq_getElem k1) (List.getElem?_eq_getElem k2))
end
end DX

set_option Elab.async false
set_option linter.all false
set_option maxRecDepth 100000
set_option maxHeartbeats 4000000
/-! max(xs, default=d), max(t) -/
namespace DX
open PySem PySem.Spec PyProof.Rows L2
/-- the greatest, d for none -/
def mx (d : Int) : List Int → Int
  | [] => d
  | n :: r => r.foldl max n
theorem reads_of {h : Heap} : ∀ {ns : List Int} {us : List Value}, Vals (ns.map V.int) us → ReadsAll h us (ns.map PyData.int) []
  | [], _, r => by
    rw [List.map_nil] at r; cases r
    exact .nil
  | n :: ns, _, r => by
    rw [List.map_cons] at r
    cases r with
    | cons r t =>
      obtain ⟨k, rfl⟩ := r
      exact .cons (as := []) (bs := []) (.int n k) (reads_of t)
theorem alike_of (ns : List Int) : PySem.W.AlikeAll (ns.map PyData.int) := by
  refine ⟨fun x hx y hy => ?_, fun x hx => ?_⟩
  · obtain ⟨i, _, rfl⟩ := List.mem_map.mp hx
    obtain ⟨j, _, rfl⟩ := List.mem_map.mp hy
    rfl
  · obtain ⟨i, _, rfl⟩ := List.mem_map.mp hx
    intro z; cases z
theorem depth_of : ∀ ns : List Int, PyData.depthAll (ns.map PyData.int) ≤ 1
  | [] => Nat.zero_le _
  | n :: ns => by
    have := depth_of ns
    rw [List.map_cons]
    show max (PyData.depth (.int n)) (PyData.depthAll (ns.map PyData.int)) ≤ 1
    have z : PyData.depth (.int n) ≤ 1 := by simp [PyData.depth]
    omega
theorem reads_int {h : Heap} {v : Value} {n : Int} {bs : List Addr} (r : Reads h v (.int n) bs) : ∃ t, v = .int n t := by
  cases r
  exact ⟨_, rfl⟩
section
variable {X : Cx}
def rMaxDf (K : PySem.W.Frag) : List V → List V → Hp → VK → Prop := fun xs zs H Q => ∃ (a : Addr) (ns : List Int) (d : Int), xs = [.ref a] ∧ zs = [.int d] ∧ SqL K H a (ns.map V.int) ∧ Q (.int (mx d ns)) H
theorem cr_maxDf (hc : X.calm = true) (hu : X.A.units + 8 < cLine) : CallRK X (.builtin "max") ["default"] (rMaxDf X.K) := by
  intro pins s σ H xs zs us ws Q I r r2 q
  obtain ⟨a, ns, d, rfl, rfl, hl, q⟩ := q
  obtain ⟨u, rfl, ru⟩ := r.one
  cases ru
  obtain ⟨v, rfl, rv⟩ := r2.one
  obtain ⟨its, rl, pl, _⟩ := I.list hl
  have dp := depth_of ns
  show wpAny _ _ (call (.builtin "max") [.ref a] [(Str.ofString "default", v)]) _ _ s
  refine PySem.W.max_list_default (I.ok.hd hc) pl.isList (by simpa using reads_of rl) (alike_of ns) (by omega) (fun e h' tk hk => ?_) fun y ys i v' h' tk bs e hi hr hk => ?_
  · have e' : ns = [] := by simpa using e
    subst e'
    exact ⟨.int d, H, I.kept hk, rv, q⟩
  · cases ns with
    | nil => cases e
    | cons n r =>
      rw [List.map_cons] at e
      injection e with e1 e2
      subst e1 e2
      rw [PySem.W.maxD_ints] at hr
      obtain ⟨t, rfl⟩ := reads_int hr
      exact ⟨.int (mx d (n :: r)), H, I.kept hk, ⟨t, rfl⟩, q⟩
def rMaxT (K : PySem.W.Frag) : List V → Hp → VK → Prop := fun xs H Q => ∃ (a : Addr) (ns : List Int), xs = [.ref a] ∧ SqT K H a (ns.map V.int) ∧ ns ≠ [] ∧ Q (.int (mx 0 ns)) H
theorem cr_maxT (hc : X.calm = true) (hu : X.A.units + 8 < cLine) : CallR X (.builtin "max") (rMaxT X.K) := by
  intro pins s σ H xs us Q I r q
  obtain ⟨a, ns, rfl, hl, hne, q⟩ := q
  obtain ⟨u, rfl, ru⟩ := r.one
  cases ru
  obtain ⟨its, rl, pl, _⟩ := I.tuple hl
  have dp := depth_of ns
  cases ns with
  | nil => exact absurd rfl hne
  | cons n r =>
    have rr : ReadsAll s.heap its.toArray.toList (PyData.int n :: r.map PyData.int) [] := by simpa using reads_of (h := s.heap) rl
    refine PySem.W.max_tuple_data (I.ok.hd hc) pl rr (alike_of (n :: r)) (by rw [List.map_cons] at dp; omega) fun i v' h' tk bs hi hr hk => ?_
    rw [PySem.W.maxD_ints] at hr
    obtain ⟨t, rfl⟩ := reads_int hr
    exact ⟨.int (mx 0 (n :: r)), H, I.kept hk, ⟨t, rfl⟩, q⟩
end
theorem mx_le {d : Int} : ∀ {ns : List Int}, (∀ x ∈ ns, 0 ≤ x) → 0 ≤ d → 0 ≤ mx d ns
  | [], _, h => h
  | n :: r, hh, _ => by
    have key : ∀ (r : List Int) (n : Int), 0 ≤ n → 0 ≤ r.foldl max n := by
      intro r
      induction r with
      | nil => exact fun _ h => h
      | cons a r ih => exact fun n h => ih _ (Int.le_trans h (Int.le_max_left ..))
    exact key r n (hh n List.mem_cons_self)
theorem fold_ge : ∀ (r : List Int) (n : Int), n ≤ r.foldl max n ∧ ∀ x ∈ r, x ≤ r.foldl max n
  | [], n => ⟨Int.le_refl _, fun x hx => by cases hx⟩
  | a :: r, n => by
    obtain ⟨h1, h2⟩ := fold_ge r (max n a)
    rw [List.foldl_cons]
    refine ⟨Int.le_trans (Int.le_max_left ..) h1, fun x hx => ?_⟩
    rcases List.mem_cons.mp hx with e | hx
    · rw [e]; exact Int.le_trans (Int.le_max_right ..) h1
    · exact h2 x hx
theorem fold_mem : ∀ (r : List Int) (n : Int), r.foldl max n = n ∨ r.foldl max n ∈ r
  | [], n => .inl rfl
  | a :: r, n => by
    rw [List.foldl_cons]
    rcases fold_mem r (max n a) with h | h
    · rw [h]
      rcases Int.le_total n a with g | g
      · rw [Int.max_eq_right g]; exact .inr List.mem_cons_self
      · rw [Int.max_eq_left g]; exact .inl rfl
    · exact .inr (List.mem_cons_of_mem _ h)
/-- the greatest of numbers from 0 on is 0 just if all are -/
theorem mx_zero {ns : List Int} (h : ∀ x ∈ ns, 0 ≤ x) : mx 0 ns = 0 ↔ ∀ x ∈ ns, x = 0 := by
  cases ns with
  | nil => exact ⟨(fun _ x hx => by cases hx), (fun _ => rfl)⟩
  | cons n r =>
    have g := fold_ge r n
    constructor
    · intro e x hx
      have e' : r.foldl max n = 0 := e
      rw [e'] at g
      have h0 := h x hx
      rcases List.mem_cons.mp hx with z | z
      · rw [z] at h0 ⊢; have := g.1; omega
      · have := g.2 x z; omega
    · intro hh
      show r.foldl max n = 0
      rcases fold_mem r n with z | z
      · rw [z]; exact hh n List.mem_cons_self
      · exact hh _ (List.mem_cons_of_mem _ z)
end DX

set_option Elab.async false
set_option linter.all false
set_option maxRecDepth 100000
set_option maxHeartbeats 4000000
/-! steps of our own: each reading's combinator with what it asks as premises -/
namespace My
open PySem PySem.Spec PyProof.Rows L2
/-- what a for over range(..), over a list asks behind its argument; what a comprehension does -/
def FR (vs : List V) (g : TG) (tb : TS) (D : Ends) (σ : L2.St) (H1 : Hp) : Prop := ∃ j : Int, vs = [.int j] ∧ -(2 ^ 62) ≤ j ∧ j < 2 ^ 62 ∧ ∃ W : Nat → Nat → L2.St → Hp → Prop, (∃ m, W 0 m σ H1) ∧ ∀ i m σ H, W i m σ H →
  ((Itr 0 j.toNat).stop i H ∧ D.nx σ H) ∨ ((Itr 0 j.toNat).go i H ∧ ∃ N : L2.St → Hp → Prop, (∀ σ' H', N σ' H' → ∃ m', m' < m ∧ W (i + 1) m' σ' H') ∧ ∀ x H', (Itr 0 j.toNat).yld i H x H' → g x σ H' fun σ2 H2 => tb { D with nx := N, ct := N, bk := D.nx } σ2 H2)
def FL (K : PySem.W.Frag) (x : V) (g : TG) (tb : TS) (D : Ends) (σ : L2.St) (H1 : Hp) : Prop := ∃ a, x = .ref a ∧ (∃ xs, SqL K H1 a xs) ∧ ∃ W : Nat → Nat → L2.St → Hp → Prop, (∃ m, W 0 m σ H1) ∧ ∀ i m σ H, W i m σ H →
  ((Itl K a).stop i H ∧ D.nx σ H) ∨ ((Itl K a).go i H ∧ ∃ N : L2.St → Hp → Prop, (∀ σ' H', N σ' H' → ∃ m', m' < m ∧ W (i + 1) m' σ' H') ∧ ∀ x H', (Itl K a).yld i H x H' → g x σ H' fun σ2 H2 => tb { D with nx := N, ct := N, bk := D.nx } σ2 H2)
/-- a comprehension over the iterator J -/
def LJ (J : It) (g : TG) (tt : TT) (te : TE) (vs : List Nat) (σ : L2.St) (Q : VK) (H1 : Hp) : Prop := ∀ D, H1 D = none → ∃ W : Nat → Nat → Hp → Prop, (∃ m, W 0 m (upd H1 D (.lst []))) ∧ ∀ i m H, W i m H →
  (J.stop i H ∧ Q (.ref D) H) ∨ (J.go i H ∧ ∃ Nx : Hp → Prop, (∀ H', Nx H' → ∃ m', m' < m ∧ W (i + 1) m' H') ∧ ∀ x H', J.yld i H x H' → g x (wipe σ vs) H' fun σ2 H2 => wipe σ2 vs = wipe σ vs ∧ tt σ2 H2 fun b H3 =>
    if b = true then te σ2 H3 fun y H4 => ∃ acc, H4 D = some (.lst acc) ∧ acc.length < sizeLine ∧ Nx (upd H4 D (.lst (acc ++ [y]))) else Nx H3)
def CR1 (us : List V) (g : TG) (tt : TT) (te : TE) (vs : List Nat) (σ : L2.St) (Q : VK) (H1 : Hp) : Prop := ∃ j : Int, us = [.int j] ∧ -(2 ^ 62) ≤ j ∧ j < 2 ^ 62 ∧ LJ (Itr 0 j.toNat) g tt te vs σ Q H1
def CL1 (K : PySem.W.Frag) (x : V) (g : TG) (tt : TT) (te : TE) (vs : List Nat) (σ : L2.St) (Q : VK) (H1 : Hp) : Prop := ∃ a, x = .ref a ∧ (∃ xs, SqL K H1 a xs) ∧ LJ (Itl K a) g tt te vs σ Q H1
def rInt1 : List V → Hp → VK → Prop := fun xs H Q => (∃ i, xs = [.int i] ∧ Q (.int i) H) ∨ ∃ k, xs = [.bl k] ∧ Q (.int (if k then 1 else 0)) H
theorem c_int1 {X : Cx} : CallR X (.type "int") rInt1 := call_int1
def rAbs1 : List V → Hp → VK → Prop := fun xs H Q => ∃ i, xs = [.int i] ∧ Q (.int (if i < 0 then -i else i)) H
theorem c_abs {X : Cx} : CallR X (.builtin "abs") rAbs1 := call_abs
def rLen1 (K : PySem.W.Frag) : List V → Hp → VK → Prop := fun xs H Q => ∃ x n, xs = [x] ∧ LenV K x H n ∧ Q (.int n) H
theorem c_len {X : Cx} : CallR X (.builtin "len") (rLen1 X.K) := call_len
section
variable {σ : L2.St} {H : Hp} {Q : VK} {QB : Bool → Hp → Prop} {QA : List V → Hp → Prop} {K : PySem.W.Frag} {te td ty tv ta tb tx : TE} {tt tu : TT} {tl tr : TA} {D : Ends} {t u : TS} {x y v z : V} {r : R2} {i j : Int} {n : Nat} {b : Bool}
theorem seq (h : t { D with nx := u D } σ H) : tSeq t u D σ H := h
theorem next (h : D.nx σ H) : tNext D σ H := h
theorem ifs (h : tt σ H fun b H1 => if b = true then t D σ H1 else u D σ H1) : tIfS tt t u D σ H := h
theorem test (h : te σ H fun x H' => ∃ k, x = .bl k ∧ QB k H') : tTest te σ H QB := h
theorem testB (h : te σ H fun x H' => ∃ k, x = .bl k ∧ QB k H') : tB te σ H QB := h
theorem and_ (h : tt σ H fun c H1 => if c = true then tu σ H1 QB else QB false H1) : tAnd tt tu σ H QB := h
theorem or_ (h : tt σ H fun c H1 => if c = true then QB true H1 else tu σ H1 QB) : tOr tt tu σ H QB := h
theorem not_ (h : tt σ H fun c H1 => QB (!c) H1) : tNot tt σ H QB := h
theorem andV (h : ta σ H fun x H1 => ∃ c, x = .bl c ∧ if c = true then tb σ H1 Q else Q (.bl false) H1) : tAndV ta tb σ H Q := h
theorem orV (h : ta σ H fun x H1 => ∃ c, x = .bl c ∧ if c = true then Q (.bl true) H1 else tb σ H1 Q) : tOrV ta tb σ H Q := h
theorem notV (h : ta σ H fun x H1 => ∃ c, x = .bl c ∧ Q (.bl (!c)) H1) : tNotV ta σ H Q := h
theorem ifV (h : tt σ H fun c H1 => if c = true then ta σ H1 Q else tb σ H1 Q) : tIf tt ta tb σ H Q := h
theorem bl {R : Bool → Prop} (q : R b) : ∃ k, V.bl b = .bl k ∧ R k := ⟨b, rfl, q⟩
theorem ite_d {p : Prop} [Decidable p] {A B : Prop} (h1 : p → A) (h2 : ¬ p → B) : if decide p = true then A else B := by
  by_cases h : p
  · rw [if_pos (decide_eq_true h)]; exact h1 h
  · rw [decide_eq_false h, if_neg Bool.false_ne_true]; exact h2 h
theorem ite_nd {p : Prop} [Decidable p] {A B : Prop} (h1 : ¬ p → A) (h2 : p → B) : if (!decide p) = true then A else B := by
  by_cases h : p
  · rw [decide_eq_true h]; exact h2 h
  · rw [decide_eq_false h]; exact h1 h
theorem ite_t {A B : Prop} (h : A) : if true = true then A else B := by rw [if_pos rfl]; exact h
theorem ite_f {A B : Prop} (h : B) : if false = true then A else B := by rw [if_neg Bool.false_ne_true]; exact h
theorem ite_nt {A B : Prop} (h : B) : if (!true) = true then A else B := by simpa using h
theorem ite_nf {A B : Prop} (h : A) : if (!false) = true then A else B := by simpa using h
theorem var (h : σ[n]? = some (some v)) (q : Q v H) : tVar n σ H Q := ⟨v, h, q⟩
theorem cst (q : Q v H) : tC v σ H Q := q
theorem op (h : ta σ H fun x H1 => tb σ H1 fun y H2 => r x y H2 Q) : tOp r ta tb σ H Q := h
theorem un {r : V → Hp → VK → Prop} (h : ta σ H fun x H1 => r x H1 Q) : tUn r ta σ H Q := h
theorem rU_ {g : Int → V} (q : Q (g i) H) : rU g (.int i) H Q := ⟨i, rfl, q⟩
theorem rI0_ {g : Int → Int → V} (q : Q (g i j) H) : rI0 g (.int i) (.int j) H Q := ⟨i, j, rfl, rfl, q⟩
theorem rI_ {C : Int → Int → Prop} {g : Int → Int → V} (c : C i j) (q : Q (g i j) H) : rI C g (.int i) (.int j) H Q := ⟨i, j, rfl, rfl, c, q⟩
theorem modA (c : 0 < j) (q : ∀ k, 0 ≤ k → k < j → Q (.int k) H) : rI (fun _ j => 0 < j) (fun i j => .int (i % j)) (.int i) (.int j) H Q := ⟨i, j, rfl, rfl, c, q _ (Int.emod_nonneg _ (by omega)) (Int.emod_lt_of_pos _ c)⟩
theorem mulR {g : Int → Int → V} (h1 : -18446744073709551616 < j) (h2 : j < 18446744073709551616) (q : Q (g i j) H) : rI CMul g (.int i) (.int j) H Q := ⟨i, j, rfl, rfl, .inr ⟨h1, h2⟩, q⟩
theorem mulL {g : Int → Int → V} (h1 : -18446744073709551616 < i) (h2 : i < 18446744073709551616) (q : Q (g i j) H) : rI CMul g (.int i) (.int j) H Q := ⟨i, j, rfl, rfl, .inl ⟨h1, h2⟩, q⟩
theorem divP {g : Int → Int → V} (h1 : 0 < j) (h2 : j < 1073741824) (q : Q (g i j) H) : rI CDiv g (.int i) (.int j) H Q := ⟨i, j, rfl, rfl, ⟨h1, h2⟩, q⟩
theorem powP {g : Int → Int → V} (c : CPow i j) (q : Q (g i j) H) : rI CPow g (.int i) (.int j) H Q := ⟨i, j, rfl, rfl, c, q⟩
theorem rEqI (q : Q (.bl (decide (i = j))) H) : rEq (.int i) (.int j) H Q := ⟨rfl, by
  have e : decide (V.int i = V.int j) = decide (i = j) := by
    by_cases h : i = j
    · rw [h]; simp
    · simp [h]
  rw [e]; exact q⟩
theorem rNeI (q : Q (.bl (!decide (i = j))) H) : rNe (.int i) (.int j) H Q := ⟨rfl, by
  have e : decide (V.int i = V.int j) = decide (i = j) := by
    by_cases h : i = j
    · rw [h]; simp
    · simp [h]
  rw [e]; exact q⟩
theorem callB {rl : List V → Hp → VK → Prop} (h : tl σ H fun vs H1 => rl vs H1 Q) : tCB rl tl σ H Q := h
theorem cons (h : te σ H fun x H1 => tl σ H1 fun xs H2 => QA (x :: xs) H2) : tCons te tl σ H QA := h
theorem nil (q : QA [] H) : tNil σ H QA := q
theorem int1 (q : Q (.int i) H) : rInt1 [.int i] H Q := .inl ⟨i, rfl, q⟩
theorem int1b (q : Q (.int (if b then 1 else 0)) H) : rInt1 [.bl b] H Q := .inr ⟨b, rfl, q⟩
theorem abs1 (q : Q (.int (if i < 0 then -i else i)) H) : rAbs1 [.int i] H Q := ⟨i, rfl, q⟩
theorem lenL {p : Addr} {xs : List V} (h : SqL K H p xs) (q : Q (.int xs.length) H) : rLen1 K [.ref p] H Q := ⟨_, _, rfl, .inl ⟨xs, h, rfl⟩, q⟩
theorem lenT {p : Addr} {xs : List V} (h : SqT K H p xs) (q : Q (.int xs.length) H) : rLen1 K [.ref p] H Q := ⟨_, _, rfl, .inr ⟨xs, h, rfl⟩, q⟩
theorem dget (h : td σ H fun x H1 => ty σ H1 fun y H2 => ∃ a v, x = .ref a ∧ DGet H2 a y (some v) ∧ Q v H2) : tDGet td ty σ H Q := h
theorem dgetS {a : Addr} {kvs : List (Key × V)} {s : Str} (h : H a = some (.dK kvs)) {R : V → Prop} (hv : valV kvs (.inr s) = some v) (q : R v) : ∃ a' v', V.ref a = .ref a' ∧ DGet H a' (.str s) (some v') ∧ R v' :=
  ⟨a, v, rfl, .inl ⟨kvs, .inr s, .inl h, rfl, hv.symm⟩, q⟩
theorem dput (h : tv σ H fun v H1 => td σ H1 fun x H2 => ty σ H2 fun y H3 => ∃ a H4, x = .ref a ∧ DPut H3 a y v H4 ∧ D.nx σ H4) : sDPut td ty tv D σ H := h
theorem dputS {a : Addr} {kvs kvs' : List (Key × V)} {s : Str} {R : Hp → Prop} (h : H a = some (.dK kvs)) (hl : kvs.length < sizeLine) (e : putK kvs (.inr s) v = kvs') (q : R (upd H a (.dK kvs'))) : ∃ a' H4, V.ref a = .ref a' ∧ DPut H a' (.str s) v H4 ∧ R H4 := by
  subst e
  exact ⟨a, _, rfl, DPut.k (k := Sum.inr s) h hl, q⟩
theorem asg {g : TG} (h : te σ H fun x H1 => g x σ H1 D.nx) : tAsg te g D σ H := h
theorem name {N : L2.St → Hp → Prop} {σ' : L2.St} (e : σ.set n (some v) = σ') (h : N σ' H) : gName n v σ H N := by subst e; exact h
theorem drop (h : te σ H fun _ H1 => D.nx σ H1) : tDrop te D σ H := h
theorem ret (h : te σ H D.rt) : tRet te D σ H := h
theorem retN (h : D.rt .non H) : tRetN D σ H := h
theorem ixL {p : Addr} {xs : List V} (h : SqL K H p xs) (e : atI xs i = some v) (q : Q v H) : rIxL K (.ref p) (.int i) H Q := ⟨p, xs, i, v, rfl, rfl, h, e, q⟩
theorem ixT {p : Addr} {xs : List V} (h : SqT K H p xs) (e : atI xs i = some v) (q : Q v H) : rIxT K (.ref p) (.int i) H Q := ⟨p, xs, i, v, rfl, rfl, h, e, q⟩
theorem call {sp : Sp} {dvs : List V} {E : XK} (h : tl σ H fun vs H1 => sp (vs ++ dvs) H1 Q E) : tCall sp dvs E tl σ H Q := h
theorem lst_ (h : tl σ H fun xs H1 => xs.length ≤ sizeLine ∧ ∀ p, H1 p = none → Q (.ref p) (upd H1 p (.lst xs))) : tLst tl σ H Q := h
theorem tup_ (h : tl σ H fun xs H1 => xs.length ≤ sizeLine ∧ ∀ p, H1 p = none → Q (.ref p) (upd H1 p (.tup xs))) : tTup tl σ H Q := h
theorem new {p : Prop} {R : Addr → Prop} (hl : p) (h : ∀ a, H a = none → R a) : p ∧ ∀ a, H a = none → R a := ⟨hl, h⟩
theorem sz {n : Nat} (h : n ≤ 1000) : n ≤ sizeLine := Nat.le_trans h (by decide)
theorem range1 {R : Int → Prop} {p1 p2 : Int → Prop} (h1 : p1 i) (h2 : p2 i) (q : R i) : ∃ j, [V.int i] = [.int j] ∧ p1 j ∧ p2 j ∧ R j := ⟨i, rfl, h1, h2, q⟩
/-- over range(j): with an invariant -/
theorem rngI {g : TG} {tb : TS} (l1 : -4611686018427387904 ≤ j) (l2 : j < 4611686018427387904) (Pv : Nat → L2.St → Hp → Prop) (h0 : Pv 0 σ H)
    (hs : ∀ i σ H, i < j.toNat → Pv i σ H → g (.int (0 + (i : Int))) σ H fun σ2 H2 => tb { D with nx := Pv (i + 1), ct := Pv (i + 1), bk := D.nx } σ2 H2) (hd : ∀ σ H, Pv j.toNat σ H → D.nx σ H) : FR [.int j] g tb D σ H := ⟨j, rfl, l1, l2, for_range (lo := 0) (n := j.toNat) Pv h0 hs hd⟩
theorem forR1 {g : TG} {tb : TS} (h : tl σ H fun vs H1 => FR vs g tb D σ H1) : tFor (iRng1 tl) g tb D σ H := h
theorem forL1 {g : TG} {tb : TS} (h : te σ H fun x H1 => FL K x g tb D σ H1) : tFor (iList K te) g tb D σ H := h
theorem lstI {g : TG} {tb : TS} {a : Addr} {xs : List V} (hl0 : SqL K H a xs) (Pv : Nat → L2.St → Hp → Prop) (h0 : Pv 0 σ H) (hl : ∀ i σ H, i ≤ xs.length → Pv i σ H → SqL K H a xs)
    (hs : ∀ i x σ H, xs[i]? = some x → Pv i σ H → g x σ H fun σ2 H2 => tb { D with nx := Pv (i + 1), ct := Pv (i + 1), bk := D.nx } σ2 H2) (hd : ∀ σ H, Pv xs.length σ H → D.nx σ H) : FL K (.ref a) g tb D σ H :=
  ⟨a, rfl, ⟨xs, hl0⟩, for_list (xs := xs) Pv h0 hl hs hd⟩
theorem lcR1 {g : TG} {vs : List Nat} (h : tl σ H fun us H1 => CR1 us g tt te vs σ Q H1) : tLc (iRng1 tl) g tt te vs σ H Q := h
theorem lcRI {g : TG} {vs : List Nat} (l1 : -4611686018427387904 ≤ j) (l2 : j < 4611686018427387904) (h : ∀ A, H A = none → ∃ Pv : Nat → Hp → Prop, Pv 0 (upd H A (.lst [])) ∧
    (∀ i H, i < j.toNat → Pv i H → g (.int (0 + (i : Int))) (wipe σ vs) H fun σ2 H2 => wipe σ2 vs = wipe σ vs ∧ tt σ2 H2 fun b H3 =>
      if b = true then te σ2 H3 fun y H4 => ∃ acc, H4 A = some (.lst acc) ∧ acc.length < sizeLine ∧ Pv (i + 1) (upd H4 A (.lst (acc ++ [y]))) else Pv (i + 1) H3) ∧ ∀ H, Pv j.toNat H → Q (.ref A) H) : CR1 [.int j] g tt te vs σ Q H := by
  refine ⟨j, rfl, l1, l2, fun A hA => ?_⟩
  obtain ⟨Pv, h0, hs, hd⟩ := h A hA
  exact lc_range (lo := 0) (n := j.toNat) Pv h0 hs hd
theorem lcL1 {g : TG} {vs : List Nat} (h : ta σ H fun x H1 => CL1 K x g tt te vs σ Q H1) : tLc (iList K ta) g tt te vs σ H Q := h
theorem lcLI {g : TG} {vs : List Nat} {a : Addr} {xs : List V} (hl0 : SqL K H a xs) (h : ∀ A, H A = none → ∃ Pv : Nat → Hp → Prop, Pv 0 (upd H A (.lst [])) ∧ (∀ i H, i ≤ xs.length → Pv i H → SqL K H a xs) ∧
    (∀ i x H, xs[i]? = some x → Pv i H → g x (wipe σ vs) H fun σ2 H2 => wipe σ2 vs = wipe σ vs ∧ tt σ2 H2 fun b H3 =>
      if b = true then te σ2 H3 fun y H4 => ∃ acc, H4 A = some (.lst acc) ∧ acc.length < sizeLine ∧ Pv (i + 1) (upd H4 A (.lst (acc ++ [y]))) else Pv (i + 1) H3) ∧ ∀ H, Pv xs.length H → Q (.ref A) H) : CL1 K (.ref a) g tt te vs σ Q H := by
  refine ⟨a, rfl, ⟨xs, hl0⟩, fun A hA => ?_⟩
  obtain ⟨Pv, h0, hl, hs, hd⟩ := h A hA
  exact lc_list (xs := xs) Pv h0 hl hs hd
theorem disp {trs : List (TE × TE)} (h : ∀ p, H p = none → tPairs trs σ (upd H p (.dK [])) fun ps H2 => H2 p = some (.dK []) ∧ ∃ kvs : List (Key × V), ps = kvs.map (fun kv => (kV kv.1, kv.2)) ∧ kvs.length ≤ 15 ∧ Q (.ref p) (upd H2 p (.dK (mergeK [] kvs)))) : tDisp trs σ H Q := h
theorem pairs {tk tv : TE} {trs : List (TE × TE)} {R : List (V × V) → Hp → Prop} (h : tk σ H fun x H1 => tv σ H1 fun y H2 => tPairs trs σ H2 fun ps H3 => R ((x, y) :: ps) H3) : tPairs ((tk, tv) :: trs) σ H R := h
theorem pairs0 {R : List (V × V) → Hp → Prop} (h : R [] H) : tPairs [] σ H R := h
theorem sl {r : V → Option Int → Option Int → Hp → VK → Prop} {t1 t2 : TO} (h : te σ H fun x H1 => t1 σ H1 fun l H2 => t2 σ H2 fun u H3 => r x l u H3 Q) : tSl r te t1 t2 σ H Q := h
theorem part {QO : Option Int → Hp → Prop} (h : te σ H fun x H1 => ∃ i, x = .int i ∧ QO (some i) H1) : tPart te σ H QO := h
theorem partI {R : Int → Prop} (q : R i) : ∃ i', V.int i = .int i' ∧ R i' := ⟨i, rfl, q⟩
theorem yes (q : QB true H) : tYes σ H QB := q
theorem noPart {QO : Option Int → Hp → Prop} (q : QO none H) : tNoPart σ H QO := q
theorem slL {a : Addr} {xs : List V} {lo hi : Option Int} (h : SqL K H a xs) (q : ∀ p, H p = none → Q (.ref p) (upd H p (.lst (cutV xs lo hi)))) : rSlL K (.ref a) lo hi H Q := ⟨a, xs, rfl, h, q⟩
theorem bm {T : String} {r : V → List V → Hp → VK → Prop} (h : te σ H fun x H1 => tyV K T x H1 ∧ tl σ H1 fun xs H2 => r x xs H2 Q) : tBM K T r te tl σ H Q := h
theorem tyL {p : Addr} {xs : List V} {R : Prop} (h : SqL K H p xs) (q : R) : tyV K "list" (.ref p) H ∧ R := ⟨.inl ⟨rfl, xs, h⟩, q⟩
theorem ext {l a : Addr} {xs zs : List V} (h1 : H l = some (.lst xs)) (h2 : H a = some (.lst zs)) (hz : xs.length + zs.length ≤ 1000) (q : Q .non (upd H l (.lst (xs ++ zs)))) : rExtend (.ref l) [.ref a] H Q := ⟨l, a, xs, zs, rfl, rfl, h1, h2, sz hz, q⟩
theorem app {l : Addr} {xs : List V} (h1 : H l = some (.lst xs)) (hz : xs.length < 1000) (q : Q .non (upd H l (.lst (xs ++ [y])))) : rAppend (.ref l) [y] H Q := ⟨l, xs, y, rfl, rfl, h1, Nat.lt_of_lt_of_le hz (by decide), q⟩
theorem inT {p : Addr} {xs : List V} (h : SqT K H p xs) (hx : flatV x = true) (ha : xs.all flatV = true) (q : Q (.bl (inV x xs)) H) : rIn K false x (.ref p) H Q := ⟨p, xs, rfl, .inr h, hx, ha, q⟩
theorem ite_ct {c : Bool} {A B : Prop} (h : c = true) (q : A) : if c = true then A else B := by rw [h, if_pos rfl]; exact q
theorem ite_cf {c : Bool} {A B : Prop} (h : c = false) (q : B) : if c = true then A else B := by rw [h, if_neg Bool.false_ne_true]; exact q
theorem make {C : Addr} {sp : Sp} {dvs : List V} {E : XK} (h : tl σ H fun vs H1 => ∀ x dx, H1 x = none → H1 dx = none → dx ≠ x → sp (.ref x :: (vs ++ dvs)) (upd (upd H1 dx (.own x)) x (.ins C dx [])) (fun v H2 => v = .non ∧ Q (.ref x) H2) E) : tMake C sp dvs E tl σ H Q := h
theorem cat {l a : Addr} {xs zs : List V} (h1 : H l = some (.lst xs)) (h2 : H a = some (.lst zs)) (hz : xs.length + zs.length ≤ 1000) (q : ∀ p, H p = none → Q (.ref p) (upd H p (.lst (xs ++ zs)))) : rCat (.ref l) (.ref a) H Q := ⟨l, a, xs, zs, rfl, rfl, h1, h2, sz hz, q⟩
theorem atI_of {α : Type} {xs : List α} {i : Int} (h0 : 0 ≤ i) (h1 : i < xs.length) : ∃ v, atI xs i = some v ∧ v ∈ xs := by
  obtain ⟨n, rfl⟩ := Int.eq_ofNat_of_zero_le h0
  have hn : n < xs.length := by omega
  exact ⟨xs[n], atI_nat (by simp [hn]), List.getElem_mem hn⟩
end
end My

set_option Elab.async false
set_option linter.all false
set_option maxRecDepth 100000
set_option maxHeartbeats 4000000
/-! for i, x in enumerate(t), t a tuple -/
namespace PySem
open AutoSeq1 (wpAny_loadPart')
namespace EnT
def itO (t : Addr) : Obj := { cls := .type "tuple_iterator", data := .fields #[.ref t, .int 0 0] }
def enO (it : Addr) : Obj := { cls := .type "enumerate", data := .fields #[.none, .bool false, .ref it, rawInt 0, .none, .none] }
theorem meets_enT (t : Addr) (items : Array Value) :
    Meets (Builtin.«enumerate.__new__» ⟨[.type "enumerate", .ref t], []⟩) (fun _ R s => s.heap.IsTuple t items ∧ R (.ok (.ret (.ref (s.heap.push (itO t)).objs.size))) { s with heap := (s.heap.push (itO t)).push (enO s.heap.objs.size) }) :=
  .of_wp fun prog w A R s h => by
    obtain ⟨hp, g, d, tk, os⟩ := s
    obtain ⟨hl, h⟩ := h
    have hsub := sub_enumerate
    have hL : Heap.IsTuple (Shared.heap ⟨hp, g, d, tk, os⟩) t items := hl
    wp_walk
    refine wpAny_stack_any fun st => wpAny_pure ?_
    split
    · rename_i c _ _ _ _ _
      cases (c == Value.type "enumerate")
      · wp_walk using wpAny_pyIter_tuple hL
        exact ⟨_, rfl, h⟩
      · wp_walk using wpAny_pyIter_tuple hL
        exact ⟨_, rfl, h⟩
    · wp_walk using wpAny_pyIter_tuple hL
      exact ⟨_, rfl, h⟩
theorem call_enT {prog : Program} {w : World} {A : Around} {E : Value → Shared → Prop} {s : Shared} {t : Addr} {items : Array Value} {Q : Value → Shared → Prop} (hl : s.heap.IsTuple t items)
    (k : ∀ h', IsEnum h' (s.heap.objs.size + 1) s.heap.objs.size 0 .none → h'.IsTupleIter s.heap.objs.size t 0 → (∀ b o, s.heap.get? b = some o → h'.get? b = some o) → Q (.ref (s.heap.objs.size + 1)) { s with heap := h' }) :
    wpAny (model prog w) A (call (.type "enumerate") [.ref t]) Q E s := by
  refine callType_new F.called_enumerate (by decide) (F.typeCall_enumerate_1 _) (F.newCall_enumerate_1 _) (fun obj => F.args_object_init_2 obj _) F.entry_enumerate_new (meets_enT t items) ⟨hl, ?_⟩
  have sz : (s.heap.push (itO t)).objs.size = s.heap.objs.size + 1 := Heap.size_push ..
  show _ ∧ _
  rw [sz]
  have e1 : IsEnum ((s.heap.push (itO t)).push (enO s.heap.objs.size)) (s.heap.objs.size + 1) s.heap.objs.size 0 .none := by
    have z := Heap.get?_push_size (s.heap.push (itO t)) (o := enO s.heap.objs.size) rfl
    rw [sz] at z
    exact z
  exact ⟨⟨_, e1, rfl⟩, k _ e1 ⟨_, Heap.get?_push_of_some _ (Heap.get?_push_size _ rfl), rfl, rfl⟩ fun b o x => Heap.get?_push_of_some _ (Heap.get?_push_of_some _ x)⟩
end EnT
end PySem
namespace EnT
open PySem PySem.Spec PyProof.Rows L2
/-- the tuple at a, each item in a new pair -/
def It (K : PySem.W.Frag) (a : Addr) : L2.It :=
  ⟨fun i H => ∃ (xs : List V) (x : V), SqT K H a xs ∧ xs[i]? = some x, fun i H v H' => ∃ T x, v = .ref T ∧ H T = none ∧ H' = upd H T (.tup [.int (i : Nat), x]) ∧ ∀ xs, SqT K H a xs → xs[i]? = some x, fun i H => ∃ xs : List V, SqT K H a xs ∧ xs.length = i⟩
theorem turn {P : Program} {w : World} {K : PySem.W.Frag} {elts : List Expr} {kk : Nat} {tpos : Pos} (a e it : Addr) :
    Turn P w K (.Tuple elts kk tpos) (It K a) [e, it] e (fun i h => (∃ old, IsEnum h e it ((i : Nat) : Int) old) ∧ h.IsTupleIter it a i ∧ e ≠ it) where
  mem := List.mem_cons_self
  obj := fun i h st b hb => by
    obtain ⟨⟨old, he⟩, ⟨o, ho, hc, hd⟩, _⟩ := st
    rcases (show b = e ∨ b = it by simpa using hb) with rfl | rfl
    · exact ⟨_, he, fun v q => nomatch q⟩
    · exact ⟨o, ho, fun v q => by rw [hd] at q; cases q⟩
  keep := fun i h h' st k => by
    obtain ⟨⟨old, he⟩, hi, hne⟩ := st
    exact ⟨⟨old, k e (by simp) _ he⟩, hi.at fun o q => k it (by simp) o q, hne⟩
  item := by
    intro X hP hw hK hc i pins s σ H E I hf st hg
    subst hP hw hK
    obtain ⟨⟨old, he⟩, hit, hne⟩ := st
    obtain ⟨xs, x, hq, hx⟩ := hg
    obtain ⟨its, rv, p, _⟩ := I.tuple hq
    obtain ⟨u, hu, ru⟩ := rv.get hx
    have le : e < s.heap.objs.size := Heap.lt_size he
    have li : it < s.heap.objs.size := by obtain ⟨_, q, _⟩ := hit; exact Heap.lt_size q
    have nai : a ≠ it := fun z => by
      obtain ⟨o1, q1, c1, _⟩ := p
      obtain ⟨o2, q2, c2, _⟩ := hit
      rw [z, q2] at q1
      rw [← Option.some.inj q1, c2] at c1
      simp at c1
    have nae : e ∉ [it, a] := fun z => by
      rcases (show e = it ∨ e = a by simpa using z) with z | z
      · exact hne z
      · obtain ⟨o1, q1, c1, _⟩ := p
        rw [← z, he] at q1
        rw [← Option.some.inj q1] at c1
        simp at c1
    have hi : i < its.toArray.size := by
      have z := (List.getElem?_eq_some_iff.mp hu).1
      simpa using z
    refine wpAny_pyNext_enum_itemD (PySem.Draws.tuple (A := X.A.in1) (show X.A.in1.handled = none from I.ok.hd hc) it a nai its.toArray) he ⟨hit, p⟩ hi hne nae fun y h1 tk py ho st1 hT _ hk => ?_
    have ey : y = u := by
      rw [show its.toArray[i]? = some u by simpa using hu] at py
      exact (Option.some.inj py).symm
    subst ey
    refine ⟨_, rfl, wpAny_letOwnedTupleGo_enum (s := { s with heap := h1, toks := tk + 1 }) ho fun h2 he2 sb => ?_⟩
    have hT2 : h2.get? s.heap.objs.size = some { cls := .type "tuple", data := .seq #[.int i tk, y] } := (sb.2 _ (Nat.ne_of_gt le)).trans hT
    have new : ObjOk X.prog X.w (upd H s.heap.objs.size (.tup [.int (i : Nat), x])) h2 s.heap.objs.size (.tup [.int (i : Nat), x]) :=
      ⟨My.sz (by simp), [.int i tk, y], .cons ⟨_, rfl⟩ (.cons ru .nil), ⟨_, hT2, rfl, _, rfl⟩⟩
    have J : Inv X pins σ (upd H s.heap.objs.size (.tup [.int (i : Nat), x])) { s with heap := h2, toks := tk + 1 } :=
      I.turnedNew (ch := [e, it]) (fun b ob hb q => (sb.2 b (fun z => hb (by simp [z]))).trans (hk b ob (fun z => hb (by simp [z])) (fun z => hb (by simp [z])) q)) hf (Nat.le_refl _) new
    refine ⟨.ref s.heap.objs.size, _, J, rfl, ⟨_, x, rfl, I.hok.fresh (Nat.le_refl _), rfl, fun ys hy => by rw [I.tuple_inj hy hq]; exact hx⟩, ⟨⟨y, ?_⟩, st1.1.at fun o q => (sb.2 it (Ne.symm hne)).trans q, hne⟩, fun b hb => ?_⟩
    · rw [show ((i + 1 : Nat) : Int) = (i : Int) + 1 by omega]
      exact he2
    · have lb : b < s.heap.objs.size := by
        rcases (show b = e ∨ b = it by simpa using hb) with rfl | rfl
        · exact le
        · exact li
      rw [upd_ne (Nat.ne_of_lt lb)]
      exact (hf b hb).1
  done := by
    intro X hP hw hK hc i pins s σ H E I hf st hg
    subst hP hw hK
    obtain ⟨⟨old, he⟩, hit, hne⟩ := st
    obtain ⟨xs, hq, rfl⟩ := hg
    obtain ⟨its, rv, p, _⟩ := I.tuple hq
    obtain ⟨f0, f1, f2, f3, f4, f5⟩ := hf it (by simp)
    have nai : a ≠ it := fun z => by
      obtain ⟨o1, q1, c1, _⟩ := p
      obtain ⟨o2, q2, c2, _⟩ := hit
      rw [z, q2] at q1
      rw [← Option.some.inj q1, c2] at c1
      simp at c1
    have sz : its.toArray.size = xs.length := by rw [List.size_toArray, rv.length]
    have hit' : s.heap.IsTupleIter it a its.toArray.size := by rw [sz]; exact hit
    exact wpAny_pyNext_enum_endD (PySem.Draws.tuple (A := X.A.in1) (show X.A.in1.handled = none from I.ok.hd hc) it a nai its.toArray) he ⟨hit', p⟩ fun h' eb => ⟨rfl, I.turned (t' := s.toks) (fun b o hb q => eb b o hb q) f0 f1 f3 f4 f5⟩
  self := fun A i s Q E st h => let ⟨⟨_, he⟩, _⟩ := st; wpAny_pyIter_enum he h
def iEnT (K : PySem.W.Frag) (ta : TA) : TI := fun σ H R => ta σ H fun vs H1 => ∃ a xs, vs = [.ref a] ∧ SqT K H1 a xs ∧ R (It K a) H1
theorem pi_enumT {X : Cx} {e : Expr} {ta : TA} {p pos tpos : Pos} {elts : List Expr} {kk : Nat} (hg : Gl X "enumerate") (hm : X.mg "enumerate" = none) (ha : PA X [e] ta) (hs : starEach [e] X.env = [(false, eval e X.env)] := by rfl) :
    PI X (.Tuple elts kk tpos) (.Call (.Name "enumerate" p) [e] [] pos) (iEnT X.K ta) := by
  refine ⟨fun pins s σ H R I h => ?_⟩
  refine Call_ (ld_blt I hg hm boot_enumerate (PyProof.Rows.callWith_type1 (thn (ha.run pos pins s σ H _ I h) fun us s1 z => ?_) hs rfl))
  obtain ⟨vs, H1, I1, r1, a, xs, rfl, hq, q⟩ := z
  obtain ⟨u, rfl, ru⟩ := r1.one
  cases ru
  obtain ⟨its, rv, p', _⟩ := I1.tuple hq
  refine PySem.EnT.call_enT p' fun h' he hit hk => wpAny_pyIter_enum he ?_
  have J : Inv X pins σ H1 { s1 with heap := h' } := I1.kept (t' := s1.toks) hk
  refine ⟨s1.heap.objs.size + 1, [s1.heap.objs.size + 1, s1.heap.objs.size], _, _, H1, rfl, J, turn a (s1.heap.objs.size + 1) s1.heap.objs.size, ⟨⟨.none, he⟩, hit, Nat.succ_ne_self _⟩, fun b hb => ?_, q⟩
  have lb : s1.heap.objs.size ≤ b := by
    rcases (show b = s1.heap.objs.size + 1 ∨ b = s1.heap.objs.size by simpa using hb) with rfl | rfl
    · exact Nat.le_succ _
    · exact Nat.le_refl _
  exact I1.fpOk lb (I1.hok.fresh lb)
theorem walk_enT {K : PySem.W.Frag} {a : Addr} {xs : List V} : Walk (It K a) xs.length (fun H => SqT K H a xs) (YPair (fun i => some (.int (i : Nat))) (fun i => xs[i]?)) := by
  refine ⟨fun i _ hi q => ⟨xs, xs[i], q, by simp [hi]⟩, fun _ q => ⟨xs, q, rfl⟩, fun i H v H' _ q y => ?_⟩
  obtain ⟨T, x, h1, h2, h3, h4⟩ := y
  exact ⟨T, .int (i : Nat), x, h1, h2, h3, rfl, h4 xs q⟩
/-- what a for over enumerate(t) asks behind its argument -/
def FT (K : PySem.W.Frag) (vs : List V) (g : TG) (tb : TS) (D : Ends) (σ : L2.St) (H1 : Hp) : Prop := ∃ a xs, vs = [.ref a] ∧ SqT K H1 a xs ∧ ∃ W : Nat → Nat → L2.St → Hp → Prop, (∃ m, W 0 m σ H1) ∧ ∀ i m σ H, W i m σ H →
  ((It K a).stop i H ∧ D.nx σ H) ∨ ((It K a).go i H ∧ ∃ N : L2.St → Hp → Prop, (∀ σ' H', N σ' H' → ∃ m', m' < m ∧ W (i + 1) m' σ' H') ∧ ∀ x H', (It K a).yld i H x H' → g x σ H' fun σ2 H2 => tb { D with nx := N, ct := N, bk := D.nx } σ2 H2)
theorem forT1 {K : PySem.W.Frag} {tl : TA} {g : TG} {tb : TS} {D : Ends} {σ : L2.St} {H : Hp} (h : tl σ H fun vs H1 => FT K vs g tb D σ H1) : tFor (iEnT K tl) g tb D σ H := h
theorem forT {K : PySem.W.Frag} {g : TG} {tb : TS} {D : Ends} {σ : L2.St} {H : Hp} {a : Addr} {xs : List V} (hl : SqT K H a xs) (Pv : Nat → L2.St → Hp → Prop) (h0 : Pv 0 σ H) (hG : ∀ i σ H, i ≤ xs.length → Pv i σ H → SqT K H a xs)
    (hs : ∀ i x T σ H, xs[i]? = some x → Pv i σ H → H T = none → g (.ref T) σ (upd H T (.tup [.int (i : Nat), x])) fun σ2 H2 => tb { D with nx := Pv (i + 1), ct := Pv (i + 1), bk := D.nx } σ2 H2) (hd : ∀ σ H, Pv xs.length σ H → D.nx σ H) : FT K [.ref a] g tb D σ H :=
  ⟨a, xs, rfl, hl, for_it walk_enT Pv h0 hG (fun i v σ H H' hi p y => by
    obtain ⟨T, x, z, rfl, hT, rfl, ex, ez⟩ := y
    cases ex
    exact hs i z T σ H ez p hT) hd⟩
end EnT

set_option Elab.async false
set_option linter.all false
set_option maxRecDepth 100000
set_option maxHeartbeats 4000000
/-! exceptions as values: made, asked for their class, a field read -/
namespace XV
open PySem PySem.Spec PyProof.Rows L2
/-- an exception at a, of the class at C, made by an own __init__, its one field f holding y -/
def ErrF (H : Hp) (a C : Addr) (f : Str) (y : V) : Prop := ∃ d, H a = some (exo a C (some d)) ∧ H d = some (exd d [(f, y)])
/-- an exception at a without fields -/
def ErrN (H : Hp) (a C : Addr) : Prop := H a = some (ExO (.ref C) a)
theorem exo_inst {P : Program} {w : World} {H : Hp} {h : Heap} {a C d : Addr} {f : Str} {y : V} (ok : HOk P w H h) (ha : H a = some (exo a C (some d))) (hd : H d = some (exd d [(f, y)])) :
    ∃ ox od, PySem.W.InstAt h a ox C (some od) ∧ ∃ u, PySem.W.lookIn f od = some (some u) ∧ RelV y u := by
  obtain ⟨t1, ho⟩ := exo_at ok ha
  obtain ⟨mA, hns, rel⟩ := exd_at ok hd
  obtain ⟨od, hod, hl⟩ := lookIn_ns hns
  have l : List.lookup f [(f, y)] = some y := by simp [List.lookup]
  obtain ⟨u, hu, ru⟩ := RelO.some_of (v := y) (o := mA f) (by rw [← l]; exact rel f)
  exact ⟨_, od, ⟨ho, rfl, rfl, hod⟩, u, by rw [hl, hu], ru⟩
section
variable {X : Cx} {e : Expr} {es : List Expr} {te : TE} {ta : TA} {x : Str} {p pos : Pos} {C fI : Addr} {fd : FuncData} {ps : List Str} {sp : Sp} {k : Nat} {CX : CXT}
/-- C(e, ..) -/
def tMkX (C : Addr) (sp : Sp) (ta : TA) : TE := fun σ H Q => ta σ H fun vs H1 => vs.length ≤ 1000 ∧ ∀ a, H1 a = none → sp (.ref a :: vs) (upd H1 a (exo a C none)) (fun v H2 => v = .non ∧ Q (.ref a) H2) (fun _ _ _ => False)
theorem pe_mkX (T : OexC X.K C) (iC : PySem.W.findIn X.K (.ref C) "__init__" = some (some (.ref fI))) (tI : PySem.W.typeIn X.K (.ref fI) = some (.type "function"))
    (F1 : FnOk X.prog X.w X.K X.mg X.base CX k fI fd ps sp) (hr : Room (k + 1) X.A) (hb : Binds X.K fd ps []) (hx : Passes CX X (fun _ _ _ => False)) (hg : Gl X x) (hm : X.mg x = some (.ref C)) (ha : PA X (e :: es) ta)
    (hdb : (x == ("__debug__" : Str)) = false := by decide) (he : starEach (e :: es) X.env = (false, eval e X.env) :: starEach es X.env := by rfl) (hpl : (backTo pos (starEach es X.env)).any (·.1) = false := by rfl) :
    PE X (.Call (.Name x p) (e :: es) [] pos) (tMkX C sp ta) := by
  refine ⟨fun pins s σ H Q I h => ?_⟩
  have TC := T.cls; obtain ⟨_, _, _, _, bm, _, _, _, _, _, _, _, _, _, _, hC, hbm⟩ := TC
  refine wpAny_Call_Name_kw (ld_glob I hg hm ?_ hdb)
  refine PySem.W.callWith_K (h₀ := X.base) I.ok.mod.kin T.kC (thn (ha.run pos pins s σ H _ I h) fun us s1 ⟨vs, H1, I1, r1, hz, q1⟩ => ⟨I1.kIn, ?_⟩) he hpl
  show wpAny _ _ (call (.ref C) us) _ _ _
  obtain ⟨hp, g, dr, tk, os⟩ := s1
  have hsz : hp.objs.size ≤ hp.objs.size + 1 := Nat.le_succ _
  have hn : H1 (hp.objs.size + 1) = none := I1.hok.fresh hsz
  have hq := q1 (hp.objs.size + 1) hn
  have kk : ∀ b o, hp.get? b = some o → ((hp.push (PySem.W.kdv_tup us)).push (PySem.HandSPX.excO C hp.objs.size)).get? b = some o := fun b o e => Heap.get?_push_of_some _ (Heap.get?_push_of_some _ e)
  have hget : ((hp.push (PySem.W.kdv_tup us)).push (PySem.HandSPX.excO C hp.objs.size)).get? (hp.objs.size + 1) = some (PySem.HandSPX.excO C hp.objs.size) := by heap_get
  have I2 : Inv X pins σ (upd H1 (hp.objs.size + 1) (exo (hp.objs.size + 1) C none)) ⟨(hp.push (PySem.W.kdv_tup us)).push (PySem.HandSPX.excO C hp.objs.size), g, dr, tk, os⟩ :=
    I1.laid (t' := tk) (a := hp.objs.size + 1) (o := exo (hp.objs.size + 1) C none) (h' := (hp.push (PySem.W.kdv_tup us)).push (PySem.HandSPX.excO C hp.objs.size)) kk hsz (exo_ok hget)
  have r2 : Vals (V.ref (hp.objs.size + 1) :: vs) (Value.ref (hp.objs.size + 1) :: us) := .cons rfl r1
  have hl : (Value.ref (hp.objs.size + 1) :: us ++ ([] : List Value)).length = ps.length := by
    have e := r2.length
    rw [F1.len _ _ _ _ hq] at e
    simpa using e.symm
  have hus : us.length ≤ sizeLine := by
    rw [← Paired.length r1, sizeLine_eq]
    omega
  have hb2 := hb ⟨(hp.push (PySem.W.kdv_tup us)).push (PySem.HandSPX.excO C hp.objs.size), g, dr, tk, os⟩ (Value.ref (hp.objs.size + 1) :: us) I2.kIn hl
  rw [List.append_nil] at hb2
  refine wpAny_call (PySem.HandSPX.call_own F.excBase_ValueError (fun Y => PySem.HandSPX.refsVE_contains Y bm hbm) (I1.kIn _ _ hC) (PySem.W.looks_findIn I1.kIn iC) (fun self => PySem.W.bind_fn I1.kIn self tI) hus
    (codeAny_mono (F1.run _ X.stack _ _ ⟨Value.ref (hp.objs.size + 1) :: us, []⟩ (Value.ref (hp.objs.size + 1) :: us) _ _ (fun _ _ _ => False) (hr.make C us []) (I2.env0.make C us []) hb2 r2 hq) fun r s' hq' => ?_))
  cases r with
  | error er => exact hx pins σ _ _ er s' I2 hq'
  | ok fl =>
    cases fl with
    | ret u =>
      obtain ⟨v, H', I3, rv, ev, q3⟩ := I2.after hq'
      subst ev
      exact ⟨rv, ⟨V.ref (hp.objs.size + 1), H', I3, rfl, q3⟩⟩
    | next => exact False.elim hq'
    | brk => exact False.elim hq'
    | cont => exact False.elim hq'
/-- C(), C an own exception class without own __init__ -/
def tMk0 (C : Addr) : TE := fun _ H Q => ∀ a, H a = none → Q (.ref a) (upd H a (ExO (.ref C) a))
theorem pe_mk0 {bmB : List Value} {B newId initId : String} (F : ExcBaseFacts B newId initId bmB) (q : PySem.W.excIn X.K C bmB newId = true) (gC : X.mg x = some (.ref C)) (kC : PySem.W.keepIn X.K (.ref C) = true) (hg : Gl X x)
    (hdb : (x == ("__debug__" : Str)) = false := by decide) : PE X (.Call (.Name x p) [] [] pos) (tMk0 C) := by
  refine ⟨fun pins s σ H Q I h => ?_⟩
  refine wpAny_Call_Name_kw (ld_glob I hg gC ?_ hdb)
  refine PySem.W.callWith_K0 I.kIn kC ?_
  show wpAny _ _ (call (.ref C) []) _ _ _
  obtain ⟨bm, N, nm, qn, bs, hdct, sn, sub, ab, col, dd, k0, k1, k2, k3, k5, mN, hC, hN, hni, T⟩ := exc_obj I.kIn q
  refine wpAny_call_exc_subT F T hC hN hni (fun h' a hm => ?_) (Nat.zero_le _)
  have hn : H a = none := I.hok.gone hm.new
  obtain ⟨t, ht, _, _⟩ := hm.there
  exact ⟨.ref a, upd H a (ExO (.ref C) a), I.laidN hm.keeps hm.new hn (exO_ok ht ⟨rfl, rfl⟩ rfl rfl rfl (show 4 < 6 by decide)), rfl, h a hn⟩
/-- isinstance(e, c), e an exception that is held -/
def rIsX (K : PySem.W.Frag) : List V → Hp → VK → Prop := fun xs H Q => ∃ (a C : Addr) (c : V) (cv : Value) (b : Bool), xs = [.ref a, c] ∧ ((∃ f y, ErrF H a C f y) ∨ ErrN H a C) ∧ ExcC K C ∧ (∀ u, RelV c u → u = cv) ∧ PySem.W.kitOne K (.ref C) cv = some b ∧ Q (.bl b) H
theorem call_isX : CallR X (.builtin "isinstance") (rIsX X.K) := by
  intro pins s σ H xs us Q I r h
  obtain ⟨a, C, c, cv, b, rfl, he, G, hcv, e, q⟩ := h
  cases r with
  | cons rx rr =>
    cases rr with
    | cons rt rr =>
      cases rr
      cases rx
      have ec := hcv _ rt
      subst ec
      rcases he with ⟨f, y, d, ha, hd⟩ | ha
      · obtain ⟨ox, od, J, _⟩ := exo_inst I.hok ha hd
        have hcl : (PySem.W.clsIn X.K C).isSome = true := by
          obtain ⟨z, hz, _⟩ := PySem.W.any_some G.hd
          rw [hz]; rfl
        exact PySem.W.kia_one (PySem.W.kitx_exc (ox := ox) (od := some od) hcl G.hg G.hk G.hs G.ha G.hn G.ht G.hm) I.kIn J e (fun z => nomatch z) fun tk => ⟨.bl b, H, I.kept (t' := tk) fun _ _ z => z, rfl, q⟩
      · obtain ⟨⟨oe, vs, ho, hz, hdt, _⟩, _, _⟩ := I.hok a _ ha
        have J : PySem.W.InstAt s.heap a oe C none := by
          obtain ⟨oc, od, oda, osl⟩ := oe
          obtain ⟨h1, h2⟩ := hz
          dsimp only at h1 h2 hdt
          subst h1 h2 hdt
          exact ⟨ho, rfl, rfl, trivial⟩
        exact PySem.W.kia_one (PySem.W.handS_kitx_exc G.hg G.hk G.hs G.hd G.ha G.hn G.ht G.hm) I.kIn J e (fun z => nomatch z) fun tk => ⟨.bl b, H, I.kept (t' := tk) fun _ _ z => z, rfl, q⟩
/-- e.f, e an exception that is held -/
def tFldX (K : PySem.W.Frag) (f : Str) (te : TE) : TE := fun σ H Q => te σ H fun x H1 => ∃ a C y, x = .ref a ∧ ErrF H1 a C f y ∧ ExcC K C ∧ PySem.W.findIn K (.ref C) f = some none ∧ Q y H1
theorem pe_fldX {f : Str} (he : PE X e te) (hb : attributeBase e f X.env (eval e X.env) = eval e X.env := by rfl) : PE X (.Attribute e f pos) (tFldX X.K f te) := by
  refine ⟨fun pins s σ H Q I h => ?_⟩
  refine attr_of hb (thn (he.run pins s σ H _ I h) fun u s1 hh => ?_)
  obtain ⟨x, H1, I1, rx, a, C, y, ex, ⟨d, ha, hd⟩, G, noN, q⟩ := hh
  subst ex
  obtain rfl : u = Value.ref a := rx
  obtain ⟨ox, od, J, v, hl, rv⟩ := exo_inst I1.hok ha hd
  exact HandSPX.exc_get I1.kIn J G.hg G.hk G.hs (PySem.W.findObj_own G.hd noN rfl hl) (handed_of rv) ⟨y, H1, I1.tok _, rv, q⟩

/-! ### == of a value with itself -/
theorem op_or {f : Value → Value → Sem Value} {r r' : R2} (h : OpR X f r) (h' : OpR X f r') : OpR X f (fun x y H Q => r x y H Q ∨ r' x y H Q) := by
  intro pins s σ H a b u v Q I ra rb q
  rcases q with q | q
  · exact h pins s σ H a b u v Q I ra rb q
  · exact h' pins s σ H a b u v Q I ra rb q
def DElem : Eqv := fun x y _ => x = y ∧ (flatB x = true ∨ ∃ a, x = .ref a)
theorem mon_elem : Mon DElem := fun _ _ _ _ _ d => d
theorem eqG_elem {n : Nat} : EqG X n DElem := by
  intro A pins s σ H x y u v sb I rx ry d
  obtain ⟨rfl, d⟩ := d
  rcases d with d | ⟨a, rfl⟩
  · exact eqAt_same (A := A) (s := s) rx ry d X.prog X.w X.xe _ ⟨rfl, H, I, Ext.rfl'⟩
  · cases rx
    cases ry
    exact SeqAt.EqAt.same (A := A) (s := s) (.ref a) X.prog X.w X.xe _ ⟨rfl, H, I, Ext.rfl'⟩
/-- what can be seen to be equal to itself -/
def Own (v : V) : Prop := flatB v = true ∨ ∃ a, v = .ref a
inductive SelfV (K : PySem.W.Frag) (H : Hp) (P : Addr → Hp → Prop) : V → Prop where
  | flat {v : V} (h : scal v v = true) : SelfV K H P v
  | lst {a : Addr} {xs : List V} (h : SqL K H a xs) (o : ∀ v ∈ xs, Own v) : SelfV K H P (.ref a)
  | tup {a : Addr} {xs : List V} (h : SqT K H a xs) (o : ∀ v ∈ xs, Own v) : SelfV K H P (.ref a)
  | dic {a : Addr} {ks : List (Key × V)} (h : H a = some (.dK ks)) (nd : (ks.map (·.1)).Nodup) (o : ∀ p ∈ ks, Own p.2) : SelfV K H P (.ref a)
  | ins {a : Addr} (h : P a H) : SelfV K H P (.ref a)
def rSelf (K : PySem.W.Frag) (D : Eqv) : R2 := fun x y H Q => rEq x y H Q ∨ rEqV K x y H Q ∨ rEqG (DTup K DElem) x y H Q ∨ rEqG D x y H Q
theorem op_self {n : Nat} {D : Eqv} (hr : Room (n + 1) X.A) (h : RcG X n D) : OpR X (compareOp .Eq) (rSelf X.K D) :=
  op_or op_eq (op_or (op_eqV hr.units) (op_or (op_eqG (rcG_tup mon_elem (eqG_elem (n := n))) hr) (op_eqG h (hr.mono (Nat.le_succ n)))))
theorem paired_own {F : V → V → Prop} (h : ∀ v, Own v → F v v) : ∀ {xs : List V}, (∀ v ∈ xs, Own v) → Paired F xs xs
  | [], _ => .nil
  | v :: xs, o => .cons (h v (o v List.mem_cons_self)) (paired_own h fun w hw => o w (List.mem_cons_of_mem _ hw))
theorem eqV_own {K : PySem.W.Frag} {H : Hp} {v : V} (o : Own v) : EqV K H 1 v v := by
  rcases o with o | ⟨a, rfl⟩
  · exact .inl ⟨rfl, o⟩
  · exact .inr (.inl ⟨a, rfl, rfl⟩)
theorem find_nodup {α β : Type} [DecidableEq α] : ∀ {ks : List (α × β)}, (ks.map (·.1)).Nodup → ∀ p ∈ ks, ks.find? (fun q => decide (q.1 = p.1)) = some p
  | [], _, p, hp => by cases hp
  | q :: ks, nd, p, hp => by
    rw [List.map_cons, List.nodup_cons] at nd
    by_cases e : q.1 = p.1
    · rcases List.mem_cons.mp hp with rfl | hm
      · simp
      · exact absurd (List.mem_map.mpr ⟨p, hm, e.symm⟩) nd.1
    · rw [List.find?_cons]
      have d : decide (q.1 = p.1) = false := decide_eq_false e
      rw [d]
      rcases List.mem_cons.mp hp with rfl | hm
      · exact absurd rfl e
      · exact find_nodup nd.2 p hm
theorem self_eq {K : PySem.W.Frag} {H : Hp} {v : V} {D : Eqv} {P : Addr → Hp → Prop} {Q : VK} (s : SelfV K H P v) (hP : ∀ a, P a H → D (.ref a) (.ref a) H) (q : ∀ H', Ext H H' → Q (.bl true) H') : rSelf K D v v H Q := by
  have q0 := q H Ext.rfl'
  cases s with
  | flat h => exact .inl ⟨h, by rw [decide_eq_true rfl]; exact q0⟩
  | @lst a xs h o => exact .inr (.inl ⟨1, by decide, .inl ⟨a, a, xs, xs, rfl, rfl, h, h, paired_own (fun v => eqV_own) o⟩, q0⟩)
  | @tup a xs h o => exact .inr (.inr (.inl ⟨⟨a, a, xs, xs, rfl, rfl, h, h, rfl, fun i x y e1 e2 => by
      rw [e1] at e2
      cases e2
      exact ⟨rfl, o x (List.mem_of_getElem? e1)⟩⟩, q⟩))
  | @dic a ks h nd o => exact .inr (.inl ⟨1, by decide, .inr ⟨a, a, ks, ks, rfl, rfl, h, h, rfl, fun p hp => ⟨p.2, by unfold valV; rw [find_nodup nd p hp]; rfl, eqV_own (o p hp)⟩⟩, q0⟩)
  | @ins a h => exact .inr (.inr (.inr ⟨hP a h, q⟩))

/-! ### within a suite: the exception that is held -/
/-- isinstance(e, c) -/
def rIsS (K : PySem.W.Frag) (a : Addr) (cls : Value) (d : Option Addr) : List V → Hp → VK → Prop := fun xs H Q => ∃ (D dd : Addr) (fs : List (Str × V)) (c : V) (cv : Value) (b : Bool), xs = [.ref a, c] ∧ cls = .ref D ∧ d = some dd ∧ H dd = some (.xd fs) ∧ ExcC K D ∧
  (∀ u, RelV c u → u = cv) ∧ PySem.W.kitOne K (.ref D) cv = some b ∧ Q (.bl b) H
theorem suite_inst {pins pn : List (Addr × Obj)} {σ : L2.St} {H : Hp} {s : Shared} {a D dd : Addr} {oe : Obj} {fs : List (Str × V)} (hz : Zc (.ref D) (some dd) oe) (hf : ∃ vs, oe.data = .fields vs) (I : Inv (X.suite a ((a, oe) :: pn)) pins σ H s) (hx : H dd = some (.xd fs)) :
    ∃ od, PySem.W.InstAt s.heap a oe D (some od) ∧ ∀ f y, fs.lookup f = some y → ∃ u, PySem.W.lookIn f od = some (some u) ∧ RelV y u := by
  obtain ⟨ho, _⟩ := I.pin (a, oe) (List.mem_append_left _ List.mem_cons_self)
  obtain ⟨vs, hv⟩ := hf
  have ox : ObjOk X.prog X.w H s.heap dd (.xd fs) := I.hok dd _ hx
  obtain ⟨mA, hns, rel⟩ := ox
  obtain ⟨od, hod, hl⟩ := lookIn_ns hns
  refine ⟨od, ⟨ho, hz.1, by unfold PySem.W.notCls; rw [hv] <;> rfl, by rw [hz.2]; exact hod⟩, fun f y e => ?_⟩
  obtain ⟨u, hu, ru⟩ := RelO.some_of (v := y) (o := mA f) (by rw [← e]; exact rel f)
  exact ⟨u, by rw [hl, hu], ru⟩
theorem call_isS {a : Addr} {oe : Obj} {cls : Value} {d : Option Addr} {pn : List (Addr × Obj)} (hz : Zc cls d oe) (hf : ∃ vs, oe.data = .fields vs) : CallR (X.suite a ((a, oe) :: pn)) (.builtin "isinstance") (rIsS X.K a cls d) := by
  intro pins s σ H xs us Q I r h
  obtain ⟨D, dd, fs, c, cv, b, rfl, rfl, rfl, hx, G, hcv, e, q⟩ := h
  obtain ⟨u1, u2, rfl, r1, r2⟩ := vals2 r
  cases r1
  obtain rfl := hcv _ r2
  obtain ⟨od, J, _⟩ := suite_inst hz hf I hx
  have hcl : (PySem.W.clsIn X.K D).isSome = true := by
    obtain ⟨z, hz, _⟩ := PySem.W.any_some G.hd
    rw [hz]; rfl
  exact PySem.W.kia_one (PySem.W.kitx_exc (ox := oe) (od := some od) hcl G.hg G.hk G.hs G.ha G.hn G.ht G.hm) I.kIn J e (fun z => nomatch z) fun tk => ⟨.bl b, H, I.kept (t' := tk) fun _ _ z => z, rfl, q⟩
/-- e.f -/
def tFldS (K : PySem.W.Frag) (a : Addr) (cls : Value) (d : Option Addr) (f : Str) (te : TE) : TE := fun σ H Q => te σ H fun x H1 => ∃ (D dd : Addr) (fs : List (Str × V)) (y : V), x = .ref a ∧ cls = .ref D ∧ d = some dd ∧ H1 dd = some (.xd fs) ∧ fs.lookup f = some y ∧ ExcC K D ∧
  PySem.W.findIn K (.ref D) f = some none ∧ Q y H1
theorem pe_fldS {f : Str} {a : Addr} {oe : Obj} {cls : Value} {d : Option Addr} {pn : List (Addr × Obj)} (hz : Zc cls d oe) (hf : ∃ vs, oe.data = .fields vs) (he : PE (X.suite a ((a, oe) :: pn)) e te)
    (hb : attributeBase e f X.env (eval e X.env) = eval e X.env := by rfl) : PE (X.suite a ((a, oe) :: pn)) (.Attribute e f pos) (tFldS X.K a cls d f te) := by
  refine ⟨fun pins s σ H Q I h => ?_⟩
  refine attr_of hb (thn (he.run pins s σ H _ I h) fun u s1 hh => ?_)
  obtain ⟨x, H1, I1, rx, D, dd, fs, y, rfl, rfl, rfl, hx, hy, G, noN, q⟩ := hh
  obtain rfl : u = Value.ref a := rx
  obtain ⟨od, J, hl⟩ := suite_inst hz hf I1 hx
  obtain ⟨v, hv, rv⟩ := hl f y hy
  exact HandSPX.exc_get I1.kIn J G.hg G.hk G.hs (PySem.W.findObj_own G.hd noN rfl hv) (handed_of rv) ⟨y, H1, I1.tok _, rv, q⟩
/-- xs.count(True) -/
def rCntT (K : PySem.W.Frag) : V → List V → Hp → VK → Prop := fun x xs H Q => ∃ (p : Addr) (bs : List Bool) (k : Bool), x = .ref p ∧ xs = [.bl k] ∧ SqL K H p (bs.map V.bl) ∧ Q (.int (bs.count k : Nat)) H
theorem bools_of {bs : List Bool} : ∀ {us : List Value}, Vals (bs.map V.bl) us → us = bs.map Value.bool := by
  induction bs with
  | nil => intro us h; cases h; rfl
  | cons b bs ih =>
    intro us h
    cases h with
    | cons h1 h2 =>
      rw [ih h2, show _ = Value.bool b from h1]
      rfl
theorem countP_bool {k : Bool} {e : Value → Bool} (he : ∀ b, e (Value.bool b) = (b == k)) : ∀ bs : List Bool, (bs.map Value.bool).countP e = bs.count k
  | [] => rfl
  | b :: bs => by
    rw [List.map_cons, List.countP_cons, countP_bool he bs, List.count_cons, he b]
theorem mt_countT : MtR X "list.count" (rCntT X.K) := by
  intro pins s σ H x xs v us Q I rx rs h
  obtain ⟨p, bs, k, rfl, rfl, hs, q⟩ := h
  cases rx
  obtain ⟨u, rfl, ru⟩ := rs.one
  cases ru
  obtain ⟨its, rv, ⟨⟨oc, od, dt, sl⟩, n, ho, h1, h2, h3⟩, hlen⟩ := I.list hs
  simp only at h1 h3
  subst h1 h3
  have hi := bools_of rv
  subst hi
  let e : Value → Bool := fun v => match v with
    | .bool b => b == k
    | _ => false
  have he : ∀ b, e (Value.bool b) = (b == k) := fun _ => rfl
  refine call_meets PySem.F.slot_list_count ⟨_, ho, rfl⟩ PySem.F.entry_list_count (PySem.F.args_list_count_2 _ _) (SeqAt.list_countAt p (bs.map Value.bool).toArray n od sl (.bool k) e) ⟨ho, fun y hy => ?_, ?_⟩
  · obtain ⟨b, _, rfl⟩ := List.mem_map.mp (show y ∈ bs.map Value.bool from List.mem_toArray.mp hy)
    have z := eqAt_V (A := X.A.in1) (s := s) (x := .bl k) (y := .bl b) rfl rfl rfl rfl
    exact z
  · refine ⟨.int (bs.count k : Nat), H, I.tok _, ⟨s.toks, ?_⟩, q⟩
    have ec : (bs.map Value.bool).toArray.toList.countP e = bs.count k := countP_bool he bs
    show Value.int (((bs.map Value.bool).toArray.toList.countP e : Nat) : Int) s.toks = Value.int ((bs.count k : Nat) : Int) s.toks
    rw [ec]
end
end XV

set_option Elab.async false
set_option linter.all false
set_option maxRecDepth 100000
set_option maxHeartbeats 4000000
/-! what the head must say of error classes, as booleans over the written part -/
namespace XF
open PySem PySem.Spec PyProof.Rows L2 He
/-- the class at C is an exception class over ValueError (its line of classes: own ones, then ValueError's) -/
def clsB (K : PySem.W.Frag) (C : Addr) : Bool := match K.lookup C with
  | some ⟨.type "type", _, .cls cd, sl⟩ => (match cd.mro, sl.toList with
    | .ref D :: bm, [_, _, _, _, some (.builtin n), _] => D == C && (n == "ValueError.__new__" && (!cd.hasDel && (cd.hasDict && PySem.HandSPX.refsVE bm)))
    | _, _ => false)
  | _ => false
theorem clsB_ok {K : PySem.W.Frag} {C : Addr} (h : clsB K C = true) : ∃ nm q N bs bm sn sub ab col dd k0 k1 k2 k3 k5, K.lookup C = some (excClassObj nm q C N bs bm true sn sub ab col dd k0 k1 k2 k3 k5 "ValueError.__new__") ∧ PySem.HandSPX.refsVE bm = true := by
  unfold clsB at h
  split at h
  · rename_i dd cd sl lk
    split at h
    · rename_i D bm k0 k1 k2 k3 n k5 hm hs
      simp only [Bool.and_eq_true, beq_iff_eq, Bool.not_eq_true'] at h
      obtain ⟨rfl, rfl, hdel, hdct, hb⟩ := h
      obtain ⟨nm, bs, mro, ns, qn, hd, sn, sub, ab, col, del⟩ := cd
      dsimp only at hm hdel hdct
      subst hm hdel hdct
      obtain ⟨l⟩ := sl
      dsimp only at hs
      subst hs
      exact ⟨nm, qn, ns, bs, bm, sn, sub, ab, col, dd, k0, k1, k2, k3, k5, lk, hb⟩
    · cases h
  · cases h
/-- what is asked of every error class x -/
def errB (K : PySem.W.Frag) (x : Str) : Bool :=
  eqO (PySem.W.nsIn K mainGlobals x) (some (some (.ref (ga K x)))) && (clsB K (ga K x) && (eqO (PySem.W.findIn K (.ref (ga K x)) "__setattr__") (some (some (.builtin "object.__setattr__"))) &&
  (decide (PySem.W.subIn K (.ref (ga K x)) (.type "BaseException") = some true) && (decide (PySem.W.typeIn K (.ref (ga K x)) = some (.type "type")) && (PySem.W.keepIn K (.ref (ga K x)) &&
  (eqO (PySem.W.findIn K (.ref (ga K x)) "__getattribute__") (some (some (.builtin "BaseException.__getattribute__"))) && (eqO (PySem.W.findIn K (.ref (ga K x)) "__getattr__") (some none) && (PySem.W.hasDictIn K (ga K x) &&
  (eqO (PySem.W.findIn K (.ref (ga K x)) "__class__") (some (some (.builtin "object.__class__"))) && (eqO (PySem.W.specialIn K (.builtin "object.__class__") "__get__") (some (some (.builtin "getset_descriptor.__get__"))) &&
  (decide (PySem.W.takesIn K (.builtin "object.__class__") = some true) && decide (PySem.W.mroIn K (ga K x) (.type "object") = some true))))))))))))
structure Err (K : PySem.W.Frag) (mg : Str → Option Value) (x : Str) : Prop where
  g : mg x = some (.ref (ga K x))
  ox : OexC K (ga K x)
  ex : ExcC K (ga K x)
theorem errB_ok {K : PySem.W.Frag} {h : Heap} {mg : Str → Option Value} (X : K.In h) (G : h.Ns mainGlobals mg) {x : Str} (c : errB K x = true) : Err K mg x := by
  obtain ⟨c1, c⟩ := ba c
  obtain ⟨c2, c⟩ := ba c
  obtain ⟨c3, c⟩ := ba c
  obtain ⟨c4, c⟩ := ba c
  obtain ⟨c5, c⟩ := ba c
  obtain ⟨c6, c⟩ := ba c
  obtain ⟨c7, c⟩ := ba c
  obtain ⟨c8, c⟩ := ba c
  obtain ⟨c9, c⟩ := ba c
  obtain ⟨d1, c⟩ := ba c
  obtain ⟨d2, c⟩ := ba c
  obtain ⟨d3, d4⟩ := ba c
  exact ⟨PySem.W.mg_of X G (eqO_ok c1), ⟨clsB_ok c2, eqO_ok c3, of_decide_eq_true c4, of_decide_eq_true c5, c6⟩, ⟨eqO_ok c7, eqO_ok c8, of_decide_eq_true c4, c9, eqO_ok d1, eqO_ok d2, of_decide_eq_true d3, of_decide_eq_true d4⟩⟩
/-- a class with an own __init__ that stores the field f; a class without -/
def fldB (K : PySem.W.Frag) (x f : Str) : Bool := eqO (PySem.W.findIn K (.ref (ga K x)) f) (some none) && (eqO (PySem.W.findIn K (.ref (ga K x)) "__init__") (some (some (.ref (ma K (ga K x) "__init__")))) && decide (PySem.W.typeIn K (.ref (ma K (ga K x) "__init__")) = some (.type "function")))
def plnB (K : PySem.W.Frag) (x : Str) : Bool := PySem.W.excIn K (ga K x) veBase "ValueError.__new__"
structure Fld (K : PySem.W.Frag) (x f : Str) : Prop where
  no : PySem.W.findIn K (.ref (ga K x)) f = some none
  ini : PySem.W.findIn K (.ref (ga K x)) "__init__" = some (some (.ref (ma K (ga K x) "__init__")))
  ty : PySem.W.typeIn K (.ref (ma K (ga K x) "__init__")) = some (.type "function")
theorem fldB_ok {K : PySem.W.Frag} {x f : Str} (c : fldB K x f = true) : Fld K x f := by
  obtain ⟨c1, c⟩ := ba c
  obtain ⟨c2, c3⟩ := ba c
  exact ⟨eqO_ok c1, eqO_ok c2, of_decide_eq_true c3⟩
/-- which class is which: isinstance of an instance of x and the class y -/
def isB (K : PySem.W.Frag) (x y : Str) (b : Bool) : Bool := decide (PySem.W.kitOne K (.ref (ga K x)) (.ref (ga K y)) = some b)
end XF

set_option Elab.async false
set_option linter.all false
set_option maxRecDepth 100000
set_option maxHeartbeats 4000000
/-! more steps: readings of built-ins by name, comprehensions by a relation -/
namespace My
open PySem PySem.Spec PyProof.Rows L2 DX
section
variable {σ : L2.St} {H : Hp} {Q : VK} {QB : Bool → Hp → Prop} {K : PySem.W.Frag} {te td ty tv ta tb tx : TE} {tt tu : TT} {tl tr tk : TA} {D : Ends} {t u : TS} {x y v z : V} {i j : Int} {n : Nat} {b : Bool}
theorem thenK {k : V → Hp → VK → Prop} (h : ta σ H fun x H1 => k x H1 Q) : tThen ta k σ H Q := h
theorem tupL {p : Addr} {xs : List V} (h : SqL K H p xs) (q : ∀ t, H t = none → Q (.ref t) (upd H t (.tup xs))) : kTup K (.ref p) H Q := .inl ⟨p, xs, rfl, h, q⟩
theorem tupT {p : Addr} {xs : List V} (h : SqT K H p xs) (q : Q (.ref p) H) : kTup K (.ref p) H Q := .inr ⟨p, xs, rfl, h, q⟩
theorem lockE {t : TE} {d : Addr} {w : HO} (hd : H d = some w) (m : Mut (some w)) (h : ∀ od, t σ (upd H d (.frz od w)) fun v H' => H' d = some (.frz od w) ∧ Q v (upd H' d w)) : tLockE t σ H Q := ⟨d, w, hd, m, h⟩
theorem chain {r r' : R2} (h : ta σ H fun x H1 => tb σ H1 fun y H2 => r x y H2 fun v H3 => ∃ k, v = .bl k ∧ if k = true then tx σ H3 fun z H4 => r' y z H4 Q else Q (.bl false) H3) : tChain r r' ta tb tx σ H Q := h
theorem dget2 (h : td σ H fun x H1 => ∃ a, x = .ref a ∧ IsD H1 a ∧ ty σ H1 fun y H2 => tx σ H2 fun z H3 => ∃ o, DGet H3 a y o ∧ Q (o.getD z) H3) : tDGet2 td ty tx σ H Q := h
theorem lockS {d : Addr} {w : HO} (hd : H d = some w) (m : Mut (some w)) (h : ∀ od, t ⟨fun σ' H' => H' d = some (.frz od w) ∧ D.nx σ' (upd H' d w), fun v H' => H' d = some (.frz od w) ∧ D.rt v (upd H' d w), fun σ' H' => H' d = some (.frz od w) ∧ D.bk σ' (upd H' d w), fun σ' H' => H' d = some (.frz od w) ∧ D.ct σ' (upd H' d w)⟩ σ (upd H d (.frz od w))) : tLock t D σ H := ⟨d, w, hd, m, h⟩
/-- for k in d, d a dict with tuple keys that is locked -/
theorem forKT {g : TG} {tb : TS} {d : Addr} {od : Obj} {kvs : List (List L2.Key × V)} (hx : td = tVar n) (hσ : σ[n]? = some (some (.ref d))) (hd : H d = some (.frz od (.dT kvs))) (Pv : Nat → L2.St → Hp → Prop) (h0 : Pv 0 σ H) (hG : ∀ i σ H, i ≤ kvs.length → Pv i σ H → H d = some (.frz od (.dT kvs)))
    (hs : ∀ i k v q σ H, kvs[i]? = some (k, v) → H q = some (.tup (k.map kV)) → Pv i σ H → g (.ref q) σ H fun σ2 H2 => tb { D with nx := Pv (i + 1), ct := Pv (i + 1), bk := D.nx } σ2 H2) (he : ∀ σ H, Pv kvs.length σ H → D.nx σ H) : tFor (iKeys td) g tb D σ H := by
  subst hx
  refine ⟨_, hσ, d, od, rfl, .inr ⟨kvs, hd, for_it walk_keysT Pv h0 hG (fun i x σ H H' hi p y => ?_) he⟩⟩
  obtain ⟨rfl, k, v, q, e1, rfl, e2⟩ := y
  exact hs i k v q σ H' e1 e2 p
theorem gtup2 {T : Addr} {i j : Nat} {N : L2.St → Hp → Prop} {σ' : L2.St} (h : SqT K H T [x, y]) (e : (σ.set i (some x)).set j (some y) = σ') (q : N σ' H) : gTup K 2 (gCons (gName i) (gCons (gName j) gNil)) (.ref T) σ H N := by
  subst e
  exact ⟨T, _, rfl, h, rfl, x, [y], rfl, y, [], rfl, rfl, q⟩
theorem gtup3 {T : Addr} {i j k : Nat} {N : L2.St → Hp → Prop} {σ' : L2.St} (h : SqT K H T [x, y, z]) (e : ((σ.set i (some x)).set j (some y)).set k (some z) = σ') (q : N σ' H) : gTup K 3 (gCons (gName i) (gCons (gName j) (gCons (gName k) gNil))) (.ref T) σ H N := by
  subst e
  exact ⟨T, _, rfl, h, rfl, x, [y, z], rfl, y, [z], rfl, z, [], rfl, rfl, q⟩
theorem itemsT (h : te σ H fun x H1 => rItemsT x H1 Q) : tListItemsT te σ H Q := h
theorem callKw {r : List V → List V → Hp → VK → Prop} (h : tl σ H fun vs H1 => tk σ H1 fun zs H2 => r vs zs H2 Q) : tCKw r tl tk σ H Q := h
theorem dispT {trs : List (TE × TE)} (h : ∀ p, H p = none → tPairs trs σ (upd H p (.dT [])) fun ps H2 => H2 p = some (.dT []) ∧ ∃ es : List Ent, ps = es.map (fun e => (V.ref e.2.1, e.2.2)) ∧ es.length ≤ 15 ∧ (∀ e ∈ es, KeyAt H2 e) ∧ Q (.ref p) (upd H2 p (.dT (mT [] (entK es))))) : tDispT trs σ H Q := h
theorem allL {p : Addr} {bs : List Bool} (h : SqL K H p (bs.map V.bl)) (q : Q (.bl (bs.all id)) H) : rAll K [.ref p] H Q := ⟨p, bs, rfl, h, q⟩
theorem isi {x c : V} {t u : Value} {b : Bool} (k : ClsV c u) (hx : TyX K H x t) (e : PySem.W.kitOne K t u = some b) (q : Q (.bl b) H) : rIsi K [x, c] H Q := ⟨x, c, t, u, b, rfl, k, hx, e, q⟩
end
def rListOf (K : PySem.W.Frag) : List V → Hp → VK → Prop := fun xs H Q => ∃ p ys, xs = [.ref p] ∧ (SqL K H p ys ∨ SqT K H p ys) ∧ ∀ l, H l = none → Q (.ref l) (upd H l (.lst ys))
theorem c_listOf {X : Cx} : CallR X (.type "list") (rListOf X.K) := call_list_of
/-- a comprehension without tests: each item as P tells, R what has happened so far -/
theorem lcM {J : It} {n : Nat} {G : Hp → Prop} {Y : Nat → Hp → V → Hp → Prop} (w : Walk J n G Y) {g : TG} {te : TE} {vs : List Nat} {σ : L2.St} {Q : VK} {H1 : Hp} (R : Hp → Hp → Prop) (hn : n ≤ 1000) (h0 : ∀ D, H1 D = none → R H1 (upd H1 D (.lst [])))
    (h : ∀ D, H1 D = none → ∃ P : Nat → V → Hp → Prop, (∀ j y H ys o, H D = some (.lst ys) → P j y H → P j y (upd H D o)) ∧ (∀ H o, R H1 H → R H1 (upd H D o)) ∧ (∀ H ys, R H1 H → H D = some (.lst ys) → G H) ∧
      (∀ i x H H' ys, ∀ N : VK, i < n → R H1 H → H D = some (.lst ys) → ys.length = i → (∀ j v, ys[j]? = some v → P j v H) → Y i H x H' → (∀ y H4, R H1 H4 → H4 D = some (.lst ys) → (∀ j v, ys[j]? = some v → P j v H4) → P i y H4 → N y H4) →
        g x (wipe σ vs) H' fun σ2 H2 => wipe σ2 vs = wipe σ vs ∧ te σ2 H2 N) ∧
      ∀ H ys, H D = some (.lst ys) → ys.length = n → R H1 H → (∀ j y, ys[j]? = some y → P j y H) → Q (.ref D) H) : LJ J g tYes te vs σ Q H1 := by
  intro D hD
  obtain ⟨P, hP, hU, hG, hs, hd⟩ := h D hD
  refine lc_it w (fun i H => ∃ ys, H D = some (.lst ys) ∧ ys.length = i ∧ R H1 H ∧ ∀ j y, ys[j]? = some y → P j y H) ⟨[], upd_same, rfl, h0 D hD, fun j y e => by simp at e⟩ (fun i H _ ⟨ys, e, _, r, _⟩ => hG H ys r e) ?_ (fun H ⟨ys, e, l, r, p⟩ => hd H ys e l r p)
  rintro i x H H' hi ⟨ys, e, l, r, p⟩ y
  refine hs i x H H' ys _ hi r e l p y fun y4 H4 r4 e4 p4 py => ?_
  refine ⟨ys, e4, by rw [l]; exact Nat.lt_of_lt_of_le (show i < 1001 by omega) (by decide), ys ++ [y4], upd_same, by simp [l], hU H4 _ r4, fun j v hv => ?_⟩
  refine hP j v H4 ys _ e4 ?_
  by_cases hj : j < ys.length
  · rw [List.getElem?_append_left hj] at hv
    exact p4 j v hv
  · rw [List.getElem?_append_right (by omega)] at hv
    cases z : j - ys.length with
    | zero =>
      rw [z] at hv
      cases (show y4 = v by simpa using hv)
      rw [show j = i by omega]
      exact py
    | succ k => rw [z] at hv; simp at hv
end My

set_option Elab.async false
set_option linter.all false
set_option maxRecDepth 100000
set_option maxHeartbeats 4000000
/-! isinstance, told by a function of the value -/
namespace DX
open PySem PySem.Spec PyProof.Rows L2
def sixT : List String := ["int", "bool", "tuple", "list", "str", "dict"]
/-- what is asked of an own class -/
structure InsT (K : PySem.W.Frag) (C : Addr) : Prop where
  cl : Cls K C
  ha : PySem.W.findIn K (.ref C) "__class__" = some (some (.builtin "object.__class__"))
  hn : PySem.W.specialIn K (.builtin "object.__class__") "__get__" = some (some (.builtin "getset_descriptor.__get__"))
  ht : PySem.W.takesIn K (.builtin "object.__class__") = some true
  hm : PySem.W.mroIn K C (.type "object") = some true
  ki : ∀ T ∈ sixT, PySem.W.kitOne K (.ref C) (.type T) = some false
/-- of what kind a value is -/
inductive Tg where
  | non | bl | int | str | lst | tup | dic | ins (C : Addr)
  deriving DecidableEq
def Tg.val : Tg → Value
  | .non => .type "NoneType" | .bl => .type "bool" | .int => .type "int" | .str => .type "str" | .lst => .type "list" | .tup => .type "tuple" | .dic => .type "dict" | .ins C => .ref C
inductive TgV (K : PySem.W.Frag) (H : Hp) : V → Tg → Prop
  | non : TgV K H .non .non
  | bl (b : Bool) : TgV K H (.bl b) .bl
  | int (i : Int) : TgV K H (.int i) .int
  | str (z : Str) : TgV K H (.str z) .str
  | lst {a : Addr} {xs : List V} (e : H a = some (.lst xs)) : TgV K H (.ref a) .lst
  | tup {a : Addr} {xs : List V} (e : H a = some (.tup xs)) : TgV K H (.ref a) .tup
  | dK {a : Addr} {ks : List (Key × V)} (e : H a = some (.dK ks)) : TgV K H (.ref a) .dic
  | dT {a : Addr} {ks : List (List Key × V)} (e : H a = some (.dT ks)) : TgV K H (.ref a) .dic
  | ins {a C dx : Addr} {fs : List (Str × V)} (e : H a = some (.ins C dx fs)) (c : InsT K C) : TgV K H (.ref a) (.ins C)
theorem TgV.ty {K : PySem.W.Frag} {H : Hp} {v : V} {t : Tg} (h : TgV K H v t) : TyX K H v t.val := by
  cases h with
  | non => exact .base .non
  | bl b => exact .base (.bl b)
  | int i => exact .base (.int i)
  | str z => exact .base (.str z)
  | lst e => exact .base (.lst e)
  | tup e => exact .base (.tup e)
  | dK e => exact .base (.dK e)
  | dT e => exact .base (.dT e)
  | ins e c => exact .base (.ins e c.cl c.ha c.hn c.ht c.hm)
/-- isinstance(v, T) -/
def Tg.is : Tg → String → Bool
  | .bl, T => T == "bool" || T == "int"
  | .int, T => T == "int"
  | .str, T => T == "str"
  | .lst, T => T == "list"
  | .tup, T => T == "tuple"
  | .dic, T => T == "dict"
  | _, _ => false
theorem TgV.isT {K : PySem.W.Frag} {H : Hp} {v : V} {t : Tg} (h : TgV K H v t) {T : String} (hT : T ∈ sixT) {Q : VK} (q : Q (.bl (t.is T)) H) : rIsi K [v, .ty T] H Q := by
  have ki : PySem.W.kitOne K t.val (.type T) = some (t.is T) := by
    cases h with
    | ins e c =>
      rw [show Tg.is (.ins _) T = false from rfl]
      exact c.ki T hT
    | _ =>
      simp only [sixT, List.mem_cons, List.not_mem_nil, or_false] at hT
      rcases hT with rfl | rfl | rfl | rfl | rfl | rfl <;> exact kit_ty (by decide +kernel)
  exact ⟨v, .ty T, t.val, .type T, t.is T, rfl, .ty T, h.ty, ki, q⟩
/-- isinstance(v, C), C an own class -/
structure ClsN (K : PySem.W.Frag) (C : Addr) : Prop where
  self : PySem.W.kitOne K (.ref C) (.ref C) = some true
  ty : ∀ T ∈ "NoneType" :: sixT, PySem.W.kitOne K (.type T) (.ref C) = some false
def Tg.isC (t : Tg) (C : Addr) : Bool := decide (t = .ins C)
theorem TgV.isOwn {K : PySem.W.Frag} {H : Hp} {v : V} {t : Tg} {C : Addr} (h : TgV K H v t) (n : ClsN K C) (other : ∀ D, t = .ins D → D = C ∨ PySem.W.kitOne K (.ref D) (.ref C) = some false) {Q : VK} (q : Q (.bl (t.isC C)) H) : rIsi K [v, .ref C] H Q := by
  have ki : PySem.W.kitOne K t.val (.ref C) = some (t.isC C) := by
    cases h with
    | @ins a D dx fs e c =>
      rcases other D rfl with rfl | g
      · rw [show Tg.isC (.ins D) D = true from decide_eq_true rfl]
        exact n.self
      · by_cases z : D = C
        · subst z
          rw [n.self] at g
          cases g
        · rw [show Tg.isC (.ins D) C = false from decide_eq_false (fun e => by injection e with e; exact z e)]
          exact g
    | non => exact n.ty "NoneType" (by decide)
    | bl => exact n.ty "bool" (by decide)
    | int => exact n.ty "int" (by decide)
    | str => exact n.ty "str" (by decide)
    | lst => exact n.ty "list" (by decide)
    | tup => exact n.ty "tuple" (by decide)
    | dK => exact n.ty "dict" (by decide)
    | dT => exact n.ty "dict" (by decide)
  exact ⟨v, .ref C, t.val, .ref C, t.isC C, rfl, .own C, h.ty, ki, q⟩
theorem TgV.flat {K : PySem.W.Frag} {H : Hp} : ∀ {v : V}, flatV v = true → ∃ t, TgV K H v t
  | .non, _ => ⟨_, .non⟩
  | .bl b, _ => ⟨_, .bl b⟩
  | .int i, _ => ⟨_, .int i⟩
  | .str z, _ => ⟨_, .str z⟩
  | .ref _, h => by cases h
  | .byt _, h => by cases h
  | .flt _, h => by cases h
  | .ty _, h => by cases h
/-- is it an integer that is no flag -/
def isInt : V → Bool
  | .int _ => true
  | _ => false
theorem TgV.isInt {K : PySem.W.Frag} {H : Hp} {v : V} {t : Tg} (h : TgV K H v t) : (t.is "int" && !t.is "bool") = DX.isInt v := by
  cases h <;> rfl
section
variable {t : Tg} {T : String} {C : Addr} {A B : Prop}
theorem is_t (h : t.is T = true) (q : A) : if t.is T = true then A else B := by rw [if_pos h]; exact q
theorem is_f (h : t.is T = false) (q : B) : if t.is T = true then A else B := by rw [h, if_neg Bool.false_ne_true]; exact q
theorem is_nt (h : t.is T = true) (q : B) : if (!t.is T) = true then A else B := by rw [h]; exact q
theorem is_nf (h : t.is T = false) (q : A) : if (!t.is T) = true then A else B := by rw [h]; exact q
theorem isC_t (h : t.isC C = true) (q : A) : if t.isC C = true then A else B := by rw [if_pos h]; exact q
theorem isC_f (h : t.isC C = false) (q : B) : if t.isC C = true then A else B := by rw [h, if_neg Bool.false_ne_true]; exact q
theorem isC_nt (h : t.isC C = true) (q : B) : if (!t.isC C) = true then A else B := by rw [h]; exact q
theorem isC_nf (h : t.isC C = false) (q : A) : if (!t.isC C) = true then A else B := by rw [h]; exact q
end
/-- a list and a text -/
def rLS : R2 := fun x y H Q => ∃ a xs z, x = .ref a ∧ H a = some (.lst xs) ∧ y = .str z ∧ Q (.bl false) H
theorem op_eqLS {X : Cx} (hu : X.A.units + 1 < cLine) : OpR X (compareOp .Eq) rLS := by
  intro pins s σ H x y v u Q I rx ry h
  obtain ⟨a, xs, z, rfl, ha, rfl, q⟩ := h
  cases rx
  obtain ⟨t, rfl⟩ := (show ∃ t, u = Value.str z t from ry)
  obtain ⟨us, _, p1, _⟩ := I.list (SqL.of ha)
  exact SeqAt.RcAt.list_str (A := X.A) (s := s) z t p1.isList (by omega) X.prog X.w X.xe _ ⟨.bl false, H, I, rfl, q⟩
def rEqS : R2 := fun x y H Q => rEq x y H Q ∨ rLS x y H Q
theorem op_eqS {X : Cx} (hu : X.A.units + 1 < cLine) : OpR X (compareOp .Eq) rEqS := XV.op_or op_eq (op_eqLS hu)
end DX

set_option Elab.async false
set_option linter.all false
set_option maxRecDepth 100000
set_option maxHeartbeats 4000000
/-! more steps: tuples walked, fields of objects, objects made that may refuse -/
namespace My
open PySem PySem.Spec PyProof.Rows L2 DX
theorem same_seqT {K : PySem.W.Frag} {H H' : Hp} {a : Addr} {xs : List V} (e : Same H H') (h : H a = some (.tup xs)) : SqT K H' a xs := .of (e _ _ h)
theorem plen {α β : Type} {F : α → β → Prop} : ∀ {l : List α} {m : List β}, Paired F l m → l.length = m.length
  | _, _, .nil => rfl
  | _, _, .cons _ t => by rw [List.length_cons, List.length_cons, plen t]
theorem pget {α β : Type} {F : α → β → Prop} : ∀ {xs : List α} {ys : List β}, Paired F xs ys → ∀ {i : Nat} {x : α}, xs[i]? = some x → ∃ y, ys[i]? = some y ∧ F x y
  | _, _, .nil, i, x, h => by simp at h
  | _, _, .cons f t, 0, x, h => by
    simp at h
    subst h
    exact ⟨_, rfl, f⟩
  | _, _, .cons _ t, i + 1, x, h => pget t (by simpa using h)
theorem pof {α β : Type} {F : α → β → Prop} : ∀ {xs : List α} {ys : List β}, xs.length = ys.length → (∀ (i : Nat) x y, xs[i]? = some x → ys[i]? = some y → F x y) → Paired F xs ys
  | [], [], _, _ => .nil
  | x :: xs, y :: ys, hl, h => .cons (h 0 x y rfl rfl) (pof (Nat.succ.inj hl) fun i a b ha hb => h (i + 1) a b ha hb)
  | [], _ :: _, hl, _ => by cases hl
  | _ :: _, [], hl, _ => by cases hl
section
variable {σ : L2.St} {H : Hp} {Q : VK} {QB : Bool → Hp → Prop} {K : PySem.W.Frag} {te td ty tv ta tb tx : TE} {tt tu : TT} {tl tr tk : TA} {D : Ends} {t u : TS} {x y v z : V} {i j : Int} {n : Nat} {b : Bool}
/-- a comprehension over a tuple in a variable -/
theorem lcT {g : TG} {vs : List Nat} {a : Addr} {xs : List V} (hσ : σ[n]? = some (some (.ref a))) (ha : SqT K H a xs) (h : LJ (Itt K a) g tt te vs σ Q H) : tLc (iTup K (tVar n)) g tt te vs σ H Q := ⟨_, hσ, a, rfl, ⟨_, ha⟩, h⟩
/-- a comprehension over the keys of a locked dict -/
def CKT (x : V) (g : TG) (tt : TT) (te : TE) (vs : List Nat) (σ : L2.St) (Q : VK) (H1 : Hp) : Prop := ∃ d o, x = .ref d ∧ ((∃ kvs, H1 d = some (.frz o (.dK kvs)) ∧ LJ (Itk d o kvs) g tt te vs σ Q H1) ∨ ∃ kvs, H1 d = some (.frz o (.dT kvs)) ∧ LJ (Itkt d o kvs) g tt te vs σ Q H1)
theorem lcK1 {g : TG} {vs : List Nat} (h : td σ H fun x H1 => CKT x g tt te vs σ Q H1) : tLc (iKeys td) g tt te vs σ H Q := h
theorem ckT {g : TG} {vs : List Nat} {d : Addr} {o : Obj} {kvs : List (List Key × V)} (hd : H d = some (.frz o (.dT kvs))) (h : LJ (Itkt d o kvs) g tt te vs σ Q H) : CKT (.ref d) g tt te vs σ Q H := ⟨d, o, rfl, .inr ⟨kvs, hd, h⟩⟩
/-- for over a tuple in a variable -/
theorem forTv {g : TG} {tb : TS} {a : Addr} {xs : List V} (hσ : σ[n]? = some (some (.ref a))) (ha : SqT K H a xs) (Pv : Nat → L2.St → Hp → Prop) (h0 : Pv 0 σ H) (hG : ∀ i σ H, i ≤ xs.length → Pv i σ H → SqT K H a xs)
    (hs : ∀ i x σ H, xs[i]? = some x → Pv i σ H → g x σ H fun σ2 H2 => tb { D with nx := Pv (i + 1), ct := Pv (i + 1), bk := D.nx } σ2 H2) (he : ∀ σ H, Pv xs.length σ H → D.nx σ H) : tFor (iTup K (tVar n)) g tb D σ H :=
  ⟨_, hσ, a, rfl, ⟨_, ha⟩, for_it walk_tup Pv h0 hG (fun i x σ H H' hi p y => by
    obtain ⟨rfl, e⟩ := y
    exact hs i x σ H' e p) he⟩
def FTp (K : PySem.W.Frag) (x : V) (g : TG) (tb : TS) (D : Ends) (σ : L2.St) (H1 : Hp) : Prop := ∃ a, x = .ref a ∧ (∃ xs, SqT K H1 a xs) ∧ ∃ W : Nat → Nat → L2.St → Hp → Prop, (∃ m, W 0 m σ H1) ∧ ∀ i m σ H, W i m σ H →
  ((Itt K a).stop i H ∧ D.nx σ H) ∨ ((Itt K a).go i H ∧ ∃ N : L2.St → Hp → Prop, (∀ σ' H', N σ' H' → ∃ m', m' < m ∧ W (i + 1) m' σ' H') ∧ ∀ x H', (Itt K a).yld i H x H' → g x σ H' fun σ2 H2 => tb { D with nx := N, ct := N, bk := D.nx } σ2 H2)
theorem forTe1 {g : TG} {tb : TS} (h : td σ H fun x H1 => FTp K x g tb D σ H1) : tFor (iTup K td) g tb D σ H := h
theorem forTe {g : TG} {tb : TS} {a : Addr} {xs : List V} (ha : SqT K H a xs) (Pv : Nat → L2.St → Hp → Prop) (h0 : Pv 0 σ H) (hG : ∀ i σ H, i ≤ xs.length → Pv i σ H → SqT K H a xs)
    (hs : ∀ i x σ H, xs[i]? = some x → Pv i σ H → g x σ H fun σ2 H2 => tb { D with nx := Pv (i + 1), ct := Pv (i + 1), bk := D.nx } σ2 H2) (he : ∀ σ H, Pv xs.length σ H → D.nx σ H) : FTp K (.ref a) g tb D σ H :=
  ⟨a, rfl, ⟨_, ha⟩, for_it walk_tup Pv h0 hG (fun i x σ H H' hi p y => by
    obtain ⟨rfl, e⟩ := y
    exact hs i x σ H' e p) he⟩
theorem fld {f : Str} {a C dx : Addr} {fs : List (Str × V)} (h : H a = some (.ins C dx fs)) (c : Cls K C) (na : NoAttr K C f) (l : fs.lookup f = some v) (hσ : σ[n]? = some (some (.ref a))) (q : Q v H) : tFld K (tVar n) f σ H Q := ⟨_, hσ, a, C, dx, fs, v, rfl, h, c, na, l, q⟩
theorem fldS {f : Str} {a C dx : Addr} {fs : List (Str × V)} {m : Nat} (h : H a = some (.ins C dx fs)) (c : Cls K C) (na : NoAttr K C f) (l : fs.length < 1000) (hσ : σ[n]? = some (some (.ref a))) (hv : σ[m]? = some (some v)) (q : D.nx σ (upd H a (.ins C dx (putF f v fs)))) : sFld K (tVar n) (tVar m) f D σ H :=
  ⟨_, hv, _, hσ, a, C, dx, fs, rfl, h, c, na, l, q⟩
end
def FEn (K : PySem.W.Frag) (vs : List V) (g : TG) (tb : TS) (D : Ends) (σ : L2.St) (H1 : Hp) : Prop := ∃ a xs, vs = [.ref a] ∧ SqL K H1 a xs ∧ ∃ W : Nat → Nat → L2.St → Hp → Prop, (∃ m, W 0 m σ H1) ∧ ∀ i m σ H, W i m σ H →
  ((Ite K a).stop i H ∧ D.nx σ H) ∨ ((Ite K a).go i H ∧ ∃ N : L2.St → Hp → Prop, (∀ σ' H', N σ' H' → ∃ m', m' < m ∧ W (i + 1) m' σ' H') ∧ ∀ x H', (Ite K a).yld i H x H' → g x σ H' fun σ2 H2 => tb { D with nx := N, ct := N, bk := D.nx } σ2 H2)
theorem forEn1 {K : PySem.W.Frag} {tl : TA} {g : TG} {tb : TS} {D : Ends} {σ : L2.St} {H : Hp} (h : tl σ H fun vs H1 => FEn K vs g tb D σ H1) : tFor (iEnum K tl) g tb D σ H := h
theorem forEn {K : PySem.W.Frag} {g : TG} {tb : TS} {D : Ends} {σ : L2.St} {H : Hp} {a : Addr} {xs : List V} (hl : SqL K H a xs) (Pv : Nat → L2.St → Hp → Prop) (h0 : Pv 0 σ H) (hG : ∀ i σ H, i ≤ xs.length → Pv i σ H → SqL K H a xs)
    (hs : ∀ i x T σ H, xs[i]? = some x → Pv i σ H → H T = none → g (.ref T) σ (upd H T (.tup [.int (i : Nat), x])) fun σ2 H2 => tb { D with nx := Pv (i + 1), ct := Pv (i + 1), bk := D.nx } σ2 H2) (hd : ∀ σ H, Pv xs.length σ H → D.nx σ H) : FEn K [.ref a] g tb D σ H :=
  ⟨a, xs, rfl, hl, for_it walk_enum Pv h0 hG (fun i v σ H H' hi p y => by
    obtain ⟨T, x, z, rfl, hT, rfl, ex, ez⟩ := y
    cases ex
    exact hs i z T σ H ez p hT) hd⟩
/-- a comprehension without tests: each item as P tells, R what has happened so far -/
theorem lcM2 {J : It} {n : Nat} {G : Hp → Prop} {Y : Nat → Hp → V → Hp → Prop} (w : Walk J n G Y) {g : TG} {te : TE} {vs : List Nat} {σ : L2.St} {Q : VK} {H1 : Hp} (R : Hp → Hp → Prop) (hn : n ≤ 1000) (h0 : ∀ D, H1 D = none → R H1 (upd H1 D (.lst [])))
    (h : ∀ D, H1 D = none → ∃ P : Nat → V → Hp → Prop, (∀ j y H ys zs, H D = some (.lst ys) → P j y H → P j y (upd H D (.lst zs))) ∧ (∀ H o, R H1 H → R H1 (upd H D o)) ∧ (∀ H ys, R H1 H → H D = some (.lst ys) → G H) ∧
      (∀ i x H H' ys, ∀ N : VK, i < n → R H1 H → H D = some (.lst ys) → ys.length = i → (∀ j v, ys[j]? = some v → P j v H) → Y i H x H' → (∀ y H4, R H1 H4 → H4 D = some (.lst ys) → (∀ j v, ys[j]? = some v → P j v H4) → P i y H4 → N y H4) →
        g x (wipe σ vs) H' fun σ2 H2 => wipe σ2 vs = wipe σ vs ∧ te σ2 H2 N) ∧
      ∀ H ys, H D = some (.lst ys) → ys.length = n → R H1 H → (∀ j y, ys[j]? = some y → P j y H) → Q (.ref D) H) : LJ J g tYes te vs σ Q H1 := by
  intro D hD
  obtain ⟨P, hP, hU, hG, hs, hd⟩ := h D hD
  refine lc_it w (fun i H => ∃ ys, H D = some (.lst ys) ∧ ys.length = i ∧ R H1 H ∧ ∀ j y, ys[j]? = some y → P j y H) ⟨[], upd_same, rfl, h0 D hD, fun j y e => by simp at e⟩ (fun i H _ ⟨ys, e, _, r, _⟩ => hG H ys r e) ?_ (fun H ⟨ys, e, l, r, p⟩ => hd H ys e l r p)
  rintro i x H H' hi ⟨ys, e, l, r, p⟩ y
  refine hs i x H H' ys _ hi r e l p y fun y4 H4 r4 e4 p4 py => ?_
  refine ⟨ys, e4, by rw [l]; exact Nat.lt_of_lt_of_le (show i < 1001 by omega) (by decide), ys ++ [y4], upd_same, by simp [l], hU H4 _ r4, fun j v hv => ?_⟩
  refine hP j v H4 ys _ e4 ?_
  by_cases hj : j < ys.length
  · rw [List.getElem?_append_left hj] at hv
    exact p4 j v hv
  · rw [List.getElem?_append_right (by omega)] at hv
    cases z : j - ys.length with
    | zero =>
      rw [z] at hv
      cases (show y4 = v by simpa using hv)
      rw [show j = i by omega]
      exact py
    | succ k => rw [z] at hv; simp at hv
end My
namespace DX
open PySem PySem.Spec PyProof.Rows L2
theorem tuple_mul1 (l : Addr) (items : Array Value) (n : Nat) (dd : Option Addr) (sl : Array (Option Value)) (x : Int) (u : Tok) (c0 : (decide (x < -(2 ^ 63)) || decide (x ≥ 2 ^ 63)) = false) (c1 : (items.isEmpty || x == 1) = true) :
    Meets (Builtin.«tuple.__mul__» ⟨[.ref l, .int x u], []⟩) (fun _ R s => s.heap.get? l = some { cls := .type "tuple", dict := dd, data := .seq items n, slots := sl } ∧ R (.ok (.ret (Value.ref l))) s) :=
  .of_wp fun prog w A R s h => by
    obtain ⟨hp, g, d, tk, os⟩ := s
    obtain ⟨hl, h⟩ := h
    have f1 := AutoSeq1.idx_int
    wp_walk using wpAny_loadPart' hl
    refine wpAny_ite_false (decide_eq_false (by rw [c0]; exact Bool.false_ne_true)) ?_
    wp_walk using wpAny_loadPart' hl
    exact ⟨_, rfl, h⟩
theorem tuple_mul0 (l : Addr) (items : Array Value) (n : Nat) (dd : Option Addr) (sl : Array (Option Value)) (x : Int) (u : Tok) (c0 : (decide (x < -(2 ^ 63)) || decide (x ≥ 2 ^ 63)) = false) (c1 : (items.isEmpty || x == 1) = false) (c2 : (decide (x ≤ 0) || items.isEmpty) = true) :
    Meets (Builtin.«tuple.__mul__» ⟨[.ref l, .int x u], []⟩) (fun _ R s => s.heap.get? l = some { cls := .type "tuple", dict := dd, data := .seq items n, slots := sl } ∧ R (.ok (.ret (Value.ref s.heap.objs.size))) { s with heap := s.heap.push { cls := Value.type "tuple", data := Data.seq #[] }, toks := s.toks }) :=
  .of_wp fun prog w A R s h => by
    obtain ⟨hp, g, d, tk, os⟩ := s
    obtain ⟨hl, h⟩ := h
    have f1 := AutoSeq1.idx_int
    wp_walk using wpAny_loadPart' hl
    refine wpAny_ite_false (decide_eq_false (by rw [c0]; exact Bool.false_ne_true)) ?_
    wp_walk using wpAny_loadPart' hl
    exact ⟨_, rfl, h⟩
def rRepA (K : PySem.W.Frag) : R2 := fun x y H Q => ∃ l k xs, x = .ref l ∧ y = .int k ∧ SqT K H l xs ∧ -1000 ≤ k ∧ k ≤ 1000 ∧ xs.length ≤ 1000 ∧ (xs = [] ∨ k = 1 → Q (.ref l) H) ∧
  (xs ≠ [] → k ≠ 1 → ∀ p, H p = none → Q (.ref p) (upd H p (.tup (List.replicate k.toNat xs).flatten)))
/-- t * k, any k -/
theorem op_repA {X : Cx} : OpR X (binaryOp .Mult) (rRepA X.K) := by
  intro pins s σ H x y v u Q I rx ry h
  obtain ⟨l, k, xs, rfl, rfl, hT, h1, h2, hz, q1, q2⟩ := h
  by_cases g2 : xs ≠ [] ∧ 2 ≤ k
  · exact op_repT pins s σ H _ _ v u Q I rx ry ⟨l, k, xs, rfl, rfl, hT, g2.1, g2.2, h2, hz, q2 g2.1 (by omega)⟩
  cases rx
  obtain ⟨t, rfl⟩ := ry
  obtain ⟨its, r, ⟨⟨cls, dd, data, sl⟩, ho, hc, n, hd⟩, hs⟩ := I.tuple hT
  simp only at hc hd
  subst hc hd
  have hle : its.length = xs.length := r.length.symm
  have c0 : (decide (k < -(2 ^ 63)) || decide (k ≥ 2 ^ 63)) = false := by
    rw [decide_eq_false (by omega), decide_eq_false (by omega)] <;> rfl
  by_cases g1 : xs = [] ∨ k = 1
  · have c1 : (its.toArray.isEmpty || k == 1) = true := by
      rcases g1 with g | g
      · have : its = [] := List.eq_nil_of_length_eq_zero (by rw [hle, g]; rfl)
        rw [this]; rfl
      · rw [g]; simp
    refine wpAny_binaryOp_repeat_ref (T := "tuple") (U := "int") (by decide) ⟨_, ho, rfl⟩ (fun s' => typeIs_int s' k t) noFill_tuple_mul F.fills_int_mul F.slot_int_rmul repeat_tuple F.slot_int_index.lookup
      (call_meets F.slot_int_rmul (typeIs_int s k t) F.entry_int_rmul (F.args_int_rmul_2 _ _) (int_rmul_tuple k t l its.toArray n dd sl)
        ⟨ho, rfl, ⟨_, ho, rfl⟩, call_meets F.slot_tuple_mul ⟨_, ho, rfl⟩ F.entry_tuple_mul (F.args_tuple_mul_2 _ _) (tuple_mul1 l its.toArray n dd sl k t c0 c1) ⟨ho, ?_⟩⟩)
    exact ⟨.ref l, H, I, rfl, q1 g1⟩
  · have k0 : k ≤ 0 := by
      rcases Int.lt_or_le k 2 with z | z
      · have : k ≠ 1 := fun e => g1 (.inr e)
        omega
      · exact absurd ⟨fun e => g1 (.inl e), z⟩ g2
    have hi : its.toArray.isEmpty = false := by
      cases its with
      | nil => exact absurd (.inl (List.eq_nil_of_length_eq_zero hle.symm)) g1
      | cons a b => rfl
    have c1 : (its.toArray.isEmpty || k == 1) = false := by
      rw [hi, Bool.false_or]
      exact beq_eq_false_iff_ne.mpr (by omega)
    have c2 : (decide (k ≤ 0) || its.toArray.isEmpty) = true := by rw [decide_eq_true k0]; rfl
    refine wpAny_binaryOp_repeat_ref (T := "tuple") (U := "int") (by decide) ⟨_, ho, rfl⟩ (fun s' => typeIs_int s' k t) noFill_tuple_mul F.fills_int_mul F.slot_int_rmul repeat_tuple F.slot_int_index.lookup
      (call_meets F.slot_int_rmul (typeIs_int s k t) F.entry_int_rmul (F.args_int_rmul_2 _ _) (int_rmul_tuple k t l its.toArray n dd sl)
        ⟨ho, rfl, ⟨_, ho, rfl⟩, call_meets F.slot_tuple_mul ⟨_, ho, rfl⟩ F.entry_tuple_mul (F.args_tuple_mul_2 _ _) (tuple_mul0 l its.toArray n dd sl k t c0 c1 c2) ⟨ho, ?_⟩⟩)
    have e0 : (List.replicate k.toNat xs).flatten = [] := by
      rw [show k.toNat = 0 by omega]; rfl
    have q := q2 (fun e => g1 (.inl e)) (fun e => g1 (.inr e)) _ (I.hok.fresh (Nat.le_refl s.heap.objs.size))
    rw [e0] at q
    exact ⟨.ref s.heap.objs.size, _, I.laid (t' := s.toks) (o := .tup []) (fun b ob q => Heap.get?_push_of_some _ q) (Nat.le_refl _) ⟨Nat.zero_le _, [], .nil, IsTup.new _ _⟩, rfl, q⟩
/-- what is never reached -/
def tNevE : TE := fun _ _ _ => False
theorem pe_nev {X : Cx} {e : Expr} : PE X e tNevE := ⟨fun _ _ _ _ _ _ h => h.elim⟩
def tNevT : TT := fun _ _ _ => False
theorem pt_nev {X : Cx} {e : Expr} : PT X e tNevT := ⟨fun _ _ _ _ _ _ h => h.elim⟩
def rIsNn : R2 := fun x y H Q => y = .non ∧ Q (.bl (decide (x = .non))) H
theorem op_isNn {X : Cx} : OpR X (compareOp .Is) rIsNn := op_isN
/-- C(..), an __init__ that may refuse, within a suite -/
def tMakeS (C : Addr) (sp : Sp) (E : L2.St → XK) (t : TA) : TE := fun σ H Q => t σ H fun vs H1 => ∀ x dx, H1 x = none → H1 dx = none → dx ≠ x →
  sp (.ref x :: vs) (upd (upd H1 dx (.own x)) x (.ins C dx [])) (fun v H2 => v = .non ∧ Q (.ref x) H2) (E σ)
section
variable {X : Cx} {k : Nat} {f C : Addr} {fd : FuncData} {ps : List Str} {sp : Sp} {W : WX} {x : Str} {p pos : Pos} {e : Expr} {es : List Expr} {t : TA}
theorem run_makeS {pins : List (Addr × Obj)} {σ : L2.St} {H : Hp} {s : Shared} {Q : VK} {us : List Value} {vs : List V} (M : Mk X.K C f) (F : FnOk X.prog X.w X.K X.mg X.base (L2.CX X.prog X.w) k f fd ps sp) (hr : Room (k + 1) X.A) (hb : Binds X.K fd ps [])
    (tk : Takes X W) (I : Inv X pins σ H s) (r : Vals vs us)
    (h : ∀ x dx, H x = none → H dx = none → dx ≠ x → sp (.ref x :: vs) (upd (upd H dx (.own x)) x (.ins C dx [])) (fun v H2 => v = .non ∧ Q (.ref x) H2) (WE W σ)) :
    wpAny (model X.prog X.w) X.A (call (.ref C) us) (EP X pins σ Q) X.xe s := by
  have hq := h (s.heap.objs.size + 1) s.heap.objs.size (I.hok.fresh (Nat.le_succ _)) (I.hok.fresh (Nat.le_refl _)) (Nat.ne_of_lt (Nat.lt_succ_self _))
  have I2 := Inv.made (C := C) I
  have r2 : Vals (V.ref (s.heap.objs.size + 1) :: vs) (Value.ref (s.heap.objs.size + 1) :: us) := .cons rfl r
  have hl : (Value.ref (s.heap.objs.size + 1) :: us).length = ps.length := by
    have e := r2.length
    rw [F.len _ _ _ _ hq] at e
    exact e.symm
  have hbb := hb
  refine wpAny_call (make_map (f := f) I.kIn M.makes M.init (beq_iff_eq.mp M.fn) (codeAny_mono (F.run _ X.stack _ _ ⟨Value.ref (s.heap.objs.size + 1) :: us, []⟩ (Value.ref (s.heap.objs.size + 1) :: us) _ _ (WE W σ) (hr.make C us [])
    (I2.env0.make C us []) (by
      have z := hb _ (Value.ref (s.heap.objs.size + 1) :: us) I2.kIn (by rw [List.append_nil]; exact hl)
      rw [List.append_nil] at z
      exact z) r2 hq) fun r s' hq' => ?_))
  cases r with
  | error e => exact passAt tk σ pins _ _ e s' I2 hq'
  | ok fl =>
    cases fl with
    | ret u =>
      obtain ⟨v, H', I3, rv, ev, q3⟩ := I2.after hq'
      subst ev
      exact ⟨rv, ⟨V.ref (s.heap.objs.size + 1), H', I3, rfl, q3⟩⟩
    | next => exact False.elim hq'
    | brk => exact False.elim hq'
    | cont => exact False.elim hq'
theorem pe_makeS (M : Mk X.K C f) (F : FnOk X.prog X.w X.K X.mg X.base (L2.CX X.prog X.w) k f fd ps sp) (hr : Room (k + 1) X.A) (hg : Gl X x) (hm : X.mg x = some (.ref C)) (hb : Binds X.K fd ps []) (tk : Takes X W)
    (ha : PA X (e :: es) t) (hdb : (x == ("__debug__" : Str)) = false := by decide) (he : starEach (e :: es) X.env = (false, eval e X.env) :: starEach es X.env := by rfl) (hpl : (backTo pos (starEach es X.env)).any (·.1) = false := by rfl) :
    PE X (.Call (.Name x p) (e :: es) [] pos) (tMakeS C sp (WE W) t) := by
  refine ⟨fun pins s σ H Q I h => ?_⟩
  refine wpAny_Call_Name_kw (ld_glob I hg hm ?_ hdb)
  refine PySem.W.callWith_K (h₀ := X.base) I.ok.mod.kin M.kp (thn (ha.run pos pins s σ H _ I h) fun us s1 ⟨vs, H1, I1, r, q⟩ => ⟨I1.kIn, ?_⟩) he hpl
  exact run_makeS M F hr hb tk I1 r q
end
end DX
namespace My
open PySem PySem.Spec PyProof.Rows L2 DX
section
variable {σ : L2.St} {H : Hp} {Q : VK} {tl : TA}
theorem makeS {C : Addr} {sp : Sp} {E : L2.St → XK} (h : tl σ H fun vs H1 => ∀ x dx, H1 x = none → H1 dx = none → dx ≠ x → sp (.ref x :: vs) (upd (upd H1 dx (.own x)) x (.ins C dx [])) (fun v H2 => v = .non ∧ Q (.ref x) H2) (E σ)) : tMakeS C sp E tl σ H Q := h
end
end My
namespace My
open PySem PySem.Spec PyProof.Rows L2 DX
theorem same_nw {H : Hp} {p : Addr} {o : HO} (h : H p = none) : Same H (upd H p o) := fun b u e => by
  rw [upd_ne (ne_of_none e h)]; exact e
section
variable {H : Hp} {Q : VK} {K : PySem.W.Frag}
theorem slA {t : Addr} {xs : List V} {lo hi : Option Int} (h : H t = some (.tup xs)) (q : ∀ p H', Same H H' → H' p = some (.tup (cutV xs lo hi)) → Q (.ref p) H') : rSlA K (.ref t) lo hi H Q := by
  refine ⟨t, xs, rfl, SqT.of h, fun z => ?_, fun _ p np => q p _ (same_nw np) upd_same⟩
  refine q t H (.refl _) ?_
  have e : cutV xs lo hi = xs := by
    unfold cutV
    rw [z.1, z.2, Nat.sub_zero, List.drop_zero, List.take_length]
  rw [e]; exact h
theorem cut_mem {xs : List V} {lo hi : Option Int} {x : V} (h : x ∈ cutV xs lo hi) : x ∈ xs := List.mem_of_mem_drop (List.mem_of_mem_take h)
theorem catA {a b : Addr} {xs ys : List V} (h1 : H a = some (.tup xs)) (h2 : H b = some (.tup ys)) (hz : xs.length + ys.length ≤ 1000) (q : ∀ p H', Same H H' → H' p = some (.tup (xs ++ ys)) → Q (.ref p) H') : rCatA K (.ref a) (.ref b) H Q := by
  refine ⟨a, b, xs, ys, rfl, rfl, SqT.of h1, SqT.of h2, My.sz hz, fun z => ?_, fun _ z => ?_, fun _ _ p np => q p _ (same_nw np) upd_same⟩
  · subst z
    exact q b H (.refl _) h2
  · subst z
    exact q a H (.refl _) (by rw [List.append_nil]; exact h1)
theorem repA {l : Addr} {k : Int} {xs : List V} (h : H l = some (.tup xs)) (k1 : -1000 ≤ k) (k2 : k ≤ 1000) (hz : xs.length ≤ 1000) (q : ∀ p H', Same H H' → H' p = some (.tup (List.replicate k.toNat xs).flatten) → Q (.ref p) H') : rRepA K (.ref l) (.int k) H Q := by
  refine ⟨l, k, xs, rfl, rfl, SqT.of h, k1, k2, hz, fun z => q l H (.refl _) ?_, fun _ _ p np => q p _ (same_nw np) upd_same⟩
  rcases z with rfl | rfl
  · rw [show (List.replicate k.toNat ([] : List V)).flatten = [] by simp]; exact h
  · rw [show (List.replicate (1 : Int).toNat xs).flatten = xs by simp]; exact h
theorem rep_mem {k : Nat} {xs : List V} {x : V} (h : x ∈ (List.replicate k xs).flatten) : x ∈ xs := by
  obtain ⟨l, h1, h2⟩ := List.mem_flatten.mp h
  rw [(List.mem_replicate.mp h1).2] at h2
  exact h2
theorem rep_len {k : Nat} {xs : List V} : (List.replicate k xs).flatten.length = k * xs.length := by
  induction k with
  | zero => simp
  | succ k ih => rw [List.replicate_succ, List.flatten_cons, List.length_append, ih, Nat.succ_mul]; omega
end
end My

set_option Elab.async false
set_option linter.all false
set_option maxRecDepth 100000
set_option maxHeartbeats 4000000
/-! math.lcm; xs[i] op= e of a list -/
namespace DX
open PySem PySem.Spec PyProof.Rows L2
section
variable {X : Cx}
theorem log_room {n : Nat} (h : n < 2 ^ 13000) : ¬n.log2 / 30 + 1 > 450 := by
  have z := PySem.W.mg_log (k := 12999) h
  omega
def rLcm : List V → Hp → VK → Prop := fun vs H Q => ∃ a b : Int, vs = [.int a, .int b] ∧ a.natAbs < 2 ^ 6000 ∧ b.natAbs < 2 ^ 6000 ∧ Q (.int ((Nat.lcm a.natAbs b.natAbs : Nat) : Int)) H
theorem cr_lcm : CallR X (.builtin "math.lcm") rLcm := by
  intro pins s σ H vs us Q I r h
  obtain ⟨a, b, rfl, ha, hb, q⟩ := h
  obtain ⟨t, u, rfl⟩ := Vals.int2 r
  have e1 : (Nat.lcm 1 a.natAbs) = a.natAbs := by simp [Nat.lcm]
  have up : (2 : Nat) ^ 6000 ≤ 2 ^ 13000 := Nat.pow_le_pow_right (by decide) (by decide)
  have h0 : (1 : Nat) < 2 ^ 13000 := Nat.one_lt_two_pow (by decide)
  have m1 : max 1 a.natAbs < 2 ^ 13000 := Nat.max_lt.mpr ⟨h0, Nat.lt_of_lt_of_le ha up⟩
  have m2 : max a.natAbs b.natAbs < 2 ^ 13000 := Nat.max_lt.mpr ⟨Nat.lt_of_lt_of_le ha up, Nat.lt_of_lt_of_le hb up⟩
  have sz : ((((Nat.lcm 1 a.natAbs).lcm b.natAbs : Nat) : Int)).natAbs.log2 < bitsLine := by
    rw [e1, Int.natAbs_natCast]
    have h1 : a.natAbs.lcm b.natAbs ≤ a.natAbs * b.natAbs := Nat.div_le_self _ _
    have h2 : a.natAbs * b.natAbs < 2 ^ 6000 * 2 ^ 6000 := Nat.mul_lt_mul'' ha hb
    have h3 : a.natAbs.lcm b.natAbs < 2 ^ (11999 + 1) := by
      rw [show 11999 + 1 = 6000 + 6000 by rfl, Nat.pow_add]
      omega
    exact Nat.lt_of_le_of_lt (PySem.W.mg_log h3) (by decide)
  have g := PySem.W.mg_run_lcm a t b u (log_room m1) (log_room m2) sz
  rw [e1] at g
  exact call_function_meets PySem.W.MGF.kind_lcm PySem.W.MGF.plain_lcm PySem.W.MGF.entry_lcm (PySem.W.MGF.args_lcm _ _) g.meets ⟨.int _, H, I.tok _, ⟨_, rfl⟩, q⟩
def rGetL (K : PySem.W.Frag) : V → V → Hp → VK → Prop := fun o i H Q => ∃ p xs k v, o = .ref p ∧ i = .int k ∧ SqL K H p xs ∧ 0 ≤ k ∧ xs[k.toNat]? = some v ∧ Q v H
theorem get_list : PGet X (rGetL X.K) := by
  intro pins s σ H o i ov iv Q I ro ri h
  obtain ⟨p, xs, k, v, rfl, rfl, hq, k0, he, q⟩ := h
  cases ro
  obtain ⟨t, rfl⟩ := ri
  obtain ⟨its, r, pl, hz⟩ := I.list hq
  obtain ⟨w, ew, rw'⟩ := r.get he
  have hl := r.length
  have hn := line63
  have hlt : k.toNat < xs.length := (List.getElem?_eq_some_iff.mp he).1
  exact wpAny_getItem_list pl.isList k0 (by omega) (by simpa using ew) ⟨v, H, I, rw', q⟩
end
end DX
namespace My
open PySem PySem.Spec PyProof.Rows L2 DX
section
variable {σ : L2.St} {H : Hp} {Q : VK} {K : PySem.W.Frag} {to ti te : TE} {D : Ends} {i j k : Int} {n : Nat}
theorem augS {tget : V → V → Hp → VK → Prop} {tip : TIp} {tset : TSet} (h : to σ H fun o H1 => ti σ H1 fun i H2 => tget o i H2 fun x H3 => te σ H3 fun y H4 => tip x y H4 fun z H5 => tset o i z H5 fun H6 => D.nx σ H6) : tAugS to ti te tget tip tset D σ H := h
theorem getL {p : Addr} {xs : List V} {v : V} (h : SqL K H p xs) (e : xs[n]? = some v) (q : Q v H) : rGetL K (.ref p) (.int (n : Int)) H Q := ⟨p, xs, n, v, rfl, rfl, h, Int.natCast_nonneg _, by rw [Int.toNat_natCast]; exact e, q⟩
theorem setL {p : Addr} {xs : List V} {v : V} {R : Hp → Prop} (h : H p = some (.lst xs)) (e : n < xs.length) (q : R (upd H p (.lst (xs.set n v)))) : rSetL (.ref p) (.int (n : Int)) v H R := by
  refine ⟨p, xs, n, n, rfl, rfl, h, ?_, q⟩
  simp [ixN]
  exact e
theorem ipA (q : Q (.int (i + j)) H) : ipI (fun i j => i + j) (.int i) (.int j) H Q := ⟨i, j, rfl, rfl, q⟩
end
end My

set_option Elab.async false
set_option linter.all false
set_option maxRecDepth 100000
set_option maxHeartbeats 4000000
/-! for k, v in d.items(), d's keys being tuples -/
namespace DX
open PySem PySem.Spec PyProof.Rows L2
section
variable {X : Cx} {pins : List (Addr × Obj)} {σ : L2.St} {H : Hp} {s : Shared} {d : Addr} {o : Obj}
theorem frzTv {kvs : List (List L2.Key × V)} (I : Inv X pins σ H s) (h : H d = some (.frz o (.dT kvs))) :
    (d == sysModules) = false ∧ s.heap.get? d = some o ∧ o.ExactDict ∧ ∃ (es : Array DictEntry) (ep : Nat), o.data = .dict es ep ∧ es.size = kvs.length ∧
      ∀ (i : Nat) (k : List L2.Key) (v : V), kvs[i]? = some (k, v) → ∃ (en : DictEntry) (q : Addr), es[i]? = some en ∧ en.key = .ref q ∧ H q = some (.tup (k.map kV)) ∧ RelV v en.val := by
  obtain ⟨hd, z, hs, xs, pr, o', es, ep, ho, hx, hdt, he, _⟩ := I.hok d _ h
  rw [hd] at ho
  cases ho
  refine ⟨hs, hd, hx, es, ep, hdt, ?_, fun i k v e => ?_⟩
  · have l1 : es.size = xs.length := size_of_entries he
    have l2 : kvs.length = xs.length := Paired.length pr
    omega
  · obtain ⟨b, hb, e1, e2, e3⟩ := paired_get pr e
    have q := entry_at he i
    rw [hb] at q
    exact ⟨_, b.2.1, q, rfl, e2, e3⟩
/-- the pairs, each a new tuple of the key's own tuple and the value -/
def ItiT (d : Addr) (o : Obj) (kvs : List (List L2.Key × V)) : It :=
  ⟨fun i H => H d = some (.frz o (.dT kvs)) ∧ i < kvs.length, fun i H x H' => ∃ T k v q, kvs[i]? = some (k, v) ∧ x = .ref T ∧ H T = none ∧ H q = some (.tup (k.map kV)) ∧ H' = upd H T (.tup [.ref q, v]), fun i H => H d = some (.frz o (.dT kvs)) ∧ kvs.length ≤ i⟩
end
section
variable {P : Program} {w : World} {K : PySem.W.Frag} {tg : Expr} {d : Addr} {o : Obj} {es : Array DictEntry} {ep : Nat}
theorem turn_itemsT {kvs : List (List L2.Key × V)} {elts : List Expr} {kk : Nat} {tpos : Pos} (it : Addr) (hod : o.data = .dict es ep) :
    Turn P w K (.Tuple elts kk tpos) (ItiT d o kvs) [it] it (fun i h => ∃ ok ov, IsItemIter h it d i kvs.length ep ok ov) where
  mem := by simp
  obj := fun i h st b hb => by
    have e : b = it := by simpa using hb
    subst e
    obtain ⟨ok, ov, e⟩ := st
    exact ⟨_, e, fun v z => nomatch z⟩
  keep := fun i h h' st k => let ⟨ok, ov, e⟩ := st; ⟨ok, ov, k it (by simp) _ e⟩
  item := by
    intro X hP hw hK hc i pins s σ H E I hf st hg
    subst hP hw hK
    obtain ⟨hd, hi⟩ := hg
    obtain ⟨hs, hgd, hx, es', ep', hdt, hsz, ent⟩ := frzTv I hd
    obtain ⟨rfl, rfl⟩ := dict_ep hod hdt
    obtain ⟨⟨k, v⟩, hkv⟩ : ∃ p, kvs[i]? = some p := ⟨kvs[i], List.getElem?_eq_getElem hi⟩
    obtain ⟨en, q, hen, hkey, hq, rv⟩ := ent i k v hkv
    obtain ⟨ok, ov, he⟩ := st
    rw [← hsz] at he
    have hie : i < es'.size := by omega
    have een : es'[i] = en := by
      have z := Array.getElem?_eq_getElem hie
      rw [hen] at z
      exact (Option.some.inj z).symm
    have hlt : it < s.heap.objs.size := Heap.lt_size he
    refine DT.nextI he ⟨o, hgd, hx, hdt⟩ hie fun h' ho hT hz hk => ?_
    refine ⟨_, rfl, wpAny_letOwnedTupleGo_items (s := { s with heap := h' }) ho fun h'' he' sb => ?_⟩
    rw [een] at hT he'
    have hT2 : h''.get? s.heap.objs.size = some { cls := .type "tuple", data := .seq #[en.key, en.val] } := (sb.2 _ (Nat.ne_of_gt hlt)).trans hT
    have new : ObjOk X.prog X.w (upd H s.heap.objs.size (.tup [.ref q, v])) h'' s.heap.objs.size (.tup [.ref q, v]) :=
      ⟨by show 2 ≤ sizeLine; decide, [en.key, en.val], .cons hkey (.cons rv .nil), ⟨_, hT2, rfl, _, rfl⟩⟩
    have I1 : Inv X pins σ (upd H s.heap.objs.size (.tup [.ref q, v])) { s with heap := h'' } :=
      I.turnedNew (t' := s.toks) (ch := [it]) (fun b ob hb e => (sb.2 b (by simpa using hb)).trans (hk b ob (by simpa using hb) e)) hf (Nat.le_refl _) new
    refine ⟨.ref s.heap.objs.size, _, I1, rfl, ⟨_, k, v, q, hkv, rfl, I.hok.fresh (Nat.le_refl _), hq, rfl⟩, ⟨en.key, en.val, ?_⟩, fun b hb => ?_⟩
    · rw [← hsz]; exact he'
    · have e : b = it := by simpa using hb
      rw [e, upd_ne (Nat.ne_of_lt hlt)]
      exact (hf it (by simp)).1
  done := by
    intro X hP hw hK hc i pins s σ H E I hf st hg
    subst hP hw hK
    obtain ⟨hd, hi⟩ := hg
    obtain ⟨f0, f1, f2, f3, f4, f5⟩ := hf it (by simp)
    obtain ⟨hs, hgd, hx, es', ep', hdt, hsz, ent⟩ := frzTv I hd
    obtain ⟨rfl, rfl⟩ := dict_ep hod hdt
    obtain ⟨ok, ov, he⟩ := st
    rw [← hsz] at he
    exact DT.endI (I.ok.hd hc) he ⟨o, hgd, hx, hdt⟩ (by omega) fun h' eb => ⟨rfl, I.turned (t' := s.toks) (fun b ob hb e => eb b ob hb e) f0 f1 f3 f4 f5⟩
  self := fun A i s Q E st h => let ⟨_, _, e⟩ := st; PySem.W.kcp_self e h
end
def iItemsT (td : TE) : TI := fun σ H R => td σ H fun x H1 => ∃ d o kvs, x = .ref d ∧ H1 d = some (.frz o (.dT kvs)) ∧ R (ItiT d o kvs) H1
section
variable {X : Cx} {e : Expr} {td : TE} {apos cpos : Pos}
theorem pi_itemsT {elts : List Expr} {kk : Nat} {tpos : Pos} (he : PE X e td) (hbase : attributeBase e "items" X.env (eval e X.env) = eval e X.env := by rfl) (hline : (apos.endLine == cpos.line) = true := by rfl) :
    PI X (.Tuple elts kk tpos) (.Call (.Attribute e "items" apos) [] [] cpos) (iItemsT td) := by
  refine ⟨fun pins s σ H R I h => ?_⟩
  refine wpAny_Call_method (T := "dict") (id := "dict.items") hbase rfl hline F.plainAttrs_dict F.slot_dict_items F.type_dict_items (thn (he.run pins s σ H _ I h) fun u s1 ⟨x, H1, I1, rx, d, o, kvs, ex, hd, q⟩ => ?_)
  subst ex
  obtain rfl : u = Value.ref d := rx
  obtain ⟨hs, hgd, hx, es, ep, hdt, hsz, ent⟩ := frzTv I1 hd
  have raw : s1.heap.DictRaw d es ep := ⟨o, hgd, hx, hdt⟩
  refine ⟨raw.typeIs, fun b q => by cases q; exact ⟨o, hgd, hx.2.1⟩, ?_⟩
  have I2 : Inv X pins σ H1 { s1 with heap := s1.heap.push { cls := .type "dict_items", data := .fields #[.ref d] } } := I1.kept (t' := s1.toks) fun b ob q => Heap.get?_push_of_some _ q
  have fin : wpAny (model X.prog X.w) X.A (pyIter (.ref s1.heap.objs.size)) (PIE X pins σ (.Tuple elts kk tpos) R) X.xe { s1 with heap := s1.heap.push { cls := .type "dict_items", data := .fields #[.ref d] } } := by
    refine DT.iterI (d := d) (es := es) (ep := ep) ⟨_, Heap.get?_push_size _ rfl, rfl, rfl⟩ ⟨o, Heap.get?_push_of_some _ hgd, hx, hdt⟩ (pi_one (tk := s1.toks) I2 _ (turn_itemsT _ hdt) ⟨.none, .none, ?_⟩ q)
    rw [← hsz]
    exact Heap.get?_push_size _ rfl
  show wpAny _ _ (callWith cpos (.builtin "dict.items") [.ref d] [] []) _ X.xe s1
  exact method_meetsIn F.slot_dict_items F.entry_dict_items rfl (PySem.evalArgs_none ⟨rfl, raw.typeIs, F.args_dict_items_1 _, _, DT.meetsItems (es := es) (ep := ep) hs, ⟨⟨o, hgd, hx, hdt⟩, fin⟩⟩)
end
theorem walk_itemsT {d : Addr} {o : Obj} {kvs : List (List L2.Key × V)} : Walk (ItiT d o kvs) kvs.length (fun H => H d = some (.frz o (.dT kvs))) (fun i H x H' => ∃ T k v q, kvs[i]? = some (k, v) ∧ x = .ref T ∧ H T = none ∧ H q = some (.tup (k.map kV)) ∧ H' = upd H T (.tup [.ref q, v])) where
  goes := fun i H hi g => ⟨g, hi⟩
  stops := fun H g => ⟨g, Nat.le_refl _⟩
  yields := fun i H x H' _ _ y => y
end DX

set_option Elab.async false
set_option linter.all false
set_option maxRecDepth 100000
set_option maxHeartbeats 4000000
/-! list(d.values()), whatever d's keys are -/
namespace DX
open PySem PySem.Spec PyProof.Rows L2 PySem.W PySem.Calls
theorem meetsVals {prog : Program} {w : World} {d : Addr} {es : Array DictEntry} {ep : Nat} (hd : (d == sysModules) = false) :
    MeetsIn prog w (Builtin.«dict.values» ⟨[.ref d], []⟩) (fun _ R s => s.heap.DictRaw d es ep ∧
      R (.ok (.ret (.ref s.heap.objs.size))) { s with heap := s.heap.push { cls := .type "dict_values", data := .fields #[.ref d] } }) :=
  .of_wp fun A R s ⟨hm, h⟩ => by
    refine wpAny_bind ?_
    unfold Builtin.Dict.noArgs
    refine wpAny_bind (wpAny_notOrdered_dict hm.typeIs ?_)
    show wpAny _ _ (pure d) _ _ s
    refine wpAny_pure ?_
    show wpAny _ _ (Builtin.Dict.showsAll d >>= _) _ _ s
    unfold Builtin.Dict.showsAll
    rw [if_neg (by rw [hd]; exact Bool.false_ne_true)]
    refine wpAny_bind (wpAny_pure ?_)
    exact wpAny_bind (wpAny_newObj_type (wpAny_pure ⟨_, rfl, h⟩))
theorem vals_get {vs : List V} {us : List Value} (hl : vs.length = us.length) (h : ∀ (j : Nat) (v : V) (u : Value), vs[j]? = some v → us[j]? = some u → RelV v u) : Vals vs us := by
  induction vs generalizing us with
  | nil => cases us with
    | nil => exact .nil
    | cons => cases hl
  | cons v vs ih => cases us with
    | nil => cases hl
    | cons u us => exact .cons (h 0 v u rfl rfl) (ih (Nat.succ.inj hl) fun j a b ha hb => h (j + 1) a b ha hb)
def rValsT : V → Hp → VK → Prop := fun x H Q => ∃ (d : Addr) (kvs : List (List L2.Key × V)), x = .ref d ∧ Rd H d (.dT kvs) ∧ ∀ p, H p = none → Q (.ref p) (upd H p (.lst (kvs.map (·.2))))
def tListValsT (te : TE) : TE := fun σ H Q => te σ H fun x H1 => rValsT x H1 Q
section
variable {X : Cx} {e : Expr} {te : TE} {p apos cpos pos : Pos}
theorem pe_listValsT (hc : X.calm = true) (he : PE X e te) (hg : Gl X "list") (hm : X.mg "list" = none) (hv : bootBuiltins "list" = some (.type "list")) (hbase : attributeBase e "values" X.env (eval e X.env) = eval e X.env := by rfl) (hline : (apos.endLine == cpos.line) = true := by rfl)
    (hs : starEach [.Call (.Attribute e "values" apos) [] [] cpos] X.env = (false, eval (.Call (.Attribute e "values" apos) [] [] cpos) X.env) :: starEach [] X.env := by rfl) :
    PE X (.Call (.Name "list" p) [.Call (.Attribute e "values" apos) [] [] cpos] [] pos) (tListValsT te) := by
  refine ⟨fun pins s σ H Q I hq => ?_⟩
  refine wpAny_Call_Name_kw (ld_blt I hg hm hv (callWith_type1 ?_ hs rfl))
  rw [hs]
  refine Calls.spliced_cons (wpAny_Call_method (T := "dict") (id := "dict.values") hbase rfl hline F.plainAttrs_dict F.slot_dict_values F.type_dict_values (thn (he.run pins s σ H _ I hq) fun u s1 ⟨x, H1, I1, rx, d, kvs, ex, hd, q⟩ => ?_))
  subst ex
  obtain rfl : u = Value.ref d := rx
  obtain ⟨hz, lo, xs, kt, o, eds, ep, ho, hx, hdt, hen, hnd⟩ := (show ObjOk X.prog X.w H1 s1.heap d (.dT kvs) from hd.ok I1.hok)
  have raw : s1.heap.DictRaw d eds ep := ⟨o, ho, hx, hdt⟩
  have I2 : Inv X pins σ H1 { s1 with heap := s1.heap.push { cls := .type "dict_values", data := .fields #[.ref d] } } := I1.kept (t' := s1.toks) fun b ob q => Heap.get?_push_of_some _ q
  have lx : eds.size = xs.length := size_of_entries hen
  have lk : kvs.length = xs.length := Paired.length kt
  refine ⟨raw.typeIs, fun b q => by cases q; exact ⟨o, ho, hx.2.1⟩, ?_⟩
  show wpAny _ _ (callWith cpos (.builtin "dict.values") [.ref d] [] []) _ X.xe s1
  refine method_meetsIn F.slot_dict_values F.entry_dict_values rfl (PySem.evalArgs_none ⟨rfl, raw.typeIs, F.args_dict_values_1 _, _, meetsVals (es := eds) (ep := ep) lo, ⟨raw, ?_⟩⟩)
  refine Calls.spliced_nil ?_
  refine PySem.W.kdl_call (KdlSrc.rawValues (es := eds) (ep := ep)) (I1.ok.hd hc) ⟨⟨_, Heap.get?_push_size _ rfl, rfl, rfl⟩, raw.at fun ob e => Heap.get?_push_of_some _ e⟩ (by omega) fun h' tk acc c hk hS hacc => ?_
  have n2 : H1 (s1.heap.push { cls := .type "dict_values", data := .fields #[.ref d] }).objs.size = none := I2.hok.fresh (Nat.le_refl _)
  refine ⟨.ref _, upd H1 _ (.lst (kvs.map (·.2))), I2.laid (t' := tk) (fun b ob e => hk b ob e) (Nat.le_refl _) ⟨by rw [List.length_map]; exact hz, acc.toList, c, vals_get ?_ fun j v u hv hu => ?_, ?_⟩, rfl, q _ n2⟩
  · rw [List.length_map, show acc.toList.length = eds.size from hacc.1]; omega
  · rw [List.getElem?_map] at hv
    cases ek : kvs[j]? with
    | none => rw [ek] at hv; cases hv
    | some kv =>
      rw [ek] at hv
      cases Option.some.inj hv
      obtain ⟨x, hxj, _, _, rv⟩ := LiI.paired_get kt ek
      rw [Array.getElem?_toList] at hu
      obtain ⟨hj, eu⟩ := hacc.2 j u hu
      have ee := entry_at hen j
      rw [Array.getElem?_eq_getElem hj, hxj] at ee
      have ee := Option.some.inj ee
      rw [eu, ee]
      exact rv
  · rw [Array.toArray_toList]
    exact hS
end
end DX

set_option Elab.async false
set_option linter.all false
set_option maxRecDepth 100000
set_option maxHeartbeats 4000000
/-! a dict made by a comprehension, its keys tuples: over any kind of dict object, told by what a store does to it -/
namespace DX
open PySem PySem.Spec PyProof.Rows L2
section
variable {X : Cx}
/-- a kind of dict: how it stands when it is new, what putting y, z into it does -/
structure DKind (X : Cx) where
  new : HO
  put : Hp → Addr → V → V → Hp → Prop
  fresh : ∀ (H : Hp) (h : Heap), sysModules < h.objs.size → ObjOk X.prog X.w H (h.push { cls := .type "dict", data := .dict #[] }) h.objs.size new
  does : ∀ (B : Cx), B.prog = X.prog → B.w = X.w → B.A = X.A → B.xe = B.xe → ∀ {pins : List (Addr × Obj)} {σ : L2.St} {H H' : Hp} {s : Shared} {E : Value → Shared → Prop} {D : Addr} {y z : V} {u r : Value} {R : Unit → Shared → Prop}, Inv B pins σ H s → put H D y z H' → RelV y u → RelV z r → (∀ s', Inv B pins σ H' s' → R () s') →
    wpAny (model B.prog B.w) B.A (dictSet D u r) R E s
/-- dicts with tuple keys -/
def kindT (hu : X.A.units < cLine) : DKind X where
  new := .dT []
  put := fun H D y z H' => ∃ kvs k kb, (y = .ref kb ∧ H kb = some (.tup (k.map kV))) ∧ H D = some (.dT kvs) ∧ kvs.length < sizeLine ∧ H' = upd H D (.dT (putK kvs k z))
  fresh := fun H h hb => dt_empty h hb
  does := by
    intro B hp hw ha _ pins σ H H' s E D y z u r R I g ry rz q
    obtain ⟨kvs, k, kb, ⟨rfl, eb⟩, hD, hl, rfl⟩ := g
    cases (show u = Value.ref kb from ry)
    obtain ⟨zl, hm, xs, rel, dd⟩ := dt_of I.hok hD
    have e1 : xs.length ≤ sizeLine := by rw [← Paired.length rel]; exact zl
    have e2 := length_putK kvs k z
    refine wpAny_dictSet_heap (knd := tupleKind (mixKind B.prog B.w)) (hsz := e1) (by rw [ha]; exact hu) (key_of I.hok eb) dd fun h' ⟨od, es, ep, f1, f2, f3, f4, _, f5⟩ hs => q _ ?_
    refine d_write I (by rw [hD]; exact True.intro) hs ⟨od, f1⟩ ⟨by omega, hm, _, (rel.put k eb rz).keeps fun c ys ec => ?_, od, es, ep, f1, f2, f3, f4, f5⟩
    rw [upd_ne (ne_of ec hD (fun n => nomatch n))]
    exact ec
/-- {k: v for target in iter if ..}: the turns, D the new dict -/
def tDcG (kd : DKind X) (wi : TI) (g : TG) (tt : TT) (tk tv : TE) (vs : List Nat) : TE := fun σ H Q => wi σ H fun J H1 => ∀ D, H1 D = none → ∃ W : Nat → Nat → Hp → Prop, (∃ m, W 0 m (upd H1 D kd.new)) ∧ ∀ i m H, W i m H →
  (J.stop i H ∧ Q (.ref D) H) ∨ (J.go i H ∧ ∃ N : Hp → Prop, (∀ H', N H' → ∃ m', m' < m ∧ W (i + 1) m' H') ∧ ∀ x H', J.yld i H x H' → g x (wipe σ vs) H' fun σ2 H2 => wipe σ2 vs = wipe σ vs ∧ tt σ2 H2 fun b H3 =>
    if b = true then tk σ2 H3 fun y H4 => tv σ2 H4 fun z H5 => ∃ H6, kd.put H5 D y z H6 ∧ N H6 else N H3)
variable {kx vx tg iter : Expr} {ifs : List Expr} {scope : Scope} {own : List (Str × Nat)} {pos : Pos} {wi : TI} {g : TG} {tt : TT} {tk tv : TE}
/-- the comprehension itself, whatever takes the new dict -/
theorem dcG_at (kd : DKind X) {use : Option (Value → Sem Unit)} {Qf : Value → Shared → Prop} {pos' : Pos} {pins : List (Addr × Obj)} {s : Shared} {σ : L2.St} {H : Hp} {Q : VK} (hc : X.calm = true) (hN : X.N.Nodup) (hi : PI X tg iter wi) (ok : BlkOk X.N X.env.scope scope own) (I : Inv X pins σ H s)
    (hg : ∀ s H C cl fp, PG (X.blk s H scope (compEnvC scope cl C X.env) fp) tg g) (ht : ∀ s H C cl fp, PTs (X.blk s H scope (compEnvC scope cl C X.env) fp) ifs tt)
    (hk : ∀ s H C cl fp, PE (X.blk s H scope (compEnvC scope cl C X.env) fp) kx tk) (he : ∀ s H C cl fp, PE (X.blk s H scope (compEnvC scope cl C X.env) fp) vx tv) (hs : ∀ x, foldedSetIterable iter X.env x = pure x)
    (asked : tDcG kd wi g tt tk tv (own.map (·.2)) σ H Q)
    (leave : ∀ D C m s' H', Q (.ref D) H' → Inv X pins σ H' s' → s'.heap.Ns C m → FpOk X pins H' C → compPost (model X.prog X.w) X.A X.xe use Qf (.ref D) C (.ok .next) s') :
    wpAny (model X.prog X.w) X.A (comprehension (.DictComp kx vx [⟨tg, iter, ifs, 0⟩] scope pos) scope X.env pos' newDict false (eval iter X.env) use) Qf X.xe s := by
  refine wpAny_comprehension_free (use := use) rfl hs (closure_ok fun y hy e => (ok.free y hy e).elim (fun k => I.ok.has _ (.inl k)) fun k => I.ok.has _ (.inr k)) ok.kind (fun y hy e => by rw [ok.uniq y hy, e]) (thn (hi.run pins s σ H _ I asked) fun _ _ a => thn a fun _ s0 b => ?_)
  obtain ⟨it, fp, tn, J, H0, rfl, I0, T, st0, fr0, turns⟩ := b
  refine wpAny_newObj_type (newEnv_comp ?_)
  -- the new dict at D
  generalize eD : s0.heap.objs.size = D
  obtain ⟨W, ⟨m0, w0⟩, turn⟩ := turns D (I0.hok.fresh (Nat.le_of_eq eD))
  generalize e1 : ({ s0 with heap := s0.heap.push { cls := .type "dict", data := .dict #[] } } : Shared) = s1
  have eh : s1.heap = s0.heap.push { cls := .type "dict", data := .dict #[] } := by rw [← e1]
  have I1 : Inv X pins σ (upd H0 D kd.new) s1 := by
    subst e1 eD
    exact I0.laid (t' := s0.toks) (fun _ _ e => Heap.get?_push_of_some _ e) (Nat.le_refl _) (kd.fresh _ s0.heap I0.big)
  have below : ∀ b ∈ fp, b < s0.heap.objs.size := fun b hb => (T.obj _ _ st0 b hb).elim fun _ z => Heap.lt_size z.1
  have fr1 : ∀ b ∈ fp, FpOk X pins (upd H0 D kd.new) b ∧ b < s1.heap.objs.size := fun b hb =>
    ⟨⟨by rw [upd_ne (by rw [← eD]; exact Nat.ne_of_lt (below b hb))]; exact (fr0 b hb).1, (fr0 b hb).2⟩, by rw [eh, Heap.size_push]; exact Nat.lt_succ_of_lt (below b hb)⟩
  have st1 : tn 0 s1.heap := T.keep _ _ _ st0 fun _ _ _ e => by rw [eh]; exact Heap.get?_push_of_some _ e
  have Ib := block_start I1 ok hN fr1
  let cl := cellsFrom (s1.heap.objs.size + 1) scope.names (cloFrom X.env.cells scope.names [])
  obtain ⟨ce, ece⟩ : ∃ ce, compEnvC scope cl s1.heap.objs.size X.env = ce := ⟨_, rfl⟩
  have hg := hg s1 (upd H0 D kd.new) s1.heap.objs.size cl fp
  have ht := ht s1 (upd H0 D kd.new) s1.heap.objs.size cl fp
  have hk := hk s1 (upd H0 D kd.new) s1.heap.objs.size cl fp
  have he := he s1 (upd H0 D kd.new) s1.heap.objs.size cl fp
  have none1 : ∀ b ∈ fp, upd H0 D kd.new b = none := fun b hb => (fr1 b hb).1.1
  have eloc : ce.locals = s1.heap.objs.size := by subst ece; rfl
  show codeAny _ _ (.compStart (.DictComp kx vx [⟨tg, iter, ifs, 0⟩] scope pos) 0 (.ref it) (.ref D) (compEnvC scope cl s1.heap.objs.size X.env)) (compPost (model X.prog X.w) X.A X.xe use Qf (.ref D) s1.heap.objs.size) { s1 with heap := pushCells (s1.heap.push { cls := .type "dict", data := .dict #[] }) scope.names }
  rw [ece] at hg ht hk he ⊢
  have Ib : Inv (X.blk s1 (upd H0 D kd.new) scope ce fp) [] (wipe σ (own.map (·.2))) (upd H0 D kd.new) { s1 with heap := pushCells (s1.heap.push { cls := .type "dict", data := .dict #[] }) scope.names } := by rw [← ece]; exact Ib
  have stb : tn 0 (pushCells (s1.heap.push { cls := .type "dict", data := .dict #[] }) scope.names) := T.keep _ _ _ st1 fun _ _ _ e => pushCells_keeps _ _ _ _ (Heap.get?_push_of_some _ e)
  generalize esb : ({ s1 with heap := pushCells (s1.heap.push { cls := .type "dict", data := .dict #[] }) scope.names } : Shared) = sb at Ib ⊢
  have stb : tn 0 sb.heap := by rw [← esb]; exact stb
  generalize upd H0 D kd.new = Hn at w0 I1 fr1 none1 Ib hg ht hk he
  let B := X.blk s1 Hn scope ce fp
  have fpB : ∀ {σ' : L2.St} {H' : Hp} {s' : Shared}, Inv B [] σ' H' s' → (∀ b ∈ fp, H' b = none) → ∀ b ∈ fp, FpOk B [] H' b := fun J n b hb =>
    ⟨n b hb, (J.ok.exf b hb).1, J.ok.exfs b hb, .inl hb, fun x c e => (J.ok.exf b hb).2 x c e, fun p hp => nomatch (show p ∈ ([] : List (Addr × Obj)) from hp)⟩
  have loop : codeAny (model X.prog X.w) X.A (.compLoop (.DictComp kx vx [⟨tg, iter, ifs, 0⟩] scope pos) 0 (.ref it) (.ref D) ce) (compPost (model X.prog X.w) X.A X.xe use Qf (.ref D) s1.heap.objs.size) sb := by
    refine compLoop_anyD (fun n s' => ∃ i H', Inv B [] (wipe σ (own.map (·.2))) H' s' ∧ tn i s'.heap ∧ (∀ b ∈ fp, H' b = none) ∧ W i n H') (fun n s2 ⟨i, H2, I2, st2, n2, w2⟩ => ?_) m0 ⟨0, Hn, Ib, stb, none1, w0⟩
    rcases turn i n H2 w2 with ⟨stop, fin⟩ | ⟨go, N, hN', step⟩
    · refine thnF (T.done B rfl rfl rfl hc i [] s2 _ H2 (fun _ _ => False) I2 (fpB I2 n2) st2 stop) fun r s3 ⟨er, I3⟩ => ?_
      subst er
      have I4 : Inv X pins σ H2 s3 := I1.call' (ch := fp) I3.os I3.base I3.hok I3.bare fun b hb => ⟨(fr1 b hb).1.2.2.2.1, (fr1 b hb).1.2.1, (fr1 b hb).1.2.2.2.2.1, (fr1 b hb).1.2.2.2.2.2⟩
      obtain ⟨m, hm, _⟩ := I3.loc
      have free : H2 s1.heap.objs.size = none := eloc ▸ (show H2 ce.locals = none from I3.free)
      have hm : s3.heap.Ns s1.heap.objs.size m := eloc ▸ (show s3.heap.Ns ce.locals m from hm)
      exact leave D _ m s3 H2 fin I4 hm (I1.fpOk (Nat.le_refl _) free)
    · refine thnF (T.item B rfl rfl rfl hc i [] s2 _ H2 (fun _ _ => False) I2 (fpB I2 n2) st2 go) fun r s3 ⟨u, er, a3⟩ => ?_
      subst er
      refine thnF a3 fun _ s4 ⟨x, H4, I4, r4, y4, st4, n4⟩ => ?_
      refine thnF (hg.run _ s4 _ H4 x u _ (I4.pinned (fpB I4 n4) (T.obj _ _ st4)) r4 (step x H4 y4)) fun _ s5 ⟨σ5, H5, I5, wp, a5⟩ => ?_
      have close : ∀ {s' : Shared} {H' : Hp}, Inv B ([] ++ pinsAt fp s4.heap) σ5 H' s' → N H' → ∃ m, m < n ∧ ∃ i H', Inv B [] (wipe σ (own.map (·.2))) H' s' ∧ tn i s'.heap ∧ (∀ b ∈ fp, H' b = none) ∧ W i m H' := fun {s' H'} I' nx => by
        obtain ⟨m', lt, w'⟩ := hN' H' nx
        have pinned : ∀ b ∈ fp, ∀ o, s4.heap.get? b = some o → s'.heap.get? b = some o ∧ H' b = none := fun b hb o e =>
          let z := I'.pin (b, o) (List.mem_append_right _ (List.mem_append_right _ (mem_pinsAt hb e)))
          ⟨z.1, z.2.1⟩
        refine ⟨m', lt, i + 1, H', (I'.unpinned (pins := [])).weak (by have z := congrArg List.length wp; rw [wipe_length, wipe_length] at z; rw [wipe_length]; exact z.symm) (fun j v e => (wipe_some (wp ▸ e)).1), T.keep _ _ _ st4 fun b hb o e => (pinned b hb o e).1, fun b hb => ?_, w'⟩
        obtain ⟨o, e, _⟩ := T.obj _ _ st4 b hb
        exact (pinned b hb o e).2
      refine thnF (ht.run _ s5 σ5 H5 _ I5 a5) fun c s6 ⟨H6, I6, a6⟩ => ?_
      cases c with
      | true =>
        simp only [if_true] at a6 ⊢
        refine thnF (hk.run _ s6 σ5 H6 _ I6 a6) fun k7 s7 ⟨y7, H7, I7, r7, a7⟩ => ?_
        refine thnF (he.run _ s7 σ5 H7 _ I7 a7) fun k8 s8 ⟨y8, H8, I8, r8, H9, put, nx⟩ => ?_
        exact kd.does B rfl rfl rfl rfl I8 put r7 r8 fun s9 I9 => close I9 nx
      | false =>
        simp only [Bool.false_eq_true, if_false] at a6 ⊢
        exact close I6 a6
  exact codeAny_compStart_dict loop (T.self X.A 0 _ _ _ stb loop)
/-- as a value -/
theorem pe_dcG (kd : DKind X) (hc : X.calm = true) (hN : X.N.Nodup) (hi : PI X tg iter wi) (ok : BlkOk X.N X.env.scope scope own)
    (hg : ∀ s H C cl fp, PG (X.blk s H scope (compEnvC scope cl C X.env) fp) tg g) (ht : ∀ s H C cl fp, PTs (X.blk s H scope (compEnvC scope cl C X.env) fp) ifs tt)
    (hk : ∀ s H C cl fp, PE (X.blk s H scope (compEnvC scope cl C X.env) fp) kx tk) (he : ∀ s H C cl fp, PE (X.blk s H scope (compEnvC scope cl C X.env) fp) vx tv) (hs : ∀ x, foldedSetIterable iter X.env x = pure x := by intro _; rfl) :
    PE X (.DictComp kx vx [⟨tg, iter, ifs, 0⟩] scope pos) (tDcG kd wi g tt tk tv (own.map (·.2))) := by
  refine ⟨fun pins s σ H Q I asked => ?_⟩
  rw [arm_eval_DictComp]
  refine dcG_at kd hc hN hi ok I hg ht hk he hs asked fun D C m s3 H2 fin I4 hm fr => ?_
  obtain ⟨f0, f1, f2, f3, f4, f5⟩ := fr
  exact ⟨m, hm, fun h'' sb => ⟨.ref D, H2, I4.turned (t' := s3.toks) (fun b o hb e => (sb.2 b hb).trans e) f0 f1 f3 f4 f5, rfl, fin⟩⟩
/-- y = {..} on one line, y a local: the store comes before the block goes -/
theorem ps_dcG {i : Nat} {y : Str} {py spos : Pos} (kd : DKind X) (hc : X.calm = true) (hN : X.N.Nodup) (hy : X.N[i]? = some y) (yl : X.env.scope.names.lookup y = some .local)
    (sw : swapsWith (.DictComp kx vx [⟨tg, iter, ifs, 0⟩] scope pos) (some (.Name y py)) spos.line X.env = pure true) (hi : PI X tg iter wi) (ok : BlkOk X.N X.env.scope scope own)
    (hg : ∀ s H C cl fp, PG (X.blk s H scope (compEnvC scope cl C X.env) fp) tg g) (ht : ∀ s H C cl fp, PTs (X.blk s H scope (compEnvC scope cl C X.env) fp) ifs tt)
    (hk : ∀ s H C cl fp, PE (X.blk s H scope (compEnvC scope cl C X.env) fp) kx tk) (he : ∀ s H C cl fp, PE (X.blk s H scope (compEnvC scope cl C X.env) fp) vx tv) (hs : ∀ x, foldedSetIterable iter X.env x = pure x := by intro _; rfl) :
    PS X (.Assign [.Name y py] (.DictComp kx vx [⟨tg, iter, ifs, 0⟩] scope pos) spos) (tAsg (tDcG kd wi g tt tk tv (own.map (·.2))) (gName i)) := by
  refine ⟨fun pins s σ H E I asked => ?_⟩
  rw [exec_Assign_Name_used _ _ _ _ sw]
  refine wpAny_bind (wpAny_standAt (wpAny_bind ?_))
  show wpAny _ X.A (do let _ ← comprehension (.DictComp kx vx [⟨tg, iter, ifs, 0⟩] scope pos) scope X.env (firstIterPos [⟨tg, iter, ifs, 0⟩] pos) newDict false (eval iter X.env) (some (assign (.Name y py) X.env))) _ _ s
  have asked : tDcG kd wi g tt tk tv (own.map (·.2)) σ H (fun x H1 => gName i x σ H1 E.nx) := asked
  refine wpAny_bind (thn (dcG_at (Qf := fun _ s' => SP X pins E .next s') kd hc hN hi ok I hg ht hk he hs asked fun D C m s3 H2 fin I4 hm fr => ?_) fun _ s' z => wpAny_pure (wpAny_pure z))
  show wpAny _ _ (assign (.Name y py) X.env (.ref D)) _ _ _
  obtain ⟨f0, f1, f2, f3, f4, f5⟩ := fr
  refine wpAny_assign_Name (store_ok2 (v := V.ref D) I4 hN hy (.inl yl) rfl (fun s4 I5 ⟨b, sb, hb⟩ => ?_) (.inr yl))
  have ne : C ≠ b := hb.elim (fun z => z ▸ f1) fun z e => f4 y b z e.symm
  exact ⟨m, hm.sameBut sb ne, fun h5 sb5 => ⟨_, H2, I5.turned (t' := s4.toks) (fun c o hc e => (sb5.2 c hc).trans e) f0 f1 f3 f4 f5, fin⟩⟩
theorem sl_tupK {Y : Cx} {K : PySem.W.Frag} (e : Y.K = K) : SlR Y (rSlA K) := e ▸ sl_tupA
theorem sw_dc {env : Env} {y : Str} {py : Pos} {l : Nat} (hk : env.scope.kind = .function) (hy : env.scope.names.lookup y = some .local) (hl : (py.line == pos.line) = true) (ha : (scope.names.any fun z => z.1 == y && (z.2 == .local || z.2 == .cell)) = false) {gs : List Comprehension} :
    swapsWith (.DictComp kx vx gs scope pos) (some (.Name y py)) l env = pure true := by
  have h1 : env.kindOf y = some .local := hy
  have h2 : env.blockKind = .function := by unfold Env.blockKind; rw [hk]; rfl
  have ha' : (scope.names.any fun (n, k) => n == y && (k == .local || k == .cell)) = false := ha
  unfold swapsWith
  simp only [h1, h2, ha', Expr.pos, hl]
  rfl
end
end DX

set_option Elab.async false
set_option linter.all false
set_option maxRecDepth 100000
set_option maxHeartbeats 4000000
/-! f'{n:b}' of a number -/
namespace DX
open PySem PySem.Spec PyProof.Rows L2 PySem.W PySem.Calls Builtin Builtin.Str Builtin.Int Builtin.Float
/-- a number by its binary figures -/
def binS (n : Nat) : Str := ⟨((Nat.toDigits 2 n).map Char.toNat).toArray⟩
def spB : Str := ⟨#[98]⟩
theorem parse_b : parseFormatSpec spB.cps.toList "int" 62 = .ok { align := 62, type := some 98 } := by kernel_rfl
theorem ret_text2 {M : Model} {A : Around} {E : Value → Shared → Prop} {s : Shared} {X T : PySem.Str} {Q : PySem.Fin → Shared → Prop} (hL : T.length ≤ sizeLine) (h : ∀ t k, Q (.done (.ret (.str T t))) { s with toks := k }) (e : X = T) : wpAny M A (retStr X) Q E s := KXf.ret_text e (by rw [e]; exact hL) h
theorem pad0 (k : Nat) : ((-1 : Int) - (((0 : Nat) : Int) + ((0 : Nat) : Int) + ((0 : Nat) : Int)) - (k : Int)).toNat = 0 := by omega
theorem fmtB (n : Nat) (t : Tok) (hz : (binS n).length ≤ sizeLine) : ∀ u, Meets («int.__format__» ⟨[.int (n : Int) t, .str spB u], []⟩) (fun _ R s => ∀ t' k, R (.ok (.ret (.str (binS n) t'))) { s with toks := k }) := by
  intro _
  apply KPc.meets_of
  intro _ _ _ _ _ _ _
  unfold Builtin.«int.__format__»
  refine wpAny_bind (wpAny_of_eq (a := (_, _)) rfl ?_)
  refine wpAny_bind (wpAny_of_eq (a := _) rfl ?_)
  refine wpAny_ite (KPc.ite_no (fun z => Bool.noConfusion z) ?_)
  refine wpAny_bind (wpAny_typeNameOf (T := "str") (typeIs_str _ _ _) (by decide) fun _ => ?_)
  refine wpAny_bind (wpAny_of_eq (a := some _) rfl ?_)
  refine wpAny_ite (KPc.ite_no (by decide +kernel) ?_)
  refine wpAny_ite (KPc.ite_no (by decide +kernel) ?_)
  refine wpAny_bind (wpAny_typeNameOfCut_int ?_)
  rw [parse_b]
  refine wpAny_ite (KPc.ite_yes (by decide +kernel) ?_)
  refine ret_text2 (T := binS n) hz (by assumption) ?_
  rw [show decide ((n : Int) < 0) = false from decide_eq_false (by omega)]
  obtain ⟨d, ds, e⟩ : ∃ d ds, Nat.toDigits 2 n = d :: ds := by
    cases e : Nat.toDigits 2 n with
    | nil => exact absurd e (Nat.toDigits_ne_nil)
    | cons d ds => exact ⟨d, ds, rfl⟩
  unfold binS
  rw [show ((n : Int)).natAbs = n from rfl, e]
  show (⟨(List.replicate (((-1 : Int) - (((0 : Nat) : Int) + ((0 : Nat) : Int) + ((0 : Nat) : Int)) - ((List.replicate ((0 : Int).toNat - (d.toNat :: ds.map Char.toNat).length) 48 ++ (d.toNat :: ds.map Char.toNat)).length : Nat)).toNat) 32 ++ [] ++ [] ++ [] ++ (List.replicate ((0 : Int).toNat - (d.toNat :: ds.map Char.toNat).length) 48 ++ (d.toNat :: ds.map Char.toNat)) ++ [] ++ []).toArray⟩ : Str) = ⟨(d.toNat :: ds.map Char.toNat).toArray⟩
  rw [show (0 : Int).toNat - (d.toNat :: ds.map Char.toNat).length = 0 by simp, pad0]
  simp
end DX

set_option Elab.async false
set_option linter.all false
set_option maxRecDepth 100000
set_option maxHeartbeats 4000000
namespace DX
open PySem PySem.Spec PyProof.Rows L2
/-- {n:b} -/
def tFmtB (te : TE) : TE := fun σ H Q => te σ H fun x H1 => ∃ n : Nat, x = .int (n : Int) ∧ (binS n).length ≤ sizeLine ∧ Q (.str (binS n)) H1
section
variable {X : Cx} {e : Expr} {te : TE} {p1 p2 pos : Pos} {k : Nat}
theorem pe_fmtB (he : PE X e te) : PE X (.FormattedValue e (-1) (some (.JoinedStr [.Constant (.str ⟨#[98]⟩) k p1] p2)) pos) (tFmtB te) := by
  refine ⟨fun pins s σ H Q I h => ?_⟩
  refine wpAny_FormattedValue_spec (thn (he.run pins s σ H _ I h) fun v s1 hv => ?_)
  obtain ⟨x, H1, I1, r1, n, rfl, hz, q⟩ := hv
  obtain ⟨t, rfl⟩ := r1
  refine thn ((pe_joined1 (pe_str (X := X) (x := spB) (j := k) (pos := p1)) (pos := p2)).run pins s1 σ H1 (fun v H2 => v = .str spB ∧ H2 = H1) I1 ⟨rfl, rfl⟩) fun w s2 hw => ?_
  obtain ⟨y, H2, I2, r2, rfl, rfl⟩ := hw
  obtain ⟨u, rfl⟩ := r2
  refine ⟨spB, u, rfl, ?_⟩
  refine PySem.W.KXf.field_int (spec' := spB) rfl (by decide) (by decide +kernel) (fmtB n t hz) fun t' kk => ?_
  exact ⟨.str (binS n), H2, I2.tok _, ⟨_, rfl⟩, q⟩
end
/-! ### the binary figures -/
/-- reading them -/
def binF (a : Nat) : List Nat → Nat
  | [] => a
  | c :: l => binF (2 * a + (if c = 49 then 1 else 0)) l
theorem binF_snoc (a : Nat) (c : Nat) : ∀ l : List Nat, binF a (l ++ [c]) = 2 * binF a l + (if c = 49 then 1 else 0) := fun l => by
  induction l generalizing a with
  | nil => rfl
  | cons x l ih => exact ih _
theorem digit_cases (n : Nat) : (Nat.digitChar (n % 2)).toNat = if n % 2 = 1 then 49 else 48 := by
  rcases Nat.mod_two_eq_zero_or_one n with h | h <;> rw [h] <;> decide
theorem bin_read : ∀ n : Nat, binF 0 ((Nat.toDigits 2 n).map Char.toNat) = n ∧ ∀ c ∈ (Nat.toDigits 2 n).map Char.toNat, c = 48 ∨ c = 49 := fun n => by
  induction n using Nat.strongRecOn with
  | _ n ih =>
    by_cases h : n < 2
    · have : n = 0 ∨ n = 1 := by omega
      rcases this with rfl | rfl <;> decide
    · have e : Nat.toDigits 2 n = Nat.toDigits 2 (n / 2) ++ [Nat.digitChar (n % 2)] := Nat.toDigits_of_base_le (by decide) (by omega)
      obtain ⟨h1, h2⟩ := ih (n / 2) (by omega)
      rw [e, List.map_append, List.map_cons, List.map_nil, binF_snoc, h1, digit_cases]
      refine ⟨?_, fun c hc => ?_⟩
      · rcases Nat.mod_two_eq_zero_or_one n with z | z <;> rw [z] <;> simp <;> omega
      · rcases List.mem_append.mp hc with g | g
        · exact h2 c g
        · rw [List.mem_singleton.mp g]
          rcases Nat.mod_two_eq_zero_or_one n with z | z <;> rw [z] <;> simp
/-- the power so far -/
def rzF (b : Int) (a : Int) : List Nat → Int
  | [] => a
  | c :: l => rzF b (if c = 49 then a * a * b else a * a) l
theorem rz_pow (b : Int) : ∀ (l : List Nat) (k : Nat), rzF b (b ^ k) l = b ^ binF k l
  | [], k => rfl
  | c :: l, k => by
    show rzF b (if c = 49 then b ^ k * b ^ k * b else b ^ k * b ^ k) l = b ^ binF (2 * k + if c = 49 then 1 else 0) l
    rw [← rz_pow b l]
    congr 1
    split
    · rw [← Int.pow_add, ← Int.pow_succ]; congr 1; omega
    · rw [← Int.pow_add]; congr 1; omega
theorem binF_le : ∀ (l : List Nat) (a : Nat), a ≤ binF a l
  | [], a => Nat.le_refl a
  | c :: l, a => by
    have := binF_le l (2 * a + if c = 49 then 1 else 0)
    show a ≤ binF (2 * a + if c = 49 then 1 else 0) l
    omega
theorem binF_take (l : List Nat) (i : Nat) (a : Nat) : binF a (l.take i) ≤ binF a l := by
  have key : ∀ (l m : List Nat) (a : Nat), binF a l ≤ binF a (l ++ m) := by
    intro l
    induction l with
    | nil => exact fun m a => binF_le m a
    | cons c l ih => exact fun m a => ih m _
  have := key (l.take i) (l.drop i) a
  rwa [List.take_append_drop] at this
theorem bin_len (n : Nat) : (binS n).length ≤ n + 1 := by
  unfold binS
  show ((Nat.toDigits 2 n).map Char.toNat).toArray.size ≤ n + 1
  rw [List.size_toArray, List.length_map]
  induction n using Nat.strongRecOn with
  | _ n ih =>
    by_cases h : n < 2
    · have : n = 0 ∨ n = 1 := by omega
      rcases this with rfl | rfl <;> decide
    · have e : Nat.toDigits 2 n = Nat.toDigits 2 (n / 2) ++ [Nat.digitChar (n % 2)] := Nat.toDigits_of_base_le (by decide) (by omega)
      have := ih (n / 2) (by omega)
      rw [e, List.length_append, List.length_singleton]
      omega
end DX

set_option Elab.async false
set_option linter.all false
set_option maxRecDepth 100000
set_option maxHeartbeats 4000000
namespace K25
open PySem PySem.Spec PyProof.Rows L2
def top (i : Nat) : Stmt := PySem.Challenge.pw_boxedroots_k25_whole_bounds_that_hold.main.body.getD i (.Pass ⟨0, 0, 0, 0⟩)
abbrev s_BadPoly_init : Stmt := inClass (top 3) 0
abbrev s_is_integer : Stmt := top 9
abbrev s_is_number_to : Stmt := top 10
abbrev s_is_bound : Stmt := top 11
abbrev s_is_unknown : Stmt := top 12
abbrev s_is_fraction : Stmt := top 13
abbrev s_greatest_powers : Stmt := top 15
abbrev s_Poly_init : Stmt := inClass (top 19) 0
abbrev s_Poly_eq : Stmt := inClass (top 19) 1
abbrev s_is_term : Stmt := top 20
abbrev s_is_powers : Stmt := top 21
abbrev s_poly_with : Stmt := top 22
abbrev s_gathered : Stmt := top 23
abbrev s_with_power : Stmt := top 24
abbrev s_number_raised : Stmt := top 25
abbrev s_top : Stmt := top 26
abbrev s_degree : Stmt := top 27
abbrev s_rows_of : Stmt := top 29
abbrev s_is_less : Stmt := top 32
abbrev s_is_stretch : Stmt := top 33
abbrev s_is_box : Stmt := top 34
abbrev s_spread : Stmt := top 36
abbrev s_shared_bottom : Stmt := top 37
abbrev s_spread_by : Stmt := top 38
abbrev s_times_line : Stmt := top 39
abbrev s_turned : Stmt := top 40
abbrev s_sign_in : Stmt := top 41
abbrev s_holds_in : Stmt := top 43
abbrev s_bounds : Stmt := top 44
abbrev s_moved : Stmt := top 45
abbrev s_keeps_sign : Stmt := top 46
abbrev s_law_hand : Stmt := top 48
abbrev s_law_draw : Stmt := top 49
abbrev s_law_any : Stmt := top 50
abbrev s_law_low : Stmt := top 51
abbrev s_law_power : Stmt := top 52
abbrev s_law_binomial : Stmt := top 53
abbrev s_law_poly : Stmt := top 54
abbrev s_law_parts : Stmt := top 55
abbrev s_law_degrees : Stmt := top 56
abbrev s_law_stretch : Stmt := top 57
abbrev s_law_box : Stmt := top 58
abbrev s_law_polar : Stmt := top 59
abbrev s_law_indexes : Stmt := top 60
abbrev s_law_counts : Stmt := top 61
abbrev s_law_sign : Stmt := top 62
abbrev s_law_worth : Stmt := top 63
abbrev s_law_place : Stmt := top 64
abbrev s_law_put_in : Stmt := top 65
abbrev s_law_is_nought : Stmt := top 66
abbrev s_law_holds : Stmt := top 67
abbrev s_law_lines : Stmt := top 68
abbrev s_law : Stmt := top 69
def d_BadPoly_init : He.DefD := ⟨("BadPoly", some "__init__"), "__init__", "BadPoly.__init__", defArgs s_BadPoly_init, defBody s_BadPoly_init, defScope s_BadPoly_init, [], []⟩
def d_is_integer : He.DefD := ⟨("is_integer", none), "is_integer", "is_integer", defArgs s_is_integer, defBody s_is_integer, defScope s_is_integer, [], []⟩
def d_is_number_to : He.DefD := ⟨("is_number_to", none), "is_number_to", "is_number_to", defArgs s_is_number_to, defBody s_is_number_to, defScope s_is_number_to, [], []⟩
def d_is_bound : He.DefD := ⟨("is_bound", none), "is_bound", "is_bound", defArgs s_is_bound, defBody s_is_bound, defScope s_is_bound, [], []⟩
def d_is_unknown : He.DefD := ⟨("is_unknown", none), "is_unknown", "is_unknown", defArgs s_is_unknown, defBody s_is_unknown, defScope s_is_unknown, [], []⟩
def d_is_fraction : He.DefD := ⟨("is_fraction", none), "is_fraction", "is_fraction", defArgs s_is_fraction, defBody s_is_fraction, defScope s_is_fraction, [], []⟩
def d_greatest_powers : He.DefD := ⟨("greatest_powers", none), "greatest_powers", "greatest_powers", defArgs s_greatest_powers, defBody s_greatest_powers, defScope s_greatest_powers, [], []⟩
def d_Poly_init : He.DefD := ⟨("Poly", some "__init__"), "__init__", "Poly.__init__", defArgs s_Poly_init, defBody s_Poly_init, defScope s_Poly_init, [], []⟩
def d_Poly_eq : He.DefD := ⟨("Poly", some "__eq__"), "__eq__", "Poly.__eq__", defArgs s_Poly_eq, defBody s_Poly_eq, defScope s_Poly_eq, [], []⟩
def d_is_term : He.DefD := ⟨("is_term", none), "is_term", "is_term", defArgs s_is_term, defBody s_is_term, defScope s_is_term, [], []⟩
def d_is_powers : He.DefD := ⟨("is_powers", none), "is_powers", "is_powers", defArgs s_is_powers, defBody s_is_powers, defScope s_is_powers, [], []⟩
def d_poly_with : He.DefD := ⟨("poly_with", none), "poly_with", "poly_with", defArgs s_poly_with, defBody s_poly_with, defScope s_poly_with, [], []⟩
def d_gathered : He.DefD := ⟨("gathered", none), "gathered", "gathered", defArgs s_gathered, defBody s_gathered, defScope s_gathered, [], []⟩
def d_with_power : He.DefD := ⟨("with_power", none), "with_power", "with_power", defArgs s_with_power, defBody s_with_power, defScope s_with_power, [], []⟩
def d_number_raised : He.DefD := ⟨("number_raised", none), "number_raised", "number_raised", defArgs s_number_raised, defBody s_number_raised, defScope s_number_raised, [], []⟩
def d_top : He.DefD := ⟨("top", none), "top", "top", defArgs s_top, defBody s_top, defScope s_top, [], []⟩
def d_degree : He.DefD := ⟨("degree", none), "degree", "degree", defArgs s_degree, defBody s_degree, defScope s_degree, [], []⟩
def d_rows_of : He.DefD := ⟨("rows_of", none), "rows_of", "rows_of", defArgs s_rows_of, defBody s_rows_of, defScope s_rows_of, [], []⟩
def d_is_less : He.DefD := ⟨("is_less", none), "is_less", "is_less", defArgs s_is_less, defBody s_is_less, defScope s_is_less, [], []⟩
def d_is_stretch : He.DefD := ⟨("is_stretch", none), "is_stretch", "is_stretch", defArgs s_is_stretch, defBody s_is_stretch, defScope s_is_stretch, [], []⟩
def d_is_box : He.DefD := ⟨("is_box", none), "is_box", "is_box", defArgs s_is_box, defBody s_is_box, defScope s_is_box, [], []⟩
def d_spread : He.DefD := ⟨("spread", none), "spread", "spread", defArgs s_spread, defBody s_spread, defScope s_spread, [], []⟩
def d_shared_bottom : He.DefD := ⟨("shared_bottom", none), "shared_bottom", "shared_bottom", defArgs s_shared_bottom, defBody s_shared_bottom, defScope s_shared_bottom, [], []⟩
def d_spread_by : He.DefD := ⟨("spread_by", none), "spread_by", "spread_by", defArgs s_spread_by, defBody s_spread_by, defScope s_spread_by, [], []⟩
def d_times_line : He.DefD := ⟨("times_line", none), "times_line", "times_line", defArgs s_times_line, defBody s_times_line, defScope s_times_line, [], []⟩
def d_turned : He.DefD := ⟨("turned", none), "turned", "turned", defArgs s_turned, defBody s_turned, defScope s_turned, [], []⟩
def d_sign_in : He.DefD := ⟨("sign_in", none), "sign_in", "sign_in", defArgs s_sign_in, defBody s_sign_in, defScope s_sign_in, [], []⟩
def d_holds_in : He.DefD := ⟨("holds_in", none), "holds_in", "holds_in", defArgs s_holds_in, defBody s_holds_in, defScope s_holds_in, [], []⟩
def d_bounds : He.DefD := ⟨("bounds", none), "bounds", "bounds", defArgs s_bounds, defBody s_bounds, defScope s_bounds, [], []⟩
def d_moved : He.DefD := ⟨("moved", none), "moved", "moved", defArgs s_moved, defBody s_moved, defScope s_moved, [], []⟩
def d_keeps_sign : He.DefD := ⟨("keeps_sign", none), "keeps_sign", "keeps_sign", defArgs s_keeps_sign, defBody s_keeps_sign, defScope s_keeps_sign, [], []⟩
def d_law_hand : He.DefD := ⟨("_law_hand", none), "_law_hand", "_law_hand", defArgs s_law_hand, defBody s_law_hand, defScope s_law_hand, [], []⟩
def d_law_draw : He.DefD := ⟨("_law_draw", none), "_law_draw", "_law_draw", defArgs s_law_draw, defBody s_law_draw, defScope s_law_draw, [], []⟩
def d_law_any : He.DefD := ⟨("_law_any", none), "_law_any", "_law_any", defArgs s_law_any, defBody s_law_any, defScope s_law_any, [], []⟩
def d_law_low : He.DefD := ⟨("_law_low", none), "_law_low", "_law_low", defArgs s_law_low, defBody s_law_low, defScope s_law_low, [], []⟩
def d_law_power : He.DefD := ⟨("_law_power", none), "_law_power", "_law_power", defArgs s_law_power, defBody s_law_power, defScope s_law_power, [], []⟩
def d_law_binomial : He.DefD := ⟨("_law_binomial", none), "_law_binomial", "_law_binomial", defArgs s_law_binomial, defBody s_law_binomial, defScope s_law_binomial, [], []⟩
def d_law_poly : He.DefD := ⟨("_law_poly", none), "_law_poly", "_law_poly", defArgs s_law_poly, defBody s_law_poly, defScope s_law_poly, [], []⟩
def d_law_parts : He.DefD := ⟨("_law_parts", none), "_law_parts", "_law_parts", defArgs s_law_parts, defBody s_law_parts, defScope s_law_parts, [], []⟩
def d_law_degrees : He.DefD := ⟨("_law_degrees", none), "_law_degrees", "_law_degrees", defArgs s_law_degrees, defBody s_law_degrees, defScope s_law_degrees, [], []⟩
def d_law_stretch : He.DefD := ⟨("_law_stretch", none), "_law_stretch", "_law_stretch", defArgs s_law_stretch, defBody s_law_stretch, defScope s_law_stretch, [], []⟩
def d_law_box : He.DefD := ⟨("_law_box", none), "_law_box", "_law_box", defArgs s_law_box, defBody s_law_box, defScope s_law_box, [], []⟩
def d_law_polar : He.DefD := ⟨("_law_polar", none), "_law_polar", "_law_polar", defArgs s_law_polar, defBody s_law_polar, defScope s_law_polar, [], []⟩
def d_law_indexes : He.DefD := ⟨("_law_indexes", none), "_law_indexes", "_law_indexes", defArgs s_law_indexes, defBody s_law_indexes, defScope s_law_indexes, [], []⟩
def d_law_counts : He.DefD := ⟨("_law_counts", none), "_law_counts", "_law_counts", defArgs s_law_counts, defBody s_law_counts, defScope s_law_counts, [], []⟩
def d_law_sign : He.DefD := ⟨("_law_sign", none), "_law_sign", "_law_sign", defArgs s_law_sign, defBody s_law_sign, defScope s_law_sign, [], []⟩
def d_law_worth : He.DefD := ⟨("_law_worth", none), "_law_worth", "_law_worth", defArgs s_law_worth, defBody s_law_worth, defScope s_law_worth, [], []⟩
def d_law_place : He.DefD := ⟨("_law_place", none), "_law_place", "_law_place", defArgs s_law_place, defBody s_law_place, defScope s_law_place, [], []⟩
def d_law_put_in : He.DefD := ⟨("_law_put_in", none), "_law_put_in", "_law_put_in", defArgs s_law_put_in, defBody s_law_put_in, defScope s_law_put_in, [], []⟩
def d_law_is_nought : He.DefD := ⟨("_law_is_nought", none), "_law_is_nought", "_law_is_nought", defArgs s_law_is_nought, defBody s_law_is_nought, defScope s_law_is_nought, [], []⟩
def d_law_holds : He.DefD := ⟨("_law_holds", none), "_law_holds", "_law_holds", defArgs s_law_holds, defBody s_law_holds, defScope s_law_holds, [], []⟩
def d_law_lines : He.DefD := ⟨("_law_lines", none), "_law_lines", "_law_lines", defArgs s_law_lines, defBody s_law_lines, defScope s_law_lines, [], []⟩
def d_law : He.DefD := ⟨("law", none), "law", "law", defArgs s_law, defBody s_law, defScope s_law, [], []⟩
abbrev FnP (K : PySem.W.Frag) (x qual : Str) (st : Stmt) (f : Addr) (fd : FuncData) : Prop := FunD K x qual (defArgs st) (defBody st) (defScope st) [] [] f fd
end K25

set_option Elab.async false
set_option linter.all false
set_option maxRecDepth 100000
set_option maxHeartbeats 0
namespace K25
open PySem PySem.Spec PyProof.Rows L2 XV DX XF He HandSHeadRun
/-! ### the head -/
def names0 : List PySem.Str := ["RootError", "BadPoly", "NoInteger", "NoUnknown", "NoBox", "UNKNOWNS", "is_integer", "is_number_to", "is_bound", "is_unknown", "is_fraction", "greatest_powers", "MOST_TERMS", "MOST_POWER"]
def names1 : List PySem.Str := ["Poly", "is_term", "is_powers", "poly_with", "gathered", "with_power", "number_raised", "top", "degree", "rows_of", "MOST_STRETCHES", "is_less", "is_stretch", "is_box"]
def names2 : List PySem.Str := ["spread", "shared_bottom", "spread_by", "times_line", "turned", "sign_in", "holds_in", "bounds", "moved", "keeps_sign", "_law_hand", "_law_draw", "_law_any", "_law_low"]
def names3 : List PySem.Str := ["_law_power", "_law_binomial", "_law_poly", "_law_parts", "_law_degrees", "_law_stretch", "_law_box", "_law_polar", "_law_indexes", "_law_counts", "_law_sign", "_law_worth", "_law_place", "_law_put_in"]
def names4 : List PySem.Str := ["_law_is_nought", "_law_holds", "_law_lines"]
def names : List PySem.Str := names0 ++ (names1 ++ (names2 ++ (names3 ++ (names4))))
def fa0 : List He.Fa := [.glo "is_integer", .glo "is_number_to", .glo "is_bound", .glo "is_unknown", .glo "is_fraction", .glo "greatest_powers", .glo "is_term", .glo "is_powers", .glo "poly_with", .glo "gathered", .glo "with_power", .glo "number_raised", .glo "top", .glo "degree"]
def fa1 : List He.Fa := [.glo "rows_of", .glo "is_less", .glo "is_stretch", .glo "is_box", .glo "spread", .glo "shared_bottom", .glo "spread_by", .glo "times_line", .glo "turned", .glo "sign_in", .glo "holds_in", .glo "bounds", .glo "moved", .glo "keeps_sign"]
def fa2 : List He.Fa := [.glo "_law_hand", .glo "_law_draw", .glo "_law_any", .glo "_law_low", .glo "_law_power", .glo "_law_binomial", .glo "_law_poly", .glo "_law_parts", .glo "_law_degrees", .glo "_law_stretch", .glo "_law_box", .glo "_law_polar", .glo "_law_indexes", .glo "_law_counts"]
def fa3 : List He.Fa := [.glo "_law_sign", .glo "_law_worth", .glo "_law_place", .glo "_law_put_in", .glo "_law_is_nought", .glo "_law_holds", .glo "_law_lines", .glo "law", .glo "Poly", .free "len", .free "int", .free "abs", .free "range", .free "isinstance"]
def fa4 : List He.Fa := [.free "bool", .free "tuple", .free "enumerate", .free "ValueError", .free "list", .free "sorted", .free "max", .free "min", .free "sum", .free "zip", .free "all", .free "str", .cls "Poly", .mkr "Poly"]
def fa5 : List He.Fa := [.meth "Poly" "__eq__", .noat "Poly" "terms", .int "UNKNOWNS" 4, .int "MOST_POWER" 60, .int "MOST_TERMS" 300, .int "MOST_STRETCHES" 3]
def fa : List He.Fa := fa0 ++ (fa1 ++ (fa2 ++ (fa3 ++ (fa4 ++ (fa5)))))
def fnH0 : List He.DefD := [d_is_integer, d_is_number_to, d_is_bound, d_is_unknown, d_is_fraction, d_greatest_powers, d_Poly_init, d_is_term, d_is_powers, d_poly_with, d_gathered, d_with_power, d_number_raised, d_top]
def fnH1 : List He.DefD := [d_degree, d_rows_of, d_is_less, d_is_stretch, d_is_box, d_spread, d_shared_bottom, d_spread_by, d_times_line, d_turned, d_sign_in, d_holds_in, d_bounds, d_moved]
def fnH2 : List He.DefD := [d_keeps_sign, d_law_hand, d_law_draw, d_law_any, d_law_low, d_law_power, d_law_binomial, d_law_poly, d_law_parts, d_law_degrees, d_law_stretch, d_law_box, d_law_polar, d_law_indexes]
def fnH3 : List He.DefD := [d_law_counts, d_law_sign, d_law_worth, d_law_place, d_law_put_in, d_law_is_nought, d_law_holds, d_law_lines, d_law]
def fnH : List He.DefD := fnH0 ++ (fnH1 ++ (fnH2 ++ (fnH3)))
def kitB2 (K : PySem.W.Frag) (x : Str) (c : Value) (b : Bool) : Bool := decide (PySem.W.kitOne K (.ref (ga K x)) c = some b)
/-- what is asked of an own class -/
def ownB (K : PySem.W.Frag) (x : Str) : Bool := eqO (PySem.W.findIn K (.ref (ga K x)) "__class__") (some (some (.builtin "object.__class__"))) && (decide (PySem.W.mroIn K (ga K x) (.type "object") = some true) && ((sixT.all fun T => kitB2 K x (.type T) false) && (isB K x x true && (("NoneType" :: sixT).all fun T => decide (PySem.W.kitOne K (.type T) (.ref (ga K x)) = some false)))))
/-- all else that is asked of the written part -/
def ex (K : PySem.W.Frag) : Bool := eqO (PySem.W.nsIn K mainGlobals "comb") (some (some (.builtin "math.comb"))) && (eqO (PySem.W.nsIn K mainGlobals "gcd") (some (some (.builtin "math.gcd"))) && (eqO (PySem.W.nsIn K mainGlobals "lcm") (some (some (.builtin "math.lcm"))) && ((eqO (PySem.W.specialIn K (.builtin "object.__class__") "__get__") (some (some (.builtin "getset_descriptor.__get__"))) && (decide (PySem.W.takesIn K (.builtin "object.__class__") = some true) && ownB K "Poly")))))
abbrev R : PySem.W.OpenRow := PySem.W.OpenLaw.row PySem.Challenge.rw_boxedroots_k25_whole_bounds_that_hold
def hookZ (n : Nat) (fa : List Fa) (fn : List DefD) (ex : PySem.W.Frag → Bool) : PySem.W.Hook where
  α := AlD × Bool
  obs := fun s => (obsDG n fa fn s.heap.get?, ex (frG s.heap.get? (asD s.heap.get? n)))
  val := fun _ => (valD fn, true)
  says := fun _ h => ∃ K : PySem.W.Frag, K.In h ∧ SaysD fa fn K ∧ ex K = true
  of := fun _ _ e => ⟨_, frG_in, congrArg Prod.fst e, congrArg Prod.snd e⟩
  keeps := fun _ _ _ ⟨K, hK, c, c2⟩ k => ⟨K, PySem.W.Frag.In.keeps hK k, c, c2⟩
abbrev hz : PySem.W.Hook := hookZ 5 fa fnH ex
def ob (s : PySem.W.SharedT) : AlD × Bool := (obsDG 5 fa fnH (HandSHeadRun.getT s), ex (frG (HandSHeadRun.getT s) (asD (HandSHeadRun.getT s) 5)))
theorem ob_eq (s : PySem.W.SharedT) : ob s = hz.obs s.abs := by
  have e : HandSHeadRun.getT s = s.abs.heap.get? := funext (HandSHeadRun.getT_eq s)
  show (obsDG 5 fa fnH (HandSHeadRun.getT s), ex (frG (HandSHeadRun.getT s) (asD (HandSHeadRun.getT s) 5))) = (obsDG 5 fa fnH s.abs.heap.get?, ex (frG s.abs.heap.get? (asD s.abs.heap.get? 5)))
  rw [e]
section
open PySem.W
/-- the top's run, bound 60000 -/
noncomputable abbrev hdR (w : World) : Option (Shared × SharedT) := wholeF (fun p => stepQ (denQ tabQ) p w) fenceQ 60000 R.prog
noncomputable abbrev hdV : Program := PySem.W.view R.prog [0, 69]
theorem run1 (w : World) : (hdR w).map (fun x => (looksF R.prog x.1.heap x.2.abs, seenQ hdV names (importedModules R.prog.main.body) (fun s => xlAt hdV [] s && recOk R.toRowW.records s) x.2.abs)) = some (true, openGood hdV names) := by kernel_rfl
theorem run2 (w : World) : (hdR w).map (fun x => obsDG 5 fa [] (HandSHeadRun.getT x.2)) = some (valD []) := by kernel_rfl
theorem run3 (w : World) : (hdR w).map (fun x => obsDG 5 [] fnH (HandSHeadRun.getT x.2)) = some (valD fnH) := by kernel_rfl
theorem run4 (w : World) : (hdR w).map (fun x => ex (frG (HandSHeadRun.getT x.2) (asD (HandSHeadRun.getT x.2) 5))) = some true := by kernel_rfl
theorem obsD_cat {fa : List Fa} {fn : List DefD} {K : PySem.W.Frag} (h1 : obsD fa [] K = valD []) (h2 : obsD [] fn K = valD fn) : obsD fa fn K = valD fn := by
  have a1 : ((fa.all fun f => f.ok K) && ([] : List DefD).all fun d => d.ok K) = true := congrArg Prod.fst h1
  have b1 : ((([] : List Fa).all fun f => f.ok K) && fn.all fun d => d.ok K) = true := congrArg Prod.fst h2
  have b2 : fn.map (fun d => fnW K d.at_) = fn.map DefD.val := congrArg Prod.snd h2
  obtain ⟨a, _⟩ := ba a1
  obtain ⟨_, b⟩ := ba b1
  show (((fa.all fun f => f.ok K) && fn.all fun d => d.ok K), fn.map fun d => fnW K d.at_) = (true, fn.map DefD.val)
  rw [a, b, b2]; rfl
theorem run_cat {α β γ δ : Type} {o : Option α} {A : α → β} {C1 C2 : α → γ} {C : α → γ} {X : α → Bool} {b : β} {c1 c2 c : γ} (h1 : o.map A = some b) (h2 : o.map C1 = some c1) (h3 : o.map C2 = some c2) (h4 : o.map X = some true) (f : β × γ × Bool → δ) (hc : ∀ x, C1 x = c1 → C2 x = c2 → C x = c) :
    o.map (fun x => f (A x, C x, X x)) = some (f (b, c, true)) := by
  cases o with
  | none => cases h1
  | some x =>
    have e1 := Option.some.inj h1
    have e4 := Option.some.inj h4
    have e := hc x (Option.some.inj h2) (Option.some.inj h3)
    show some (f (A x, C x, X x)) = _
    rw [e1, e, e4]
theorem run (w : World) : HandSHeadRun.RunEqI R hdV hz ob 60000 names w := by
  unfold HandSHeadRun.RunEqI
  exact run_cat (run1 w) (run2 w) (run3 w) (run4 w) (fun z => (z.1.1, z.1.2, z.2)) fun x e1 e2 => obsD_cat e1 e2
end
end K25

set_option Elab.async false
set_option linter.all false
set_option maxRecDepth 100000
set_option maxHeartbeats 4000000
namespace K25
open PySem PySem.Spec PyProof.Rows L2 XV DX
/-- the drawing hand's pairs -/
def hk (c : Addr) (a g s t : Int) : List (Key × V) := [(.inr "cells", .ref c), (.inr "at", .int a), (.inr "left", .int g), (.inr "seed", .int s), (.inr "turn", .int t)]
section
variable {c : Addr} {a g s t z : Int}
theorem hk_cells : valV (hk c a g s t) (.inr "cells") = some (.ref c) := by rfl
theorem hk_at : valV (hk c a g s t) (.inr "at") = some (.int a) := by rfl
theorem hk_left : valV (hk c a g s t) (.inr "left") = some (.int g) := by rfl
theorem hk_seed : valV (hk c a g s t) (.inr "seed") = some (.int s) := by rfl
theorem hk_turn : valV (hk c a g s t) (.inr "turn") = some (.int t) := by rfl
theorem hp_at : putK (hk c a g s t) (.inr "at") (.int z) = hk c z g s t := by rfl
theorem hp_left : putK (hk c a g s t) (.inr "left") (.int z) = hk c a z s t := by rfl
theorem hp_seed : putK (hk c a g s t) (.inr "seed") (.int z) = hk c a g z t := by rfl
theorem hp_turn : putK (hk c a g s t) (.inr "turn") (.int z) = hk c a g s z := by rfl
theorem hk_len : (hk c a g s t).length < sizeLine := by show 5 < sizeLine; decide
end
/-- the drawing hand at d -/
structure Hand (K : PySem.W.Frag) (H : Hp) (d c : Addr) : Prop where
  ex : ∃ (cs : List Int) (at_ gr sd tn : Int), H d = some (.dK (hk c at_ gr sd tn)) ∧ SqL K H c (cs.map V.int) ∧ c ≠ d ∧ 0 ≤ at_
/-- all but d stands -/
def But (d : Addr) (H H' : Hp) : Prop := ∀ b o, b ≠ d → H b = some o → H' b = some o
theorem But.refl (d : Addr) (H : Hp) : But d H H := fun _ _ _ h => h
theorem But.trans {d : Addr} {H H1 H2 : Hp} (a : But d H H1) (b : But d H1 H2) : But d H H2 := fun x o n h => b x o n (a x o n h)
def spDraw (K : PySem.W.Frag) : Sp := fun vs H Q _ => ∃ (d c : Addr) (m : Int), vs = [.ref d, .int m] ∧ 0 < m ∧ m.natAbs < 2 ^ 100 ∧ Hand K H d c ∧
  ∀ (r : Int) (H' : Hp), 0 ≤ r → r < m → Hand K H' d c → But d H H' → (∀ b, H b = none → H' b = none) → Q (.int r) H'
structure Txt0 (mg : Str → Option Value) : Prop where
  len : mg "len" = none
  int : mg "int" = none
  abs : mg "abs" = none
  range : mg "range" = none
  isi : mg "isinstance" = none
  bool : mg "bool" = none
  tuple : mg "tuple" = none
  enum : mg "enumerate" = none
  verr : mg "ValueError" = none
  list : mg "list" = none
  sorted : mg "sorted" = none
  max : mg "max" = none
  min : mg "min" = none
  sum : mg "sum" = none
  zip : mg "zip" = none
  all : mg "all" = none
  str : mg "str" = none
  gcd : mg "gcd" = some (.builtin "math.gcd")
  lcm : mg "lcm" = some (.builtin "math.lcm")
theorem draw_end {K : PySem.W.Frag} {H : Hp} {d c : Addr} {cs : List Int} {o : HO} {a g s t : Int} (hd : H d = some o) (hc : SqL K H c (cs.map V.int)) (cd : c ≠ d) (a0 : 0 ≤ a) :
    Hand K (upd H d (.dK (hk c a g s t))) d c ∧ But d H (upd H d (.dK (hk c a g s t))) ∧ ∀ b, H b = none → upd H d (.dK (hk c a g s t)) b = none := by
  refine ⟨⟨cs, a, g, s, t, upd_same, ?_, cd, a0⟩, fun b o n e => ?_, fun b n => ?_⟩
  · rcases hc with h | h
    · refine .inl ?_
      rcases h with h | ⟨o, h⟩
      · exact .inl (by rw [upd_ne cd]; exact h)
      · exact .inr ⟨o, by rw [upd_ne cd]; exact h⟩
    · exact .inr h
  · rw [upd_ne n]; exact e
  · rw [upd_ne (fun z => by rw [z, hd] at n; cases n)]; exact n
theorem draw_q {K : PySem.W.Frag} {H : Hp} {d c : Addr} {cs : List Int} {o : HO} {a g s t m r : Int} {Q : VK} (k : ∀ (r : Int) (H' : Hp), 0 ≤ r → r < m → Hand K H' d c → But d H H' → (∀ b, H b = none → H' b = none) → Q (.int r) H') (hd : H d = some o) (hc : SqL K H c (cs.map V.int)) (cd : c ≠ d)
    (a0 : 0 ≤ a) (r0 : 0 ≤ r) (r1 : r < m) : Q (.int r) (upd H d (.dK (hk c a g s t))) := by
  obtain ⟨x1, x2, x3⟩ := draw_end (a := a) (g := g) (s := s) (t := t) hd hc cd a0
  exact k _ _ r0 r1 x1 x2 x3
/-! ### heaps -/
theorem same_new {H : Hp} {p : Addr} {o : HO} (h : H p = none) : Same H (upd H p o) := fun b u e => by
  rw [upd_ne (ne_of_none e h)]; exact e
theorem Same.but {d : Addr} {H H' : Hp} (s : Same H H') : But d H H' := fun b o _ e => s b o e
theorem Hand.same {K : PySem.W.Frag} {H H' : Hp} {d c : Addr} (h : Hand K H d c) (s : Same H H') : Hand K H' d c := by
  obtain ⟨cs, a, g, sd, tn, hd, hc, cd, a0⟩ := h
  exact ⟨cs, a, g, sd, tn, s _ _ hd, s.seq hc, cd, a0⟩
theorem Hand.dk {K : PySem.W.Frag} {H : Hp} {d c : Addr} (h : Hand K H d c) : ∃ kvs, H d = some (.dK kvs) := by
  obtain ⟨cs, a, g, sd, tn, hd, _⟩ := h
  exact ⟨_, hd⟩
theorem But.list {K : PySem.W.Frag} {H H' : Hp} {d c p : Addr} {xs : List V} (b : But d H H') (h : Hand K H d c) (l : SqL K H p xs) : SqL K H' p xs := by
  obtain ⟨kvs, hd⟩ := h.dk
  have ne : ∀ o, H p = some o → (∀ ks, o ≠ .dK ks) → p ≠ d := fun o e n z => by
    rw [z, hd] at e
    exact n kvs (Option.some.inj e).symm
  rcases l with (l | ⟨o, l⟩) | l
  · exact .inl (.inl (b _ _ (ne _ l (fun ks z => by cases z)) l))
  · exact .inl (.inr ⟨o, b _ _ (ne _ l (fun ks z => by cases z)) l⟩)
  · exact .inr l
theorem But.obj {K : PySem.W.Frag} {H H' : Hp} {d c p : Addr} {o : HO} (b : But d H H') (h : Hand K H d c) (e : H p = some o) (n : ∀ ks, o ≠ .dK ks) : H' p = some o := by
  obtain ⟨kvs, hd⟩ := h.dk
  exact b _ _ (fun z => by rw [z, hd] at e; exact n kvs (Option.some.inj e).symm) e
/-! ### polynomials: their keys and counts -/
abbrev Pol := List (List Int × Int)
def kvI (m : Pol) : List (List L2.Key × V) := m.map fun p => (DX.ik p.1, .int p.2)
/-- the dict of a polynomial -/
abbrev PolD (H : Hp) (b : Addr) (m : Pol) : Prop := H b = some (.dT (kvI m))
theorem kvI_len (m : Pol) : (kvI m).length = m.length := List.length_map ..
def getP (m : Pol) (k : List Int) : Option Int := (m.find? fun p => decide (p.1 = k)).map (·.2)
def putP (m : Pol) (k : List Int) (v : Int) : Pol := if (m.any fun p => decide (p.1 = k)) = true then m.map (fun p => if p.1 = k then (p.1, v) else p) else m ++ [(k, v)]
theorem ik_eq {k l : List Int} : ik k = ik l ↔ k = l := ⟨ik_inj, fun e => by rw [e]⟩
theorem valV_kvI (k : List Int) : ∀ m : Pol, valV (kvI m) (ik k) = (getP m k).map V.int
  | [] => rfl
  | p :: m => by
    have ih := valV_kvI k m
    by_cases e : p.1 = k
    · rw [show kvI (p :: m) = (ik p.1, .int p.2) :: kvI m from rfl, valV_pos (by rw [e])]
      simp [getP, List.find?_cons, e]
    · rw [show kvI (p :: m) = (ik p.1, .int p.2) :: kvI m from rfl, valV_neg (fun z => e (ik_inj z)), ih]
      simp [getP, List.find?_cons, e]
theorem kvI_put (m : Pol) (k : List Int) (v : Int) : putK (kvI m) (ik k) (.int v) = kvI (putP m k v) := by
  have e : (kvI m).any (fun kv => decide (kv.1 = ik k)) = m.any fun p => decide (p.1 = k) := by
    rw [kvI, List.any_map]
    congr 1
    funext p
    exact decide_eq_decide.mpr ik_eq
  unfold putK putP
  rw [e]
  by_cases z : (m.any fun p => decide (p.1 = k)) = true
  · rw [if_pos z, if_pos z, kvI, kvI, List.map_map, List.map_map]
    refine List.map_congr_left fun p _ => ?_
    show (if ik p.1 = ik k then _ else _) = _
    by_cases g : p.1 = k
    · rw [if_pos (ik_eq.mpr g)]
      show _ = (ik (if p.1 = k then (p.1, v) else p).1, V.int (if p.1 = k then (p.1, v) else p).2)
      rw [if_pos g]
    · rw [if_neg (fun z => g (ik_inj z))]
      show _ = (ik (if p.1 = k then (p.1, v) else p).1, V.int (if p.1 = k then (p.1, v) else p).2)
      rw [if_neg g]
  · rw [if_neg z, if_neg z, kvI, kvI, List.map_append]
    rfl
def keysP (m : Pol) : List (List Int) := m.map (·.1)
theorem keys_put (m : Pol) (k : List Int) (v : Int) : keysP (putP m k v) = if k ∈ keysP m then keysP m else keysP m ++ [k] := by
  have e : (m.any fun p => decide (p.1 = k)) = true ↔ k ∈ keysP m := by
    rw [List.any_eq_true, keysP, List.mem_map]
    exact ⟨fun ⟨p, h1, h2⟩ => ⟨p, h1, of_decide_eq_true h2⟩, fun ⟨p, h1, h2⟩ => ⟨p, h1, decide_eq_true h2⟩⟩
  unfold putP
  by_cases z : (m.any fun p => decide (p.1 = k)) = true
  · rw [if_pos z, if_pos (e.mp z), keysP, List.map_map]
    refine List.map_congr_left fun p _ => ?_
    show (if p.1 = k then (p.1, v) else p).1 = p.1
    split <;> rfl
  · rw [if_neg z, if_neg (fun g => z (e.mpr g)), keysP, List.map_append]
    rfl
theorem nodup_put {m : Pol} {k : List Int} {v : Int} (h : (keysP m).Nodup) : (keysP (putP m k v)).Nodup := by
  rw [keys_put]
  split
  · exact h
  · rename_i z
    exact List.nodup_append.mpr ⟨h, List.nodup_cons.mpr ⟨by simp, List.nodup_nil⟩, fun a ha b hb e => z (by rw [List.mem_singleton.mp hb] at e; rw [← e]; exact ha)⟩
/-- the sum as the law makes it, 0s not yet left out; left out -/
def addP (one other : Pol) (by_ : Int) : Pol := other.foldl (fun acc p => putP acc p.1 ((getP acc p.1).getD 0 + by_ * p.2)) one
def plusP (one other : Pol) (by_ : Int) : Pol := (addP one other by_).filter fun p => !decide (p.2 = 0)
theorem nodup_add {by_ : Int} : ∀ {other one : Pol}, (keysP one).Nodup → (keysP (addP one other by_)).Nodup
  | [], _, h => h
  | p :: r, one, h => nodup_add (other := r) (nodup_put h)
theorem mem_add {by_ : Int} {k : List Int} : ∀ {other one : Pol}, k ∈ keysP (addP one other by_) → k ∈ keysP one ∨ k ∈ keysP other
  | [], _, h => .inl h
  | p :: r, one, h => by
    rcases mem_add (other := r) h with g | g
    · rw [keys_put] at g
      split at g
      · exact .inl g
      · rcases List.mem_append.mp g with g | g
        · exact .inl g
        · rw [List.mem_singleton.mp g]
          exact .inr List.mem_cons_self
    · exact .inr (List.mem_cons_of_mem _ g)
theorem len_put (m : Pol) (k : List Int) (v : Int) : (putP m k v).length ≤ m.length + 1 := by
  unfold putP
  split
  · rw [List.length_map]; omega
  · rw [List.length_append, List.length_singleton]; omega
theorem len_add {by_ : Int} : ∀ (other one : Pol), (addP one other by_).length ≤ one.length + other.length
  | [], _ => Nat.le_refl _
  | p :: r, one => by
    have h1 := len_add (by_ := by_) r (putP one p.1 ((getP one p.1).getD 0 + by_ * p.2))
    have h2 := len_put one p.1 ((getP one p.1).getD 0 + by_ * p.2)
    show (addP (putP one p.1 ((getP one p.1).getD 0 + by_ * p.2)) r by_).length ≤ _
    rw [List.length_cons]; omega
theorem mT_nodup : ∀ {m acc : Pol}, (keysP (acc ++ m)).Nodup → mT (kvI acc) (kvI m) = kvI (acc ++ m)
  | [], acc, _ => by rw [List.append_nil]; rfl
  | p :: m, acc, h => by
    have hn : p.1 ∉ keysP acc := fun z => by
      rw [keysP, List.map_append, List.map_cons] at h
      exact (List.nodup_append.mp h).2.2 _ z p.1 List.mem_cons_self rfl
    have e : putK (kvI acc) (ik p.1) (.int p.2) = kvI (acc ++ [p]) := by
      rw [kvI_put]
      unfold putP
      rw [if_neg]
      intro z
      obtain ⟨q, h1, h2⟩ := List.any_eq_true.mp z
      exact hn (List.mem_map.mpr ⟨q, h1, of_decide_eq_true h2⟩)
    show mT (putK (kvI acc) (ik p.1) (.int p.2)) (kvI m) = _
    rw [e, mT_nodup (by rw [List.append_assoc]; exact h), List.append_assoc]
    rfl
theorem mT_nil {m : Pol} (h : (keysP m).Nodup) : mT [] (kvI m) = kvI m := mT_nodup (acc := []) h
theorem kvI_get {m : Pol} {i : Nat} {k : List L2.Key} {v : V} (h : (kvI m)[i]? = some (k, v)) : ∃ l c, m[i]? = some (l, c) ∧ k = ik l ∧ v = .int c := by
  rw [kvI, List.getElem?_map] at h
  cases e : m[i]? with
  | none => rw [e] at h; cases h
  | some p =>
    rw [e] at h
    cases (Option.some.inj h)
    exact ⟨p.1, p.2, rfl, rfl, rfl⟩
theorem getP_at {m : Pol} (h : (keysP m).Nodup) : ∀ {i : Nat} {l : List Int} {c : Int}, m[i]? = some (l, c) → getP m l = some c := by
  induction m with
  | nil => intro i l c e; cases e
  | cons p m ih =>
    intro i l c e
    rw [keysP, List.map_cons, List.nodup_cons] at h
    cases i with
    | zero =>
      cases (Option.some.inj e)
      simp [getP, List.find?_cons]
    | succ i =>
      have e' : m[i]? = some (l, c) := e
      have hm : l ∈ m.map (·.1) := List.mem_map.mpr ⟨(l, c), List.mem_of_getElem? e', rfl⟩
      have ne : ¬ p.1 = l := fun z => h.1 (by rw [z]; exact hm)
      have := ih h.2 e'
      simp only [getP, List.find?_cons, ne, decide_false] at this ⊢
      exact this
theorem but_at {d D : Addr} {H0 H' : Hp} {o : HO} (b : But d H0 H') (nD : H0 D = none) : But d H0 (upd H' D o) := fun x u nx e => by
  rw [upd_ne (ne_of_none e nD)]
  exact b x u nx e
theorem Hand.at {K : PySem.W.Frag} {d c D : Addr} {H0 H' : Hp} {o : HO} (h0 : Hand K H0 d c) (b : But d H0 H') (h : Hand K H' d c) (nD : H0 D = none) : Hand K (upd H' D o) d c := by
  have ne : d ≠ D := fun z => by
    obtain ⟨_, hd⟩ := h0.dk
    rw [z, nD] at hd
    cases hd
  have b2 := but_at (o := o) b nD
  obtain ⟨cs, _, _, _, _, _, hc, _, _⟩ := id h0
  obtain ⟨_, a, g, sd, tn, hd, _, cd, a0⟩ := h
  exact ⟨cs, a, g, sd, tn, by rw [upd_ne ne]; exact hd, b2.list h0 hc, cd, a0⟩
theorem same_at {H1 H : Hp} {D : Addr} {o : HO} (s : Same H1 H) (nD : H1 D = none) : Same H1 (upd H D o) := fun x u e => by
  rw [upd_ne (ne_of_none e nD)]
  exact s x u e
theorem map_of {α : Type} {f : Nat → α} : ∀ {n : Nat} {ys : List α}, ys.length = n → (∀ j y, ys[j]? = some y → y = f j) → ys = (List.range n).map f
  | n, ys, hl, h => by
    refine List.ext_getElem? fun j => ?_
    rw [List.getElem?_map]
    by_cases hj : j < ys.length
    · rw [List.getElem?_eq_getElem hj, h j _ (List.getElem?_eq_getElem hj), List.getElem?_eq_getElem (by rw [List.length_range]; omega), List.getElem_range]
      rfl
    · rw [List.getElem?_eq_none (by omega), List.getElem?_eq_none (by rw [List.length_range]; omega)]
      rfl
theorem ints_of {P : Nat → Int → Prop} : ∀ {ys : List V}, (∀ (j : Nat) (y : V), ys[j]? = some y → ∃ e : Int, y = V.int e ∧ P j e) → ∃ ks : List Int, ys = ks.map V.int ∧ ∀ (j : Nat) e, ks[j]? = some e → P j e := by
  intro ys
  induction ys generalizing P with
  | nil => exact fun _ => ⟨[], rfl, fun j e h => by simp at h⟩
  | cons y ys ih =>
    intro hh
    obtain ⟨e, rfl, he⟩ := hh 0 y rfl
    obtain ⟨ks, rfl, hk⟩ := ih (P := fun j e => P (j + 1) e) fun j y h => hh (j + 1) y h
    refine ⟨e :: ks, rfl, fun j x hx => ?_⟩
    cases j with
    | zero => cases (show e = x by simpa using hx); exact he
    | succ j => exact hk j x (by simpa using hx)
/-- a def of the text as callers need it -/
def Cal (P : Program) (w : World) (K : PySem.W.Frag) (mg : Str → Option Value) (base : Heap) (x : Str) (k : Nat) (ps : List Str) (sp : Sp) : Prop :=
  ∃ f fd, mg x = some (.ref f) ∧ FnOk P w K mg base CX0 k f fd ps sp ∧ Binds K fd ps [] ∧ PySem.W.keepIn K (.ref f) = true
theorem mem6 {T : String} (h : T ∈ sixT := by decide) : T ∈ sixT := h
/-- is it an integer that is no flag -/
def spIsInt (K : PySem.W.Frag) : Sp := fun vs H Q _ => ∃ v t, vs = [v] ∧ TgV K H v t ∧ Q (.bl (DX.isInt v)) H
/-- a number up to m -/
def inTo (m : Int) : V → Bool
  | .int i => decide (0 ≤ i) && decide (i ≤ m)
  | _ => false
def spNumTo (K : PySem.W.Frag) : Sp := fun vs H Q _ => ∃ (m : Int) (v : V) (t : Tg), vs = [.int m, v] ∧ TgV K H v t ∧ Q (.bl (inTo m v)) H
/-- the terms of a Poly, as they stand -/
def TermsAt (H : Hp) (t : Addr) (ts : Pol) : Prop := ∃ rs : List Addr, H t = some (.tup (rs.map V.ref)) ∧ Paired (fun r (p : List Int × Int) => ∃ q, H r = some (.tup [.ref q, .int p.2]) ∧ KAt H q p.1) rs ts
theorem TermsAt.same {H H' : Hp} {t : Addr} {ts : Pol} (s : Same H H') (h : TermsAt H t ts) : TermsAt H' t ts := by
  obtain ⟨rs, h1, h2⟩ := h
  exact ⟨rs, s _ _ h1, Paired.mapP h2 fun r p ⟨q, e1, e2⟩ => ⟨q, s _ _ e1, s _ _ e2⟩⟩
structure WFt (ts : Pol) : Prop where
  ky : ∀ p ∈ ts, p.1.length = 4 ∧ ∀ e ∈ p.1, 0 ≤ e ∧ e ≤ 60
  nz : ∀ p ∈ ts, p.2 ≠ 0
  few : ts.length ≤ 300
  asc : ts.Pairwise fun p q => TS.code 64 p.1 < TS.code 64 q.1
theorem four {k : List Int} (h : k.length = 4) : ∃ a b c d, k = [a, b, c, d] := by
  match k, h with
  | [a, b, c, d], _ => exact ⟨a, b, c, d, rfl⟩
theorem le_no {k l : List Int} (hk : k.length = 4) (hl : l.length = 4) (bk : ∀ e ∈ k, 0 ≤ e ∧ e ≤ 60) (bl : ∀ e ∈ l, 0 ≤ e ∧ e ≤ 60) (h : TS.code 64 k < TS.code 64 l) :
    Ob.lexAt (fun j => decide (l.getD j 0 = k.getD j 0)) (fun j => decide (l.getD j 0 ≤ k.getD j 0)) (decide (l.length ≤ k.length)) 0 (min l.length k.length) = false := by
  obtain ⟨a, b, c, d, rfl⟩ := four hk
  obtain ⟨a', b', c', d', rfl⟩ := four hl
  have A := bk a (by simp); have B := bk b (by simp); have C := bk c (by simp); have D := bk d (by simp)
  have A' := bl a' (by simp); have B' := bl b' (by simp); have C' := bl c' (by simp); have D' := bl d' (by simp)
  have e : a * 262144 + b * 4096 + c * 64 + d < a' * 262144 + b' * 4096 + c' * 64 + d' := by
    simp [TS.code] at h
    omega
  simp only [List.length_cons, List.length_nil, Nat.zero_add, Nat.reduceAdd, Nat.min_self, Ob.lexAt_succ, Ob.lexAt_zero, List.getD_cons_zero, List.getD_cons_succ, decide_eq_true_eq]
  split
  · split
    · split
      · split
        · omega
        · exact decide_eq_false (by omega)
      · exact decide_eq_false (by omega)
    · exact decide_eq_false (by omega)
  · exact decide_eq_false (by omega)
def spPowers (K : PySem.W.Frag) : Sp := fun vs H Q _ => ∃ (q : Addr) (k : List Int), vs = [.ref q] ∧ KAt H q k ∧ k.length = 4 ∧ (∀ e ∈ k, 0 ≤ e ∧ e ≤ 60) ∧ ∀ H', Same H H' → Q (.bl true) H'
def spTerm (K : PySem.W.Frag) : Sp := fun vs H Q _ => ∃ (r q : Addr) (k : List Int) (c : Int), vs = [.ref r] ∧ H r = some (.tup [.ref q, .int c]) ∧ KAt H q k ∧ k.length = 4 ∧ (∀ e ∈ k, 0 ≤ e ∧ e ≤ 60) ∧ c ≠ 0 ∧ ∀ H', Same H H' → Q (.bl true) H'
def spPolyI (C : Addr) : Sp := fun vs H Q _ => ∃ (p dx t : Addr) (ts : Pol), vs = [.ref p, .ref t] ∧ H p = some (.ins C dx []) ∧ TermsAt H t ts ∧ WFt ts ∧ ∀ H', Same H H' → Q .non (upd H' p (.ins C dx [("terms", .ref t)]))
/-- what the head says of Poly -/
structure PolF (K : PySem.W.Frag) (mg : Str → Option Value) (C fI fE : Addr) : Prop where
  g : mg "Poly" = some (.ref C)
  ins : InsT K C
  cn : ClsN K C
  na : NoAttr K C "terms"
  mkr : Mk K C fI
  eq : Meth K C "__eq__" fE
/-- a Poly with the terms ts -/
def PolyAt (C : Addr) (H : Hp) (a : Addr) (ts : Pol) : Prop := ∃ dx t, H a = some (.ins C dx [("terms", .ref t)]) ∧ TermsAt H t ts
theorem PolyAt.same {C : Addr} {H H' : Hp} {a : Addr} {ts : Pol} (s : Same H H') (h : PolyAt C H a ts) : PolyAt C H' a ts := by
  obtain ⟨dx, t, h1, h2⟩ := h
  exact ⟨dx, t, s _ _ h1, h2.same s⟩
theorem map_inj {α β : Type} {f : α → β} (h : ∀ a b, f a = f b → a = b) : ∀ {k l : List α}, k.map f = l.map f → k = l
  | [], [], _ => rfl
  | [], _ :: _, e => by cases e
  | _ :: _, [], e => by cases e
  | a :: k, b :: l, e => by
    rw [List.map_cons, List.map_cons] at e
    injection e with e1 e2
    rw [h _ _ e1, map_inj h e2]
theorem kat_inj {H : Hp} {q : Addr} {k l : List Int} (h1 : KAt H q k) (h2 : KAt H q l) : k = l := by
  have e : k.map V.int = l.map V.int := by
    have := Option.some.inj ((show H q = _ from h1).symm.trans h2)
    injection this
  exact map_inj (fun a b e => by injection e) e
/-- the greatest power of an unknown -/
def colP (ts : Pol) (j : Nat) : List Int := ts.map fun p => p.1.getD j 0
def greatP (ts : Pol) : List Int := (List.range 4).map fun j => mx 0 (colP ts j)
def spGreat : Sp := fun vs H Q _ => ∃ (t : Addr) (ts : Pol), vs = [.ref t] ∧ TermsAt H t ts ∧ (∀ p ∈ ts, p.1.length = 4) ∧ ts.length ≤ 1000 ∧ ∀ p H', H p = none → Same H H' → H' p = some (.lst ((greatP ts).map V.int)) → Q (.ref p) H'
def gpS : Scope := { kind := ScopeKind.function, names := [(".0", NameKind.local), ("k", NameKind.cell), ("max", NameKind.globalImplicit), ("terms", NameKind.cell)], isGenerator := false, isCoroutine := false }
end K25

set_option Elab.async false
set_option linter.all false
set_option maxRecDepth 100000
set_option maxHeartbeats 4000000
/-! bounds of integers by their bits; products, quotients -/
namespace My
open PySem PySem.Spec PyProof.Rows L2 DX
/-- below 2 ^ n in size -/
def Bd (n : Nat) (x : Int) : Prop := x.natAbs < 2 ^ n
theorem Bd.mono {n m : Nat} {x : Int} (h : Bd n x) (l : n ≤ m) : Bd m x := Nat.lt_of_lt_of_le h (Nat.pow_le_pow_right (by decide) l)
theorem Bd.mul {n m : Nat} {x y : Int} (h : Bd n x) (g : Bd m y) : Bd (n + m) (x * y) := wide_lt h g
theorem Bd.add {n : Nat} {x y : Int} (h : Bd n x) (g : Bd n y) : Bd (n + 1) (x + y) := by
  unfold Bd at *
  rw [Nat.pow_succ]
  have := Int.natAbs_add_le x y
  omega
theorem Bd.neg {n : Nat} {x : Int} (h : Bd n x) : Bd n (-x) := by
  unfold Bd at *
  rw [Int.natAbs_neg]; exact h
theorem Bd.sub {n : Nat} {x y : Int} (h : Bd n x) (g : Bd n y) : Bd (n + 1) (x - y) := by
  rw [Int.sub_eq_add_neg]; exact h.add g.neg
theorem Bd.zero {n : Nat} : Bd n 0 := by
  unfold Bd; exact Nat.two_pow_pos n
theorem Bd.of_le {n : Nat} {x y : Int} (h : Bd n y) (l : x.natAbs ≤ y.natAbs) : Bd n x := Nat.lt_of_le_of_lt l h
theorem Bd.lit {n : Nat} {x : Int} {k : Nat} (h : x.natAbs < k) (g : k ≤ 2 ^ n) : Bd n x := Nat.lt_of_lt_of_le h g
section
variable {H : Hp} {Q : VK} {i j : Int}
theorem mulW {n m : Nat} {g : Int → Int → V} (hi : Bd n i) (hj : Bd m j) (h : n + m ≤ 999990 := by decide) (q : Q (g i j) H) : rI CMulW g (.int i) (.int j) H Q :=
  ⟨i, j, rfl, rfl, wide_mul (a := n + 1) (b := m + 1) (hi.mono (Nat.le_succ n)) (hj.mono (Nat.le_succ m)) (Nat.succ_pos _) (Nat.succ_pos _) (by omega), q⟩
theorem mulWk {n m : Nat} {g : Int → Int → V} (hi : Bd n i) (hj : Bd m j) (h : n + m ≤ 999990) (q : Q (g i j) H) : rI CMulW g (.int i) (.int j) H Q := mulW hi hj h q
/-- one factor a small number -/
theorem mulWs {n : Nat} {g : Int → Int → V} (hi : i.natAbs.log2 < 900000) (hj : Bd 64 j) (q : Q (g i j) H) : rI CMulW g (.int i) (.int j) H Q := by
  refine ⟨i, j, rfl, rfl, ?_, q⟩
  have y := PySem.Flt.log2_lt_of (by decide : 0 < 64) hj
  unfold CMulW
  omega
theorem divW {n : Nat} {g : Int → Int → V} (h0 : 0 < j) (hj : Bd n j) (h9 : n < 9000 := by decide) (q : Q (g i j) H) : rI CDivW g (.int i) (.int j) H Q :=
  ⟨i, j, rfl, rfl, wide_div (b := n + 1) h0 (hj.mono (Nat.le_succ n)) (Nat.succ_pos _) h9, q⟩
theorem divWl {g : Int → Int → V} (h0 : 0 < j) (hj : j.natAbs < 2 ^ 100) (q : Q (g i j) H) : rI CDivW g (.int i) (.int j) H Q := divW (n := 100) h0 hj (by decide) q
end
end My
namespace My
open PySem PySem.Spec PyProof.Rows L2 DX
section
variable {σ : L2.St} {H : Hp} {Q : VK} {tl : TA} {te : TE} {D : Ends} {v w z : V} {i j l : Nat}
theorem modE {i' : Int} {j' : Int} (c' : 0 < j') (q : Q (.int (i' % j')) H) : rI (fun _ j => 0 < j) (fun i j => .int (i % j)) (.int i') (.int j') H Q := ⟨i', j', rfl, rfl, c', q⟩
theorem par (h : tl σ H fun vs H1 => ∃ v w, vs = [v, w] ∧ D.nx ((σ.set i (some v)).set j (some w)) H1) : tPar i j tl D σ H := h
theorem par2 {R : V → V → Prop} (h : R v w) : ∃ x y, [v, w] = [x, y] ∧ R x y := ⟨_, _, rfl, h⟩
theorem par3 (h : tl σ H fun vs H1 => ∃ u v w, vs = [u, v, w] ∧ D.nx (((σ.set i (some u)).set j (some v)).set l (some w)) H1) : tPar3 i j l tl D σ H := h
theorem par33 {R : V → V → V → Prop} (h : R v w z) : ∃ x y u, [v, w, z] = [x, y, u] ∧ R x y u := ⟨_, _, _, rfl, h⟩
theorem aug {ti : TIp} (e : σ[i]? = some (some v)) (h : te σ H fun y H1 => ti v y H1 fun z H2 => D.nx (σ.set i (some z)) H2) : tAug i te ti D σ H := ⟨v, e, h⟩
theorem whileM {c : TT} {tb : TS} (Pv : Nat → L2.St → Hp → Prop) (m0 : Nat) (h0 : Pv m0 σ H) (hs : ∀ m σ H, Pv m σ H → c σ H fun b H1 => if b = true then ∃ N : L2.St → Hp → Prop, (∀ σ' H', N σ' H' → ∃ m', m' < m ∧ Pv m' σ' H') ∧ tb { D with nx := N, ct := N, bk := D.nx } σ H1 else D.nx σ H1) : tWhile c tb D σ H :=
  ⟨Pv, ⟨m0, h0⟩, hs⟩
theorem turnM {tb : TS} {Pv : Nat → L2.St → Hp → Prop} {m : Nat} (h : tb { D with nx := fun σ' H' => ∃ m', m' < m ∧ Pv m' σ' H', ct := fun σ' H' => ∃ m', m' < m ∧ Pv m' σ' H', bk := D.nx } σ H) : ∃ N : L2.St → Hp → Prop, (∀ σ' H', N σ' H' → ∃ m', m' < m ∧ Pv m' σ' H') ∧ tb { D with nx := N, ct := N, bk := D.nx } σ H := ⟨_, fun _ _ z => z, h⟩
end
end My
namespace My
open PySem PySem.Spec PyProof.Rows L2 DX
section
variable {σ : L2.St} {H : Hp} {K : PySem.W.Frag} {x y z w : V}
/-- (a, b), (c, d) = t -/
theorem gtup22 {T A B : Addr} {i j k l : Nat} {N : L2.St → Hp → Prop} {σ' : L2.St} (h : SqT K H T [.ref A, .ref B]) (hA : SqT K H A [x, y]) (hB : SqT K H B [z, w]) (e : (((σ.set i (some x)).set j (some y)).set k (some z)).set l (some w) = σ') (q : N σ' H) :
    gTup K 2 (gCons (gTup K 2 (gCons (gName i) (gCons (gName j) gNil))) (gCons (gTup K 2 (gCons (gName k) (gCons (gName l) gNil))) gNil)) (.ref T) σ H N := by
  subst e
  exact ⟨T, _, rfl, h, rfl, .ref A, [.ref B], rfl, ⟨A, _, rfl, hA, rfl, x, [y], rfl, y, [], rfl, rfl, .ref B, [], rfl, B, _, rfl, hB, rfl, z, [w], rfl, w, [], rfl, rfl, rfl, q⟩⟩
end
end My
namespace My
open PySem PySem.Spec PyProof.Rows L2 DX
def FR3 (vs : List V) (g : TG) (tb : TS) (D : Ends) (σ : L2.St) (H1 : Hp) : Prop := ∃ (i j c : Int) (n : Nat), vs = [.int i, .int j, .int c] ∧ RgC i j c n ∧ ∃ W : Nat → Nat → L2.St → Hp → Prop, (∃ m, W 0 m σ H1) ∧ ∀ i' m σ H, W i' m σ H →
  ((Itc i c n).stop i' H ∧ D.nx σ H) ∨ ((Itc i c n).go i' H ∧ ∃ N : L2.St → Hp → Prop, (∀ σ' H', N σ' H' → ∃ m', m' < m ∧ W (i' + 1) m' σ' H') ∧ ∀ x H', (Itc i c n).yld i' H x H' → g x σ H' fun σ2 H2 => tb { D with nx := N, ct := N, bk := D.nx } σ2 H2)
section
variable {σ : L2.St} {H : Hp} {Q : VK} {K : PySem.W.Frag} {tl : TA} {te : TE} {tt : TT} {D : Ends} {g : TG} {tb : TS}
theorem forR3 (h : tl σ H fun vs H1 => FR3 vs g tb D σ H1) : tFor (iRng3 tl) g tb D σ H := h
/-- for at in range(n - 1, -1, -1) -/
theorem rng3 {n : Nat} {a b : Int} (hn : n ≤ 1000) (ea : a = (n : Int) - 1) (eb : b = -1) (Pv : Nat → L2.St → Hp → Prop) (h0 : Pv 0 σ H)
    (hs : ∀ i σ H, i < n → Pv i σ H → g (.int (((n - 1 - i : Nat)) : Int)) σ H fun σ2 H2 => tb { D with nx := Pv (i + 1), ct := Pv (i + 1), bk := D.nx } σ2 H2) (hd : ∀ σ H, Pv n σ H → D.nx σ H) : FR3 [.int a, .int b, .int (-1)] g tb D σ H := by
  subst ea eb
  have r := RgC.neg (i := (n : Int) - 1) (j := -1) (by omega) (by omega) (by omega) (by omega)
  rw [show (((n : Int) - 1) - (-1)).toNat = n by omega] at r
  refine ⟨_, _, _, n, rfl, r, for_rangeC (lo := (n : Int) - 1) (c := -1) (n := n) Pv h0 (fun i σ H hi p => ?_) hd⟩
  have e : (n : Int) - 1 + (i : Nat) * (-1) = (((n - 1 - i : Nat)) : Int) := by omega
  rw [e]
  exact hs i σ H hi p
def CZ (K : PySem.W.Frag) (us : List V) (g : TG) (tt : TT) (te : TE) (vs : List Nat) (σ : L2.St) (Q : VK) (H1 : Hp) : Prop := ∃ a b xs ys, us = [.ref a, .ref b] ∧ SqL K H1 a xs ∧ SqL K H1 b ys ∧ LJ (Itz K a b) g tt te vs σ Q H1
theorem lcZ1 {vs : List Nat} (h : tl σ H fun us H1 => CZ K us g tt te vs σ Q H1) : tLc (iZip K tl) g tt te vs σ H Q := h
def CE (K : PySem.W.Frag) (us : List V) (g : TG) (tt : TT) (te : TE) (vs : List Nat) (σ : L2.St) (Q : VK) (H1 : Hp) : Prop := ∃ a xs, us = [.ref a] ∧ SqL K H1 a xs ∧ LJ (Ite K a) g tt te vs σ Q H1
theorem ixLast {p : Addr} {xs : List V} {x : V} (h : SqL K H p (xs ++ [x])) (q : Q x H) : rIxL K (.ref p) (.int (-1)) H Q := ⟨p, _, -1, x, rfl, rfl, h, by
  unfold atI ixN
  rw [if_neg (by decide), List.length_append, List.length_singleton, if_pos (by omega)]
  show (xs ++ [x])[((-1 : Int) + ((xs.length + 1 : Nat) : Int)).toNat]? = some x
  rw [show ((-1 : Int) + ((xs.length + 1 : Nat) : Int)).toNat = xs.length by omega]
  simp, q⟩
end
end My
namespace My
open PySem PySem.Spec PyProof.Rows L2 DX
section
variable {σ : L2.St} {H : Hp} {Q : VK} {K : PySem.W.Frag} {td ty tv : TE} {D : Ends} {g : TG} {tb : TS} {n : Nat}
/-- for k, v in d.items(), d locked -/
theorem forItT {d : Addr} {od : Obj} {kvs : List (List L2.Key × V)} (hσ : σ[n]? = some (some (.ref d))) (hd : H d = some (.frz od (.dT kvs))) (Pv : Nat → L2.St → Hp → Prop) (h0 : Pv 0 σ H) (hG : ∀ i σ H, i ≤ kvs.length → Pv i σ H → H d = some (.frz od (.dT kvs)))
    (hs : ∀ i k v q T σ H, kvs[i]? = some (k, v) → H q = some (.tup (k.map kV)) → Pv i σ H → H T = none → g (.ref T) σ (upd H T (.tup [.ref q, v])) fun σ2 H2 => tb { D with nx := Pv (i + 1), ct := Pv (i + 1), bk := D.nx } σ2 H2) (he : ∀ σ H, Pv kvs.length σ H → D.nx σ H) : tFor (iItemsT (tVar n)) g tb D σ H :=
  ⟨_, hσ, d, od, kvs, rfl, hd, for_it walk_itemsT Pv h0 hG (fun i x σ H H' hi p y => by
    obtain ⟨T, k, v, q, e1, rfl, e2, e3, rfl⟩ := y
    exact hs i k v q T σ H e1 e3 p e2) he⟩
theorem dnewT (h : ∀ p, H p = none → Q (.ref p) (upd H p (.dT []))) : tDNewT σ H Q := h
end
end My
namespace My
open PySem PySem.Spec PyProof.Rows L2 DX
section
variable {σ : L2.St} {H : Hp} {Q : VK} {td ty to ti : TE} {v : V} {N : L2.St → Hp → Prop} {ts : TSet}
theorem dnin (h : ty σ H fun y H1 => td σ H1 fun x H2 => ∃ a o, x = .ref a ∧ DGet H2 a y o ∧ Q (.bl (!o.isSome)) H2) : tDNotIn ty td σ H Q := h
theorem gsub (h : to σ H fun o H1 => ti σ H1 fun i H2 => ts o i v H2 fun H3 => N σ H3) : gSub to ti ts v σ H N := h
theorem repL {l : Addr} {xs : List V} {k : Int} (h : H l = some (.lst xs)) (k0 : 0 ≤ k) (k1 : k ≤ 1000) (hz : xs.length ≤ 1000) (q : ∀ p, H p = none → Q (.ref p) (upd H p (.lst (List.replicate k.toNat xs).flatten))) : rRep (.ref l) (.int k) H Q := by
  refine ⟨l, k, xs, rfl, rfl, h, by omega, by omega, ?_, q⟩
  have : xs.length * k.toNat ≤ 1000 * 1000 := Nat.mul_le_mul hz (by omega)
  exact Nat.le_trans this (by decide)
end
end My

set_option Elab.async false
set_option linter.all false
set_option maxRecDepth 100000
set_option maxHeartbeats 4000000
namespace K25
open PySem PySem.Spec PyProof.Rows L2 XV DX
end K25
local macro_rules | `(tactic| walk_at "s") => `(tactic| first
  | with_reducible refine My.seq ?_
  | with_reducible refine My.ifs ?_
  | with_reducible refine My.test ?_
  | with_reducible refine My.testB ?_
  | with_reducible refine My.and_ ?_
  | with_reducible refine My.or_ ?_
  | with_reducible refine My.not_ ?_
  | with_reducible refine My.andV ?_
  | with_reducible refine My.orV ?_
  | with_reducible refine My.notV ?_
  | with_reducible refine My.ifV ?_
  | with_reducible refine My.cst ?_
  | with_reducible refine My.op ?_
  | with_reducible refine My.un ?_
  | with_reducible refine My.callB ?_
  | with_reducible refine My.cons ?_
  | with_reducible refine My.nil ?_
  | with_reducible refine My.dget ?_
  | with_reducible refine My.dput ?_
  | with_reducible refine My.asg ?_
  | with_reducible refine My.drop ?_
  | with_reducible refine My.ret ?_
  | with_reducible refine My.retN ?_
  | with_reducible refine My.call ?_
  | with_reducible refine My.lst_ ?_
  | with_reducible refine My.tup_ ?_
  | with_reducible refine My.next ?_
  | with_reducible refine My.forR1 ?_
  | with_reducible refine My.make ?_
  | with_reducible refine My.yes ?_
  | with_reducible refine My.part ?_
  | with_reducible refine My.partI ?_
  | with_reducible refine My.abs1 ?_
  | with_reducible refine My.sl ?_
  | with_reducible refine My.noPart ?_
  | with_reducible refine My.bm ?_
  | with_reducible refine My.pairs ?_
  | with_reducible refine My.pairs0 ?_
  | with_reducible refine My.forL1 ?_
  | with_reducible refine My.lcR1 ?_
  | with_reducible refine My.lcL1 ?_
  | with_reducible refine My.thenK ?_
  | with_reducible refine My.dget2 ?_
  | with_reducible refine My.chain ?_
  | with_reducible refine My.itemsT ?_
  | with_reducible refine My.callKw ?_
  | ((with_reducible apply My.var); (next => exact rfl))
  | ((with_reducible apply My.name); (next => exact rfl))
  | ((with_reducible apply My.dgetS); (next => with_reducible first | exact L2.upd_same | assumption); (next => with_reducible first | exact K25.hk_left | exact K25.hk_at | exact K25.hk_seed | exact K25.hk_turn | exact K25.hk_cells))
  | ((with_reducible apply My.dputS); (next => with_reducible first | exact L2.upd_same | assumption); (next => exact K25.hk_len); (next => with_reducible first | exact K25.hp_left | exact K25.hp_at | exact K25.hp_seed | exact K25.hp_turn))
  | ((with_reducible apply My.modE); (next => omega))
  | ((with_reducible apply My.mulR); (next => omega); (next => omega))
  | ((with_reducible apply My.mulL); (next => omega); (next => omega))
  | ((with_reducible apply My.divP); (next => omega); (next => omega))
  | ((with_reducible apply My.divWl); (next => first | assumption | omega); (next => first | assumption | decide))
  | ((with_reducible apply My.mulWk); (next => with_reducible assumption); (next => with_reducible assumption); (next => decide))
  | ((with_reducible apply My.powP); (next => exact ⟨by decide, by decide, by decide⟩))
  | ((with_reducible apply My.lenL); (next => with_reducible assumption))
  | with_reducible refine My.forR3 ?_
  | with_reducible refine My.dnin ?_
  | with_reducible refine My.gsub ?_
  | with_reducible refine My.lcZ1 ?_
  | with_reducible refine My.par ?_
  | with_reducible refine My.par2 ?_
  | with_reducible refine My.par3 ?_
  | with_reducible refine My.par33 ?_
  | ((with_reducible apply My.aug); (next => exact rfl))
  | with_reducible refine My.ipA ?_
  | with_reducible refine My.augS ?_
  | with_reducible refine My.rEqI ?_
  | with_reducible refine My.rNeI ?_
  | with_reducible refine My.rI0_ ?_
  | with_reducible refine My.rU_ ?_
  | with_reducible refine My.int1 ?_
  | with_reducible refine My.bl ?_
  | with_reducible refine My.ite_t ?_
  | with_reducible refine My.ite_f ?_
  | with_reducible refine My.ite_nt ?_
  | with_reducible refine My.ite_nf ?_
  | ((with_reducible apply DX.is_t); (next => exact rfl))
  | ((with_reducible apply DX.is_f); (next => exact rfl))
  | ((with_reducible apply DX.is_nt); (next => exact rfl))
  | ((with_reducible apply DX.is_nf); (next => exact rfl))
  | dsimp only)
local macro_rules | `(tactic| walk_at "f") => `(tactic| repeat' (first | walk_at "s" | with_reducible refine My.ite_d (fun _ => ?_) (fun _ => ?_)))
local macro_rules | `(tactic| walk_at "w") => `(tactic| repeat (walk_at "s"))
local macro_rules | `(tactic| walk_at "F") => `(tactic| repeat' (first | ((with_reducible apply My.modA); (next => omega); intro _ _ _) | walk_at "s" | with_reducible refine My.ite_d (fun _ => ?_) (fun _ => ?_)))
local macro_rules | `(tactic| walk_at "g") => `(tactic| repeat' (first | with_reducible refine My.ite_nd (fun _ => ?_) (fun _ => ?_) | with_reducible refine My.ite_d (fun _ => ?_) (fun _ => ?_) | walk_at "s"))
namespace K25
open PySem PySem.Spec PyProof.Rows L2 XV DX
def spAny (K : PySem.W.Frag) : Sp := fun vs H Q _ => ∃ (d c p : Addr) (xs : List V), vs = [.ref d, .ref p] ∧ Hand K H d c ∧ SqL K H p xs ∧ 0 < xs.length ∧ xs.length < 1000 ∧
  ∀ (v : V) (H' : Hp), v ∈ xs → Hand K H' d c → But d H H' → (∀ b, H b = none → H' b = none) → Q v H'
def spHand (K : PySem.W.Frag) : Sp := fun vs H Q _ => ∃ (a : Addr) (ns : List Int), vs = [.ref a] ∧ SqL K H a (ns.map V.int) ∧ ns.length ≤ 63 ∧ ∀ (d c : Addr) (H' : Hp), H d = none → Same H H' → Hand K H' d c → Q (.ref d) H'
theorem cut_ints (ns : List Int) (lo hi : Option Int) : ∃ ms : List Int, cutV (ns.map V.int) lo hi = ms.map V.int :=
  ⟨(ns.drop _).take _, by unfold cutV; rw [← List.map_drop, ← List.map_take]⟩
section
variable {P : Program} {w : World} {K : PySem.W.Frag} {mg : Str → Option Value} {base : Heap}
theorem sc_law_draw : FnScope ["_law_hand_here", "_law_many", "_law_cell", "_law_digit", "_law_number"] ["_law_hand_here", "_law_many"] (defScope s_law_draw) := ⟨rfl, rfl, rfl, by decide +kernel, rfl, by decide +kernel, by decide +kernel⟩
theorem cal_law_draw {f : Addr} {fd : FuncData} (F : FnP K "_law_draw" "_law_draw" s_law_draw f fd) (g : mg "_law_draw" = some (.ref f)) (T : Txt0 mg) : Cal P w K mg base "_law_draw" 1 ["_law_hand_here", "_law_many"] (spDraw K) := by
  refine ⟨f, fd, g, ?_, F.bindsN (fun _ _ _ _ _ _ us hl => match us, hl with | [_, _], _ => rfl), F.kp⟩
  refine F.ok sc_law_draw (fun vs H Q E h => ?_) (fun cdv A outer s H vs Q E hr h => ?_)
  · obtain ⟨d, c, m, rfl, m0, m1, ⟨cs, at_, gr, sd, tn, hd, hc, cd, a0⟩, k⟩ := h
    rfl
  · obtain ⟨d, c, m, rfl, m0, m1, ⟨cs, at_, gr, sd, tn, hd, hc, cd, a0⟩, k⟩ := h
    have hu := hu_of hr
    refine ⟨_, PSs.nox (pss_cons (ps_if (PW.pt (pw_and (pt_cmpR op_eq (pe_dget hu (pv 0) pe_str (fun _ _ => rfl)) pe_int (nomark _)) (pw_and1 (pt_cmpR op_lt (pe_dget hu (pv 0) pe_str (fun _ _ => rfl)) (pe_callB My.c_len (by rfl) T.len PySem.boot_len (pa_cons (pe_dget hu (pv 0) pe_str (fun _ _ => rfl)) pa_nil)) (nomark _)))))
       (pss_cons (ps_set (i := 2) sc_law_draw.nd rfl (Or.inl rfl) (pe_ix ix_list (pe_dget hu (pv 0) pe_str (fun _ _ => rfl)) (pe_dget hu (pv 0) pe_str (fun _ _ => rfl)) (fun _ _ => rfl)))
      (pss_cons (ps_dput hu (pv 0) pe_str (pe_op op_add (pe_dget hu (pv 0) pe_str (fun _ _ => rfl)) pe_int) rfl)
      (pss_cons (ps_dput hu (pv 0) pe_str (pe_op op_mod (pe_callTy My.c_int1 (by rfl) T.int boot_int (pa_cons (pe_op op_add (pe_op op_add (pe_op op_mul (pe_dget hu (pv 0) pe_str (fun _ _ => rfl)) pe_int) (pv 2)) pe_int) pa_nil)) pe_int) rfl)
      (pss_one (ps_dput hu (pv 0) pe_str (pe_ifExp (pt_cmpR op_ge (pv 2) (pe_op op_pow pe_int pe_int) (nomark _)) (pv 2) pe_int) rfl)))))
       pss_nil)
      (pss_cons (ps_if (pt_cmpR op_gt (pe_dget hu (pv 0) pe_str (fun _ _ => rfl)) pe_int (nomark _))
       (pss_cons (ps_set (i := 3) sc_law_draw.nd rfl (Or.inl rfl) (pe_op op_mod (pe_callTy My.c_int1 (by rfl) T.int boot_int (pa_cons (pe_dget hu (pv 0) pe_str (fun _ _ => rfl)) pa_nil)) (pv 1)))
      (pss_cons (ps_dput hu (pv 0) pe_str (pe_op op_fdivW (pe_dget hu (pv 0) pe_str (fun _ _ => rfl)) (pv 1)) rfl)
      (pss_one (ps_ret (pv 3)))))
       pss_nil)
      (pss_cons (ps_dput hu (pv 0) pe_str (pe_op op_add (pe_dget hu (pv 0) pe_str (fun _ _ => rfl)) pe_int) rfl)
      (pss_cons (ps_set (i := 4) sc_law_draw.nd rfl (Or.inl rfl) (pe_op op_mod (pe_callTy My.c_int1 (by rfl) T.int boot_int (pa_cons (pe_op op_mul (pe_callTy My.c_int1 (by rfl) T.int boot_int (pa_cons (pe_op op_add (pe_dget hu (pv 0) pe_str (fun _ _ => rfl)) (pe_op op_mul pe_int (pe_dget hu (pv 0) pe_str (fun _ _ => rfl)))) pa_nil)) pe_int) pa_nil)) pe_int))
      (pss_cons (ps_set (i := 4) sc_law_draw.nd rfl (Or.inl rfl) (pe_op op_mod (pe_callTy My.c_int1 (by rfl) T.int boot_int (pa_cons (pe_op op_mul (pv 4) (pe_op op_add (pe_op op_fdivW (pv 4) pe_int) pe_int)) pa_nil)) pe_int))
      (pss_cons (ps_set (i := 4) sc_law_draw.nd rfl (Or.inl rfl) (pe_op op_mod (pe_callTy My.c_int1 (by rfl) T.int boot_int (pa_cons (pe_op op_add (pe_op op_mul (pv 4) (pe_op op_add (pe_op op_fdivW (pv 4) pe_int) pe_int)) (pe_dget hu (pv 0) pe_str (fun _ _ => rfl))) pa_nil)) pe_int))
      (pss_one (ps_ret (pe_op op_mod (pe_callTy My.c_int1 (by rfl) T.int boot_int (pa_cons (pe_op op_fdivW (pv 4) pe_int) pa_nil)) (pv 1)))))))))), ?_⟩
    try dsimp only [cxOf, Cx.nox, Cx.wish]
    walk_at "F"
    · rename_i h1 h2
      obtain ⟨v, e, hm⟩ := My.atI_of (xs := cs.map V.int) a0 h2
      obtain ⟨z, _, rfl⟩ := List.mem_map.mp hm
      refine My.ixL hc e ?_
      walk_at "F"
      all_goals
        simp only [upd_upd]
        exact draw_q k hd hc cd (by omega) (by assumption) (by assumption)
    all_goals exact draw_q k hd hc cd a0 (by assumption) (by assumption)
theorem sc_law_any : FnScope ["_law_hand_here", "_law_things"] ["_law_hand_here", "_law_things"] (defScope s_law_any) := ⟨rfl, rfl, rfl, by decide +kernel, rfl, by decide +kernel, by decide +kernel⟩
theorem cal_law_any {f : Addr} {fd : FuncData} (F : FnP K "_law_any" "_law_any" s_law_any f fd) (g : mg "_law_any" = some (.ref f)) (T : Txt0 mg) (C_law_draw : Cal P w K mg base "_law_draw" 1 ["_law_hand_here", "_law_many"] (spDraw K)) : Cal P w K mg base "_law_any" 2 ["_law_hand_here", "_law_things"] (spAny K) := by
  obtain ⟨f_law_draw, fd_law_draw, g_law_draw, G_law_draw, b_law_draw, k_law_draw⟩ := C_law_draw
  refine ⟨f, fd, g, ?_, F.bindsN (fun _ _ _ _ _ _ us hl => match us, hl with | [_, _], _ => rfl), F.kp⟩
  refine F.ok sc_law_any (fun vs H Q E h => ?_) (fun cdv A outer s H vs Q E hr h => ?_)
  · obtain ⟨d, c, p, xs, rfl, hh, hl, l0, l1, k⟩ := h
    rfl
  · obtain ⟨d, c, p, xs, rfl, hh, hl, l0, l1, k⟩ := h
    refine ⟨_, PSs.nox (pss_one (ps_ret (pe_ix ix_list (pv 1) (pe_call G_law_draw (hr.mono (by decide)) (by rfl) g_law_draw k_law_draw b_law_draw .nil pass0 (pa_cons (pv 0) (pa_cons (pe_callB My.c_len (by rfl) T.len PySem.boot_len (pa_cons (pv 1) pa_nil)) pa_nil))) (fun _ _ => rfl)))), ?_⟩
    try dsimp only [cxOf, Cx.nox, Cx.wish]
    walk_at "f"
    refine ⟨d, c, xs.length, rfl, by omega, Nat.lt_of_lt_of_le (show ((xs.length : Int)).natAbs < 1000 by omega) (by decide), hh, fun r H' r0 r1 h1 bt fr => ?_⟩
    obtain ⟨v, e, hm⟩ := My.atI_of (xs := xs) r0 r1
    exact My.ixL (bt.list hh hl) e (k v H' hm h1 bt fr)
theorem sc_law_hand : FnScope ["_law_script", "_law_cell", "_law_cells"] ["_law_script"] (defScope s_law_hand) := ⟨rfl, rfl, rfl, by decide +kernel, rfl, by decide +kernel, by decide +kernel⟩
theorem cal_law_hand {f : Addr} {fd : FuncData} (F : FnP K "_law_hand" "_law_hand" s_law_hand f fd) (g : mg "_law_hand" = some (.ref f)) (T : Txt0 mg) : Cal P w K mg base "_law_hand" 1 ["_law_script"] (spHand K) := by
  refine ⟨f, fd, g, ?_, F.bindsN (fun _ _ _ _ _ _ us hl => match us, hl with | [_], _ => rfl), F.kp⟩
  refine F.ok sc_law_hand (fun vs H Q E h => ?_) (fun cdv A outer s H vs Q E hr h => ?_)
  · obtain ⟨a, ns, rfl, hl, h63, k⟩ := h
    rfl
  · obtain ⟨a, ns, rfl, hl, h63, k⟩ := h
    refine ⟨_, PSs.nox (pss_cons (ps_setLc (i := 2) (own := [("_law_cell", 1)]) (tt := tYes) (by rfl) sc_law_hand.nd rfl rfl (sw_true rfl rfl rfl (by decide +kernel)) (pi_list (pe_slice sl_list (pv 0) po_none (po_some pe_int))) (blkOk_by (own := [("_law_cell", 1)]) (N := ["_law_script", "_law_cell", "_law_cells"]) (sc := (defScope s_law_hand)) (by decide +kernel)) (fun _ _ _ _ _ => (pg_name (i := 1) sc_law_hand.nd rfl (Or.inl rfl))) (fun _ _ _ _ _ => pts_nil) (fun _ _ _ _ _ => (pe_callB My.c_abs (by rfl) T.abs boot_abs (pa_cons (pe_callTy My.c_int1 (by rfl) T.int boot_int (pa_cons (pv 1) pa_nil)) pa_nil))))
      (pss_one (ps_ret (pe_disp (pps_cons pe_str (pv 2) (pps_cons pe_str pe_int (pps_cons pe_str pe_int (pps_cons pe_str (pe_op op_add pe_int (pe_callB My.c_len (by rfl) T.len PySem.boot_len (pa_cons (pv 2) pa_nil))) (pps_cons pe_str pe_int pps_nil))))) (by rfl) (by rfl) (fun z => by cases z) (by decide))))), ?_⟩
    try dsimp only [cxOf, Cx.nox, Cx.wish]
    walk_at "f"
    refine My.slL hl fun p1 n1 => ?_
    obtain ⟨ms, em⟩ := cut_ints ns none (some 63)
    have hms : ms.length ≤ 63 := by
      have z := cutV_length (ns.map V.int) none (some 63)
      rw [em, List.length_map, List.length_map] at z
      omega
    rw [em]
    refine My.lcLI (xs := ms.map V.int) (SqL.of upd_same) fun p2 n2 => ?_
    have a1 := same_new (o := HO.lst (ms.map V.int)) n1
    have a2 := same_new (o := HO.lst []) n2
    refine ⟨fun i H' => ∃ cs : List Int, H' p2 = some (.lst (cs.map V.int)) ∧ cs.length = i ∧ Same H H' ∧ H' p1 = some (.lst (ms.map V.int)), ⟨[], upd_same, rfl, a1.trans a2, a2 _ _ upd_same⟩, fun i H' hi ⟨cs, _, _, _, h1⟩ => SqL.of h1, ?_, ?_⟩
    · rintro i x H' hx ⟨cs, h2, rfl, sm, h1⟩
      obtain ⟨z, hz, rfl⟩ : ∃ z, ms[cs.length]? = some z ∧ x = V.int z := by
        rw [List.getElem?_map] at hx
        cases e : ms[cs.length]? with
        | none => rw [e] at hx; cases hx
        | some z => rw [e] at hx; exact ⟨z, rfl, (Option.some.inj hx).symm⟩
      walk_at "f"
      refine ⟨rfl, ?_⟩
      walk_at "f"
      have hlt : cs.length < ms.length := (List.getElem?_eq_some_iff.mp hz).1
      refine ⟨_, h2, by rw [List.length_map]; exact Nat.lt_of_lt_of_le (show cs.length < 1000 by omega) (by decide), cs ++ [if z < 0 then -z else z], ?_, by simp, ?_, ?_⟩
      · rw [upd_same, List.map_append]; rfl
      · exact fun b o e => by
          rw [upd_ne (ne_of_none (a1 _ _ e) n2)]
          exact sm b o e
      · rw [upd_ne (fun z => by rw [z, h2] at h1; have z3 := Option.some.inj h1; exact absurd (ne_of_none (upd_same (H := H) (a := p1) (o := HO.lst (ms.map V.int))) n2) (fun w => w z))]
        exact h1
    · rintro H' ⟨cs, h2, hl2, sm, h1⟩
      walk_at "f"
      refine My.disp fun p3 n3 => ?_
      walk_at "f"
      refine My.lenL (SqL.of (same_new n3 _ _ h2)) ?_
      walk_at "f"
      refine ⟨upd_same, hk p2 0 0 (40961 + ((cs.map V.int).length : Int)) 0, rfl, by show 5 ≤ 15; decide, ?_⟩
      have em2 : mergeK [] (hk p2 0 0 (40961 + ((cs.map V.int).length : Int)) 0) = hk p2 0 0 (40961 + ((cs.map V.int).length : Int)) 0 := rfl
      rw [em2, upd_upd]
      have a3 := same_new (o := HO.dK (hk p2 0 0 (40961 + ((cs.map V.int).length : Int)) 0)) n3
      exact k p3 p2 _ (sm.free n3) (sm.trans a3) ⟨cs, 0, 0, _, 0, upd_same, SqL.of (a3 _ _ h2), (fun z => by rw [z] at h2; rw [h2] at n3; cases n3), Int.le_refl 0⟩
end
end K25

set_option Elab.async false
set_option linter.all false
set_option maxRecDepth 100000
set_option maxHeartbeats 4000000
namespace K25
open PySem PySem.Spec PyProof.Rows L2 XV DX
/-- a fraction as its two items -/
def frB : V → V → Bool
  | .int i, .int j => decide (0 < j) && decide (((Nat.gcd i.natAbs j.natAbs : Nat) : Int) = 1)
  | _, _ => false
def FrI (K : PySem.W.Frag) (H : Hp) (x : V) (b : Bool) : Prop := (∃ t, TgV K H x t ∧ t.is "tuple" = false ∧ b = false) ∨ (∃ a ys, x = .ref a ∧ H a = some (.tup ys) ∧ ys.length ≠ 2 ∧ b = false) ∨ ∃ a u v tu tv, x = .ref a ∧ H a = some (.tup [u, v]) ∧ TgV K H u tu ∧ TgV K H v tv ∧ b = frB u v
def spFrac (K : PySem.W.Frag) : Sp := fun vs H Q _ => ∃ (x : V) (b : Bool), vs = [x] ∧ FrI K H x b ∧ Q (.bl b) H
section
variable {P : Program} {w : World} {K : PySem.W.Frag} {mg : Str → Option Value} {base : Heap}
theorem sc_is_integer : FnScope ["thing"] ["thing"] (defScope s_is_integer) := ⟨rfl, rfl, rfl, by decide +kernel, rfl, by decide +kernel, by decide +kernel⟩
theorem cal_is_integer {f : Addr} {fd : FuncData} (F : FnP K "is_integer" "is_integer" s_is_integer f fd) (g : mg "is_integer" = some (.ref f)) (T : Txt0 mg) : Cal P w K mg base "is_integer" 1 ["thing"] (spIsInt K) := by
  refine ⟨f, fd, g, ?_, F.bindsN (fun _ _ _ _ _ _ us hl => match us, hl with | [_], _ => rfl), F.kp⟩
  refine F.ok sc_is_integer (fun vs H Q E h => ?_) (fun cdv A outer s H vs Q E hr h => ?_)
  · obtain ⟨v, t, rfl, tv, k⟩ := h
    rfl
  · obtain ⟨v, t, rfl, tv, k⟩ := h
    refine ⟨_, PSs.nox (pss_one (ps_ret (pe_and (pe_callB call_isi (by rfl) T.isi (by decide +kernel) (pa_cons (pv 0) (pa_cons (pe_bltn (v := .ty "int") (u := .type "int") (by rfl) T.int (by decide +kernel) rfl) pa_nil))) (pe_one (pe_not (pe_callB call_isi (by rfl) T.isi (by decide +kernel) (pa_cons (pv 0) (pa_cons (pe_bltn (v := .ty "bool") (u := .type "bool") (by rfl) T.bool (by decide +kernel) rfl) pa_nil)))))))), ?_⟩
    try dsimp only [cxOf, Cx.nox, Cx.wish]
    walk_at "f"
    refine tv.isT mem6 ?_
    walk_at "f"
    cases z : t.is "int" with
    | false =>
      have e := tv.isInt
      rw [z, Bool.false_and] at e
      rw [← e] at k
      exact k
    | true =>
      walk_at "f"
      refine tv.isT mem6 ?_
      have e := tv.isInt
      rw [z, Bool.true_and] at e
      rw [← e] at k
      walk_at "f"
      exact k
theorem sc_is_number_to : FnScope ["most", "thing"] ["most", "thing"] (defScope s_is_number_to) := ⟨rfl, rfl, rfl, by decide +kernel, rfl, by decide +kernel, by decide +kernel⟩
theorem cal_is_number_to {f : Addr} {fd : FuncData} (F : FnP K "is_number_to" "is_number_to" s_is_number_to f fd) (g : mg "is_number_to" = some (.ref f)) (T : Txt0 mg) (C_is_integer : Cal P w K mg base "is_integer" 1 ["thing"] (spIsInt K)) : Cal P w K mg base "is_number_to" 2 ["most", "thing"] (spNumTo K) := by
  obtain ⟨f_is_integer, fd_is_integer, g_is_integer, G_is_integer, b_is_integer, k_is_integer⟩ := C_is_integer
  refine ⟨f, fd, g, ?_, F.bindsN (fun _ _ _ _ _ _ us hl => match us, hl with | [_, _], _ => rfl), F.kp⟩
  refine F.ok sc_is_number_to (fun vs H Q E h => ?_) (fun cdv A outer s H vs Q E hr h => ?_)
  · obtain ⟨m, v, t, rfl, tv, k⟩ := h
    rfl
  · obtain ⟨m, v, t, rfl, tv, k⟩ := h
    refine ⟨_, PSs.nox (pss_one (ps_ret (pe_and (pe_call G_is_integer (hr.mono (by decide)) (by rfl) g_is_integer k_is_integer b_is_integer .nil pass0 (pa_cons (pv 1) pa_nil)) (pe_one (pe_chain op_le op_le pe_int (pv 1) (pv 0)))))), ?_⟩
    try dsimp only [cxOf, Cx.nox, Cx.wish]
    walk_at "f"
    refine ⟨v, t, rfl, tv, _, rfl, ?_⟩
    cases v with
    | int i =>
      show (if true = true then _ else _)
      rw [if_pos rfl]
      walk_at "f"
      · rename_i h0
        have k' : Q (.bl (decide (0 ≤ i) && decide (i ≤ m))) H := k
        rw [decide_eq_true h0, Bool.true_and] at k'
        exact k'
      · rename_i h0
        have k' : Q (.bl (decide (0 ≤ i) && decide (i ≤ m))) H := k
        rw [decide_eq_false h0, Bool.false_and] at k'
        exact k'
    | _ => exact k
theorem sc_is_fraction : FnScope ["thing", "over", "under"] ["thing"] (defScope s_is_fraction) := ⟨rfl, rfl, rfl, by decide +kernel, rfl, by decide +kernel, by decide +kernel⟩
theorem cal_is_fraction {f : Addr} {fd : FuncData} (F : FnP K "is_fraction" "is_fraction" s_is_fraction f fd) (g : mg "is_fraction" = some (.ref f)) (T : Txt0 mg) (C_is_integer : Cal P w K mg base "is_integer" 1 ["thing"] (spIsInt K)) : Cal P w K mg base "is_fraction" 2 ["thing"] (spFrac K) := by
  obtain ⟨f_is_integer, fd_is_integer, g_is_integer, G_is_integer, b_is_integer, k_is_integer⟩ := C_is_integer
  refine ⟨f, fd, g, ?_, F.bindsN (fun _ _ _ _ _ _ us hl => match us, hl with | [_], _ => rfl), F.kp⟩
  refine F.ok sc_is_fraction (fun vs H Q E h => ?_) (fun cdv A outer s H vs Q E hr h => ?_)
  · obtain ⟨x, b, rfl, hx, k⟩ := h
    rfl
  · obtain ⟨x, b, rfl, hx, k⟩ := h
    refine ⟨_, PSs.nox (pss_cons (ps_if (PW.pt (pw_or (pt_not (pt_val (pe_callB call_isi (by rfl) T.isi (by decide +kernel) (pa_cons (pv 0) (pa_cons (pe_bltn (v := .ty "tuple") (u := .type "tuple") (by rfl) T.tuple (by decide +kernel) rfl) pa_nil))))) (pw_or1 (pt_cmpR op_ne (pe_callB My.c_len (by rfl) T.len PySem.boot_len (pa_cons (pv 0) pa_nil)) pe_int (nomark _)))))
       (pss_one (ps_ret pe_bl))
       pss_nil)
      (pss_cons (ps_asg (pv 0) (pg_tup (by rfl) (pgs_cons (pg_name (i := 1) sc_is_fraction.nd rfl (Or.inl rfl)) (pgs_cons (pg_name (i := 2) sc_is_fraction.nd rfl (Or.inl rfl)) pgs_nil))))
      (pss_one (ps_ret (pe_and (pe_call G_is_integer (hr.mono (by decide)) (by rfl) g_is_integer k_is_integer b_is_integer .nil pass0 (pa_cons (pv 1) pa_nil)) (pe_and (pe_call G_is_integer (hr.mono (by decide)) (by rfl) g_is_integer k_is_integer b_is_integer .nil pass0 (pa_cons (pv 2) pa_nil)) (pe_and (pe_cmpR op_gt (pv 2) pe_int (nomark _)) (pe_one (pe_cmpR op_eq (pe_callBfun cr_gcd (by rfl) T.gcd (pa_cons (pv 1) (pa_cons (pv 2) pa_nil))) pe_int (nomark _)))))))))), ?_⟩
    try dsimp only [cxOf, Cx.nox, Cx.wish]
    walk_at "f"
    rcases hx with ⟨t, tv, nt, rfl⟩ | ⟨a, ys, rfl, ha, hl, rfl⟩ | ⟨a, u, v, tu, tv, rfl, ha, hu, hv, rfl⟩
    · refine tv.isT mem6 ?_
      rw [nt]
      walk_at "f"
      exact k
    · refine (TgV.tup ha).isT mem6 ?_
      walk_at "f"
      refine My.lenT (SqT.of ha) ?_
      walk_at "f"
      refine My.ite_nd (fun z => ?_) (fun z => absurd (show ys.length = 2 by omega) hl)
      walk_at "f"
      exact k
    · refine (TgV.tup ha).isT mem6 ?_
      walk_at "f"
      refine My.lenT (SqT.of ha) ?_
      walk_at "f"
      refine My.ite_nd (fun z => absurd rfl z) fun _ => ?_
      walk_at "f"
      refine My.gtup2 (SqT.of ha) rfl ?_
      walk_at "f"
      refine ⟨u, tu, rfl, hu, _, rfl, ?_⟩
      cases u with
      | int i =>
        refine My.ite_ct rfl ?_
        walk_at "f"
        refine ⟨v, tv, rfl, hv, _, rfl, ?_⟩
        cases v with
        | int j =>
          refine My.ite_ct rfl ?_
          have k' : Q (.bl (decide (0 < j) && decide (((Nat.gcd i.natAbs j.natAbs : Nat) : Int) = 1))) H := k
          walk_at "f"
          · rename_i z
            rw [decide_eq_true z, Bool.true_and] at k'
            refine ⟨i, j, rfl, ?_⟩
            walk_at "f"
            exact k'
          · rename_i z
            rw [decide_eq_false z, Bool.false_and] at k'
            exact k'
        | _ => exact My.ite_cf rfl k
      | _ => exact My.ite_cf rfl k
theorem sc_is_powers : FnScope ["thing", "high"] ["thing"] (defScope s_is_powers) := ⟨rfl, rfl, rfl, by decide +kernel, rfl, by decide +kernel, by decide +kernel⟩
theorem cal_is_powers {f : Addr} {fd : FuncData} (F : FnP K "is_powers" "is_powers" s_is_powers f fd) (g : mg "is_powers" = some (.ref f)) (T : Txt0 mg) (C_is_number_to : Cal P w K mg base "is_number_to" 2 ["most", "thing"] (spNumTo K)) {tU tP : Tok} (gUNK : mg "UNKNOWNS" = some (.int 4 tU)) (gPOW : mg "MOST_POWER" = some (.int 60 tP)) : Cal P w K mg base "is_powers" 3 ["thing"] (spPowers K) := by
  obtain ⟨f_is_number_to, fd_is_number_to, g_is_number_to, G_is_number_to, b_is_number_to, k_is_number_to⟩ := C_is_number_to
  refine ⟨f, fd, g, ?_, F.bindsN (fun _ _ _ _ _ _ us hl => match us, hl with | [_], _ => rfl), F.kp⟩
  refine F.ok sc_is_powers (fun vs H Q E h => ?_) (fun cdv A outer s H vs Q E hr h => ?_)
  · obtain ⟨q, kk, rfl, hq, h4, hb, k⟩ := h
    rfl
  · obtain ⟨q, kk, rfl, hq, h4, hb, k⟩ := h
    refine ⟨_, PSs.nox (pss_cons (ps_if (PW.pt (pw_or (pt_not (pt_val (pe_callB call_isi (by rfl) T.isi (by decide +kernel) (pa_cons (pv 0) (pa_cons (pe_bltn (v := .ty "tuple") (u := .type "tuple") (by rfl) T.tuple (by decide +kernel) rfl) pa_nil))))) (pw_or1 (pt_cmpR op_ne (pe_callB My.c_len (by rfl) T.len PySem.boot_len (pa_cons (pv 0) pa_nil)) (pe_glob (v := .int 4) (by rfl) gUNK ⟨_, rfl⟩) (nomark _)))))
       (pss_one (ps_ret pe_bl))
       pss_nil)
      (pss_one (ps_ret (pe_callB (cr_all rfl) (by rfl) T.all (by decide +kernel) (pa_cons (pe_lc (own := [("high", 1)]) (tt := tYes) (by rfl) sc_is_powers.nd (pi_tup (pv 0)) (blkOk_by (own := [("high", 1)]) (N := ["thing", "high"]) (sc := (defScope s_is_powers)) (by decide +kernel)) (fun _ _ _ _ _ => (pg_name (i := 1) sc_is_powers.nd rfl (Or.inl rfl))) (fun _ _ _ _ _ => pts_nil) (fun _ _ _ _ _ => (pe_call G_is_number_to (hr.mono (by decide)) (by rfl) g_is_number_to k_is_number_to b_is_number_to .nil pass0 (pa_cons (pe_glob (v := .int 60) (by rfl) gPOW ⟨_, rfl⟩) (pa_cons (pv 1) pa_nil))))) pa_nil))))), ?_⟩
    try dsimp only [cxOf, Cx.nox, Cx.wish]
    walk_at "f"
    refine (TgV.tup hq).isT mem6 ?_
    walk_at "f"
    refine My.lenT (SqT.of hq) ?_
    walk_at "f"
    refine My.ite_nd (fun z => absurd (by rw [List.length_map, h4]; rfl) z) fun _ => ?_
    walk_at "f"
    refine My.lcT rfl (SqT.of hq) (My.lcM (walk_tup (xs := kk.map V.int)) Same (by rw [List.length_map, h4]; decide) (fun D hD => same_new hD) fun D nD => ⟨fun j y H => y = .bl true, fun j y H ys o _ h => h, fun H o s => same_at s nD, fun H2 _ s _ => My.same_seqT s hq, ?_, ?_⟩)
    · rintro i x H2 H3 ys N hi r e l p' ⟨rfl, ex⟩ hN
      rw [List.getElem?_map] at ex
      cases eb : kk[i]? with
      | none => rw [eb] at ex; cases ex
      | some b =>
        rw [eb] at ex
        cases Option.some.inj ex
        walk_at "f"
        refine ⟨rfl, ?_⟩
        walk_at "f"
        refine ⟨60, .int b, .int, rfl, .int b, ?_⟩
        have B := hb b (List.mem_iff_getElem?.mpr ⟨i, eb⟩)
        have z : inTo 60 (.int b) = true := by
          show (decide (0 ≤ b) && decide (b ≤ 60)) = true
          rw [decide_eq_true B.1, decide_eq_true B.2]; rfl
        rw [z]
        exact hN _ _ r e (fun j v hv => p' j v hv) rfl
    · intro H2 ys hD hl2 s2 hy
      have ey : ys = (List.replicate ys.length true).map V.bl := by
        refine List.ext_getElem? fun j => ?_
        rw [List.getElem?_map, List.getElem?_replicate]
        split
        · rename_i z
          rw [List.getElem?_eq_getElem z, hy j _ (List.getElem?_eq_getElem z)]; rfl
        · rw [List.getElem?_eq_none (by omega)]; rfl
      walk_at "f"
      rw [ey] at hD
      refine My.allL (SqL.of hD) ?_
      rw [show (List.replicate ys.length true).all id = true by simp]
      exact k _ s2
theorem sc_is_term : FnScope ["thing", "powers", "count"] ["thing"] (defScope s_is_term) := ⟨rfl, rfl, rfl, by decide +kernel, rfl, by decide +kernel, by decide +kernel⟩
theorem cal_is_term {f : Addr} {fd : FuncData} (F : FnP K "is_term" "is_term" s_is_term f fd) (g : mg "is_term" = some (.ref f)) (T : Txt0 mg) (C_is_powers : Cal P w K mg base "is_powers" 3 ["thing"] (spPowers K)) (C_is_integer : Cal P w K mg base "is_integer" 1 ["thing"] (spIsInt K)) : Cal P w K mg base "is_term" 4 ["thing"] (spTerm K) := by
  obtain ⟨f_is_powers, fd_is_powers, g_is_powers, G_is_powers, b_is_powers, k_is_powers⟩ := C_is_powers
  obtain ⟨f_is_integer, fd_is_integer, g_is_integer, G_is_integer, b_is_integer, k_is_integer⟩ := C_is_integer
  refine ⟨f, fd, g, ?_, F.bindsN (fun _ _ _ _ _ _ us hl => match us, hl with | [_], _ => rfl), F.kp⟩
  refine F.ok sc_is_term (fun vs H Q E h => ?_) (fun cdv A outer s H vs Q E hr h => ?_)
  · obtain ⟨r, q, kk, c, rfl, hr2, hq, h4, hb, hc, k⟩ := h
    rfl
  · obtain ⟨r, q, kk, c, rfl, hr2, hq, h4, hb, hc, k⟩ := h
    refine ⟨_, PSs.nox (pss_cons (ps_if (PW.pt (pw_or (pt_not (pt_val (pe_callB call_isi (by rfl) T.isi (by decide +kernel) (pa_cons (pv 0) (pa_cons (pe_bltn (v := .ty "tuple") (u := .type "tuple") (by rfl) T.tuple (by decide +kernel) rfl) pa_nil))))) (pw_or1 (pt_cmpR op_ne (pe_callB My.c_len (by rfl) T.len PySem.boot_len (pa_cons (pv 0) pa_nil)) pe_int (nomark _)))))
       (pss_one (ps_ret pe_bl))
       pss_nil)
      (pss_cons (ps_asg (pv 0) (pg_tup (by rfl) (pgs_cons (pg_name (i := 1) sc_is_term.nd rfl (Or.inl rfl)) (pgs_cons (pg_name (i := 2) sc_is_term.nd rfl (Or.inl rfl)) pgs_nil))))
      (pss_one (ps_ret (pe_and (pe_call G_is_powers (hr.mono (by decide)) (by rfl) g_is_powers k_is_powers b_is_powers .nil pass0 (pa_cons (pv 1) pa_nil)) (pe_and (pe_call G_is_integer (hr.mono (by decide)) (by rfl) g_is_integer k_is_integer b_is_integer .nil pass0 (pa_cons (pv 2) pa_nil)) (pe_one (pe_cmpR op_ne (pv 2) pe_int (nomark _))))))))), ?_⟩
    try dsimp only [cxOf, Cx.nox, Cx.wish]
    walk_at "f"
    refine (TgV.tup hr2).isT mem6 ?_
    walk_at "f"
    refine My.lenT (SqT.of hr2) ?_
    walk_at "f"
    refine My.ite_nd (fun z => absurd rfl z) fun _ => ?_
    walk_at "f"
    refine My.gtup2 (SqT.of hr2) rfl ?_
    walk_at "f"
    refine ⟨q, kk, rfl, hq, h4, hb, fun H1 s1 => ?_⟩
    refine ⟨_, rfl, ?_⟩
    walk_at "f"
    refine ⟨_, .int, rfl, .int c, ?_⟩
    refine ⟨_, rfl, ?_⟩
    refine My.ite_ct rfl ?_
    walk_at "f"
    rw [decide_eq_false hc]
    exact k _ s1
theorem sc_Poly_init : FnScope ["self", "terms", "index", "term"] ["self", "terms"] (defScope s_Poly_init) := ⟨rfl, rfl, rfl, by decide +kernel, rfl, by decide +kernel, by decide +kernel⟩
theorem ok_Poly_init {f : Addr} {fd : FuncData} {C : Addr} (F : FnP K "__init__" "Poly.__init__" s_Poly_init f fd) (C_is_term : Cal P w K mg base "is_term" 4 ["thing"] (spTerm K)) (T : Txt0 mg) {tM : Tok} (ins : InsT K C) (na : NoAttr K C "terms") (gTRM : mg "MOST_TERMS" = some (.int 300 tM)) : FnOk P w K mg base CX0 5 f fd ["self", "terms"] (spPolyI C) := by
  obtain ⟨f_is_term, fd_is_term, g_is_term, G_is_term, b_is_term, k_is_term⟩ := C_is_term
  refine F.ok sc_Poly_init (fun vs H Q E h => ?_) (fun cdv A outer s H vs Q E hr h => ?_)
  · obtain ⟨p, dx, t, ts, rfl, hp, ht, wf, k⟩ := h
    rfl
  · obtain ⟨p, dx, t, ts, rfl, hp, ht, wf, k⟩ := h
    refine ⟨_, PSs.nox (pss_cons (ps_if (PW.pt (pw_or (pt_not (pt_val (pe_callB call_isi (by rfl) T.isi (by decide +kernel) (pa_cons (pv 1) (pa_cons (pe_bltn (v := .ty "tuple") (u := .type "tuple") (by rfl) T.tuple (by decide +kernel) rfl) pa_nil))))) (pw_or1 (pt_cmpR op_gt (pe_callB My.c_len (by rfl) T.len PySem.boot_len (pa_cons (pv 1) pa_nil)) (pe_glob (v := .int 300) (by rfl) gTRM ⟨_, rfl⟩) (nomark _)))))
       (pss_one ps_never)
       pss_nil)
      (pss_cons (ps_for PassesOwn.never rfl (EnT.pi_enumT (by rfl) T.enum (pa_cons (pv 1) pa_nil)) (pg_tup (by rfl) (pgs_cons (pg_name (i := 2) sc_Poly_init.nd rfl (Or.inl rfl)) (pgs_cons (pg_name (i := 3) sc_Poly_init.nd rfl (Or.inl rfl)) pgs_nil)))
       (pss_one (ps_if (PW.pt (pw_or (pt_not (pt_val (pe_call G_is_term (hr.mono (by decide)) (by rfl) g_is_term k_is_term b_is_term .nil pass0 (pa_cons (pv 3) pa_nil)))) (pw_or1 (PW.pt (pw_and (pt_cmpR op_gt (pv 2) pe_int (nomark _)) (pw_and1 (pt_cmpR (op_leT hr.units0) (pe_ix ix_tup (pv 3) pe_int (fun _ _ => rfl)) (pe_ix ix_tup (pe_ix ix_tup (pv 1) (pe_op op_sub (pv 2) pe_int) (fun _ _ => rfl)) pe_int (fun _ _ => rfl)) (nomark _))))))))
       (pss_one ps_never)
       pss_nil)))
      (pss_one (ps_fld (pv 0) (pv 1) rfl)))), ?_⟩
    try dsimp only [cxOf, Cx.nox, Cx.wish]
    obtain ⟨rs, ht1, ht2⟩ := id ht
    walk_at "f"
    refine (TgV.tup ht1).isT mem6 ?_
    walk_at "f"
    refine My.lenT (SqT.of ht1) ?_
    have hl := wf.few
    have hl2 : rs.length = ts.length := My.plen ht2
    walk_at "f"
    · rename_i z
      rw [List.length_map] at z
      omega
    refine EnT.forT1 ?_
    walk_at "f"
    refine EnT.forT (SqT.of ht1) (fun i σ' H' => Same H H' ∧ ∃ u v, σ' = [some (.ref p), some (.ref t), u, v]) ⟨.refl _, none, none, rfl⟩ (fun _ _ _ _ z => My.same_seqT z.1 ht1) ?_ ?_
    · rintro i x T σ' H1 ex ⟨s1, u, v, rfl⟩ nT
      rw [List.getElem?_map] at ex
      cases er : rs[i]? with
      | none => rw [er] at ex; cases ex
      | some r =>
        rw [er] at ex
        cases Option.some.inj ex
        obtain ⟨⟨kk, c⟩, ep, q, hr1, hr2⟩ := My.pget ht2 er
        have hm : (kk, c) ∈ ts := List.mem_iff_getElem?.mpr ⟨i, ep⟩
        have sT := same_new (o := HO.tup [V.int (i : Nat), V.ref r]) nT
        have s2 := s1.trans sT
        refine My.gtup2 (SqT.of upd_same) rfl ?_
        generalize upd H1 T _ = H2 at s2 ⊢
        walk_at "f"
        refine ⟨r, q, kk, c, rfl, s2 _ _ hr1, s2 _ _ hr2, (wf.ky _ hm).1, (wf.ky _ hm).2, wf.nz _ hm, fun H3 s3 => ?_⟩
        have s3' := s2.trans s3
        walk_at "f"
        · rename_i hpos
          refine My.ixT (SqT.of (s3' _ _ hr1)) (v := .ref q) (by rfl) ?_
          walk_at "f"
          obtain ⟨i0, rfl⟩ : ∃ i0, i = i0 + 1 := ⟨i - 1, by omega⟩
          have hlt : i0 < rs.length := by have := (List.getElem?_eq_some_iff.mp er).1; omega
          have er0 : rs[i0]? = some rs[i0] := List.getElem?_eq_getElem hlt
          obtain ⟨⟨k0, c0⟩, ep0, q0, g1, g2⟩ := My.pget ht2 er0
          have hm0 : (k0, c0) ∈ ts := List.mem_iff_getElem?.mpr ⟨i0, ep0⟩
          have eq0 : ((((i0 + 1 : Nat) : Int)) - 1) = (i0 : Int) := by omega
          rw [eq0]
          refine My.ixT (SqT.of (s3' _ _ ht1)) (atI_nat (by rw [List.getElem?_map, er0]; rfl)) ?_
          walk_at "f"
          refine My.ixT (SqT.of (s3' _ _ g1)) (v := .ref q0) (by rfl) ?_
          refine ⟨q, q0, kk, k0, rfl, rfl, SqT.of (s3' _ _ hr2), SqT.of (s3' _ _ g2), ?_⟩
          have asc : TS.code 64 k0 < TS.code 64 kk := by
            have l1 := (List.getElem?_eq_some_iff.mp ep).1
            have l0 := (List.getElem?_eq_some_iff.mp ep0).1
            have z := (List.pairwise_iff_getElem.mp wf.asc) i0 (i0 + 1) l0 l1 (by omega)
            rw [(List.getElem?_eq_some_iff.mp ep).2, (List.getElem?_eq_some_iff.mp ep0).2] at z
            exact z
          rw [le_no (wf.ky _ hm0).1 (wf.ky _ hm).1 (wf.ky _ hm0).2 (wf.ky _ hm).2 asc]
          walk_at "f"
          exact ⟨s3', _, _, rfl⟩
        · exact ⟨s3', _, _, rfl⟩
    · rintro σ' H' ⟨s1, u, v, rfl⟩
      exact My.fldS (s1 _ _ hp) ins.cl na (by decide) rfl rfl (k _ s1)
theorem sc_greatest_powers : FnScope ["terms", "k", "powers", "_"] ["terms"] (defScope s_greatest_powers) := ⟨rfl, rfl, rfl, by decide +kernel, rfl, by decide +kernel, by decide +kernel⟩
theorem cal_greatest_powers {f : Addr} {fd : FuncData} (F : FnP K "greatest_powers" "greatest_powers" s_greatest_powers f fd) (g : mg "greatest_powers" = some (.ref f)) (T : Txt0 mg) {tU : Tok} (gUNK : mg "UNKNOWNS" = some (.int 4 tU)) : Cal P w K mg base "greatest_powers" 1 ["terms"] spGreat := by
  refine ⟨f, fd, g, ?_, F.bindsN (fun _ _ _ _ _ _ us hl => match us, hl with | [_], _ => rfl), F.kp⟩
  refine F.ok sc_greatest_powers (fun vs H Q E h => ?_) (fun cdv A outer s H vs Q E hr h => ?_)
  · obtain ⟨t, ts, rfl, ht, h4, hl, k⟩ := h
    rfl
  · obtain ⟨t, ts, rfl, ht, h4, hl, k⟩ := h
    refine ⟨_, PSs.nox (pss_one (ps_ret (pe_lc (own := [("k", 1)]) (tt := tYes) (te := tCKw (rMaxDf K) (tCons (tLc (iTup K (tVar 0)) (gTup K 2 (gCons (gName 2) (gCons (gName 3) gNil))) tYes (tOp (rIxT K) (tVar 2) (tVar 1)) [2, 3]) tNil) (tCons (tC (.int 0)) tNil)) (by rfl) sc_greatest_powers.nd (pi_range1 (by rfl) T.range (pa_cons (pe_glob (v := .int 4) (by rfl) gUNK ⟨_, rfl⟩) pa_nil)) (blkOk_by (own := [("k", 1)]) (N := ["terms", "k", "powers", "_"]) (sc := (defScope s_greatest_powers)) (by decide +kernel)) (fun _ _ _ _ _ => (pg_name (i := 1) sc_greatest_powers.nd rfl (Or.inr rfl))) (fun _ _ _ _ _ => pts_nil) (fun _ _ _ _ _ => (pe_callBK (DX.cr_maxDf rfl (Nat.lt_of_le_of_lt (Nat.add_le_add_left (by decide) _) hr.units)) (by rfl) T.max (by decide +kernel) (pa_cons (pe_lc (own := [("powers", 2), ("_", 3)]) (tt := tYes) (te := tOp (rIxT K) (tVar 2) (tVar 1)) (wi := iTup K (tVar 0)) (g := gTup K 2 (gCons (gName 2) (gCons (gName 3) gNil))) (by rfl) sc_greatest_powers.nd (pi_tup (pv 0)) (blkOk_by (own := [("powers", 2), ("_", 3)]) (N := ["terms", "k", "powers", "_"]) (sc := gpS) (by decide +kernel)) (fun _ _ _ _ _ => (pg_tup (by rfl) (pgs_cons (pg_name (i := 2) sc_greatest_powers.nd rfl (Or.inl rfl)) (pgs_cons (pg_name (i := 3) sc_greatest_powers.nd rfl (Or.inl rfl)) pgs_nil)))) (fun _ _ _ _ _ => pts_nil) (fun _ _ _ _ _ => (pe_ix ix_tup (pv 2) (pv 1) (fun _ _ => rfl)))) pa_nil) (pk_cons pe_int pk_nil)))))), ?_⟩
    try dsimp only [cxOf, Cx.nox, Cx.wish]
    obtain ⟨rs, ht1, ht2⟩ := id ht
    have hrl := My.plen ht2
    walk_at "f"
    refine ⟨4, rfl, by decide, by decide, My.lcM walk_range Same (by decide) (fun D hD => same_new hD) fun D nD => ⟨fun j y H => y = .int (mx 0 (colP ts j)), fun j y H ys o _ h => h, fun H o s => same_at s nD, fun _ _ _ _ => trivial, ?_, ?_⟩⟩
    · rintro i x H2 H3 ys N hi r e l p' ⟨rfl, rfl⟩ hN
      walk_at "f"
      refine ⟨rfl, ?_⟩
      walk_at "f"
      refine My.lcT rfl (SqT.of (r _ _ ht1)) (My.lcM (walk_tup (xs := rs.map V.ref)) Same (by rw [List.length_map]; omega) (fun D hD => same_new hD) fun D2 nD2 => ⟨fun j y H => ∃ p, ts[j]? = some p ∧ y = .int (p.1.getD i 0), fun j y H ys o _ h => h, fun H o s => same_at s nD2, fun H2 _ s _ => My.same_seqT (r.trans s) ht1, ?_, ?_⟩)
      · rintro j x H4 H5 zs N2 hj r2 e2 l2 p2 ⟨rfl, ex⟩ hN2
        rw [List.getElem?_map] at ex
        cases er : rs[j]? with
        | none => rw [er] at ex; cases ex
        | some a =>
          rw [er] at ex
          cases Option.some.inj ex
          obtain ⟨⟨kk, c⟩, ep, q, g1, g2⟩ := My.pget ht2 er
          have s4 := r.trans r2
          refine My.gtup2 (SqT.of (s4 _ _ g1)) rfl ?_
          refine ⟨rfl, ?_⟩
          walk_at "f"
          have hk4 := h4 _ (List.mem_iff_getElem?.mpr ⟨j, ep⟩)
          have hik : (kk.map V.int)[i]? = some (V.int (kk.getD i 0)) := by
            rw [List.getElem?_map, List.getElem?_eq_getElem (show i < kk.length by rw [hk4]; exact hi), List.getD_eq_getElem?_getD, List.getElem?_eq_getElem (show i < kk.length by rw [hk4]; exact hi)]
            rfl
          have ei : (0 + (i : Int)) = (i : Int) := by omega
          rw [ei]
          refine My.ixT (SqT.of (s4 _ _ g2)) (atI_nat hik) ?_
          exact hN2 _ _ r2 e2 p2 ⟨_, ep, rfl⟩
      · intro H4 zs hD2 hl2 r2 hz
        have ez : zs = (colP ts i).map V.int := by
          refine List.ext_getElem? fun j => ?_
          rw [List.getElem?_map, colP, List.getElem?_map]
          by_cases hj : j < zs.length
          · obtain ⟨p, e1, e2⟩ := hz j _ (List.getElem?_eq_getElem hj)
            rw [List.getElem?_eq_getElem hj, e1, e2]; rfl
          · rw [List.getElem?_eq_none (by omega), List.getElem?_eq_none (by rw [List.length_map] at hl2; omega)]; rfl
        walk_at "f"
        rw [ez] at hD2
        refine ⟨D2, colP ts i, 0, rfl, rfl, SqL.of hD2, ?_⟩
        exact hN _ _ (r.trans r2) (r2 _ _ e) p' rfl
    · intro H2 ys hD hl2 s2 hy
      refine k D _ nD s2 ?_
      rw [hD, map_of hl2 hy, greatP, List.map_map]
      rfl
/-- the last unknown that stands in it -/
def topP (ts : Pol) : Option Nat := (List.range 4).foldl (fun acc j => if 0 < mx 0 (colP ts j) then some j else acc) none
def topV (ts : Pol) : V := match topP ts with
  | none => .non
  | some j => .int (j : Nat)
/-- are all unknowns below many -/
def inP (many : Int) (ts : Pol) : Bool := match topP ts with
  | none => true
  | some j => decide ((j : Int) < many)
def spTop (C : Addr) : Sp := fun vs H Q _ => ∃ (a : Addr) (ts : Pol), vs = [.ref a] ∧ PolyAt C H a ts ∧ (∀ p ∈ ts, p.1.length = 4) ∧ ts.length ≤ 1000 ∧ ∀ H', Same H H' → Q (topV ts) H'
/-- an item of a tuple: a polynomial, or none -/
def Itm (K : PySem.W.Frag) (C : Addr) (H : Hp) (v : V) : Option Pol → Prop
  | some ts => ∃ a, v = .ref a ∧ PolyAt C H a ts ∧ (∀ p ∈ ts, p.1.length = 4) ∧ ts.length ≤ 1000
  | none => ∃ t, TgV K H v t ∧ (∀ D, t = .ins D → D ≠ C ∧ PySem.W.kitOne K (.ref D) (.ref C) = some false)
def inO (many : Int) : Option Pol → Bool
  | some ts => inP many ts
  | none => false
def spStands (K : PySem.W.Frag) (C : Addr) : Sp := fun vs H Q _ => ∃ (many : Int) (v : V) (o : Option Pol), vs = [.int many, v] ∧ Itm K C H v o ∧ ∀ H', Same H H' → Q (.bl (inO many o)) H'

theorem sc_top : FnScope ["poly", "found", "k", "high"] ["poly"] (defScope s_top) := ⟨rfl, rfl, rfl, by decide +kernel, rfl, by decide +kernel, by decide +kernel⟩
theorem cal_top {f : Addr} {fd : FuncData} {C fI fE : Addr} (F : FnP K "top" "top" s_top f fd) (g : mg "top" = some (.ref f)) (T : Txt0 mg) (C_greatest_powers : Cal P w K mg base "greatest_powers" 1 ["terms"] spGreat) (PT : PolF K mg C fI fE) : Cal P w K mg base "top" 2 ["poly"] (spTop C) := by
  obtain ⟨f_greatest_powers, fd_greatest_powers, g_greatest_powers, G_greatest_powers, b_greatest_powers, k_greatest_powers⟩ := C_greatest_powers
  refine ⟨f, fd, g, ?_, F.bindsN (fun _ _ _ _ _ _ us hl => match us, hl with | [_], _ => rfl), F.kp⟩
  refine F.ok sc_top (fun vs H Q E h => ?_) (fun cdv A outer s H vs Q E hr h => ?_)
  · obtain ⟨a, ts, rfl, hp, h4, hl, k⟩ := h
    rfl
  · obtain ⟨a, ts, rfl, hp, h4, hl, k⟩ := h
    refine ⟨_, PSs.nox (pss_cons (ps_set (i := 1) sc_top.nd rfl (Or.inl rfl) pe_non)
      (pss_cons (ps_for PassesOwn.never rfl (pi_enum (by rfl) T.enum (pa_cons (pe_call G_greatest_powers (hr.mono (by decide)) (by rfl) g_greatest_powers k_greatest_powers b_greatest_powers .nil pass0 (pa_cons (pe_fld (pv 0) rfl) pa_nil)) pa_nil)) (pg_tup (by rfl) (pgs_cons (pg_name (i := 2) sc_top.nd rfl (Or.inl rfl)) (pgs_cons (pg_name (i := 3) sc_top.nd rfl (Or.inl rfl)) pgs_nil)))
       (pss_one (ps_if (pt_cmpR op_gt (pv 3) pe_int (nomark _))
       (pss_one (ps_set (i := 1) sc_top.nd rfl (Or.inl rfl) (pv 2)))
       pss_nil)))
      (pss_one (ps_ret (pv 1))))), ?_⟩
    try dsimp only [cxOf, Cx.nox, Cx.wish]
    obtain ⟨dx, t, ha, ht⟩ := id hp
    walk_at "f"
    refine My.forEn1 ?_
    walk_at "f"
    have lk : ∀ v : V, ([("terms", v)] : List (Str × V)).lookup ("terms" : Str) = some v := fun v => by simp [List.lookup]
    refine My.fld ha PT.ins.cl PT.na (lk _) rfl ?_
    walk_at "f"
    refine ⟨t, ts, rfl, ht, h4, hl, fun g H1 ng s1 hg => ?_⟩
    have e4 : (greatP ts).map V.int = (List.range 4).map fun j => V.int (mx 0 (colP ts j)) := by rw [greatP, List.map_map]; rfl
    walk_at "f"
    refine My.forEn (SqL.of hg) (fun i σ' H' => Same H H' ∧ H' g = some (.lst ((greatP ts).map V.int)) ∧ ∃ u v, σ' = [some (.ref a), some (match (List.range i).foldl (fun acc j => if 0 < mx 0 (colP ts j) then some j else acc) none with | none => .non | some j => .int (j : Nat)), u, v]) ⟨s1, hg, none, none, rfl⟩ (fun _ _ _ _ z => SqL.of z.2.1) ?_ ?_
    · rintro i x T σ' H2 ex ⟨s2, hg2, u, v, rfl⟩ nT
      rw [e4, List.getElem?_map] at ex
      cases er : (List.range 4)[i]? with
      | none => rw [er] at ex; cases ex
      | some j =>
        rw [er] at ex
        cases Option.some.inj ex
        obtain ⟨hi4, rfl⟩ : i < 4 ∧ j = i := by
          have z := List.getElem?_eq_some_iff.mp er
          exact ⟨by simpa using z.1, by simpa using z.2.symm⟩
        have sT := same_new (o := HO.tup [V.int (j : Nat), V.int (mx 0 (colP ts j))]) nT
        refine My.gtup2 (SqT.of upd_same) rfl ?_
        have s3 := s2.trans sT
        have hg3 := sT _ _ hg2
        generalize upd H2 T _ = H3 at s3 hg3 ⊢
        walk_at "f"
        · rename_i hpos
          refine ⟨s3, hg3, some (.int (j : Nat)), some (.int (mx 0 (colP ts j))), ?_⟩
          rw [List.range_succ, List.foldl_append]
          simp only [List.foldl_cons, List.foldl_nil, if_pos hpos]
          rfl
        · rename_i hpos
          refine ⟨s3, hg3, some (.int (j : Nat)), some (.int (mx 0 (colP ts j))), ?_⟩
          rw [List.range_succ, List.foldl_append]
          simp only [List.foldl_cons, List.foldl_nil, if_neg hpos]
          rfl
    · rintro σ' H2 ⟨s2, hg2, u, v, rfl⟩
      rw [e4, List.length_map]
      walk_at "f"
      exact k _ s2
end
end K25

/-! counts of polynomials over stretches: two ways to write them -/
set_option linter.all false
namespace BM
/-- how many ways -/
def ch : Nat → Nat → Int
  | _, 0 => 1
  | 0, _ + 1 => 0
  | n + 1, k + 1 => ch n (k + 1) + ch n k
theorem ch_zero (n : Nat) : ch n 0 = 1 := by cases n <;> rfl
theorem ch_succ (n k : Nat) : ch (n + 1) (k + 1) = ch n (k + 1) + ch n k := rfl
theorem ch_above : ∀ {n k : Nat}, n < k → ch n k = 0
  | 0, k + 1, _ => rfl
  | n + 1, k + 1, h => by rw [ch_succ, ch_above (by omega : n < k + 1), ch_above (by omega : n < k)]; rfl
theorem ch_nonneg : ∀ (n k : Nat), 0 ≤ ch n k
  | _, 0 => by rw [ch_zero]; decide
  | 0, _ + 1 => Int.le_refl 0
  | n + 1, k + 1 => by
    have h1 := ch_nonneg n (k + 1)
    have h2 := ch_nonneg n k
    rw [ch_succ]; omega
theorem ch_pos : ∀ {n k : Nat}, k ≤ n → 0 < ch n k
  | _, 0, _ => by rw [ch_zero]; decide
  | 0, _ + 1, h => absurd h (by omega)
  | n + 1, k + 1, h => by
    have h1 := ch_nonneg n (k + 1)
    have h2 := ch_pos (n := n) (k := k) (by omega)
    rw [ch_succ]; omega
/-- made from one less: as the loop does it -/
theorem ch_step : ∀ (n k : Nat), ((k : Int) + 1) * ch n (k + 1) = ((n : Int) - k) * ch n k
  | 0, 0 => by simp [ch]
  | 0, k + 1 => by simp [ch]
  | n + 1, 0 => by
    have h := ch_step n 0
    rw [ch_succ, ch_zero, ch_zero] at *
    simp at h ⊢
    omega
  | n + 1, k + 1 => by
    have h1 := ch_step n (k + 1)
    have h2 := ch_step n k
    rw [ch_succ n (k + 1), ch_succ n k]
    push_cast at *
    grind
def sm : Nat → (Nat → Int) → Int
  | 0, _ => 0
  | n + 1, f => sm n f + f n
theorem sm_front (f : Nat → Int) : ∀ n, sm (n + 1) f = f 0 + sm n fun t => f (t + 1)
  | 0 => by simp [sm]
  | n + 1 => by
    have h := sm_front f n
    rw [show sm (n + 1 + 1) f = sm (n + 1) f + f (n + 1) from rfl, h]
    show _ = f 0 + (sm n (fun t => f (t + 1)) + f (n + 1))
    omega
theorem sm_congr {f g : Nat → Int} : ∀ {n : Nat}, (∀ t, t < n → f t = g t) → sm n f = sm n g
  | 0, _ => rfl
  | n + 1, h => by
    show sm n f + f n = sm n g + g n
    rw [sm_congr fun t ht => h t (by omega), h n (by omega)]
theorem sm_add (f g : Nat → Int) : ∀ n, sm n (fun t => f t + g t) = sm n f + sm n g
  | 0 => rfl
  | n + 1 => by
    have := sm_add f g n
    simp only [sm]
    omega
theorem sm_mul (c : Int) (f : Nat → Int) : ∀ n, sm n (fun t => c * f t) = c * sm n f
  | 0 => by simp [sm]
  | n + 1 => by
    have := sm_mul c f n
    simp only [sm, this, Int.mul_add]
theorem sm_zero {f : Nat → Int} : ∀ {n : Nat}, (∀ t, t < n → f t = 0) → sm n f = 0
  | 0, _ => rfl
  | n + 1, h => by
    show sm n f + f n = 0
    rw [sm_zero fun t ht => h t (by omega), h n (by omega)]; rfl
section
variable (L H : Int)
/-- the law's sum -/
def qt (i m j : Nat) (t : Nat) : Int := ch i t * ch m (j - t) * (H ^ t * L ^ (j - t))
def q (i m j : Nat) : Int := sm (j + 1) (qt L H i m j)
theorem q_i0 (i m : Nat) : q L H i m 0 = 1 := by simp [q, sm, qt, ch_zero]
theorem q_left (i m j : Nat) : q L H (i + 1) m (j + 1) = q L H i m (j + 1) + H * q L H i m j := by
  unfold q
  rw [sm_front _ (j + 1), sm_front _ (j + 1)]
  have e0 : qt L H (i + 1) m (j + 1) 0 = qt L H i m (j + 1) 0 := by simp [qt, ch_zero]
  have e : sm (j + 1) (fun t => qt L H (i + 1) m (j + 1) (t + 1)) = sm (j + 1) (fun t => qt L H i m (j + 1) (t + 1) + H * qt L H i m j t) := by
    refine sm_congr fun t ht => ?_
    simp only [qt, ch_succ, Nat.add_sub_add_right, Int.pow_succ]
    grind
  rw [e0, e, sm_add, sm_mul]
  omega
theorem q_right (i m j : Nat) : q L H i (m + 1) (j + 1) = q L H i m (j + 1) + L * q L H i m j := by
  unfold q
  show sm (j + 1) (qt L H i (m + 1) (j + 1)) + qt L H i (m + 1) (j + 1) (j + 1) = (sm (j + 1) (qt L H i m (j + 1)) + qt L H i m (j + 1) (j + 1)) + L * sm (j + 1) (qt L H i m j)
  have e : sm (j + 1) (qt L H i (m + 1) (j + 1)) = sm (j + 1) (fun t => qt L H i m (j + 1) t + L * qt L H i m j t) := by
    refine sm_congr fun t ht => ?_
    simp only [qt]
    rw [show j + 1 - t = (j - t) + 1 by omega, ch_succ, Int.pow_succ]
    grind
  have e1 : qt L H i (m + 1) (j + 1) (j + 1) = qt L H i m (j + 1) (j + 1) := by simp [qt, ch_zero]
  rw [e, e1, sm_add, sm_mul]
  omega
/-- the coefficient at i of (L + H t) ^ j (1 + t) ^ n -/
def cg : Nat → Nat → Nat → Int
  | n, 0, i => ch n i
  | n, j + 1, 0 => L * cg n j 0
  | n, j + 1, i + 1 => L * cg n j (i + 1) + H * cg n j i
theorem cg_n (n : Nat) : ∀ (j i : Nat), cg L H (n + 1) j (i + 1) = cg L H n j (i + 1) + cg L H n j i
  | 0, i => by simp only [cg, ch_succ]
  | j + 1, 0 => by
    have h0 := cg_n n j 0
    have z : cg L H (n + 1) j 0 = cg L H n j 0 := by
      clear h0
      induction j with
      | zero => simp [cg, ch_zero]
      | succ j ih => simp only [cg, ih]
    simp only [cg, h0, z]
    grind
  | j + 1, i + 1 => by
    have h0 := cg_n n j (i + 1)
    have h1 := cg_n n j i
    simp only [cg, h0, h1]
    grind
theorem cg_n0 (n j : Nat) : cg L H (n + 1) j 0 = cg L H n j 0 := by
  induction j with
  | zero => simp [cg, ch_zero]
  | succ j ih => simp only [cg, ih]
theorem cg_above : ∀ {n j i : Nat}, n + j < i → cg L H n j i = 0
  | n, 0, i, h => ch_above h
  | n, j + 1, 0, h => absurd h (by omega)
  | n, j + 1, i + 1, h => by
    simp only [cg]
    rw [cg_above (by omega : n + j < i + 1), cg_above (by omega : n + j < i)]
    simp
/-- both ways -/
theorem two_ways : ∀ (D i j : Nat), i ≤ D → j ≤ D → ch D j * cg L H (D - j) j i = ch D i * q L H i (D - i) j
  | 0, i, j, hi, hj => by
    obtain rfl : i = 0 := by omega
    obtain rfl : j = 0 := by omega
    simp [cg, q, sm, qt, ch]
  | D + 1, 0, 0, _, _ => by simp [cg, q_i0, ch_zero]
  | D + 1, i + 1, 0, _, _ => by simp [cg, q_i0, ch_zero]
  | D + 1, 0, j + 1, _, hj => by
    have e1 : D + 1 - (j + 1) = D - j := by omega
    rw [e1, ch_zero, ch_succ, Nat.sub_zero, q_right]
    have hB := two_ways D 0 j (Nat.zero_le _) (by omega)
    rw [ch_zero, Nat.sub_zero] at hB
    simp only [cg] at *
    rcases Nat.lt_or_ge j D with g | g
    · have hA := two_ways D 0 (j + 1) (Nat.zero_le _) (by omega)
      rw [ch_zero, Nat.sub_zero] at hA
      simp only [cg] at hA
      rw [show D - j = D - (j + 1) + 1 by omega, cg_n0] at *
      grind
    · have hA : q L H 0 D (j + 1) = 0 := by
        refine sm_zero fun t ht => ?_
        rcases t with _ | t
        · simp only [qt, Nat.sub_zero, ch_above (by omega : D < j + 1)]; simp
        · simp [qt, ch]
      rw [ch_above (by omega : D < j + 1), hA]
      grind
  | D + 1, i + 1, j + 1, hi, hj => by
    have e1 : D + 1 - (j + 1) = D - j := by omega
    have e2 : D + 1 - (i + 1) = D - i := by omega
    rw [e1, e2, ch_succ D j, ch_succ D i]
    -- the four neighbours
    have hB := two_ways D i j (by omega) (by omega)
    have key1 : ch D (j + 1) * cg L H (D - j) (j + 1) (i + 1) = (if j + 1 ≤ D then ch D (j + 1) * cg L H (D - (j + 1)) (j + 1) (i + 1) + ch D (j + 1) * cg L H (D - (j + 1)) (j + 1) i else 0) := by
      split
      · rename_i g
        rw [show D - j = D - (j + 1) + 1 by omega, cg_n]
        grind
      · rw [ch_above (by omega : D < j + 1)]; simp
    have key2 : ch D (i + 1) * q L H (i + 1) (D - i) (j + 1) = (if i + 1 ≤ D then ch D (i + 1) * q L H (i + 1) (D - (i + 1)) (j + 1) + L * (ch D (i + 1) * q L H (i + 1) (D - (i + 1)) j) else 0) := by
      split
      · rename_i g
        rw [show D - i = D - (i + 1) + 1 by omega, q_right]
        grind
      · rw [ch_above (by omega : D < i + 1)]; simp
    have key3 : ch D i * q L H (i + 1) (D - i) (j + 1) = ch D i * q L H i (D - i) (j + 1) + H * (ch D i * q L H i (D - i) j) := by
      rw [q_left]; grind
    have key4 : ch D j * cg L H (D - j) (j + 1) (i + 1) = L * (ch D j * cg L H (D - j) j (i + 1)) + H * (ch D j * cg L H (D - j) j i) := by
      simp only [cg]; grind
    have l1 : (ch D j + 0) = ch D j := by omega
    -- what is above
    have o1 : D < j + 1 → ch D i * q L H i (D - i) (j + 1) = 0 := fun g => by
      have : q L H i (D - i) (j + 1) = 0 := by
        refine sm_zero fun t ht => ?_
        simp only [qt]
        rcases Nat.lt_or_ge i t with z | z
        · rw [ch_above z]; simp
        · rw [ch_above (by omega : D - i < j + 1 - t)]; simp
      rw [this]; simp
    have o2 : D < i + 1 → ch D j * cg L H (D - j) j (i + 1) = 0 := fun g => by rw [cg_above L H (by omega)]; simp
    have n1 : j + 1 ≤ D → ch D (j + 1) * cg L H (D - (j + 1)) (j + 1) i = ch D i * q L H i (D - i) (j + 1) := fun g => two_ways D i (j + 1) (by omega) g
    have n2 : i + 1 ≤ D → ch D j * cg L H (D - j) j (i + 1) = ch D (i + 1) * q L H (i + 1) (D - (i + 1)) j := fun g => two_ways D (i + 1) j g (by omega)
    have n3 : j + 1 ≤ D → i + 1 ≤ D → ch D (j + 1) * cg L H (D - (j + 1)) (j + 1) (i + 1) = ch D (i + 1) * q L H (i + 1) (D - (i + 1)) (j + 1) := fun g g' => two_ways D (i + 1) (j + 1) g' g
    have o3 : D < i + 1 → j + 1 ≤ D → ch D (j + 1) * cg L H (D - (j + 1)) (j + 1) (i + 1) = 0 := fun g g' => by rw [cg_above L H (by omega)]; simp
    have o4 : D < j + 1 → i + 1 ≤ D → ch D (i + 1) * q L H (i + 1) (D - (i + 1)) (j + 1) = 0 := fun g g' => by
      have : q L H (i + 1) (D - (i + 1)) (j + 1) = 0 := by
        refine sm_zero fun t ht => ?_
        simp only [qt]
        rcases Nat.lt_or_ge (i + 1) t with z | z
        · rw [ch_above z]; simp
        · rw [ch_above (by omega : D - (i + 1) < j + 1 - t)]; simp
      rw [this]; simp
    rw [Int.add_mul, Int.add_mul, key1, key2, key3, key4]
    by_cases g1 : j + 1 ≤ D <;> by_cases g2 : i + 1 ≤ D
    · rw [if_pos g1, if_pos g2, n1 g1, n2 g2, n3 g1 g2, hB]; omega
    · rw [if_pos g1, if_neg g2, n1 g1, o2 (by omega), o3 (by omega) g1, hB]; omega
    · rw [if_neg g1, if_pos g2, o1 (by omega), n2 g2, o4 (by omega) g2, hB]; omega
    · rw [if_neg g1, if_neg g2, o1 (by omega), o2 (by omega), hB]; omega
end
theorem cg_scale (c L H : Int) : ∀ (n j i : Nat), cg (c * L) (c * H) n j i = c ^ j * cg L H n j i
  | n, 0, i => by simp [cg]
  | n, j + 1, 0 => by
    simp only [cg, cg_scale c L H n j 0, Int.pow_succ]
    grind
  | n, j + 1, i + 1 => by
    simp only [cg, cg_scale c L H n j i, cg_scale c L H n j (i + 1), Int.pow_succ]
    grind
end BM

set_option linter.all false
namespace BM
/-- one stretch: how high, the ends over a common bottom as one takes them and as the other -/
structure Dm where
  D : Nat
  L : Int
  H : Int
  U : Int
  l : Int
  h : Int
  u : Int
structure Dm.Ok (d : Dm) : Prop where
  U : 0 < d.U
  u : 0 < d.u
  eL : d.L * d.u = d.l * d.U
  eH : d.H * d.u = d.h * d.U
/-- the weight of a power at a place of the row -/
def wt (d : Dm) (j i : Nat) : Int := d.U ^ (d.D - j) * cg d.L d.H (d.D - j) j i
/-- what the law multiplies: above, below -/
def pa (d : Dm) (j i : Nat) : Int := q d.l d.h i (d.D - i) j
def pb (d : Dm) (j : Nat) : Int := d.u ^ j * ch d.D j
def kap (d : Dm) (i : Nat) : Int := d.U ^ d.D * ch d.D i
theorem pow_pos {a : Int} (h : 0 < a) : ∀ n : Nat, 0 < a ^ n
  | 0 => by simp
  | n + 1 => by rw [Int.pow_succ]; exact Int.mul_pos (pow_pos h n) h
theorem pow_nonneg {a : Int} (h : 0 ≤ a) : ∀ n : Nat, 0 ≤ a ^ n
  | 0 => by simp
  | n + 1 => by rw [Int.pow_succ]; exact Int.mul_nonneg (pow_nonneg h n) h
theorem mul_pow (a b : Int) : ∀ n : Nat, (a * b) ^ n = a ^ n * b ^ n
  | 0 => by simp
  | n + 1 => by rw [Int.pow_succ, Int.pow_succ, Int.pow_succ, mul_pow a b n]; grind
theorem one_dim {d : Dm} (ok : d.Ok) {i j : Nat} (hi : i ≤ d.D) (hj : j ≤ d.D) : wt d j i * pb d j = kap d i * pa d j i := by
  have t := two_ways d.l d.h d.D i j hi hj
  have s1 := cg_scale d.u d.L d.H (d.D - j) j i
  have s2 := cg_scale d.U d.l d.h (d.D - j) j i
  rw [show d.u * d.L = d.U * d.l by rw [Int.mul_comm, ok.eL, Int.mul_comm], show d.u * d.H = d.U * d.h by rw [Int.mul_comm, ok.eH, Int.mul_comm]] at s1
  have e : d.U ^ d.D = d.U ^ (d.D - j) * d.U ^ j := by rw [← Int.pow_add]; congr 1; omega
  unfold wt pb kap pa
  rw [e]
  have e2 : d.u ^ j * cg d.L d.H (d.D - j) j i = d.U ^ j * cg d.l d.h (d.D - j) j i := by rw [← s1, s2]
  calc d.U ^ (d.D - j) * cg d.L d.H (d.D - j) j i * (d.u ^ j * ch d.D j)
      = d.U ^ (d.D - j) * ch d.D j * (d.u ^ j * cg d.L d.H (d.D - j) j i) := by grind
    _ = d.U ^ (d.D - j) * ch d.D j * (d.U ^ j * cg d.l d.h (d.D - j) j i) := by rw [e2]
    _ = d.U ^ (d.D - j) * d.U ^ j * (ch d.D j * cg d.l d.h (d.D - j) j i) := by grind
    _ = _ := by rw [t]; grind
theorem pb_pos {d : Dm} (ok : d.Ok) {j : Nat} (hj : j ≤ d.D) : 0 < pb d j := Int.mul_pos (pow_pos ok.u _) (ch_pos hj)
theorem kap_pos {d : Dm} (ok : d.Ok) {i : Nat} (hi : i ≤ d.D) : 0 < kap d i := Int.mul_pos (pow_pos ok.U _) (ch_pos hi)
/-! ### all stretches -/
def wtA : List Dm → List Nat → List Nat → Int
  | d :: ds, J, I => wt d (J.headD 0) (I.headD 0) * wtA ds J.tail I.tail
  | [], _, _ => 1
def paA : List Dm → List Nat → List Nat → Int
  | d :: ds, J, I => pa d (J.headD 0) (I.headD 0) * paA ds J.tail I.tail
  | [], _, _ => 1
def pbA : List Dm → List Nat → Int
  | d :: ds, J => pb d (J.headD 0) * pbA ds J.tail
  | [], _ => 1
def kapA : List Dm → List Nat → Int
  | d :: ds, I => kap d (I.headD 0) * kapA ds I.tail
  | [], _ => 1
/-- not above the degrees -/
def Wi : List Dm → List Nat → Prop
  | d :: ds, J => J.headD 0 ≤ d.D ∧ Wi ds J.tail
  | [], _ => True
theorem all_dim : ∀ {ds : List Dm} {J I : List Nat}, (∀ d ∈ ds, d.Ok) → Wi ds J → Wi ds I → wtA ds J I * pbA ds J = kapA ds I * paA ds J I
  | [], _, _, _, _, _ => rfl
  | d :: ds, J, I, ok, hJ, hI => by
    have h1 := one_dim (ok d List.mem_cons_self) hI.1 hJ.1
    have h2 := all_dim (fun d hd => ok d (List.mem_cons_of_mem _ hd)) hJ.2 hI.2
    simp only [wtA, pbA, kapA, paA]
    calc wt d (J.headD 0) (I.headD 0) * wtA ds J.tail I.tail * (pb d (J.headD 0) * pbA ds J.tail)
        = (wt d (J.headD 0) (I.headD 0) * pb d (J.headD 0)) * (wtA ds J.tail I.tail * pbA ds J.tail) := by grind
      _ = _ := by rw [h1, h2]; grind
theorem pbA_pos : ∀ {ds : List Dm} {J : List Nat}, (∀ d ∈ ds, d.Ok) → Wi ds J → 0 < pbA ds J
  | [], _, _, _ => show (0 : Int) < 1 by decide
  | d :: ds, J, ok, h => Int.mul_pos (pb_pos (ok d List.mem_cons_self) h.1) (pbA_pos (fun d hd => ok d (List.mem_cons_of_mem _ hd)) h.2)
theorem kapA_pos : ∀ {ds : List Dm} {I : List Nat}, (∀ d ∈ ds, d.Ok) → Wi ds I → 0 < kapA ds I
  | [], _, _, _ => show (0 : Int) < 1 by decide
  | d :: ds, J, ok, h => Int.mul_pos (kap_pos (ok d List.mem_cons_self) h.1) (kapA_pos (fun d hd => ok d (List.mem_cons_of_mem _ hd)) h.2)
abbrev PolN := List (List Nat × Int)
/-- the row's count -/
def rowV (ds : List Dm) (m : PolN) (I : List Nat) : Int := (m.map fun p => p.2 * wtA ds p.1 I).sum
/-- sums of fractions as the law makes them -/
def fr (l : List (Int × Int)) : Int × Int := l.foldl (fun a p => (a.1 * p.2 + p.1 * a.2, a.2 * p.2)) (0, 1)
theorem fr_rel {α : Type} (k : Int) (r : α → Int) (f : α → Int × Int) : ∀ (l : List α) (R : Int) (a : Int × Int), R * a.2 = k * a.1 → 0 < a.2 → (∀ x ∈ l, r x * (f x).2 = k * (f x).1 ∧ 0 < (f x).2) →
    let z := (l.map f).foldl (fun a p => (a.1 * p.2 + p.1 * a.2, a.2 * p.2)) a
    (R + (l.map r).sum) * z.2 = k * z.1 ∧ 0 < z.2
  | [], R, a, h, h0, _ => by simpa using ⟨h, h0⟩
  | x :: l, R, a, h, h0, hx => by
    obtain ⟨h1, h2⟩ := hx x List.mem_cons_self
    have z := fr_rel k r f l (R + r x) (a.1 * (f x).2 + (f x).1 * a.2, a.2 * (f x).2) (by
      show (R + r x) * (a.2 * (f x).2) = k * (a.1 * (f x).2 + (f x).1 * a.2)
      calc (R + r x) * (a.2 * (f x).2) = (R * a.2) * (f x).2 + a.2 * (r x * (f x).2) := by grind
        _ = _ := by rw [h, h1]; grind) (Int.mul_pos h0 h2) fun y hy => hx y (List.mem_cons_of_mem _ hy)
    simp only [List.map_cons, List.foldl_cons, List.sum_cons]
    rw [show R + (r x + (l.map r).sum) = R + r x + (l.map r).sum by omega]
    exact z
/-- the law's count at I: above, below -/
def lawC (ds : List Dm) (m : PolN) (I : List Nat) : Int × Int := fr (m.map fun p => (p.2 * paA ds p.1 I, pbA ds p.1))
theorem lawC_row {ds : List Dm} {m : PolN} {I : List Nat} (ok : ∀ d ∈ ds, d.Ok) (hm : ∀ p ∈ m, Wi ds p.1) (hI : Wi ds I) : rowV ds m I * (lawC ds m I).2 = kapA ds I * (lawC ds m I).1 ∧ 0 < (lawC ds m I).2 := by
  have z := fr_rel (kapA ds I) (fun p : List Nat × Int => p.2 * wtA ds p.1 I) (fun p => (p.2 * paA ds p.1 I, pbA ds p.1)) m 0 (0, 1) (by simp) (by decide) fun p hp => by
    refine ⟨?_, pbA_pos ok (hm p hp)⟩
    have e := all_dim ok (hm p hp) hI
    show p.2 * wtA ds p.1 I * pbA ds p.1 = kapA ds I * (p.2 * paA ds p.1 I)
    calc p.2 * wtA ds p.1 I * pbA ds p.1 = p.2 * (wtA ds p.1 I * pbA ds p.1) := by grind
      _ = _ := by rw [e]; grind
  rw [Int.zero_add] at z
  exact z
theorem pos_of {a b c d : Int} (e : a * b = c * d) (hb : 0 < b) (hc : 0 < c) : (0 < a ↔ 0 < d) ∧ (a < 0 ↔ d < 0) := by
  have p1 : 0 < a → 0 < d := fun h => by
    have : 0 < c * d := by rw [← e]; exact Int.mul_pos h hb
    rw [Int.mul_comm] at this
    exact Int.pos_of_mul_pos_left this hc
  have p2 : a < 0 → d < 0 := fun h => by
    have h1 : 0 < (-a) * b := Int.mul_pos (by omega) hb
    have h2 : 0 < c * (-d) := by rw [Int.mul_neg, ← e, ← Int.neg_mul]; exact h1
    rw [Int.mul_comm] at h2
    have := Int.pos_of_mul_pos_left h2 hc
    omega
  have p3 : a = 0 → d = 0 := fun h => by
    rw [h, Int.zero_mul] at e
    rcases Int.mul_eq_zero.mp e.symm with z | z
    · omega
    · exact z
  refine ⟨⟨p1, fun h => ?_⟩, ⟨p2, fun h => ?_⟩⟩
  · rcases Int.lt_trichotomy a 0 with g | g | g
    · have := p2 g; omega
    · have := p3 g; omega
    · exact g
  · rcases Int.lt_trichotomy a 0 with g | g | g
    · exact g
    · have := p3 g; omega
    · have := p1 g; omega
theorem lawC_sign {ds : List Dm} {m : PolN} {I : List Nat} (ok : ∀ d ∈ ds, d.Ok) (hm : ∀ p ∈ m, Wi ds p.1) (hI : Wi ds I) : (0 < rowV ds m I ↔ 0 < (lawC ds m I).1) ∧ (rowV ds m I < 0 ↔ (lawC ds m I).1 < 0) :=
  pos_of (lawC_row ok hm hI).1 (lawC_row ok hm hI).2 (kapA_pos ok hI)
end BM

set_option linter.all false
namespace BM
/-! ### at points -/
theorem dim_sum (L H s t : Int) : ∀ (j n : Nat), sm (n + j + 1) (fun i => cg L H n j i * (s ^ i * t ^ (n + j - i))) = (L * t + H * s) ^ j * (t + s) ^ n
  | 0, n => by
    rw [Int.pow_zero, Int.one_mul]
    induction n with
    | zero => simp [sm, cg, ch]
    | succ n ih =>
      show sm (n + 1 + 1) (fun i => cg L H (n + 1) 0 i * (s ^ i * t ^ (n + 1 - i))) = _
      rw [sm_front]
      have e : sm (n + 1) (fun i => cg L H (n + 1) 0 (i + 1) * (s ^ (i + 1) * t ^ (n + 1 - (i + 1)))) = s * sm (n + 1) (fun i => cg L H n 0 i * (s ^ i * t ^ (n + 0 - i))) + sm (n + 1) (fun i => cg L H n 0 (i + 1) * (s ^ (i + 1) * t ^ (n - i))) := by
        rw [← sm_mul, ← sm_add]
        refine sm_congr fun i hi => ?_
        rw [cg_n, Nat.add_sub_add_right, Int.pow_succ]
        grind
      have e2 : cg L H (n + 1) 0 0 * (s ^ 0 * t ^ (n + 1 - 0)) + sm (n + 1) (fun i => cg L H n 0 (i + 1) * (s ^ (i + 1) * t ^ (n - i))) = t * sm (n + 1) (fun i => cg L H n 0 i * (s ^ i * t ^ (n + 0 - i))) := by
        have fr := sm_front (fun i => cg L H n 0 i * (s ^ i * t ^ (n + 0 - i))) n
        have l : sm (n + 1) (fun i => cg L H n 0 (i + 1) * (s ^ (i + 1) * t ^ (n - i))) = sm n (fun i => cg L H n 0 (i + 1) * (s ^ (i + 1) * t ^ (n - i))) := by
          show sm n _ + cg L H n 0 (n + 1) * _ = _
          rw [cg_above L H (by omega)]; simp
        have f : sm n (fun i => cg L H n 0 (i + 1) * (s ^ (i + 1) * t ^ (n - i))) = sm n (fun i => t * (cg L H n 0 (i + 1) * (s ^ (i + 1) * t ^ (n + 0 - (i + 1))))) := by
          refine sm_congr fun i hi => ?_
          rw [show n - i = (n + 0 - (i + 1)) + 1 by omega, Int.pow_succ]
          grind
        rw [l, fr, f, sm_mul, cg_n0, show n + 1 - 0 = (n + 0 - 0) + 1 by omega, Int.pow_succ]
        grind
      rw [e, Int.pow_succ, ← ih]
      have : (fun i => cg L H n 0 i * (s ^ i * t ^ (n + 0 - i))) = fun i => cg L H n 0 i * (s ^ i * t ^ (n + 0 - i)) := rfl
      grind
  | j + 1, n => by
    have ih := dim_sum L H s t j n
    show sm (n + j + 1 + 1) (fun i => cg L H n (j + 1) i * (s ^ i * t ^ (n + (j + 1) - i))) = _
    rw [sm_front]
    have e : sm (n + j + 1) (fun i => cg L H n (j + 1) (i + 1) * (s ^ (i + 1) * t ^ (n + (j + 1) - (i + 1)))) = H * s * sm (n + j + 1) (fun i => cg L H n j i * (s ^ i * t ^ (n + j - i))) + L * sm (n + j + 1) (fun i => cg L H n j (i + 1) * (s ^ (i + 1) * t ^ (n + j - i))) := by
      rw [← sm_mul, ← sm_mul, ← sm_add]
      refine sm_congr fun i hi => ?_
      simp only [cg]
      rw [show n + (j + 1) - (i + 1) = n + j - i by omega, Int.pow_succ]
      grind
    have l : sm (n + j + 1) (fun i => cg L H n j (i + 1) * (s ^ (i + 1) * t ^ (n + j - i))) = sm (n + j) (fun i => cg L H n j (i + 1) * (s ^ (i + 1) * t ^ (n + j - i))) := by
      show sm (n + j) _ + cg L H n j (n + j + 1) * _ = _
      rw [cg_above L H (by omega)]; simp
    have f : sm (n + j) (fun i => cg L H n j (i + 1) * (s ^ (i + 1) * t ^ (n + j - i))) = sm (n + j) (fun i => t * (cg L H n j (i + 1) * (s ^ (i + 1) * t ^ (n + j - (i + 1))))) := by
      refine sm_congr fun i hi => ?_
      rw [show n + j - i = (n + j - (i + 1)) + 1 by omega, Int.pow_succ]
      grind
    have g : sm (n + j + 1) (fun i => cg L H n j i * (s ^ i * t ^ (n + j - i))) = cg L H n j 0 * (s ^ 0 * t ^ (n + j - 0)) + sm (n + j) (fun i => cg L H n j (i + 1) * (s ^ (i + 1) * t ^ (n + j - (i + 1)))) := sm_front _ _
    rw [e, l, f, sm_mul]
    simp only [cg]
    rw [show n + (j + 1) - 0 = (n + j - 0) + 1 by omega, Int.pow_succ, Int.pow_succ]
    have ih2 := ih
    rw [g] at ih2 ⊢
    calc L * cg L H n j 0 * (s ^ 0 * (t ^ (n + j - 0) * t)) + (H * s * (cg L H n j 0 * (s ^ 0 * t ^ (n + j - 0)) + sm (n + j) (fun i => cg L H n j (i + 1) * (s ^ (i + 1) * t ^ (n + j - (i + 1))))) + L * (t * sm (n + j) (fun i => cg L H n j (i + 1) * (s ^ (i + 1) * t ^ (n + j - (i + 1))))))
        = (L * t + H * s) * (cg L H n j 0 * (s ^ 0 * t ^ (n + j - 0)) + sm (n + j) (fun i => cg L H n j (i + 1) * (s ^ (i + 1) * t ^ (n + j - (i + 1))))) := by grind
      _ = _ := by rw [ih2]; grind
/-- a place in a stretch: s parts of m; the place itself n by b -/
structure Pt where
  s : Int
  m : Int
  n : Int
  b : Int
structure Pt.Ok (p : Pt) (d : Dm) : Prop where
  s0 : 0 ≤ p.s
  s1 : p.s ≤ p.m
  m : 0 < p.m
  b : 0 < p.b
  e : p.n * (d.u * p.m) = p.b * (d.l * (p.m - p.s) + d.h * p.s)
/-- the same by the other bottom -/
theorem Pt.Ok.e' {p : Pt} {d : Dm} (h : p.Ok d) (ok : d.Ok) : p.n * (d.U * p.m) = p.b * (d.L * (p.m - p.s) + d.H * p.s) := by
  have z : d.u * (p.n * (d.U * p.m)) = d.u * (p.b * (d.L * (p.m - p.s) + d.H * p.s)) := by
    calc d.u * (p.n * (d.U * p.m)) = d.U * (p.n * (d.u * p.m)) := by grind
      _ = p.b * ((d.l * d.U) * (p.m - p.s) + (d.h * d.U) * p.s) := by rw [h.e]; grind
      _ = _ := by rw [← ok.eL, ← ok.eH]; grind
  exact Int.eq_of_mul_eq_mul_left (by have := ok.u; omega) z
def xs (d : Dm) (p : Pt) : Int := d.L * (p.m - p.s) + d.H * p.s
/-- how much a count weighs at the place -/
def sh (d : Dm) (p : Pt) (i : Nat) : Int := p.s ^ i * (p.m - p.s) ^ (d.D - i)
theorem sm_wt {d : Dm} {p : Pt} {j : Nat} (hj : j ≤ d.D) : sm (d.D + 1) (fun i => wt d j i * sh d p i) = xs d p ^ j * (d.U * p.m) ^ (d.D - j) := by
  have z := dim_sum d.L d.H p.s (p.m - p.s) j (d.D - j)
  rw [show d.D - j + j + 1 = d.D + 1 by omega, show d.D - j + j = d.D by omega] at z
  have e : sm (d.D + 1) (fun i => wt d j i * sh d p i) = d.U ^ (d.D - j) * sm (d.D + 1) (fun i => cg d.L d.H (d.D - j) j i * (p.s ^ i * (p.m - p.s) ^ (d.D - i))) := by
    rw [← sm_mul]
    refine sm_congr fun i _ => ?_
    unfold wt sh
    grind
  rw [e, z, mul_pow, show p.m - p.s + p.s = p.m by omega]
  unfold xs
  grind
/-- all places of the row -/
def idx : List Dm → List (List Nat)
  | [] => [[]]
  | d :: ds => (List.range (d.D + 1)).flatMap fun i => (idx ds).map (i :: ·)
theorem idx_wi : ∀ {ds : List Dm} {I : List Nat}, I ∈ idx ds → Wi ds I ∧ I.length = ds.length
  | [], I, h => by simp [idx] at h; subst h; exact ⟨True.intro, rfl⟩
  | d :: ds, I, h => by
    simp only [idx, List.mem_flatMap, List.mem_range, List.mem_map] at h
    obtain ⟨i, hi, J, hJ, rfl⟩ := h
    obtain ⟨h1, h2⟩ := idx_wi hJ
    exact ⟨⟨Nat.le_of_lt_succ hi, h1⟩, by rw [List.length_cons, List.length_cons, h2]⟩
theorem idx_of : ∀ {ds : List Dm} {I : List Nat}, Wi ds I → I.length = ds.length → I ∈ idx ds
  | [], [], _, _ => by simp [idx]
  | d :: ds, i :: I, h, l => by
    simp only [idx, List.mem_flatMap, List.mem_range, List.mem_map]
    exact ⟨i, Nat.lt_succ_of_le h.1, I, idx_of h.2 (Nat.succ.inj l), rfl⟩
  | [], _ :: _, _, l => by cases l
  | _ :: _, [], _, l => by cases l
def shA : List Dm → List Pt → List Nat → Int
  | d :: ds, p :: ps, I => sh d p (I.headD 0) * shA ds ps I.tail
  | _, _, _ => 1
def evA : List Dm → List Pt → List Nat → Int
  | d :: ds, p :: ps, J => xs d p ^ (J.headD 0) * (d.U * p.m) ^ (d.D - J.headD 0) * evA ds ps J.tail
  | _, _, _ => 1
theorem sum_range (f : Nat → Int) : ∀ n, ((List.range n).map f).sum = sm n f
  | 0 => rfl
  | n + 1 => by rw [List.range_succ, List.map_append, List.sum_append, sum_range f n]; simp [sm]
theorem sum_mul (c : Int) {α : Type} (f : α → Int) : ∀ l : List α, (l.map fun x => c * f x).sum = c * (l.map f).sum
  | [] => by simp
  | x :: l => by simp only [List.map_cons, List.sum_cons, sum_mul c f l]; grind
theorem sum_flat {α β : Type} (f : β → Int) (g : α → List β) : ∀ l : List α, ((l.flatMap g).map f).sum = (l.map fun x => ((g x).map f).sum).sum
  | [] => rfl
  | x :: l => by rw [List.flatMap_cons, List.map_append, List.sum_append, sum_flat f g l]; rfl
theorem sum_idx : ∀ {ds : List Dm} {ps : List Pt} {J : List Nat}, ps.length = ds.length → Wi ds J → ((idx ds).map fun I => wtA ds J I * shA ds ps I).sum = evA ds ps J
  | [], [], J, _, _ => by simp [idx, wtA, shA, evA]
  | d :: ds, p :: ps, J, l, h => by
    have ih := sum_idx (ds := ds) (ps := ps) (J := J.tail) (Nat.succ.inj l) h.2
    simp only [idx, sum_flat, List.map_map]
    have e : ∀ i : Nat, ((idx ds).map ((fun I => wtA (d :: ds) J I * shA (d :: ds) (p :: ps) I) ∘ (i :: ·))).sum = evA ds ps J.tail * (wt d (J.headD 0) i * sh d p i) := fun i => by
      rw [← ih, Int.mul_comm, ← sum_mul]
      congr 1
      refine List.map_congr_left fun I _ => ?_
      simp only [Function.comp, wtA, shA, List.headD_cons, List.tail_cons]
      grind
    rw [show (List.range (d.D + 1)).map (fun i => ((idx ds).map ((fun I => wtA (d :: ds) J I * shA (d :: ds) (p :: ps) I) ∘ (i :: ·))).sum) = (List.range (d.D + 1)).map (fun i => evA ds ps J.tail * (wt d (J.headD 0) i * sh d p i)) from List.map_congr_left fun i _ => e i]
    rw [sum_range, sm_mul, sm_wt h.1]
    simp only [evA]
    grind
  | [], _ :: _, _, l, _ => by cases l
  | _ :: _, [], _, l, _ => by cases l
theorem sum_zero {α : Type} (l : List α) : (l.map fun _ => (0 : Int)).sum = 0 := by
  induction l with
  | nil => rfl
  | cons x l ih => rw [List.map_cons, List.sum_cons, ih]; rfl
theorem sum_add {α : Type} (f g : α → Int) : ∀ l : List α, (l.map fun x => f x + g x).sum = (l.map f).sum + (l.map g).sum
  | [] => rfl
  | x :: l => by simp only [List.map_cons, List.sum_cons, sum_add f g l]; omega
theorem sum_row {ds : List Dm} {ps : List Pt} (l : ps.length = ds.length) : ∀ {m : PolN}, (∀ p ∈ m, Wi ds p.1) → ((idx ds).map fun I => rowV ds m I * shA ds ps I).sum = (m.map fun p => p.2 * evA ds ps p.1).sum
  | [], _ => by
    simp only [rowV, List.map_nil, List.sum_nil, Int.zero_mul]
    exact sum_zero _
  | p :: m, h => by
    have ih := sum_row l (m := m) fun q hq => h q (List.mem_cons_of_mem _ hq)
    have z := sum_idx l (h p List.mem_cons_self)
    rw [List.map_cons, List.sum_cons, ← ih, ← z, ← sum_mul, ← sum_add]
    congr 1
    refine List.map_congr_left fun I _ => ?_
    simp only [rowV, List.map_cons, List.sum_cons]
    grind
theorem sh_nonneg {d : Dm} {p : Pt} (h : p.Ok d) (i : Nat) : 0 ≤ sh d p i := Int.mul_nonneg (pow_nonneg h.s0 _) (pow_nonneg (by have := h.s1; omega) _)
theorem shA_nonneg : ∀ {ds : List Dm} {ps : List Pt} (I : List Nat), (∀ x ∈ ds.zip ps, x.2.Ok x.1) → 0 ≤ shA ds ps I
  | d :: ds, p :: ps, I, h => Int.mul_nonneg (sh_nonneg (h (d, p) List.mem_cons_self) _) (shA_nonneg I.tail fun x hx => h x (List.mem_cons_of_mem _ hx))
  | [], _, _, _ => (by decide : (0 : Int) ≤ 1)
  | _ :: _, [], _, _ => (by decide : (0 : Int) ≤ 1)
/-- some count weighs -/
theorem sh_some {d : Dm} {p : Pt} (h : p.Ok d) : ∃ i, i ≤ d.D ∧ 0 < sh d p i := by
  rcases Int.lt_or_le 0 p.s with g | g
  · exact ⟨d.D, Nat.le_refl _, by unfold sh; rw [Nat.sub_self, Int.pow_zero, Int.mul_one]; exact pow_pos g _⟩
  · refine ⟨0, Nat.zero_le _, ?_⟩
    unfold sh
    rw [Int.pow_zero, Int.one_mul]
    exact pow_pos (by have := h.m; have := h.s0; omega) _
theorem shA_some : ∀ {ds : List Dm} {ps : List Pt}, ps.length = ds.length → (∀ x ∈ ds.zip ps, x.2.Ok x.1) → ∃ I, I ∈ idx ds ∧ 0 < shA ds ps I
  | [], [], _, _ => ⟨[], by simp [idx], (by decide : (0 : Int) < 1)⟩
  | d :: ds, p :: ps, l, h => by
    obtain ⟨i, hi, pi⟩ := sh_some (h (d, p) List.mem_cons_self)
    obtain ⟨I, hI, pI⟩ := shA_some (Nat.succ.inj l) fun x hx => h x (List.mem_cons_of_mem _ hx)
    refine ⟨i :: I, ?_, Int.mul_pos pi pI⟩
    simp only [idx, List.mem_flatMap, List.mem_range, List.mem_map]
    exact ⟨i, Nat.lt_succ_of_le hi, I, hI, rfl⟩
  | [], _ :: _, l, _ => by cases l
  | _ :: _, [], l, _ => by cases l
theorem sum_nonneg {α : Type} {f : α → Int} : ∀ {l : List α}, (∀ x ∈ l, 0 ≤ f x) → 0 ≤ (l.map f).sum
  | [], _ => Int.le_refl 0
  | x :: l, h => by
    have := sum_nonneg (l := l) fun y hy => h y (List.mem_cons_of_mem _ hy)
    have := h x List.mem_cons_self
    rw [List.map_cons, List.sum_cons]; omega
theorem sum_pos {α : Type} {f : α → Int} : ∀ {l : List α}, (∀ x ∈ l, 0 ≤ f x) → (∃ x, x ∈ l ∧ 0 < f x) → 0 < (l.map f).sum
  | [], _, ⟨x, h, _⟩ => by cases h
  | x :: l, h, ⟨y, hy, py⟩ => by
    have h1 := sum_nonneg (l := l) fun y hy => h y (List.mem_cons_of_mem _ hy)
    have h2 := h x List.mem_cons_self
    rw [List.map_cons, List.sum_cons]
    rcases List.mem_cons.mp hy with rfl | hy
    · omega
    · have := sum_pos (l := l) (fun z hz => h z (List.mem_cons_of_mem _ hz)) ⟨y, hy, py⟩
      omega
/-- all counts above 0: so is it at the place -/
theorem ev_pos {ds : List Dm} {ps : List Pt} {m : PolN} (l : ps.length = ds.length) (hp : ∀ x ∈ ds.zip ps, x.2.Ok x.1) (hm : ∀ p ∈ m, Wi ds p.1) (h : ∀ I ∈ idx ds, 0 < rowV ds m I) : 0 < (m.map fun p => p.2 * evA ds ps p.1).sum := by
  rw [← sum_row l hm]
  refine sum_pos (fun I hI => Int.mul_nonneg (Int.le_of_lt (h I hI)) (shA_nonneg I hp)) ?_
  obtain ⟨I, hI, pI⟩ := shA_some l hp
  exact ⟨I, hI, Int.mul_pos (h I hI) pI⟩
/-! ### worth, as the law makes it -/
def wn : List Pt → List Nat → Int
  | p :: ps, J => p.n ^ (J.headD 0) * wn ps J.tail
  | [], _ => 1
def wb : List Pt → List Nat → Int
  | p :: ps, J => p.b ^ (J.headD 0) * wb ps J.tail
  | [], _ => 1
def yA : List Dm → List Pt → Int
  | d :: ds, p :: ps => (d.U * p.m) ^ d.D * yA ds ps
  | _, _ => 1
theorem ev_wn : ∀ {ds : List Dm} {ps : List Pt} {J : List Nat}, (∀ d ∈ ds, d.Ok) → ps.length = ds.length → (∀ x ∈ ds.zip ps, x.2.Ok x.1) → Wi ds J → evA ds ps J * wb ps J = yA ds ps * wn ps J
  | [], [], _, _, _, _, _ => rfl
  | d :: ds, p :: ps, J, ok, l, hp, h => by
    have ih := ev_wn (J := J.tail) (fun d hd => ok d (List.mem_cons_of_mem _ hd)) (Nat.succ.inj l) (fun x hx => hp x (List.mem_cons_of_mem _ hx)) h.2
    have e := (hp (d, p) List.mem_cons_self).e' (ok d List.mem_cons_self)
    have e1 : xs d p ^ (J.headD 0) * p.b ^ (J.headD 0) = (d.U * p.m) ^ (J.headD 0) * p.n ^ (J.headD 0) := by
      rw [← mul_pow, ← mul_pow]
      congr 1
      have e := e
      simp only at e
      unfold xs
      grind
    have e2 : (d.U * p.m) ^ d.D = (d.U * p.m) ^ (d.D - J.headD 0) * (d.U * p.m) ^ (J.headD 0) := by rw [← Int.pow_add]; congr 1; have := h.1; omega
    simp only [evA, wb, yA, wn]
    rw [e2]
    calc xs d p ^ (J.headD 0) * (d.U * p.m) ^ (d.D - J.headD 0) * evA ds ps J.tail * (p.b ^ (J.headD 0) * wb ps J.tail)
        = (xs d p ^ (J.headD 0) * p.b ^ (J.headD 0)) * (d.U * p.m) ^ (d.D - J.headD 0) * (evA ds ps J.tail * wb ps J.tail) := by grind
      _ = _ := by rw [e1, ih]; grind
  | [], _ :: _, _, _, l, _, _ => by cases l
  | _ :: _, [], _, _, l, _, _ => by cases l
theorem wb_pos : ∀ {ds : List Dm} {ps : List Pt} {J : List Nat}, ps.length = ds.length → (∀ x ∈ ds.zip ps, x.2.Ok x.1) → 0 < wb ps J
  | [], [], _, _, _ => (by decide : (0 : Int) < 1)
  | d :: ds, p :: ps, J, l, h => Int.mul_pos (pow_pos (h (d, p) List.mem_cons_self).b _) (wb_pos (ds := ds) (Nat.succ.inj l) fun x hx => h x (List.mem_cons_of_mem _ hx))
  | [], _ :: _, _, l, _ => by cases l
  | _ :: _, [], _, l, _ => by cases l
theorem yA_pos : ∀ {ds : List Dm} {ps : List Pt}, (∀ d ∈ ds, d.Ok) → (∀ x ∈ ds.zip ps, x.2.Ok x.1) → 0 < yA ds ps
  | d :: ds, p :: ps, ok, h => Int.mul_pos (pow_pos (Int.mul_pos (ok d List.mem_cons_self).U (h (d, p) List.mem_cons_self).m) _) (yA_pos (fun d hd => ok d (List.mem_cons_of_mem _ hd)) fun x hx => h x (List.mem_cons_of_mem _ hx))
  | [], _, _, _ => (by decide : (0 : Int) < 1)
  | _ :: _, [], _, _ => (by decide : (0 : Int) < 1)
def worthP (ps : List Pt) (m : PolN) : Int × Int := fr (m.map fun p => (p.2 * wn ps p.1, wb ps p.1))
theorem worth_row {ds : List Dm} {ps : List Pt} {m : PolN} (ok : ∀ d ∈ ds, d.Ok) (l : ps.length = ds.length) (hp : ∀ x ∈ ds.zip ps, x.2.Ok x.1) (hm : ∀ p ∈ m, Wi ds p.1) :
    (m.map fun p => p.2 * evA ds ps p.1).sum * (worthP ps m).2 = yA ds ps * (worthP ps m).1 ∧ 0 < (worthP ps m).2 := by
  have z := fr_rel (yA ds ps) (fun p : List Nat × Int => p.2 * evA ds ps p.1) (fun p => (p.2 * wn ps p.1, wb ps p.1)) m 0 (0, 1) (by simp) (by decide) fun p hpm => by
    refine ⟨?_, wb_pos l hp⟩
    have e := ev_wn ok l hp (hm p hpm)
    show p.2 * evA ds ps p.1 * wb ps p.1 = yA ds ps * (p.2 * wn ps p.1)
    calc p.2 * evA ds ps p.1 * wb ps p.1 = p.2 * (evA ds ps p.1 * wb ps p.1) := by grind
      _ = _ := by rw [e]; grind
  rw [Int.zero_add] at z
  exact z
theorem worth_pos {ds : List Dm} {ps : List Pt} {m : PolN} (ok : ∀ d ∈ ds, d.Ok) (l : ps.length = ds.length) (hp : ∀ x ∈ ds.zip ps, x.2.Ok x.1) (hm : ∀ p ∈ m, Wi ds p.1) (h : ∀ I ∈ idx ds, 0 < rowV ds m I) : 0 < (worthP ps m).1 :=
  (pos_of (worth_row ok l hp hm).1 (worth_row ok l hp hm).2 (yA_pos ok hp)).1.mp (ev_pos l hp hm h)
theorem row_neg (ds : List Dm) (m : PolN) (I : List Nat) : rowV ds (m.map fun p => (p.1, -p.2)) I = -rowV ds m I := by
  unfold rowV
  rw [List.map_map]
  induction m with
  | nil => rfl
  | cons p m ih =>
    simp only [List.map_cons, List.sum_cons, ih, Function.comp]
    grind
theorem ev_neg (ds : List Dm) (ps : List Pt) (m : PolN) : ((m.map fun p => (p.1, -p.2)).map fun p => p.2 * evA ds ps p.1).sum = -(m.map fun p => p.2 * evA ds ps p.1).sum := by
  rw [List.map_map]
  induction m with
  | nil => rfl
  | cons p m ih =>
    simp only [List.map_cons, List.sum_cons, ih, Function.comp]
    grind
theorem worth_neg {ds : List Dm} {ps : List Pt} {m : PolN} (ok : ∀ d ∈ ds, d.Ok) (l : ps.length = ds.length) (hp : ∀ x ∈ ds.zip ps, x.2.Ok x.1) (hm : ∀ p ∈ m, Wi ds p.1) (h : ∀ I ∈ idx ds, rowV ds m I < 0) : (worthP ps m).1 < 0 := by
  refine (pos_of (worth_row ok l hp hm).1 (worth_row ok l hp hm).2 (yA_pos ok hp)).2.mp ?_
  have z := ev_pos (m := m.map fun p => (p.1, -p.2)) l hp (fun p hpm => by
    obtain ⟨q, hq, rfl⟩ := List.mem_map.mp hpm
    exact hm q hq) fun I hI => by rw [row_neg]; have := h I hI; omega
  rw [ev_neg] at z
  omega
end BM

set_option Elab.async false
set_option linter.all false
set_option maxRecDepth 100000
set_option maxHeartbeats 4000000
/-! math.comb -/
namespace DX
open PySem PySem.Spec PyProof.Rows L2
theorem fp_ch (n : Nat) : ∀ k : Nat, k ≤ n → Builtin.Math.fallingProduct (n : Int) k = Builtin.Math.fallingProduct (k : Int) k * BM.ch n k := by
  have self : ∀ k : Nat, Builtin.Math.fallingProduct ((k + 1 : Nat) : Int) (k + 1) = ((k : Int) + 1) * Builtin.Math.fallingProduct (k : Int) k := fun k => by
    have key : ∀ j : Nat, j ≤ k → Builtin.Math.fallingProduct ((k + 1 : Nat) : Int) (j + 1) = ((k : Int) + 1) * Builtin.Math.fallingProduct (k : Int) j := by
      intro j
      induction j with
      | zero => intro _; rw [PySem.W.mc_fp_one, PySem.W.mc_fp_zero]; omega
      | succ j ih =>
        intro hj
        rw [PySem.W.mc_fp_succ, ih (by omega), PySem.W.mc_fp_succ, Int.mul_assoc]
        congr 2
        omega
    exact key k (Nat.le_refl k)
  intro k
  induction k with
  | zero => intro _; rw [PySem.W.mc_fp_zero, PySem.W.mc_fp_zero, BM.ch_zero]; rfl
  | succ k ih =>
    intro hk
    rw [PySem.W.mc_fp_succ, ih (by omega), self]
    have := BM.ch_step n k
    calc Builtin.Math.fallingProduct (k : Int) k * BM.ch n k * ((n : Int) - k) = Builtin.Math.fallingProduct (k : Int) k * (((n : Int) - k) * BM.ch n k) := by grind
      _ = _ := by rw [← this]; grind
theorem ch_self : ∀ n : Nat, BM.ch n n = 1
  | 0 => rfl
  | n + 1 => by rw [BM.ch_succ, BM.ch_above (by omega), ch_self n]; rfl
theorem ch_sym : ∀ (n k : Nat), k ≤ n → BM.ch n k = BM.ch n (n - k)
  | n, 0, _ => by rw [BM.ch_zero, Nat.sub_zero, ch_self]
  | 0, k + 1, h => by omega
  | n + 1, k + 1, h => by
    by_cases e : k = n
    · subst e; rw [ch_self, Nat.sub_self, BM.ch_zero]
    · have h1 := ch_sym n (k + 1) (by omega)
      have h2 := ch_sym n k (by omega)
      rw [BM.ch_succ, h1, h2, show n + 1 - (k + 1) = (n - (k + 1)) + 1 by omega, BM.ch_succ, show n - (k + 1) + 1 = n - k by omega, Int.add_comm]
theorem comb_ch {n k : Nat} (h : k ≤ n) : PySem.W.mcComb (n : Int) (k : Int) = BM.ch n k := by
  obtain ⟨m, hm, e⟩ : ∃ m : Nat, m ≤ n ∧ min (k : Int) ((n : Int) - k) = (m : Int) ∧ BM.ch n m = BM.ch n k := by
    by_cases z : (k : Int) ≤ (n : Int) - k
    · exact ⟨k, h, by omega, rfl⟩
    · exact ⟨n - k, by omega, by omega, (ch_sym n k h).symm⟩
  rw [PySem.W.mcComb_at (by omega) (by omega) e.1, Int.toNat_natCast, fp_ch n m hm, e.2]
  have p := PySem.W.mc_fp_pos (n := (m : Int)) m (Int.le_refl _)
  exact Int.mul_ediv_cancel_left _ (by omega)
def rComb : List V → Hp → VK → Prop := fun vs H Q => ∃ n k : Nat, vs = [.int (n : Int), .int (k : Int)] ∧ k ≤ n ∧ n ≤ 9000 ∧ Q (.int (BM.ch n k)) H
theorem cr_comb {X : Cx} : CallR X (.builtin "math.comb") rComb := by
  intro pins s σ H vs us Q I r h
  obtain ⟨n, k, rfl, hk, hn, q⟩ := h
  obtain ⟨t, u, rfl⟩ := Vals.int2 r
  exact PySem.W.mc_comb_v (by omega) (by omega) (by omega) (.inr (by omega)) (comb_ch hk) ⟨.int _, H, I.tok _, ⟨_, rfl⟩, q⟩
end DX

set_option Elab.async false
set_option linter.all false
set_option maxRecDepth 100000
set_option maxHeartbeats 4000000
namespace K25
open PySem PySem.Spec PyProof.Rows L2 XV DX
abbrev Fra := Int × Int
abbrev Str2 := Fra × Fra
def FraAt (H : Hp) (a : Addr) (f : Fra) : Prop := H a = some (.tup [.int f.1, .int f.2])
def StrAt (H : Hp) (a : Addr) (s : Str2) : Prop := ∃ p q, H a = some (.tup [.ref p, .ref q]) ∧ FraAt H p s.1 ∧ FraAt H q s.2
def BoxAt (H : Hp) (a : Addr) (b : List Str2) : Prop := ∃ rs : List Addr, H a = some (.tup (rs.map V.ref)) ∧ Paired (StrAt H) rs b
theorem FraAt.same {H H' : Hp} {a : Addr} {f : Fra} (s : Same H H') (h : FraAt H a f) : FraAt H' a f := s _ _ h
theorem StrAt.same {H H' : Hp} {a : Addr} {f : Str2} (s : Same H H') (h : StrAt H a f) : StrAt H' a f := by
  obtain ⟨p, q, h1, h2, h3⟩ := h
  exact ⟨p, q, s _ _ h1, h2.same s, h3.same s⟩
theorem BoxAt.same {H H' : Hp} {a : Addr} {b : List Str2} (s : Same H H') (h : BoxAt H a b) : BoxAt H' a b := by
  obtain ⟨rs, h1, h2⟩ := h
  exact ⟨rs, s _ _ h1, Paired.mapP h2 fun _ _ z => z.same s⟩
structure FraOk (f : Fra) : Prop where
  pos : 0 < f.2
  red : Nat.gcd f.1.natAbs f.2.natAbs = 1
  b1 : My.Bd 150 f.1
  b2 : My.Bd 150 f.2
structure StrOk (s : Str2) : Prop where
  lo : FraOk s.1
  hi : FraOk s.2
  lt : s.1.1 * s.2.2 < s.2.1 * s.1.2
def spLess : Sp := fun vs H Q _ => ∃ (a b : Addr) (f g : Fra), vs = [.ref a, .ref b] ∧ FraAt H a f ∧ FraAt H b g ∧ FraOk f ∧ FraOk g ∧ Q (.bl (decide (f.1 * g.2 < g.1 * f.2))) H
def spStrT (K : PySem.W.Frag) : Sp := fun vs H Q _ => ∃ (a : Addr) (s : Str2), vs = [.ref a] ∧ StrAt H a s ∧ StrOk s ∧ Q (.bl true) H
def spBoxT (K : PySem.W.Frag) : Sp := fun vs H Q _ => ∃ (a : Addr) (b : List Str2), vs = [.ref a] ∧ BoxAt H a b ∧ (∀ s ∈ b, StrOk s) ∧ b.length ≤ 3 ∧ ∀ H', Same H H' → Q (.bl true) H'
theorem frI_of {K : PySem.W.Frag} {H : Hp} {a : Addr} {f : Fra} (h : FraAt H a f) (o : FraOk f) : FrI K H (.ref a) true := by
  refine .inr (.inr ⟨a, .int f.1, .int f.2, _, _, rfl, h, .int _, .int _, ?_⟩)
  show true = (decide (0 < f.2) && decide (((Nat.gcd f.1.natAbs f.2.natAbs : Nat) : Int) = 1))
  rw [decide_eq_true o.pos, o.red]
  rfl
/-- in lowest terms -/
def low (t b : Int) : Fra := (t / ((Nat.gcd t.natAbs b.natAbs : Nat) : Int), b / ((Nat.gcd t.natAbs b.natAbs : Nat) : Int))
def spLow : Sp := fun vs H Q _ => ∃ (t b : Int), vs = [.int t, .int b] ∧ 0 < b ∧ My.Bd 8990 b ∧ ∀ p, H p = none → Q (.ref p) (upd H p (.tup [.int (low t b).1, .int (low t b).2]))
def spPow : Sp := fun vs H Q _ => ∃ (x : Int) (n B : Nat), vs = [.int x, .int (n : Int)] ∧ My.Bd B x ∧ (n + 1) * B ≤ 900000 ∧ n ≤ 1000 ∧ Q (.int (x ^ n)) H
def spBin : Sp := fun vs H Q _ => ∃ (n s : Nat), vs = [.int (n : Int), .int (s : Int)] ∧ n ≤ 60 ∧ s ≤ 60 ∧ Q (.int (BM.ch n s)) H
section
variable {P : Program} {w : World} {K : PySem.W.Frag} {mg : Str → Option Value} {base : Heap}
theorem sc_is_less : FnScope ["one", "other"] ["one", "other"] (defScope s_is_less) := ⟨rfl, rfl, rfl, by decide +kernel, rfl, by decide +kernel, by decide +kernel⟩
theorem cal_is_less {f : Addr} {fd : FuncData} (F : FnP K "is_less" "is_less" s_is_less f fd) (g : mg "is_less" = some (.ref f)) (T : Txt0 mg) : Cal P w K mg base "is_less" 1 ["one", "other"] spLess := by
  refine ⟨f, fd, g, ?_, F.bindsN (fun _ _ _ _ _ _ us hl => match us, hl with | [_, _], _ => rfl), F.kp⟩
  refine F.ok sc_is_less (fun vs H Q E h => ?_) (fun cdv A outer s H vs Q E hr h => ?_)
  · obtain ⟨a, b, f, g, rfl, ha, hb, oa, ob, k⟩ := h
    rfl
  · obtain ⟨a, b, f, g, rfl, ha, hb, oa, ob, k⟩ := h
    refine ⟨_, PSs.nox (pss_one (ps_ret (pe_cmpR op_lt (pe_op op_mulW (pe_ix ix_tup (pv 0) pe_int (fun _ _ => rfl)) (pe_ix ix_tup (pv 1) pe_int (fun _ _ => rfl))) (pe_op op_mulW (pe_ix ix_tup (pv 1) pe_int (fun _ _ => rfl)) (pe_ix ix_tup (pv 0) pe_int (fun _ _ => rfl))) (nomark _)))), ?_⟩
    try dsimp only [cxOf, Cx.nox, Cx.wish]
    walk_at "f"
    refine My.ixT (SqT.of ha) (v := .int f.1) (by rfl) ?_
    walk_at "f"
    refine My.ixT (SqT.of hb) (v := .int g.2) (by rfl) ?_
    refine My.mulW oa.b1 ob.b2 (by decide) ?_
    walk_at "f"
    refine My.ixT (SqT.of hb) (v := .int g.1) (by rfl) ?_
    walk_at "f"
    refine My.ixT (SqT.of ha) (v := .int f.2) (by rfl) ?_
    refine My.mulW ob.b1 oa.b2 (by decide) ?_
    walk_at "f"
    exact k
theorem sc_is_stretch : FnScope ["thing"] ["thing"] (defScope s_is_stretch) := ⟨rfl, rfl, rfl, by decide +kernel, rfl, by decide +kernel, by decide +kernel⟩
theorem cal_is_stretch {f : Addr} {fd : FuncData} (F : FnP K "is_stretch" "is_stretch" s_is_stretch f fd) (g : mg "is_stretch" = some (.ref f)) (T : Txt0 mg) (C_is_fraction : Cal P w K mg base "is_fraction" 2 ["thing"] (spFrac K)) (C_is_less : Cal P w K mg base "is_less" 1 ["one", "other"] spLess) : Cal P w K mg base "is_stretch" 3 ["thing"] (spStrT K) := by
  obtain ⟨f_is_fraction, fd_is_fraction, g_is_fraction, G_is_fraction, b_is_fraction, k_is_fraction⟩ := C_is_fraction
  obtain ⟨f_is_less, fd_is_less, g_is_less, G_is_less, b_is_less, k_is_less⟩ := C_is_less
  refine ⟨f, fd, g, ?_, F.bindsN (fun _ _ _ _ _ _ us hl => match us, hl with | [_], _ => rfl), F.kp⟩
  refine F.ok sc_is_stretch (fun vs H Q E h => ?_) (fun cdv A outer s H vs Q E hr h => ?_)
  · obtain ⟨a, s, rfl, ⟨p, q, ha, hp, hq⟩, o, k⟩ := h
    rfl
  · obtain ⟨a, s, rfl, ⟨p, q, ha, hp, hq⟩, o, k⟩ := h
    refine ⟨_, PSs.nox (pss_cons (ps_if (PW.pt (pw_or (pt_not (pt_val (pe_callB call_isi (by rfl) T.isi (by decide +kernel) (pa_cons (pv 0) (pa_cons (pe_bltn (v := .ty "tuple") (u := .type "tuple") (by rfl) T.tuple (by decide +kernel) rfl) pa_nil))))) (pw_or1 (pt_cmpR op_ne (pe_callB My.c_len (by rfl) T.len PySem.boot_len (pa_cons (pv 0) pa_nil)) pe_int (nomark _)))))
       (pss_one (ps_ret pe_bl))
       pss_nil)
      (pss_one (ps_ret (pe_and (pe_call G_is_fraction (hr.mono (by decide)) (by rfl) g_is_fraction k_is_fraction b_is_fraction .nil pass0 (pa_cons (pe_ix ix_tup (pv 0) pe_int (fun _ _ => rfl)) pa_nil)) (pe_and (pe_call G_is_fraction (hr.mono (by decide)) (by rfl) g_is_fraction k_is_fraction b_is_fraction .nil pass0 (pa_cons (pe_ix ix_tup (pv 0) pe_int (fun _ _ => rfl)) pa_nil)) (pe_one (pe_call G_is_less (hr.mono (by decide)) (by rfl) g_is_less k_is_less b_is_less .nil pass0 (pa_cons (pe_ix ix_tup (pv 0) pe_int (fun _ _ => rfl)) (pa_cons (pe_ix ix_tup (pv 0) pe_int (fun _ _ => rfl)) pa_nil))))))))), ?_⟩
    try dsimp only [cxOf, Cx.nox, Cx.wish]
    walk_at "f"
    refine (TgV.tup ha).isT mem6 ?_
    walk_at "f"
    refine My.lenT (SqT.of ha) ?_
    walk_at "f"
    refine My.ite_nd (fun z => absurd rfl z) fun _ => ?_
    walk_at "f"
    refine My.ixT (SqT.of ha) (v := .ref p) (by rfl) ?_
    walk_at "f"
    refine ⟨.ref p, true, rfl, frI_of hp o.lo, _, rfl, ?_⟩
    refine My.ite_ct rfl ?_
    walk_at "f"
    refine My.ixT (SqT.of ha) (v := .ref q) (by rfl) ?_
    walk_at "f"
    refine ⟨.ref q, true, rfl, frI_of hq o.hi, _, rfl, ?_⟩
    refine My.ite_ct rfl ?_
    walk_at "f"
    refine My.ixT (SqT.of ha) (v := .ref p) (by rfl) ?_
    walk_at "f"
    refine My.ixT (SqT.of ha) (v := .ref q) (by rfl) ?_
    walk_at "f"
    refine ⟨p, q, s.1, s.2, rfl, hp, hq, o.lo, o.hi, ?_⟩
    rw [decide_eq_true o.lt]
    exact k
theorem sc_is_box : FnScope ["thing", "part"] ["thing"] (defScope s_is_box) := ⟨rfl, rfl, rfl, by decide +kernel, rfl, by decide +kernel, by decide +kernel⟩
theorem cal_is_box {f : Addr} {fd : FuncData} (F : FnP K "is_box" "is_box" s_is_box f fd) (g : mg "is_box" = some (.ref f)) (T : Txt0 mg) (C_is_stretch : Cal P w K mg base "is_stretch" 3 ["thing"] (spStrT K)) {tS : Tok} (gSTR : mg "MOST_STRETCHES" = some (.int 3 tS)) : Cal P w K mg base "is_box" 4 ["thing"] (spBoxT K) := by
  obtain ⟨f_is_stretch, fd_is_stretch, g_is_stretch, G_is_stretch, b_is_stretch, k_is_stretch⟩ := C_is_stretch
  refine ⟨f, fd, g, ?_, F.bindsN (fun _ _ _ _ _ _ us hl => match us, hl with | [_], _ => rfl), F.kp⟩
  refine F.ok sc_is_box (fun vs H Q E h => ?_) (fun cdv A outer s H vs Q E hr h => ?_)
  · obtain ⟨a, b, rfl, ⟨rs, ha, hp⟩, o, hl, k⟩ := h
    rfl
  · obtain ⟨a, b, rfl, ⟨rs, ha, hp⟩, o, hl, k⟩ := h
    refine ⟨_, PSs.nox (pss_one (ps_ret (pe_and (pe_callB call_isi (by rfl) T.isi (by decide +kernel) (pa_cons (pv 0) (pa_cons (pe_bltn (v := .ty "tuple") (u := .type "tuple") (by rfl) T.tuple (by decide +kernel) rfl) pa_nil))) (pe_and (pe_cmpR op_le (pe_callB My.c_len (by rfl) T.len PySem.boot_len (pa_cons (pv 0) pa_nil)) (pe_glob (v := .int 3) (by rfl) gSTR ⟨_, rfl⟩) (nomark _)) (pe_one (pe_callB (cr_all rfl) (by rfl) T.all (by decide +kernel) (pa_cons (pe_lc (own := [("part", 1)]) (tt := tYes) (by rfl) sc_is_box.nd (pi_tup (pv 0)) (blkOk_by (own := [("part", 1)]) (N := ["thing", "part"]) (sc := (defScope s_is_box)) (by decide +kernel)) (fun _ _ _ _ _ => (pg_name (i := 1) sc_is_box.nd rfl (Or.inl rfl))) (fun _ _ _ _ _ => pts_nil) (fun _ _ _ _ _ => (pe_call G_is_stretch (hr.mono (by decide)) (by rfl) g_is_stretch k_is_stretch b_is_stretch .nil pass0 (pa_cons (pv 1) pa_nil)))) pa_nil))))))), ?_⟩
    try dsimp only [cxOf, Cx.nox, Cx.wish]
    have hrl := My.plen hp
    walk_at "f"
    refine (TgV.tup ha).isT mem6 ?_
    walk_at "f"
    refine My.lenT (SqT.of ha) ?_
    walk_at "f"
    rotate_left
    · rename_i z
      exact absurd (show ((rs.map V.ref).length : Int) ≤ 3 by rw [List.length_map]; omega) z
    refine My.lcT rfl (SqT.of ha) (My.lcM (walk_tup (xs := rs.map V.ref)) Same (by rw [List.length_map]; omega) (fun D hD => same_new hD) fun D nD => ⟨fun j y H => y = .bl true, fun j y H ys o _ h => h, fun H o s => same_at s nD, fun H2 _ s _ => My.same_seqT s ha, ?_, ?_⟩)
    · rintro i x H2 H3 ys N hi r e l p' ⟨rfl, ex⟩ hN
      rw [List.getElem?_map] at ex
      cases eb : rs[i]? with
      | none => rw [eb] at ex; cases ex
      | some b1 =>
        rw [eb] at ex
        cases Option.some.inj ex
        obtain ⟨s1, es, hs⟩ := My.pget hp eb
        walk_at "f"
        refine ⟨rfl, ?_⟩
        walk_at "f"
        refine ⟨b1, s1, rfl, hs.same r, o _ (List.mem_iff_getElem?.mpr ⟨i, es⟩), ?_⟩
        exact hN _ _ r e (fun j v hv => p' j v hv) rfl
    · intro H2 ys hD hl2 s2 hy
      have ey : ys = (List.replicate ys.length true).map V.bl := by
        refine List.ext_getElem? fun j => ?_
        rw [List.getElem?_map, List.getElem?_replicate]
        split
        · rename_i z
          rw [List.getElem?_eq_getElem z, hy j _ (List.getElem?_eq_getElem z)]; rfl
        · rw [List.getElem?_eq_none (by omega)]; rfl
      walk_at "f"
      rw [ey] at hD
      refine My.allL (SqL.of hD) ?_
      rw [show (List.replicate ys.length true).all id = true by simp]
      exact k _ s2
end
end K25

set_option Elab.async false
set_option linter.all false
set_option maxRecDepth 100000
set_option maxHeartbeats 4000000
namespace K25
open PySem PySem.Spec PyProof.Rows L2 XV DX
theorem abs_if (x : Int) : (if x < 0 then -x else x) = (x.natAbs : Int) := by
  split <;> omega
theorem gcd_ne {t b : Int} (h : 0 < b) : 0 < ((Nat.gcd t.natAbs b.natAbs : Nat) : Int) := by
  have : 0 < Nat.gcd t.natAbs b.natAbs := Nat.gcd_pos_of_pos_right _ (by omega)
  omega
theorem gcd_le {t b : Int} (h : 0 < b) : Nat.gcd t.natAbs b.natAbs ≤ b.natAbs := Nat.le_of_dvd (by omega) (Nat.gcd_dvd_right _ _)
theorem ch_le : ∀ (n k : Nat), BM.ch n k ≤ 2 ^ n
  | n, 0 => by
    rw [BM.ch_zero]
    have := BM.pow_pos (a := 2) (by decide) n
    omega
  | 0, k + 1 => by simp [BM.ch]
  | n + 1, k + 1 => by
    have h1 := ch_le n (k + 1)
    have h2 := ch_le n k
    rw [BM.ch_succ, Int.pow_succ]
    omega
theorem ch_bd {n k : Nat} (h : n ≤ 60) : My.Bd 64 (BM.ch n k) := by
  have h1 := ch_le n k
  have h2 := BM.ch_nonneg n k
  have e : (2 : Int) ^ n = ((2 ^ n : Nat) : Int) := by push_cast; rfl
  have h3 : 2 ^ n < 2 ^ 64 := Nat.pow_lt_pow_right (by decide) (by omega)
  show (BM.ch n k).natAbs < 2 ^ 64
  omega
section
variable {P : Program} {w : World} {K : PySem.W.Frag} {mg : Str → Option Value} {base : Heap}
theorem sc_law_low : FnScope ["_law_top", "_law_bottom", "_law_one", "_law_other"] ["_law_top", "_law_bottom"] (defScope s_law_low) := ⟨rfl, rfl, rfl, by decide +kernel, rfl, by decide +kernel, by decide +kernel⟩
theorem cal_law_low {f : Addr} {fd : FuncData} (F : FnP K "_law_low" "_law_low" s_law_low f fd) (g : mg "_law_low" = some (.ref f)) (T : Txt0 mg) : Cal P w K mg base "_law_low" 1 ["_law_top", "_law_bottom"] spLow := by
  refine ⟨f, fd, g, ?_, F.bindsN (fun _ _ _ _ _ _ us hl => match us, hl with | [_, _], _ => rfl), F.kp⟩
  refine F.ok sc_law_low (fun vs H Q E h => ?_) (fun cdv A outer s H vs Q E hr h => ?_)
  · obtain ⟨t, b, rfl, hb, bb, k⟩ := h
    rfl
  · obtain ⟨t, b, rfl, hb, bb, k⟩ := h
    refine ⟨_, PSs.nox (pss_cons (ps_par (i := 2) (j := 3) (by rfl) sc_law_low.nd rfl rfl (by decide) rfl rfl (pa_cons (pe_callB My.c_abs (by rfl) T.abs boot_abs (pa_cons (pv 0) pa_nil)) (pa_cons (pe_callB My.c_abs (by rfl) T.abs boot_abs (pa_cons (pv 1) pa_nil)) pa_nil)) (by rfl))
      (pss_cons (ps_while PassesOwn.never (pt_cmpR op_gt (pv 3) pe_int (nomark _))
       (pss_one (ps_par (i := 2) (j := 3) (by rfl) sc_law_low.nd rfl rfl (by decide) rfl rfl (pa_cons (pv 3) (pa_cons (pe_op op_mod (pe_callTy My.c_int1 (by rfl) T.int boot_int (pa_cons (pv 2) pa_nil)) (pv 3)) pa_nil)) (by rfl))))
      (pss_cons (ps_set (i := 2) sc_law_low.nd rfl (Or.inl rfl) (pe_ifExp (pt_cmpR op_gt (pv 1) pe_int (nomark _)) (pv 2) (pe_un un_neg (pv 2))))
      (pss_one (ps_ret (pe_tup (pa_cons (pe_op op_fdivW (pv 0) (pv 2)) (pa_cons (pe_op op_fdivW (pv 1) (pv 2)) pa_nil)))))))), ?_⟩
    try dsimp only [cxOf, Cx.nox, Cx.wish]
    walk_at "f"
    rw [abs_if, abs_if]
    refine My.whileM (fun m σ' H' => ∃ x y : Nat, m = y ∧ H' = H ∧ Nat.gcd x y = Nat.gcd t.natAbs b.natAbs ∧ σ' = [some (.int t), some (.int b), some (.int (x : Int)), some (.int (y : Int))]) b.natAbs ⟨t.natAbs, b.natAbs, rfl, rfl, rfl, rfl⟩ ?_
    rintro m σ' H' ⟨x, y, rfl, rfl, eg, rfl⟩
    walk_at "f"
    · rename_i hy
      refine ⟨_, fun _ _ z => z, ?_⟩
      walk_at "f"
      refine ⟨_, ?_, m, x % m, rfl, rfl, ?_, rfl⟩
      · exact Nat.mod_lt _ (by omega)
      · rw [← eg, Nat.gcd_comm x m, Nat.gcd_rec m x, Nat.gcd_comm]
    · rename_i hy hz
      obtain rfl : m = 0 := by omega
      rw [Nat.gcd_zero_right] at eg
      subst eg
      have g0 := gcd_ne (t := t) hb
      have gb : My.Bd 8990 ((Nat.gcd t.natAbs b.natAbs : Nat) : Int) := bb.of_le (by rw [Int.natAbs_natCast]; exact gcd_le hb)
      refine My.divW (n := 8990) g0 gb (by decide) ?_
      walk_at "f"
      refine My.divW (n := 8990) g0 gb (by decide) ?_
      walk_at "f"
      exact My.new (My.sz (by simp)) k
    · rename_i hy hz
      exact absurd hb hz
theorem sc_law_power : FnScope ["_law_number", "_law_many", "_law_found", "_law_turn"] ["_law_number", "_law_many"] (defScope s_law_power) := ⟨rfl, rfl, rfl, by decide +kernel, rfl, by decide +kernel, by decide +kernel⟩
theorem cal_law_power {f : Addr} {fd : FuncData} (F : FnP K "_law_power" "_law_power" s_law_power f fd) (g : mg "_law_power" = some (.ref f)) (T : Txt0 mg) : Cal P w K mg base "_law_power" 1 ["_law_number", "_law_many"] spPow := by
  refine ⟨f, fd, g, ?_, F.bindsN (fun _ _ _ _ _ _ us hl => match us, hl with | [_, _], _ => rfl), F.kp⟩
  refine F.ok sc_law_power (fun vs H Q E h => ?_) (fun cdv A outer s H vs Q E hr h => ?_)
  · obtain ⟨x, n, B, rfl, bx, hB, hn, k⟩ := h
    rfl
  · obtain ⟨x, n, B, rfl, bx, hB, hn, k⟩ := h
    refine ⟨_, PSs.nox (pss_cons (ps_set (i := 2) sc_law_power.nd rfl (Or.inl rfl) pe_int)
      (pss_cons (ps_for PassesOwn.never rfl (pi_range1 (by rfl) T.range (pa_cons (pv 1) pa_nil)) (pg_name (i := 3) sc_law_power.nd rfl (Or.inl rfl))
       (pss_one (ps_set (i := 2) sc_law_power.nd rfl (Or.inl rfl) (pe_op op_mulW (pv 2) (pv 0)))))
      (pss_one (ps_ret (pv 2))))), ?_⟩
    try dsimp only [cxOf, Cx.nox, Cx.wish]
    walk_at "f"
    refine My.rngI (by omega) (by omega) (fun i σ' H' => H' = H ∧ ∃ u, σ' = [some (.int x), some (.int (n : Int)), some (.int (x ^ i)), u] ∧ My.Bd (i * B + 1) (x ^ i)) ⟨rfl, none, by rw [Int.pow_zero]; rfl, by rw [Int.pow_zero, Nat.zero_mul]; exact (by decide : (1 : Int).natAbs < 2 ^ 1)⟩ ?_ ?_
    · rintro i σ' H' hi ⟨rfl, u, rfl, bi⟩
      walk_at "f"
      have l : i * B + 1 + B ≤ 999990 := by
        have : i * B ≤ n * B := Nat.mul_le_mul_right _ (by omega)
        have : (n + 1) * B = n * B + B := Nat.succ_mul _ _
        omega
      refine My.mulW bi bx l ?_
      walk_at "f"
      refine ⟨rfl, some (.int (0 + (i : Int))), by rw [Int.pow_succ]; rfl, ?_⟩
      rw [Int.pow_succ]
      exact (bi.mul bx).mono (by rw [Nat.succ_mul]; omega)
    · rintro σ' H' ⟨rfl, u, rfl, bi⟩
      walk_at "f"
      exact k
theorem sc_law_binomial : FnScope ["_law_many", "_law_some", "_law_found", "_law_k"] ["_law_many", "_law_some"] (defScope s_law_binomial) := ⟨rfl, rfl, rfl, by decide +kernel, rfl, by decide +kernel, by decide +kernel⟩
theorem cal_law_binomial {f : Addr} {fd : FuncData} (F : FnP K "_law_binomial" "_law_binomial" s_law_binomial f fd) (g : mg "_law_binomial" = some (.ref f)) (T : Txt0 mg) : Cal P w K mg base "_law_binomial" 1 ["_law_many", "_law_some"] spBin := by
  refine ⟨f, fd, g, ?_, F.bindsN (fun _ _ _ _ _ _ us hl => match us, hl with | [_, _], _ => rfl), F.kp⟩
  refine F.ok sc_law_binomial (fun vs H Q E h => ?_) (fun cdv A outer s H vs Q E hr h => ?_)
  · obtain ⟨n, s, rfl, hn, hs, k⟩ := h
    rfl
  · obtain ⟨n, s, rfl, hn, hs, k⟩ := h
    refine ⟨_, PSs.nox (pss_cons (ps_set (i := 2) sc_law_binomial.nd rfl (Or.inl rfl) pe_int)
      (pss_cons (ps_for PassesOwn.never rfl (pi_range1 (by rfl) T.range (pa_cons (pv 1) pa_nil)) (pg_name (i := 3) sc_law_binomial.nd rfl (Or.inl rfl))
       (pss_one (ps_set (i := 2) sc_law_binomial.nd rfl (Or.inl rfl) (pe_op op_fdivW (pe_op op_mulW (pv 2) (pe_op op_sub (pv 0) (pv 3))) (pe_op op_add (pv 3) pe_int)))))
      (pss_one (ps_ret (pe_ifExp (pt_chain op_le op_le pe_int (pv 1) (pv 0)) (pv 2) pe_int))))), ?_⟩
    try dsimp only [cxOf, Cx.nox, Cx.wish]
    walk_at "f"
    have le : ∀ i, i ≤ s → My.Bd 64 (BM.ch n i) := fun i _ => ch_bd hn
    refine My.rngI (by omega) (by omega) (fun i σ' H' => H' = H ∧ ∃ u, σ' = [some (.int (n : Int)), some (.int (s : Int)), some (.int (BM.ch n i)), u]) ⟨rfl, none, by rw [BM.ch_zero]; rfl⟩ ?_ ?_
    · rintro i σ' H' hi ⟨rfl, u, rfl⟩
      have hi' : i < s := by omega
      walk_at "f"
      have bn : My.Bd 64 ((n : Int) - (0 + (i : Int))) := Nat.lt_of_lt_of_le (show _ < 200 by omega) (by decide)
      refine My.mulW (le i (by omega)) bn (by decide) ?_
      walk_at "f"
      refine My.divW (n := 64) (by omega) (Nat.lt_of_lt_of_le (show (0 + (i : Int) + 1).natAbs < 200 by omega) (by decide)) (by decide) ?_
      walk_at "f"
      refine ⟨rfl, some (.int (0 + (i : Int))), ?_⟩
      have e := BM.ch_step n i
      have e2 : BM.ch n i * ((n : Int) - (0 + (i : Int))) / (0 + (i : Int) + 1) = BM.ch n (i + 1) := by
        rw [show BM.ch n i * ((n : Int) - (0 + (i : Int))) = (0 + (i : Int) + 1) * BM.ch n (i + 1) by rw [Int.mul_comm, show (n : Int) - (0 + (i : Int)) = n - i by omega, ← e, show (0 + (i : Int) + 1) = (i : Int) + 1 by omega]]
        exact Int.mul_ediv_cancel_left _ (by omega)
      rw [e2]
      rfl
    · rintro σ' H' ⟨rfl, u, rfl⟩
      walk_at "f"
      · exact k
      · rename_i z
        rw [BM.ch_above (by omega)] at k
        exact k
      · rename_i z
        omega
end
end K25

set_option Elab.async false
set_option linter.all false
set_option maxRecDepth 100000
set_option maxHeartbeats 4000000
namespace K25
open PySem PySem.Spec PyProof.Rows L2 XV DX
/-- a stretch, as the program takes it and as the law does -/
def mkDm (D : Nat) (s : Str2) : BM.Dm where
  D := D
  U := ((Nat.lcm s.1.2.natAbs s.2.2.natAbs : Nat) : Int)
  L := s.1.1 * (((Nat.lcm s.1.2.natAbs s.2.2.natAbs : Nat) : Int) / s.1.2)
  H := s.2.1 * (((Nat.lcm s.1.2.natAbs s.2.2.natAbs : Nat) : Int) / s.2.2)
  l := s.1.1 * s.2.2
  h := s.2.1 * s.1.2
  u := s.1.2 * s.2.2
theorem lcm_div {a b : Int} (h : 0 < a) (g : 0 < b) : a * (((Nat.lcm a.natAbs b.natAbs : Nat) : Int) / a) = ((Nat.lcm a.natAbs b.natAbs : Nat) : Int) := by
  refine Int.mul_ediv_cancel' ?_
  have z := Nat.dvd_lcm_left a.natAbs b.natAbs
  have := Int.natCast_dvd_natCast.mpr z
  rw [Int.natAbs_of_nonneg (by omega)] at this
  exact this
theorem lcm_div' {a b : Int} (h : 0 < a) (g : 0 < b) : b * (((Nat.lcm a.natAbs b.natAbs : Nat) : Int) / b) = ((Nat.lcm a.natAbs b.natAbs : Nat) : Int) := by
  rw [Nat.lcm_comm]
  exact lcm_div g h
theorem lcm_pos {a b : Int} (h : 0 < a) (g : 0 < b) : 0 < ((Nat.lcm a.natAbs b.natAbs : Nat) : Int) := by
  have := Nat.lcm_pos (m := a.natAbs) (n := b.natAbs) (by omega) (by omega)
  omega
theorem mkDm_ok {D : Nat} {s : Str2} (o : StrOk s) : (mkDm D s).Ok := by
  have h1 := o.lo.pos
  have h2 := o.hi.pos
  have e1 := lcm_div h1 h2
  have e2 := lcm_div' h1 h2
  refine ⟨lcm_pos h1 h2, Int.mul_pos h1 h2, ?_, ?_⟩
  · show s.1.1 * _ * (s.1.2 * s.2.2) = s.1.1 * s.2.2 * _
    calc s.1.1 * (((Nat.lcm s.1.2.natAbs s.2.2.natAbs : Nat) : Int) / s.1.2) * (s.1.2 * s.2.2) = s.1.1 * s.2.2 * (s.1.2 * (((Nat.lcm s.1.2.natAbs s.2.2.natAbs : Nat) : Int) / s.1.2)) := by grind
      _ = _ := by rw [e1]; rfl
  · show s.2.1 * _ * (s.1.2 * s.2.2) = s.2.1 * s.1.2 * _
    calc s.2.1 * (((Nat.lcm s.1.2.natAbs s.2.2.natAbs : Nat) : Int) / s.2.2) * (s.1.2 * s.2.2) = s.2.1 * s.1.2 * (s.2.2 * (((Nat.lcm s.1.2.natAbs s.2.2.natAbs : Nat) : Int) / s.2.2)) := by grind
      _ = _ := by rw [e2]; rfl
theorem lcm_bd {a b : Int} (ha : My.Bd 150 a) (hb : My.Bd 150 b) : My.Bd 300 ((Nat.lcm a.natAbs b.natAbs : Nat) : Int) := by
  show (((Nat.lcm a.natAbs b.natAbs : Nat) : Int)).natAbs < 2 ^ 300
  rw [Int.natAbs_natCast, show 300 = 150 + 150 by rfl, Nat.pow_add]
  have h1 : a.natAbs.lcm b.natAbs ≤ a.natAbs * b.natAbs := Nat.div_le_self _ _
  have h2 : a.natAbs * b.natAbs < 2 ^ 150 * 2 ^ 150 := Nat.mul_lt_mul'' ha hb
  omega
theorem quo_bd {n : Nat} {a b : Int} (ha : My.Bd n a) (h0 : 0 < a) (hb : 0 < b) : My.Bd n (a / b) := by
  refine ha.of_le ?_
  have h1 : 0 ≤ a / b := Int.ediv_nonneg (by omega) (by omega)
  have h2 : a / b ≤ a := Int.ediv_le_self b (by omega)
  omega
theorem mkDm_bd {D : Nat} {s : Str2} (o : StrOk s) : My.Bd 450 (mkDm D s).L ∧ My.Bd 450 (mkDm D s).H ∧ My.Bd 450 (mkDm D s).U := by
  have h1 := o.lo.pos
  have h2 := o.hi.pos
  have b := lcm_bd o.lo.b2 o.hi.b2
  have p := lcm_pos h1 h2
  exact ⟨(o.lo.b1.mul (quo_bd b p h1)).mono (by decide), (o.hi.b1.mul (quo_bd b p h2)).mono (by decide), b.mono (by decide)⟩
def spShared : Sp := fun vs H Q _ => ∃ (a : Addr) (s : Str2), vs = [.ref a] ∧ StrAt H a s ∧ StrOk s ∧ ∀ p, H p = none → Q (.ref p) (upd H p (.tup [.int (mkDm 0 s).L, .int (mkDm 0 s).H, .int (mkDm 0 s).U]))
/-- a line times L + H t -/
def tl (xs : List Int) (L Hh : Int) : List Int := (List.range (xs.length + 1)).map fun j => xs.getD j 0 * L + (if j = 0 then 0 else xs.getD (j - 1) 0 * Hh)
def spTimes : Sp := fun vs H Q _ => ∃ (l : Addr) (xs : List Int) (L Hh : Int) (B C : Nat), vs = [.ref l, .int L, .int Hh] ∧ H l = some (.lst (xs.map V.int)) ∧ xs.length ≤ 100 ∧ (∀ x ∈ xs, My.Bd B x) ∧ My.Bd C L ∧ My.Bd C Hh ∧ B + C ≤ 100000 ∧
  ∀ p H', H p = none → Same H H' → H' p = some (.lst ((tl xs L Hh).map V.int)) → Q (.ref p) H'
section
variable {P : Program} {w : World} {K : PySem.W.Frag} {mg : Str → Option Value} {base : Heap}
theorem sc_shared_bottom : FnScope ["stretch", "low", "one", "high", "other", "under"] ["stretch"] (defScope s_shared_bottom) := ⟨rfl, rfl, rfl, by decide +kernel, rfl, by decide +kernel, by decide +kernel⟩
theorem cal_shared_bottom {f : Addr} {fd : FuncData} (F : FnP K "shared_bottom" "shared_bottom" s_shared_bottom f fd) (g : mg "shared_bottom" = some (.ref f)) (T : Txt0 mg) : Cal P w K mg base "shared_bottom" 1 ["stretch"] spShared := by
  refine ⟨f, fd, g, ?_, F.bindsN (fun _ _ _ _ _ _ us hl => match us, hl with | [_], _ => rfl), F.kp⟩
  refine F.ok sc_shared_bottom (fun vs H Q E h => ?_) (fun cdv A outer s H vs Q E hr h => ?_)
  · obtain ⟨a, s, rfl, ⟨p, q, ha, hp, hq⟩, o, k⟩ := h
    rfl
  · obtain ⟨a, s, rfl, ⟨p, q, ha, hp, hq⟩, o, k⟩ := h
    refine ⟨_, PSs.nox (pss_cons (ps_asg (pv 0) (pg_tup (by rfl) (pgs_cons (pg_tup (by rfl) (pgs_cons (pg_name (i := 1) sc_shared_bottom.nd rfl (Or.inl rfl)) (pgs_cons (pg_name (i := 2) sc_shared_bottom.nd rfl (Or.inl rfl)) pgs_nil))) (pgs_cons (pg_tup (by rfl) (pgs_cons (pg_name (i := 3) sc_shared_bottom.nd rfl (Or.inl rfl)) (pgs_cons (pg_name (i := 4) sc_shared_bottom.nd rfl (Or.inl rfl)) pgs_nil))) pgs_nil))))
      (pss_cons (ps_set (i := 5) sc_shared_bottom.nd rfl (Or.inl rfl) (pe_callBfun DX.cr_lcm (by rfl) T.lcm (pa_cons (pv 2) (pa_cons (pv 4) pa_nil))))
      (pss_one (ps_ret (pe_tup (pa_cons (pe_op op_mulW (pv 1) (pe_op op_fdivW (pv 5) (pv 2))) (pa_cons (pe_op op_mulW (pv 3) (pe_op op_fdivW (pv 5) (pv 4))) (pa_cons (pv 5) pa_nil)))))))), ?_⟩
    try dsimp only [cxOf, Cx.nox, Cx.wish]
    walk_at "f"
    refine My.gtup22 (SqT.of ha) (SqT.of hp) (SqT.of hq) rfl ?_
    have h1 := o.lo.pos
    have h2 := o.hi.pos
    have b := lcm_bd o.lo.b2 o.hi.b2
    have pp := lcm_pos h1 h2
    walk_at "f"
    refine ⟨_, _, rfl, o.lo.b2.mono (by decide), o.hi.b2.mono (by decide), ?_⟩
    walk_at "f"
    refine My.divW (n := 150) h1 o.lo.b2 (by decide) ?_
    refine My.mulW o.lo.b1 (quo_bd b pp h1) (by decide) ?_
    walk_at "f"
    refine My.divW (n := 150) h2 o.hi.b2 (by decide) ?_
    refine My.mulW o.hi.b1 (quo_bd b pp h2) (by decide) ?_
    walk_at "f"
    exact My.new (My.sz (by simp)) k
theorem sc_times_line : FnScope ["line", "low", "high", "count", "found", "at"] ["line", "low", "high"] (defScope s_times_line) := ⟨rfl, rfl, rfl, by decide +kernel, rfl, by decide +kernel, by decide +kernel⟩
theorem cal_times_line {f : Addr} {fd : FuncData} (F : FnP K "times_line" "times_line" s_times_line f fd) (g : mg "times_line" = some (.ref f)) (T : Txt0 mg) : Cal P w K mg base "times_line" 1 ["line", "low", "high"] spTimes := by
  refine ⟨f, fd, g, ?_, F.bindsN (fun _ _ _ _ _ _ us hl => match us, hl with | [_, _, _], _ => rfl), F.kp⟩
  refine F.ok sc_times_line (fun vs H Q E h => ?_) (fun cdv A outer s H vs Q E hr h => ?_)
  · obtain ⟨l, xs, L, Hh, B, C, rfl, hl, h100, hb, bL, bH, hBC, k⟩ := h
    rfl
  · obtain ⟨l, xs, L, Hh, B, C, rfl, hl, h100, hb, bL, bH, hBC, k⟩ := h
    refine ⟨_, PSs.nox (pss_cons (ps_set (i := 4) sc_times_line.nd rfl (Or.inl rfl) (pe_op op_cat (pe_lc (own := [("count", 3)]) (tt := tYes) (by rfl) sc_times_line.nd (pi_list (pv 0)) (blkOk_by (own := [("count", 3)]) (N := ["line", "low", "high", "count", "found", "at"]) (sc := (defScope s_times_line)) (by decide +kernel)) (fun _ _ _ _ _ => (pg_name (i := 3) sc_times_line.nd rfl (Or.inl rfl))) (fun _ _ _ _ _ => pts_nil) (fun _ _ _ _ _ => (pe_op op_mulW (pv 3) (pv 1)))) (pe_lst (pa_cons pe_int pa_nil))))
      (pss_cons (ps_for PassesOwn.never rfl (pi_enum (by rfl) T.enum (pa_cons (pv 0) pa_nil)) (pg_tup (by rfl) (pgs_cons (pg_name (i := 5) sc_times_line.nd rfl (Or.inl rfl)) (pgs_cons (pg_name (i := 3) sc_times_line.nd rfl (Or.inl rfl)) pgs_nil)))
       (pss_one (ps_augS (pv 4) (pe_op op_add (pv 5) pe_int) DX.get_list (pe_op op_mulW (pv 3) (pv 2)) ip_add set_list)))
      (pss_one (ps_ret (pv 4))))), ?_⟩
    try dsimp only [cxOf, Cx.nox, Cx.wish]
    have bz : ∀ j, My.Bd B (xs.getD j 0) := fun j => by
      rw [List.getD_eq_getElem?_getD]
      cases e : xs[j]? with
      | none => exact .zero
      | some x => exact hb x (List.mem_iff_getElem?.mpr ⟨j, e⟩)
    walk_at "f"
    refine ⟨l, rfl, ⟨_, SqL.of hl⟩, My.lcM (walk_list (xs := xs.map V.int)) Same (by rw [List.length_map]; omega) (fun D hD => same_new hD) fun D nD => ⟨fun j y H => y = .int (xs.getD j 0 * L), fun j y H ys o _ h => h, fun H o s => same_at s nD, fun H2 _ s _ => SqL.of (s _ _ hl), ?_, ?_⟩⟩
    · rintro i x H2 H3 ys N hi r e l' p' ⟨rfl, ex⟩ hN
      rw [List.getElem?_map] at ex
      cases eb : xs[i]? with
      | none => rw [eb] at ex; cases ex
      | some b =>
        rw [eb] at ex
        cases Option.some.inj ex
        have eg : xs.getD i 0 = b := by rw [List.getD_eq_getElem?_getD, eb]; rfl
        walk_at "f"
        refine ⟨rfl, ?_⟩
        walk_at "f"
        refine My.mulW (hb b (List.mem_iff_getElem?.mpr ⟨i, eb⟩)) bL (by omega) ?_
        exact hN _ _ r e (fun j v hv => p' j v hv) (by show V.int _ = V.int (xs.getD i 0 * L); rw [eg])
    · intro H2 ys hD hl2 s2 hy
      rw [List.length_map] at hl2
      have ey : ys = (List.range xs.length).map fun j => V.int (xs.getD j 0 * L) := map_of hl2 hy
      walk_at "f"
      refine My.new (My.sz (by simp)) fun p1 n1 => ?_
      have hD1 := same_new (o := HO.lst [V.int 0]) n1 _ _ hD
      refine My.cat hD1 upd_same (by rw [hl2]; show xs.length + 1 ≤ 1000; omega) fun p2 n2 => ?_
      have s12 := (s2.trans (same_new (o := HO.lst [V.int 0]) n1)).trans (same_new (o := HO.lst (ys ++ [V.int 0])) n2)
      have np2 : H p2 = none := (s2.trans (same_new (o := HO.lst [V.int 0]) n1)).free n2
      have e2 := upd_same (H := upd H2 p1 (HO.lst [V.int 0])) (a := p2) (o := HO.lst (ys ++ [V.int 0]))
      have hl3 := s12 _ _ hl
      generalize upd (upd H2 p1 (HO.lst [V.int 0])) p2 (HO.lst (ys ++ [V.int 0])) = H3 at s12 e2 hl3 ⊢
      walk_at "f"
      refine My.forEn1 ?_
      walk_at "f"
      have lp2 : l ≠ p2 := fun z => by rw [z, np2] at hl; cases hl
      refine My.forEn (SqL.of hl3) (fun i σ' H' => ∃ u v, σ' = [some (.ref l), some (.int L), some (.int Hh), u, some (.ref p2), v] ∧ Same H H' ∧ H' p2 = some (.lst ((List.range (xs.length + 1)).map fun j => V.int (xs.getD j 0 * L + (if j = 0 then 0 else if j ≤ i then xs.getD (j - 1) 0 * Hh else 0)))) ∧ H' l = some (.lst (xs.map V.int))) ⟨_, _, rfl, s12, ?_, hl3⟩ (fun _ _ _ _ ⟨_, _, _, _, _, z⟩ => SqL.of z) ?_ ?_
      · rw [e2, ey]
        congr 2
        rw [List.range_succ, List.map_append]
        congr 1
        · refine List.map_congr_left fun j hj => ?_
          have : (if j = 0 then 0 else if j ≤ 0 then xs.getD (j - 1) 0 * Hh else 0) = 0 := by
            split
            · rfl
            · rw [if_neg (by omega)]
          rw [this, Int.add_zero]
        · have : xs.getD xs.length 0 = 0 := by rw [List.getD_eq_getElem?_getD, List.getElem?_eq_none (Nat.le_refl _)]; rfl
          simp only [List.map_cons, List.map_nil, this, Int.zero_mul, Int.zero_add]
          congr 1
          congr 1
          split
          · rfl
          · rw [if_neg (by omega)]
      · rintro i x T σ' H4 ex ⟨u, v, rfl, s4, e4, l4⟩ nT
        rw [List.getElem?_map] at ex
        cases eb : xs[i]? with
        | none => rw [eb] at ex; cases ex
        | some b =>
          rw [eb] at ex
          cases Option.some.inj ex
          have hi : i < xs.length := (List.getElem?_eq_some_iff.mp eb).1
          have eg : xs.getD i 0 = b := by rw [List.getD_eq_getElem?_getD, eb]; rfl
          have sT := same_new (o := HO.tup [V.int (i : Nat), V.int b]) nT
          refine My.gtup2 (SqT.of upd_same) rfl ?_
          have s5 := s4.trans sT
          have e5 := sT _ _ e4
          have l5 := sT _ _ l4
          generalize upd H4 T _ = H5 at s5 e5 l5 ⊢
          walk_at "f"
          rw [show (i : Int) + 1 = ((i + 1 : Nat) : Int) by omega]
          refine My.getL (SqL.of e5) (n := i + 1) (v := .int (xs.getD (i + 1) 0 * L)) ?_ ?_
          · rw [List.getElem?_map, List.getElem?_range (by omega)]
            show some (V.int (_ + if i + 1 = 0 then 0 else if i + 1 ≤ i then _ else 0)) = _
            rw [if_neg (by omega), if_neg (by omega), Int.add_zero]
          walk_at "f"
          refine My.mulW (hb b (List.mem_iff_getElem?.mpr ⟨i, eb⟩)) bH (by omega) ?_
          walk_at "f"
          refine My.setL e5 (by rw [List.length_map, List.length_range]; omega) ?_
          refine ⟨_, _, rfl, fun b o eo => ?_, ?_, ?_⟩
          · rw [upd_ne (ne_of_none eo np2)]
            exact s5 _ _ eo
          · rw [upd_same]
            congr 2
            refine List.ext_getElem? fun j => ?_
            rw [List.getElem?_set, List.getElem?_map]
            split
            · rename_i ej
              subst ej
              rw [if_pos (by rw [List.length_map, List.length_range]; omega), List.getElem?_map, List.getElem?_range (by omega)]
              show _ = some (V.int (_ + if i + 1 = 0 then 0 else if i + 1 ≤ i + 1 then _ else 0))
              rw [if_neg (by omega), if_pos (Nat.le_refl _), show i + 1 - 1 = i by omega, eg]
            · rename_i ej
              rw [List.getElem?_map]
              by_cases hj : j < xs.length + 1
              · rw [List.getElem?_range hj]
                simp only [Option.map_some]
                congr 3
                by_cases j0 : j = 0
                · rw [if_pos j0, if_pos j0]
                · rw [if_neg j0, if_neg j0]
                  by_cases ji : j ≤ i
                  · rw [if_pos ji, if_pos (by omega)]
                  · rw [if_neg ji, if_neg (by omega)]
              · rw [List.getElem?_eq_none (by rw [List.length_range]; omega)]; rfl
          · rw [upd_ne lp2]; exact l5
      · rintro σ' H4 ⟨u, v, rfl, s4, e4, l4⟩
        walk_at "f"
        refine k p2 _ np2 s4 ?_
        rw [e4, tl, List.map_map]
        congr 2
        rw [List.length_map]
        refine List.map_congr_left fun j hj => ?_
        have hj' : j < xs.length + 1 := List.mem_range.mp hj
        show V.int _ = V.int _
        congr 2
        split
        · rfl
        · rw [if_pos (by omega)]
end
end K25

set_option linter.all false
namespace BM
/-- what has come from the power a on -/
def Fs (xs : List Int) (L H U : Int) (n a i : Nat) : Int := sm (n - a + 1) fun d => xs.getD (a + d) 0 * (U ^ (n - a - d) * cg L H (n - a - d) d i)
def prev (f : Nat → Int) (i : Nat) : Int := if i = 0 then 0 else f (i - 1)
theorem Fs_last (xs : List Int) (L H U : Int) (n i : Nat) : Fs xs L H U n n i = xs.getD n 0 * ch 0 i := by
  unfold Fs
  rw [Nat.sub_self]
  simp [sm, cg]
theorem Fs_step (xs : List Int) (L H U : Int) {n a : Nat} (h : a < n) (i : Nat) :
    Fs xs L H U n a i = (Fs xs L H U n (a + 1) i * L + prev (Fs xs L H U n (a + 1)) i * H) + xs.getD a 0 * (U ^ (n - a) * ch (n - a) i) := by
  unfold Fs
  rw [sm_front]
  have e0 : xs.getD (a + 0) 0 * (U ^ (n - a - 0) * cg L H (n - a - 0) 0 i) = xs.getD a 0 * (U ^ (n - a) * ch (n - a) i) := by simp [cg]
  rw [e0, show n - (a + 1) + 1 = n - a by omega]
  have e : sm (n - a) (fun t => xs.getD (a + (t + 1)) 0 * (U ^ (n - a - (t + 1)) * cg L H (n - a - (t + 1)) (t + 1) i)) =
      L * sm (n - a) (fun d => xs.getD (a + 1 + d) 0 * (U ^ (n - (a + 1) - d) * cg L H (n - (a + 1) - d) d i)) + H * prev (fun i => sm (n - a) (fun d => xs.getD (a + 1 + d) 0 * (U ^ (n - (a + 1) - d) * cg L H (n - (a + 1) - d) d i))) i := by
    cases i with
    | zero =>
      simp only [prev, if_true, Int.mul_zero, Int.add_zero]
      rw [← sm_mul]
      refine sm_congr fun t ht => ?_
      rw [show a + (t + 1) = a + 1 + t by omega, show n - a - (t + 1) = n - (a + 1) - t by omega]
      simp only [cg]
      grind
    | succ i =>
      simp only [prev, Nat.succ_ne_zero, if_false, Nat.add_sub_cancel]
      rw [← sm_mul, ← sm_mul, ← sm_add]
      refine sm_congr fun t ht => ?_
      rw [show a + (t + 1) = a + 1 + t by omega, show n - a - (t + 1) = n - (a + 1) - t by omega]
      simp only [cg]
      grind
  rw [e]
  grind
theorem Fs_above (xs : List Int) (L H U : Int) {n a i : Nat} (h : n - a < i) : Fs xs L H U n a i = 0 := by
  unfold Fs
  refine sm_zero fun t ht => ?_
  rw [cg_above L H (by omega)]
  simp
/-- all of it: the weights -/
theorem Fs_all (xs : List Int) (d : Dm) (i : Nat) : Fs xs d.L d.H d.U d.D 0 i = sm (d.D + 1) fun j => xs.getD j 0 * wt d j i := by
  unfold Fs wt
  rw [Nat.sub_zero]
  refine sm_congr fun j hj => ?_
  rw [Nat.zero_add]
end BM

set_option Elab.async false
set_option linter.all false
set_option maxRecDepth 100000
set_option maxHeartbeats 4000000
namespace K25
open PySem PySem.Spec PyProof.Rows L2 XV DX
/-- a list by its items -/
def lsF (n : Nat) (f : Nat → Int) : List V := (List.range n).map fun j => V.int (f j)
theorem lsF_get {n i : Nat} {f : Nat → Int} (h : i < n) : (lsF n f)[i]? = some (V.int (f i)) := by
  unfold lsF
  rw [List.getElem?_map, List.getElem?_range h]; rfl
theorem lsF_len {n : Nat} {f : Nat → Int} : (lsF n f).length = n := by
  unfold lsF
  rw [List.length_map, List.length_range]
theorem lsF_eq {n : Nat} {f g : Nat → Int} (h : ∀ i, i < n → f i = g i) : lsF n f = lsF n g := by
  unfold lsF
  exact List.map_congr_left fun i hi => by rw [h i (List.mem_range.mp hi)]
theorem lsF_ints (n : Nat) (f : Nat → Int) : lsF n f = ((List.range n).map f).map V.int := by
  unfold lsF
  rw [List.map_map]; rfl
/-- the powers of U + U t -/
def whI (U : Int) (m : Nat) : Nat → Int := fun i => U ^ m * BM.ch m i
def Wholes (H : Hp) (ws : List Addr) (U : Int) : Prop := ∀ (m : Nat) (w : Addr), ws[m]? = some w → H w = some (.lst (lsF (m + 1) (whI U m)))
theorem Wholes.same {H H' : Hp} {ws : List Addr} {U : Int} (s : Same H H') (h : Wholes H ws U) : Wholes H' ws U := fun m w e => s _ _ (h m w e)
def spTurned : Sp := fun vs H Q _ => ∃ (l W : Addr) (xs : List Int) (L Hh U : Int) (ws : List Addr) (n B C : Nat), vs = [.ref l, .int L, .int Hh, .ref W] ∧ H l = some (.lst (xs.map V.int)) ∧ xs.length = n + 1 ∧ n ≤ 60 ∧ H W = some (.lst (ws.map V.ref)) ∧ ws.length = n + 1 ∧ Wholes H ws U ∧
  (∀ x ∈ xs, My.Bd B x) ∧ My.Bd C L ∧ My.Bd C Hh ∧ My.Bd C U ∧ B + 62 * (C + 4) ≤ 90000 ∧ ∀ p H', H p = none → Same H H' → H' p = some (.lst (lsF (n + 1) (BM.Fs xs L Hh U n 0))) → Q (.ref p) H'
theorem pow_bd {C : Nat} {x : Int} (h : My.Bd C x) : ∀ n : Nat, My.Bd (n * C + 1) (x ^ n)
  | 0 => by rw [Int.pow_zero, Nat.zero_mul]; exact (by decide : (1 : Int).natAbs < 2 ^ 1)
  | n + 1 => by
    rw [Int.pow_succ]
    exact ((pow_bd h n).mul h).mono (by rw [Nat.succ_mul]; omega)
theorem ch_bdn (n k : Nat) : My.Bd (n + 1) (BM.ch n k) := by
  have h1 := ch_le n k
  have h2 := BM.ch_nonneg n k
  have e : (2 : Int) ^ n = ((2 ^ n : Nat) : Int) := by push_cast; rfl
  have h3 : 2 ^ n < 2 ^ (n + 1) := Nat.pow_lt_pow_right (by decide) (by omega)
  show (BM.ch n k).natAbs < 2 ^ (n + 1)
  omega
theorem whI_bd {C : Nat} {U : Int} (h : My.Bd C U) (m i : Nat) : My.Bd (m * C + m + 2) (whI U m i) := ((pow_bd h m).mul (ch_bdn m i)).mono (by omega)
theorem getD_bd {B : Nat} {xs : List Int} (h : ∀ x ∈ xs, My.Bd B x) (j : Nat) : My.Bd B (xs.getD j 0) := by
  rw [List.getD_eq_getElem?_getD]
  cases e : xs[j]? with
  | none => exact .zero
  | some x => exact h x (List.mem_iff_getElem?.mpr ⟨j, e⟩)
theorem prev_bd {B : Nat} {f : Nat → Int} (h : ∀ i, My.Bd B (f i)) (i : Nat) : My.Bd B (BM.prev f i) := by
  unfold BM.prev
  split
  · exact .zero
  · exact h _
theorem Fs_bd {B C n : Nat} {xs : List Int} {L Hh U : Int} (hb : ∀ x ∈ xs, My.Bd B x) (bL : My.Bd C L) (bH : My.Bd C Hh) (bU : My.Bd C U) : ∀ (m a : Nat), a + m = n → ∀ i, My.Bd (B + m * (C + 4) + 2) (BM.Fs xs L Hh U n a i)
  | 0, a, e, i => by
    obtain rfl : a = n := by omega
    rw [BM.Fs_last]
    exact My.Bd.mono (n := B + (0 + 1)) (m := B + 0 * (C + 4) + 2) ((getD_bd hb a).mul (ch_bdn 0 i)) (by omega)
  | m + 1, a, e, i => by
    have ih := fun i => Fs_bd (n := n) hb bL bH bU m (a + 1) (by omega) i
    rw [BM.Fs_step xs L Hh U (n := n) (a := a) (by omega)]
    rw [show n - a = m + 1 by omega]
    have h1 := ((ih i).mul bL).add ((prev_bd ih i).mul bH)
    have h2 := (getD_bd hb a).mul (whI_bd bU (m + 1) i)
    have h3 : (m + 1) * (C + 4) = m * (C + 4) + (C + 4) := Nat.succ_mul _ _
    have h4 : (m + 1) * (C + 4) = (m + 1) * C + (m + 1) * 4 := Nat.mul_add _ _ _
    exact My.Bd.mono (n := B + (m + 1) * (C + 4) + 1 + 1) (m := B + (m + 1) * (C + 4) + 2) (My.Bd.add (h1.mono (m := B + (m + 1) * (C + 4) + 1) (by omega)) (h2.mono (m := B + (m + 1) * (C + 4) + 1) (by omega))) (by omega)
theorem tl_Fs {n a : Nat} {xs : List Int} {L Hh U : Int} (h : a < n) : (tl ((List.range (n - a)).map (BM.Fs xs L Hh U n (a + 1))) L Hh).map V.int = lsF (n - a + 1) fun i => BM.Fs xs L Hh U n (a + 1) i * L + BM.prev (BM.Fs xs L Hh U n (a + 1)) i * Hh := by
  unfold tl lsF
  rw [List.length_map, List.length_range, List.map_map]
  have g : ∀ j, ((List.range (n - a)).map (BM.Fs xs L Hh U n (a + 1))).getD j 0 = BM.Fs xs L Hh U n (a + 1) j := fun j => by
    rw [List.getD_eq_getElem?_getD, List.getElem?_map]
    by_cases hj : j < n - a
    · rw [List.getElem?_range hj]; rfl
    · rw [List.getElem?_eq_none (by rw [List.length_range]; omega), BM.Fs_above (h := by omega)]; rfl
  refine List.map_congr_left fun j _ => ?_
  simp only [Function.comp, g]
  unfold BM.prev
  congr 2
  split
  · rw [Int.zero_mul]
  · rfl
section
variable {P : Program} {w : World} {K : PySem.W.Frag} {mg : Str → Option Value} {base : Heap}
theorem sc_turned : FnScope ["line", "low", "high", "wholes", "found", "at", "count", "whole"] ["line", "low", "high", "wholes"] (defScope s_turned) := ⟨rfl, rfl, rfl, by decide +kernel, rfl, by decide +kernel, by decide +kernel⟩
theorem cal_turned {f : Addr} {fd : FuncData} (F : FnP K "turned" "turned" s_turned f fd) (g : mg "turned" = some (.ref f)) (T : Txt0 mg) (C_times_line : Cal P w K mg base "times_line" 1 ["line", "low", "high"] spTimes) : Cal P w K mg base "turned" 2 ["line", "low", "high", "wholes"] spTurned := by
  obtain ⟨f_times_line, fd_times_line, g_times_line, G_times_line, b_times_line, k_times_line⟩ := C_times_line
  refine ⟨f, fd, g, ?_, F.bindsN (fun _ _ _ _ _ _ us hl => match us, hl with | [_, _, _, _], _ => rfl), F.kp⟩
  refine F.ok sc_turned (fun vs H Q E h => ?_) (fun cdv A outer s H vs Q E hr h => ?_)
  · obtain ⟨l, W, xs, L, Hh, U, ws, n, B, C, rfl, hl, hx, hn, hW, hwl, hw, hb, bL, bH, bU, hBC, k⟩ := h
    rfl
  · obtain ⟨l, W, xs, L, Hh, U, ws, n, B, C, rfl, hl, hx, hn, hW, hwl, hw, hb, bL, bH, bU, hBC, k⟩ := h
    refine ⟨_, PSs.nox (pss_cons (ps_set (i := 4) sc_turned.nd rfl (Or.inl rfl) (pe_lst (pa_cons (pe_ix ix_list (pv 0) (pe_un un_neg pe_int) (fun _ _ => rfl)) pa_nil)))
      (pss_cons (ps_for PassesOwn.never rfl (pi_range3 (by rfl) T.range (pa_cons (pe_op op_sub (pe_callB My.c_len (by rfl) T.len PySem.boot_len (pa_cons (pv 0) pa_nil)) pe_int) (pa_cons (pe_un un_neg pe_int) (pa_cons (pe_un un_neg pe_int) pa_nil)))) (pg_name (i := 5) sc_turned.nd rfl (Or.inr rfl))
       (pss_cons (ps_set (i := 4) sc_turned.nd rfl (Or.inl rfl) (pe_call G_times_line (hr.mono (by decide)) (by rfl) g_times_line k_times_line b_times_line .nil pass0 (pa_cons (pv 4) (pa_cons (pv 1) (pa_cons (pv 2) pa_nil)))))
      (pss_one (ps_if (pt_cmpR op_ne (pe_ix ix_list (pv 0) (pv 5) (fun _ _ => rfl)) pe_int (nomark _))
       (pss_one (ps_setLc (i := 4) (own := [("count", 6), ("whole", 7)]) (tt := tYes) (te := tOp (rI0 fun i j => .int (i + j)) (tVar 6) (tOp (rI CMulW fun i j => .int (i * j)) (tOp (rIxL K) (tVar 0) (tVar 5)) (tVar 7))) (g := gTup K 2 (gCons (gName 6) (gCons (gName 7) gNil))) (by rfl) sc_turned.nd rfl rfl (sw_true rfl rfl rfl (by decide +kernel)) (pi_zip (by rfl) T.zip (pa_cons (pv 4) (pa_cons (pe_ix ix_list (pv 3) (pe_op op_sub (pe_op op_sub (pe_callB My.c_len (by rfl) T.len PySem.boot_len (pa_cons (pv 0) pa_nil)) pe_int) (pv 5)) (fun _ _ => rfl)) pa_nil))) (blkOk_by (own := [("count", 6), ("whole", 7)]) (N := ["line", "low", "high", "wholes", "found", "at", "count", "whole"]) (sc := (defScope s_turned)) (by decide +kernel)) (fun _ _ _ _ _ => (pg_tup (by rfl) (pgs_cons (pg_name (i := 6) sc_turned.nd rfl (Or.inl rfl)) (pgs_cons (pg_name (i := 7) sc_turned.nd rfl (Or.inl rfl)) pgs_nil)))) (fun _ _ _ _ _ => pts_nil) (fun _ _ _ _ _ => (pe_op op_add (pv 6) (pe_op op_mulW (pe_ix ix_list (pv 0) (pv 5) (fun _ _ => rfl)) (pv 7))))))
       pss_nil))))
      (pss_one (ps_ret (pv 4))))), ?_⟩
    try dsimp only [cxOf, Cx.nox, Cx.wish]
    have xe : ∃ ys y, xs = ys ++ [y] ∧ ys.length = n := by
      rcases List.eq_nil_or_concat xs with e | ⟨ys, y, e⟩
      · rw [e] at hx; cases hx
      · rw [List.concat_eq_append] at e
        exact ⟨ys, y, e, by rw [e, List.length_append] at hx; simpa using hx⟩
    obtain ⟨ys, y, ey, hys⟩ := xe
    have ylast : xs.getD n 0 = y := by
      rw [ey, List.getD_eq_getElem?_getD, List.getElem?_append_right (by omega), hys, Nat.sub_self]; rfl
    walk_at "f"
    refine My.ixLast (xs := ys.map V.int) (x := .int y) (by rw [show ys.map V.int ++ [V.int y] = xs.map V.int by rw [ey, List.map_append]; rfl]; exact SqL.of hl) ?_
    refine My.new (My.sz (by simp)) fun p1 n1 => ?_
    have s1 := same_new (o := HO.lst [V.int y]) n1
    walk_at "f"
    refine My.lenL (SqL.of (s1 _ _ hl)) ?_
    walk_at "f"
    refine My.rng3 (n := n) (by omega) (by rw [List.length_map]; omega) rfl (fun i σ' H' => ∃ fp u v x, σ' = [some (.ref l), some (.int L), some (.int Hh), some (.ref W), some (.ref fp), u, v, x] ∧ H fp = none ∧ Same H H' ∧ H' fp = some (.lst (lsF (i + 1) (BM.Fs xs L Hh U n (n - i))))) ⟨p1, none, none, none, rfl, n1, s1, ?_⟩ ?_ ?_
    · rw [upd_same]
      show some (HO.lst [V.int y]) = some (HO.lst [V.int (BM.Fs xs L Hh U n (n - 0) 0)])
      rw [Nat.sub_zero, BM.Fs_last, ylast, BM.ch_zero, Int.mul_one]
    · rintro i σ' H1 hi ⟨fp, u, v, x, rfl, nf, s2, hf⟩
      have ea : n - i = n - 1 - i + 1 := by omega
      have ena : i + 1 = n - (n - 1 - i) := by omega
      have fb := Fs_bd (n := n) hb bL bH bU
      walk_at "f"
      refine ⟨fp, (List.range (i + 1)).map (BM.Fs xs L Hh U n (n - i)), L, Hh, B + i * (C + 4) + 2, C, rfl, by rw [← lsF_ints]; exact hf, by rw [List.length_map, List.length_range]; omega, fun z hz => ?_, bL, bH, ?_, fun p2 H2 np2 s3 hp2 => ?_⟩
      · obtain ⟨j, _, rfl⟩ := List.mem_map.mp hz
        exact fb i (n - i) (by omega) j
      · have : i * (C + 4) ≤ 60 * (C + 4) := Nat.mul_le_mul_right _ (by omega)
        have : 62 * (C + 4) = 60 * (C + 4) + 2 * (C + 4) := by rw [← Nat.add_mul]
        omega
      rw [ena, ea, tl_Fs (by omega)] at hp2
      have s4 := s2.trans s3
      have np2' : H p2 = none := s2.free np2
      have hxi : xs[n - 1 - i]? = some (xs.getD (n - 1 - i) 0) := by
        rw [List.getD_eq_getElem?_getD, List.getElem?_eq_getElem (by omega)]; rfl
      have hxv : (xs.map V.int)[n - 1 - i]? = some (.int (xs.getD (n - 1 - i) 0)) := by rw [List.getElem?_map, hxi]; rfl
      walk_at "f"
      refine My.ixL (SqL.of (s4 _ _ hl)) (atI_nat hxv) ?_
      walk_at "g"
      rotate_left
      · rename_i z0
        refine ⟨p2, _, _, _, rfl, np2', s4, ?_⟩
        rw [hp2, ← ena]
        refine congrArg (fun z => some (HO.lst z)) (lsF_eq fun j hj => ?_)
        rw [show n - (i + 1) = n - 1 - i by omega, BM.Fs_step xs L Hh U (n := n) (a := n - 1 - i) (by omega), z0, Int.zero_mul, Int.add_zero]
      · refine My.lenL (SqL.of (s4 _ _ hl)) ?_
        walk_at "f"
        have hwi : ∃ wa, ws[i + 1]? = some wa := ⟨ws[i + 1], List.getElem?_eq_getElem (by omega)⟩
        obtain ⟨wa, hwa⟩ := hwi
        have ei : (((xs.map V.int).length : Int) - 1 - ((n - 1 - i : Nat) : Int)) = ((i + 1 : Nat) : Int) := by rw [List.length_map]; omega
        rw [ei]
        refine My.ixL (SqL.of (s4 _ _ hW)) (atI_nat (by rw [List.getElem?_map, hwa]; rfl)) ?_
        have hwo := s4 _ _ (hw _ _ hwa)
        refine ⟨p2, wa, _, _, rfl, SqL.of hp2, SqL.of hwo, My.lcM (walk_zip (n := i + 2) (by rw [lsF_len, lsF_len]; omega)) Same (by omega) (fun D hD => same_new hD) fun D nD => ⟨fun j y H => y = .int (BM.Fs xs L Hh U n (n - 1 - i) j), fun j y H ys o _ h => h, fun H o s => same_at s nD, fun H2 _ s _ => ⟨SqL.of (s _ _ hp2), SqL.of (s _ _ hwo)⟩, ?_, ?_⟩⟩
        · rintro j x H4 H5 zs N hj r e l' p' ⟨T, a, b, rfl, nT, rfl, ea1, eb1⟩ hN
          cases Option.some.inj ((lsF_get (by omega)).symm.trans ea1)
          cases Option.some.inj ((lsF_get (by omega)).symm.trans eb1)
          have sT := same_new (o := HO.tup [V.int (BM.Fs xs L Hh U n (n - 1 - i + 1) j * L + BM.prev (BM.Fs xs L Hh U n (n - 1 - i + 1)) j * Hh), V.int (whI U (i + 1) j)]) nT
          refine My.gtup2 (SqT.of upd_same) rfl ?_
          have r5 := r.trans sT
          have e5 := sT _ _ e
          generalize upd H4 T _ = H6 at r5 e5 ⊢
          refine ⟨rfl, ?_⟩
          walk_at "f"
          refine My.ixL (SqL.of ((s4.trans r5) _ _ hl)) (atI_nat hxv) ?_
          have bw := whI_bd bU (i + 1) j
          have l1 : (i + 1) * C ≤ 60 * C := Nat.mul_le_mul_right _ (by omega)
          have l2 : 62 * (C + 4) = 62 * C + 62 * 4 := Nat.mul_add _ _ _
          walk_at "f"
          refine My.mulW (getD_bd hb _) bw (by omega) ?_
          walk_at "f"
          refine hN _ _ r5 e5 (fun j v hv => p' j v hv) ?_
          show V.int _ = V.int _
          rw [BM.Fs_step xs L Hh U (n := n) (a := n - 1 - i) (by omega), show n - (n - 1 - i) = i + 1 by omega]
          rfl
        · intro H4 zs hD hl2 s5 hz
          walk_at "f"
          refine ⟨D, _, _, _, rfl, s4.free nD, s4.trans s5, ?_⟩
          rw [hD, map_of hl2 hz, show n - (i + 1) = n - 1 - i by omega]
          rfl
    · rintro σ' H1 ⟨fp, u, v, x, rfl, nf, s2, hf⟩
      walk_at "f"
      rw [Nat.sub_self] at hf
      exact k fp H1 nf s2 hf
end
end K25

set_option Elab.async false
set_option linter.all false
set_option maxRecDepth 100000
set_option maxHeartbeats 4000000
/-! rows of counts by their keys: one power taken out, put in -/
namespace K25
open PySem PySem.Spec PyProof.Rows L2 DX
def del (k : Nat) (l : List Int) : List Int := l.take k ++ l.drop (k + 1)
def ins (k : Nat) (l : List Int) (a : Int) : List Int := l.take k ++ a :: l.drop k
theorem del_len {k : Nat} {l : List Int} (h : k < l.length) : (del k l).length + 1 = l.length := by
  unfold del
  rw [List.length_append, List.length_take, List.length_drop]
  omega
theorem ins_len {k : Nat} {l : List Int} {a : Int} (h : k ≤ l.length) : (ins k l a).length = l.length + 1 := by
  unfold ins
  rw [List.length_append, List.length_take, List.length_cons, List.length_drop]
  omega
theorem ins_at {k : Nat} {l : List Int} {a : Int} (h : k ≤ l.length) : (ins k l a).getD k 0 = a := by
  unfold ins
  rw [List.getD_eq_getElem?_getD, List.getElem?_append_right (by rw [List.length_take]; omega), List.length_take, Nat.min_eq_left h, Nat.sub_self]; rfl
theorem del_ins {k : Nat} {l : List Int} {a : Int} (h : k ≤ l.length) : del k (ins k l a) = l := by
  unfold del ins
  rw [List.take_append_of_le_length (by rw [List.length_take]; omega), List.take_take, Nat.min_self, List.drop_append]
  rw [List.drop_eq_nil_of_le (by rw [List.length_take]; omega), List.nil_append, List.length_take, Nat.min_eq_left h, show k + 1 - k = 1 by omega]
  show _ ++ l.drop k = l
  exact List.take_append_drop k l
theorem ins_del {k : Nat} {l : List Int} (h : k < l.length) : ins k (del k l) (l.getD k 0) = l := by
  unfold del ins
  have e1 : (l.take k ++ l.drop (k + 1)).take k = l.take k := by
    rw [List.take_append_of_le_length (by rw [List.length_take]; omega), List.take_take, Nat.min_self]
  have e2 : (l.take k ++ l.drop (k + 1)).drop k = l.drop (k + 1) := by
    rw [List.drop_append, List.drop_eq_nil_of_le (by rw [List.length_take]; omega), List.nil_append, List.length_take, Nat.min_eq_left (by omega), Nat.sub_self]; rfl
  rw [e1, e2]
  have e3 : l.getD k 0 :: l.drop (k + 1) = l.drop k := by
    rw [List.drop_eq_getElem_cons h, List.getD_eq_getElem?_getD, List.getElem?_eq_getElem h]; rfl
  rw [e3]
  exact List.take_append_drop k l
theorem ins_inj {k : Nat} {l m : List Int} {a b : Int} (hl : k ≤ l.length) (hm : k ≤ m.length) (e : ins k l a = ins k m b) : l = m ∧ a = b := by
  have h1 : del k (ins k l a) = del k (ins k m b) := by rw [e]
  have h2 : (ins k l a).getD k 0 = (ins k m b).getD k 0 := by rw [e]
  rw [del_ins hl, del_ins hm] at h1
  rw [ins_at hl, ins_at hm] at h2
  exact ⟨h1, h2⟩
/-- what stands at a key -/
def val (m : Pol) (k : List Int) : Int := (getP m k).getD 0
theorem getP_none {m : Pol} {k : List Int} (h : k ∉ keysP m) : getP m k = none := by
  unfold getP
  cases e : m.find? (fun p => decide (p.1 = k)) with
  | none => rfl
  | some p =>
    exact absurd (List.mem_map.mpr ⟨p, List.mem_of_find?_eq_some e, of_decide_eq_true (List.find?_some (p := fun p : List Int × Int => decide (p.1 = k)) e)⟩) h
theorem val_off {m : Pol} {k : List Int} (h : k ∉ keysP m) : val m k = 0 := by
  unfold val; rw [getP_none h]; rfl
theorem val_of {m : Pol} (nd : (keysP m).Nodup) {p : List Int × Int} (h : p ∈ m) : val m p.1 = p.2 := by
  obtain ⟨i, hi⟩ := List.mem_iff_getElem?.mp h
  unfold val
  rw [getP_at nd (l := p.1) (c := p.2) hi]; rfl
theorem val_snoc {m : Pol} {p : List Int × Int} (h : p.1 ∉ keysP m) (k : List Int) : val (m ++ [p]) k = if k = p.1 then p.2 else val m k := by
  unfold val getP
  rw [List.find?_append]
  by_cases e : k = p.1
  · subst e
    have : m.find? (fun q => decide (q.1 = p.1)) = none := by
      have z := getP_none h
      unfold getP at z
      exact Option.map_eq_none_iff.mp z
    rw [this, if_pos rfl]
    simp
  · rw [if_neg e]
    cases m.find? (fun q => decide (q.1 = k)) with
    | none =>
      have : decide (p.1 = k) = false := decide_eq_false fun z => e z.symm
      simp [this]
    | some q => rfl
abbrev Lns := List (List Int × List Int)
def lineStep (k high : Nat) (ls : Lns) (p : List Int × Int) : Lns :=
  (if (ls.any fun e => decide (e.1 = del k p.1)) = true then ls else ls ++ [(del k p.1, List.replicate (high + 1) 0)]).map fun e => if e.1 = del k p.1 then (e.1, e.2.set (p.1.getD k 0).toNat p.2) else e
def linesP (k high : Nat) (m : Pol) : Lns := m.foldl (lineStep k high) []
theorem linesP_snoc (k high : Nat) (m : Pol) (p : List Int × Int) : linesP k high (m ++ [p]) = lineStep k high (linesP k high m) p := by
  unfold linesP
  rw [List.foldl_append]; rfl
structure LnsOk (k high N : Nat) (m : Pol) (ls : Lns) : Prop where
  nd : (ls.map (·.1)).Nodup
  len : ∀ e ∈ ls, e.2.length = high + 1 ∧ e.1.length + 1 = N
  key : ∀ r, r ∈ ls.map (·.1) ↔ ∃ p ∈ m, del k p.1 = r
  at_ : ∀ e ∈ ls, ∀ j : Nat, j ≤ high → e.2.getD j 0 = val m (ins k e.1 (j : Int))
structure RowOk (k high N : Nat) (m : Pol) : Prop where
  nd : (keysP m).Nodup
  len : ∀ p ∈ m, p.1.length = N ∧ 0 ≤ p.1.getD k 0 ∧ p.1.getD k 0 ≤ (high : Int)
theorem RowOk.front {k high N : Nat} {m : Pol} {p : List Int × Int} (h : RowOk k high N (m ++ [p])) : RowOk k high N m ∧ p.1 ∉ keysP m := by
  have nd := h.nd
  unfold keysP at nd
  rw [List.map_append, List.nodup_append] at nd
  exact ⟨⟨nd.1, fun q hq => h.len q (List.mem_append_left _ hq)⟩, fun z => nd.2.2 _ z p.1 (by simp) rfl⟩
theorem getD_set {xs : List Int} {i j : Nat} {c : Int} (h : i < xs.length) : (xs.set i c).getD j 0 = if j = i then c else xs.getD j 0 := by
  rw [List.getD_eq_getElem?_getD, List.getElem?_set, List.getD_eq_getElem?_getD]
  by_cases e : i = j
  · subst e; rw [if_pos rfl, if_pos h, if_pos rfl]; rfl
  · rw [if_neg e, if_neg fun z => e z.symm]
theorem lineStep_map (k high : Nat) (ls : Lns) (p : List Int × Int) : (lineStep k high ls p).map (·.1) = if del k p.1 ∈ ls.map (·.1) then ls.map (·.1) else ls.map (·.1) ++ [del k p.1] := by
  have key : (ls.any fun e => decide (e.1 = del k p.1)) = true ↔ del k p.1 ∈ ls.map (·.1) := by
    rw [List.any_eq_true, List.mem_map]
    exact ⟨fun ⟨e, h1, h2⟩ => ⟨e, h1, of_decide_eq_true h2⟩, fun ⟨e, h1, h2⟩ => ⟨e, h1, decide_eq_true h2⟩⟩
  unfold lineStep
  rw [List.map_map]
  have e1 : ((fun e : List Int × List Int => e.1) ∘ fun e => if e.1 = del k p.1 then (e.1, e.2.set (p.1.getD k 0).toNat p.2) else e) = fun e => e.1 := by
    funext e
    show (if _ then _ else _ : List Int × List Int).1 = e.1
    split <;> rfl
  rw [e1]
  by_cases z : (ls.any fun e => decide (e.1 = del k p.1)) = true
  · rw [if_pos z, if_pos (key.mp z)]
  · rw [if_neg z, if_neg (fun g => z (key.mpr g)), List.map_append]
    rfl
theorem lines_ok {k high N : Nat} (hk : k < N) : ∀ (n : Nat) (m : Pol), m.length = n → RowOk k high N m → LnsOk k high N m (linesP k high m)
  | 0, m, l, _ => by
    obtain rfl : m = [] := List.eq_nil_of_length_eq_zero l
    exact ⟨List.nodup_nil, (fun e he => nomatch he), (fun r => by simp [linesP]), (fun e he => nomatch he)⟩
  | n + 1, m, l, h => by
    obtain ⟨m, p, rfl⟩ : ∃ m' p, m = m' ++ [p] := by
      rcases List.eq_nil_or_concat m with e | ⟨a, b, e⟩
      · rw [e] at l; cases l
      · exact ⟨a, b, by rw [e, List.concat_eq_append]⟩
    obtain ⟨h1, hp⟩ := h.front
    have ih := lines_ok hk n m (by rw [List.length_append] at l; simpa using l) h1
    rw [linesP_snoc]
    have hl := h.len p (List.mem_append_right _ List.mem_cons_self)
    have hdl : (del k p.1).length + 1 = N := by rw [del_len (by omega), hl.1]
    have hj : (p.1.getD k 0).toNat < high + 1 := by omega
    have mem : ∀ e ∈ lineStep k high (linesP k high m) p, (e.1 ≠ del k p.1 ∧ e ∈ linesP k high m) ∨ (e.1 = del k p.1 ∧ ∃ xs : List Int, e.2 = xs.set (p.1.getD k 0).toNat p.2 ∧ xs.length = high + 1 ∧ ∀ j : Nat, j ≤ high → xs.getD j 0 = val m (ins k (del k p.1) (j : Int))) := by
      intro e he
      unfold lineStep at he
      obtain ⟨e0, h0, rfl⟩ := List.mem_map.mp he
      by_cases ee : e0.1 = del k p.1
      · rw [if_pos ee]
        refine .inr ⟨ee, e0.2, rfl, ?_⟩
        split at h0
        · exact ⟨(ih.len e0 h0).1, fun j hj => by rw [← ee]; exact ih.at_ e0 h0 j hj⟩
        · rename_i nz
          rcases List.mem_append.mp h0 with g | g
          · exact ⟨(ih.len e0 g).1, fun j hj => by rw [← ee]; exact ih.at_ e0 g j hj⟩
          · rw [List.mem_singleton.mp g]
            refine ⟨List.length_replicate .., fun j hj => ?_⟩
            rw [List.getD_eq_getElem?_getD, List.getElem?_replicate, if_pos (by omega), val_off]
            · rfl
            · intro z
              obtain ⟨q, hq, eq⟩ := List.mem_map.mp z
              refine nz (List.any_eq_true.mpr ?_)
              have : del k p.1 ∈ (linesP k high m).map (·.1) := (ih.key _).mpr ⟨q, hq, by rw [eq, del_ins (by omega)]⟩
              obtain ⟨e, h1, h2⟩ := List.mem_map.mp this
              exact ⟨e, h1, decide_eq_true h2⟩
      · rw [if_neg ee]
        refine .inl ⟨ee, ?_⟩
        split at h0
        · exact h0
        · rcases List.mem_append.mp h0 with g | g
          · exact g
          · rw [List.mem_singleton.mp g] at ee
            exact absurd rfl ee
    refine ⟨?_, fun e he => ?_, fun r => ?_, fun e he j hjh => ?_⟩
    · rw [lineStep_map]
      split
      · exact ih.nd
      · rename_i z
        exact List.nodup_append.mpr ⟨ih.nd, List.nodup_cons.mpr ⟨by simp, List.nodup_nil⟩, fun a ha b hb e => z (by rw [List.mem_singleton.mp hb] at e; rw [← e]; exact ha)⟩
    · rcases mem e he with ⟨_, g⟩ | ⟨g1, xs, g2, g3, _⟩
      · exact ih.len e g
      · exact ⟨by rw [g2, List.length_set, g3], by rw [g1]; exact hdl⟩
    · rw [lineStep_map]
      constructor
      · intro z
        have z' : r ∈ (linesP k high m).map (·.1) ∨ r = del k p.1 := by
          split at z
          · exact .inl z
          · rcases List.mem_append.mp z with g | g
            · exact .inl g
            · exact .inr (List.mem_singleton.mp g)
        rcases z' with g | g
        · obtain ⟨q, hq, e⟩ := (ih.key r).mp g
          exact ⟨q, List.mem_append_left _ hq, e⟩
        · exact ⟨p, List.mem_append_right _ List.mem_cons_self, g.symm⟩
      · rintro ⟨q, hq, e⟩
        rcases List.mem_append.mp hq with g | g
        · have := (ih.key r).mpr ⟨q, g, e⟩
          split
          · exact this
          · exact List.mem_append_left _ this
        · rw [List.mem_singleton.mp g] at e
          subst e
          split
          · assumption
          · exact List.mem_append_right _ List.mem_cons_self
    · rw [val_snoc hp]
      rcases mem e he with ⟨g1, g2⟩ | ⟨g1, xs, g2, g3, g4⟩
      · rw [if_neg fun z => ?_]
        · exact ih.at_ e g2 j hjh
        · refine g1 ?_
          have hle : k ≤ e.1.length := by have := (ih.len e g2).2; omega
          rw [← z, del_ins hle]
      · rw [g2, getD_set (by omega), g1]
        by_cases ej : j = (p.1.getD k 0).toNat
        · rw [if_pos ej, if_pos]
          rw [ej, Int.toNat_of_nonneg hl.2.1, ins_del (by omega)]
        · rw [if_neg ej, if_neg fun z => ?_]
          · exact g4 j hjh
          · have := (ins_inj (k := k) (by omega) (by omega) (z.trans (ins_del (l := p.1) (by omega)).symm)).2
            omega
end K25

set_option Elab.async false
set_option linter.all false
set_option maxRecDepth 100000
set_option maxHeartbeats 4000000
namespace K25
open PySem PySem.Spec PyProof.Rows L2 DX
theorem cut_take {xs : List V} {k : Nat} (h : k ≤ xs.length) : cutV xs none (some (k : Int)) = xs.take k := by
  unfold cutV
  rw [HT.sIx_none, HT.sIx_nat, List.drop_zero, Nat.sub_zero, Nat.min_eq_left h]
theorem cut_drop {xs : List V} {k : Nat} (h : k ≤ xs.length) : cutV xs (some (k : Int)) none = xs.drop k := by
  unfold cutV
  rw [HT.sIx_none, HT.sIx_nat, Nat.min_eq_left h, List.take_of_length_le (by rw [List.length_drop]; omega)]
def ent (k high : Nat) (d : BM.Dm) (e : List Int × List Int) : Pol := (List.range (high + 1)).map fun a : Nat => (ins k e.1 (a : Int), BM.Fs e.2 d.L d.H d.U high 0 a)
def ents (k high : Nat) (d : BM.Dm) (ls : Lns) : Pol := ls.flatMap (ent k high d)
def spreadP (k high : Nat) (d : BM.Dm) (m : Pol) : Pol := ents k high d (linesP k high m)
theorem ent_mem {k high : Nat} {d : BM.Dm} {e : List Int × List Int} {p : List Int × Int} : p ∈ ent k high d e ↔ ∃ a : Nat, a ≤ high ∧ p = (ins k e.1 (a : Int), BM.Fs e.2 d.L d.H d.U high 0 a) := by
  unfold ent
  rw [List.mem_map]
  exact ⟨fun ⟨a, h1, h2⟩ => ⟨a, Nat.le_of_lt_succ (List.mem_range.mp h1), h2.symm⟩, fun ⟨a, h1, h2⟩ => ⟨a, List.mem_range.mpr (Nat.lt_succ_of_le h1), h2.symm⟩⟩
theorem ents_nd {k high : Nat} {d : BM.Dm} : ∀ {ls : Lns}, (ls.map (·.1)).Nodup → (∀ e ∈ ls, k ≤ e.1.length) → (keysP (ents k high d ls)).Nodup
  | [], _, _ => List.nodup_nil
  | e :: ls, nd, hk => by
    rw [List.map_cons, List.nodup_cons] at nd
    have ih := ents_nd (d := d) (high := high) nd.2 fun x hx => hk x (List.mem_cons_of_mem _ hx)
    unfold ents keysP
    rw [List.flatMap_cons, List.map_append]
    refine List.nodup_append.mpr ⟨?_, ih, fun a ha b hb eq => ?_⟩
    · unfold ent
      rw [List.map_map]
      refine List.Pairwise.map _ (fun x y (h : x ≠ y) z => h ?_) List.nodup_range
      have := (ins_inj (hk e List.mem_cons_self) (hk e List.mem_cons_self) z).2
      omega
    · subst eq
      obtain ⟨p, hp, rfl⟩ := List.mem_map.mp ha
      obtain ⟨q, hq, e2⟩ := List.mem_map.mp hb
      obtain ⟨x, _, rfl⟩ := ent_mem.mp hp
      obtain ⟨e', he', hq'⟩ := List.mem_flatMap.mp hq
      obtain ⟨y, _, rfl⟩ := ent_mem.mp hq'
      have := (ins_inj (hk e' (List.mem_cons_of_mem _ he')) (hk e List.mem_cons_self) e2).1
      exact nd.1 (List.mem_map.mpr ⟨e', he', this⟩)
section
variable {k high N : Nat} {d : BM.Dm} {m : Pol}
theorem spread_nd (hk : k < N) (h : RowOk k high N m) : (keysP (spreadP k high d m)).Nodup := by
  have o := lines_ok hk _ m rfl h
  exact ents_nd o.nd fun e he => by have := (o.len e he).2; omega
/-- the keys -/
theorem spread_key (hk : k < N) (h : RowOk k high N m) {I : List Int} : I ∈ keysP (spreadP k high d m) ↔ I.length = N ∧ 0 ≤ I.getD k 0 ∧ I.getD k 0 ≤ (high : Int) ∧ ∃ p ∈ m, del k p.1 = del k I := by
  have o := lines_ok hk _ m rfl h
  constructor
  · intro z
    obtain ⟨p, hp, rfl⟩ := List.mem_map.mp z
    obtain ⟨e, he, hp'⟩ := List.mem_flatMap.mp hp
    obtain ⟨a, ha, rfl⟩ := ent_mem.mp hp'
    have l := (o.len e he).2
    have hle : k ≤ e.1.length := by omega
    show (ins k e.1 (a : Int)).length = N ∧ 0 ≤ (ins k e.1 (a : Int)).getD k 0 ∧ (ins k e.1 (a : Int)).getD k 0 ≤ (high : Int) ∧ ∃ p ∈ m, del k p.1 = del k (ins k e.1 (a : Int))
    rw [ins_len hle, ins_at hle, del_ins hle]
    exact ⟨l, by omega, by omega, (o.key e.1).mp (List.mem_map.mpr ⟨e, he, rfl⟩)⟩
  · rintro ⟨l, h0, h1, z⟩
    obtain ⟨e, he, ee⟩ := List.mem_map.mp ((o.key _).mpr z)
    refine List.mem_map.mpr ⟨(ins k e.1 (((I.getD k 0).toNat : Nat) : Int), _), List.mem_flatMap.mpr ⟨e, he, ent_mem.mpr ⟨(I.getD k 0).toNat, by omega, rfl⟩⟩, ?_⟩
    show ins k e.1 (((I.getD k 0).toNat : Nat) : Int) = I
    rw [ee, Int.toNat_of_nonneg h0, ins_del (by omega)]
/-- what stands there -/
theorem spread_val (hk : k < N) (h : RowOk k high N m) (hD : d.D = high) {I : List Int} (hI : I ∈ keysP (spreadP k high d m)) :
    val (spreadP k high d m) I = BM.sm (high + 1) fun j => val m (ins k (del k I) (j : Int)) * BM.wt d j (I.getD k 0).toNat := by
  have o := lines_ok hk _ m rfl h
  have nd := spread_nd (d := d) hk h
  obtain ⟨p, hp, rfl⟩ := List.mem_map.mp hI
  rw [val_of nd hp]
  obtain ⟨e, he, hp'⟩ := List.mem_flatMap.mp hp
  obtain ⟨a, ha, rfl⟩ := ent_mem.mp hp'
  have l := (o.len e he).2
  have hle : k ≤ e.1.length := by omega
  show BM.Fs e.2 d.L d.H d.U high 0 a = _
  have z := BM.Fs_all e.2 d a
  rw [hD] at z
  rw [z]
  refine BM.sm_congr fun j hj => ?_
  show _ = val m (ins k (del k (ins k e.1 (a : Int))) (j : Int)) * BM.wt d j ((ins k e.1 (a : Int)).getD k 0).toNat
  rw [del_ins hle, ins_at hle, Int.toNat_natCast, o.at_ e he j (by omega)]
theorem flat_len {α β : Type} {f : α → List β} {c : Nat} (hf : ∀ x, (f x).length = c) : ∀ l : List α, (l.flatMap f).length = l.length * c
  | [] => by simp
  | x :: l => by rw [List.flatMap_cons, List.length_append, flat_len hf l, hf, List.length_cons, Nat.succ_mul, Nat.add_comm]
theorem ents_len (ls : Lns) : (ents k high d ls).length = ls.length * (high + 1) := flat_len (fun e => by unfold ent; rw [List.length_map, List.length_range]) ls
theorem lines_len : ∀ (m : Pol), (linesP k high m).length ≤ m.length := by
  intro m
  have key : ∀ (m : Pol) (ls : Lns), (m.foldl (lineStep k high) ls).length ≤ ls.length + m.length := by
    intro m
    induction m with
    | nil => intro ls; exact Nat.le_refl _
    | cons p m ih =>
      intro ls
      have h1 := ih (lineStep k high ls p)
      have h2 : (lineStep k high ls p).length ≤ ls.length + 1 := by
        unfold lineStep
        rw [List.length_map]
        split
        · omega
        · rw [List.length_append, List.length_singleton]; omega
      rw [List.foldl_cons, List.length_cons]
      omega
  have := key m []
  rw [List.length_nil, Nat.zero_add] at this
  exact this
theorem spread_len : (spreadP k high d m).length ≤ m.length * (high + 1) := by
  unfold spreadP
  rw [ents_len]
  exact Nat.mul_le_mul_right _ (lines_len m)
theorem line_bd {B : Nat} (hk : k < N) (h : RowOk k high N m) (hb : ∀ p ∈ m, My.Bd B p.2) : ∀ e ∈ linesP k high m, ∀ x ∈ e.2, My.Bd B x := by
  have o := lines_ok hk _ m rfl h
  intro e he x hx
  obtain ⟨j, hj⟩ := List.mem_iff_getElem?.mp hx
  have hlt := (List.getElem?_eq_some_iff.mp hj).1
  have e1 := o.at_ e he j (by have := (o.len e he).1; omega)
  rw [List.getD_eq_getElem?_getD, hj] at e1
  have e1 : x = val m (ins k e.1 (j : Int)) := e1
  rw [e1]
  by_cases z : ins k e.1 (j : Int) ∈ keysP m
  · obtain ⟨p, hp, ep⟩ := List.mem_map.mp z
    rw [← ep, val_of h.nd hp]
    exact hb p hp
  · rw [val_off z]; exact .zero
theorem spread_bd {B C : Nat} (hk : k < N) (h : RowOk k high N m) (h60 : high ≤ 60) (hb : ∀ p ∈ m, My.Bd B p.2) (b1 : My.Bd C d.L) (b2 : My.Bd C d.H) (b3 : My.Bd C d.U) : ∀ p ∈ spreadP k high d m, My.Bd (B + 60 * (C + 4) + 2) p.2 := by
  intro p hp
  obtain ⟨e, he, hp'⟩ := List.mem_flatMap.mp hp
  obtain ⟨a, ha, rfl⟩ := ent_mem.mp hp'
  refine (Fs_bd (n := high) (line_bd hk h hb e he) b1 b2 b3 high 0 (by omega) a).mono ?_
  have : high * (C + 4) ≤ 60 * (C + 4) := Nat.mul_le_mul_right _ h60
  omega
end
end K25

set_option Elab.async false
set_option linter.all false
set_option maxRecDepth 100000
set_option maxHeartbeats 4000000
namespace K25
open PySem PySem.Spec PyProof.Rows L2 XV DX
def spSpreadBy : Sp := fun vs H Q _ => ∃ (r s : Addr) (st : Str2) (m : Pol) (k high B N : Nat), vs = [.ref r, .int (k : Int), .int (high : Int), .ref s] ∧ PolD H r m ∧ StrAt H s st ∧ StrOk st ∧ RowOk k high N m ∧ k < N ∧ N ≤ 4 ∧ high ≤ 60 ∧ m.length ≤ 500 ∧ m.length * (high + 1) ≤ 5000 ∧ (∀ p ∈ m, My.Bd B p.2) ∧ B ≤ 60000 ∧
  ∀ p H', H p = none → Same H H' → PolD H' p (spreadP k high (mkDm high st) m) → Q (.ref p) H'
theorem tl_wh (U : Int) (m : Nat) : (tl ((List.range (m + 1)).map (whI U m)) U U).map V.int = lsF (m + 1 + 1) (whI U (m + 1)) := by
  unfold tl lsF
  rw [List.length_map, List.length_range, List.map_map]
  have g : ∀ j, ((List.range (m + 1)).map (whI U m)).getD j 0 = whI U m j := fun j => by
    rw [List.getD_eq_getElem?_getD, List.getElem?_map]
    by_cases hj : j < m + 1
    · rw [List.getElem?_range hj]; rfl
    · rw [List.getElem?_eq_none (by rw [List.length_range]; omega)]
      show 0 = U ^ m * BM.ch m j
      rw [BM.ch_above (by omega), Int.mul_zero]
  refine List.map_congr_left fun j _ => ?_
  simp only [Function.comp, g]
  congr 1
  unfold whI
  cases j with
  | zero => simp [BM.ch_zero, Int.pow_succ]
  | succ j =>
    rw [if_neg (by omega), BM.ch_succ, Int.pow_succ, Nat.add_sub_cancel]
    grind
/-- the lines' dict: keys, places -/
def dkK (ks : List (List Int)) (as : List Addr) : List (List L2.Key × V) := List.zipWith (fun k a => (ik k, V.ref a)) ks as
theorem dkK_get : ∀ {ks : List (List Int)} {as : List Addr} {i : Nat} {k : List Int} {a : Addr}, ks.Nodup → ks[i]? = some k → as[i]? = some a → valV (dkK ks as) (ik k) = some (.ref a)
  | [], _, _, _, _, _, h, _ => by simp at h
  | _ :: _, [], _, _, _, _, _, h => by simp at h
  | x :: ks, b :: as, 0, k, a, _, h1, h2 => by
    cases Option.some.inj h1
    cases Option.some.inj h2
    exact valV_pos rfl
  | x :: ks, b :: as, i + 1, k, a, nd, h1, h2 => by
    rw [List.nodup_cons] at nd
    have h1' : ks[i]? = some k := h1
    have ne : x ≠ k := fun z => nd.1 (by rw [z]; exact List.mem_iff_getElem?.mpr ⟨i, h1'⟩)
    show valV ((ik x, V.ref b) :: dkK ks as) (ik k) = _
    rw [valV_neg (fun z => ne (ik_inj z))]
    exact dkK_get nd.2 h1' h2
theorem dkK_none : ∀ {ks : List (List Int)} {as : List Addr} {k : List Int}, k ∉ ks → valV (dkK ks as) (ik k) = none
  | [], _, _, _ => rfl
  | _ :: _, [], _, _ => rfl
  | x :: ks, b :: as, k, h => by
    rw [List.mem_cons, not_or] at h
    show valV ((ik x, V.ref b) :: dkK ks as) (ik k) = _
    rw [valV_neg (fun z => h.1 (ik_inj z).symm)]
    exact dkK_none h.2
theorem putK_off {κ : Type} [DecidableEq κ] {kvs : List (κ × V)} {k : κ} {v : V} (h : ∀ p ∈ kvs, p.1 ≠ k) : putK kvs k v = kvs ++ [(k, v)] := by
  unfold putK
  rw [if_neg]
  intro z
  obtain ⟨p, h1, h2⟩ := List.any_eq_true.mp z
  exact h p h1 (of_decide_eq_true h2)
theorem dkK_put {ks : List (List Int)} {as : List Addr} {k : List Int} {a : Addr} (l : as.length = ks.length) (h : k ∉ ks) : putK (dkK ks as) (ik k) (.ref a) = dkK (ks ++ [k]) (as ++ [a]) := by
  rw [putK_off]
  · unfold dkK
    rw [List.zipWith_append (by omega)]; rfl
  · intro p hp e
    obtain ⟨i, hi⟩ := List.mem_iff_getElem?.mp hp
    unfold dkK at hi
    rw [List.getElem?_zipWith] at hi
    cases e1 : ks[i]? with
    | none => rw [e1] at hi; cases hi
    | some x =>
      cases e2 : as[i]? with
      | none => rw [e1, e2] at hi; cases hi
      | some y =>
        rw [e1, e2] at hi
        cases Option.some.inj hi
        exact h (by rw [← ik_inj e]; exact List.mem_iff_getElem?.mpr ⟨i, e1⟩)
/-- the lines stand -/
structure LnAt (H0 H : Hp) (ld : Addr) (ls : Lns) (as : List Addr) : Prop where
  d : H ld = some (.dT (dkK (ls.map (·.1)) as))
  len : as.length = ls.length
  nd : as.Nodup
  new : ∀ a ∈ as, H0 a = none
  at_ : ∀ (i : Nat) e a, ls[i]? = some e → as[i]? = some a → H a = some (.lst (e.2.map V.int))
theorem LnAt.same {H0 H H' : Hp} {ld : Addr} {ls : Lns} {as : List Addr} (h : LnAt H0 H ld ls as) (s : Same H H') : LnAt H0 H' ld ls as := ⟨s _ _ h.d, h.len, h.nd, h.new, fun i e a h1 h2 => s _ _ (h.at_ i e a h1 h2)⟩
theorem LnAt.set {H0 H : Hp} {ld a : Addr} {ls : Lns} {as : List Addr} {j n : Nat} {c : Int} {e : List Int × List Int} (h : LnAt H0 H ld ls as) (nd : (ls.map (·.1)).Nodup) (ej : ls[j]? = some e) (ea : as[j]? = some a) (ne : a ≠ ld) :
    LnAt H0 (upd H a (.lst ((e.2.map V.int).set n (.int c)))) ld (ls.map fun x => if x.1 = e.1 then (x.1, x.2.set n c) else x) as := by
  have ek : (ls.map fun x => if x.1 = e.1 then (x.1, x.2.set n c) else x).map (·.1) = ls.map (·.1) := by
    rw [List.map_map]
    refine List.map_congr_left fun x _ => ?_
    show (if _ then _ else _ : List Int × List Int).1 = x.1
    split <;> rfl
  refine ⟨by rw [ek, upd_ne ne.symm]; exact h.d, by rw [List.length_map]; exact h.len, h.nd, h.new, fun i x b hx hb => ?_⟩
  rw [List.getElem?_map] at hx
  cases e0 : ls[i]? with
  | none => rw [e0] at hx; cases hx
  | some x0 =>
    rw [e0] at hx
    cases Option.some.inj hx
    by_cases eij : i = j
    · subst eij
      rw [ej] at e0
      cases Option.some.inj e0
      rw [ea] at hb
      cases Option.some.inj hb
      show _ = some (HO.lst ((if e.1 = e.1 then (e.1, e.2.set n c) else e).2.map V.int))
      rw [upd_same, if_pos rfl, List.map_set]
    · have hne : x0.1 ≠ e.1 := fun z => eij (by
        have h1 : (ls.map (·.1))[i]? = some x0.1 := by rw [List.getElem?_map, e0]; rfl
        have h2 : (ls.map (·.1))[j]? = some e.1 := by rw [List.getElem?_map, ej]; rfl
        exact (List.getElem?_inj (List.getElem?_eq_some_iff.mp h1).1 nd).mp (by rw [h1, h2, z]))
      have hba : b ≠ a := fun z => eij (by
        rw [z] at hb
        exact (List.getElem?_inj (List.getElem?_eq_some_iff.mp hb).1 h.nd).mp (by rw [hb, ea]))
      show _ = some (HO.lst ((if x0.1 = e.1 then (x0.1, x0.2.set n c) else x0).2.map V.int))
      rw [upd_ne hba, if_neg hne]
      exact h.at_ i x0 b e0 hb
theorem LnAt.push {H0 H : Hp} {ld p : Addr} {ls : Lns} {as : List Addr} {r zs : List Int} (h : LnAt H0 H ld ls as) (hp : H p = none) (hp0 : H0 p = none) (hr : r ∉ ls.map (·.1)) :
    LnAt H0 (upd (upd H p (.lst (zs.map V.int))) ld (.dT (putK (dkK (ls.map (·.1)) as) (ik r) (.ref p)))) ld (ls ++ [(r, zs)]) (as ++ [p]) := by
  have npl : p ≠ ld := fun z => by rw [z, h.d] at hp; cases hp
  have na : p ∉ as := fun z => by
    obtain ⟨i, hi⟩ := List.mem_iff_getElem?.mp z
    have hl := (List.getElem?_eq_some_iff.mp hi).1
    obtain ⟨e, he⟩ : ∃ e, ls[i]? = some e := ⟨_, List.getElem?_eq_getElem (by rw [← h.len]; exact hl)⟩
    have := h.at_ i e p he hi
    rw [hp] at this; cases this
  refine ⟨by rw [upd_same, dkK_put (by rw [h.len, List.length_map]) hr, List.map_append]; rfl, by rw [List.length_append, List.length_append, h.len]; rfl, ?_, fun a ha => ?_, fun i e a h1 h2 => ?_⟩
  · exact List.nodup_append.mpr ⟨h.nd, List.nodup_cons.mpr ⟨by simp, List.nodup_nil⟩, fun a ha b hb e => na (by rw [List.mem_singleton.mp hb] at e; rw [← e]; exact ha)⟩
  · rcases List.mem_append.mp ha with g | g
    · exact h.new a g
    · rw [List.mem_singleton.mp g]; exact hp0
  · by_cases hi : i < ls.length
    · rw [List.getElem?_append_left hi] at h1
      rw [List.getElem?_append_left (by rw [h.len]; exact hi)] at h2
      have z := h.at_ i e a h1 h2
      rw [upd_ne (fun g => by rw [g, h.d] at z; cases z), upd_ne (ne_of_none z hp)]
      exact z
    · rw [List.getElem?_append_right (by omega)] at h1
      rw [List.getElem?_append_right (by rw [h.len]; omega), h.len] at h2
      cases z : i - ls.length with
      | zero =>
        rw [z] at h1 h2
        cases Option.some.inj h1
        cases Option.some.inj h2
        rw [upd_ne npl, upd_same]
      | succ y => rw [z] at h1; cases h1
theorem flat0 (n : Nat) : (List.replicate n [V.int 0]).flatten = (List.replicate n (0 : Int)).map V.int := by
  induction n with
  | zero => rfl
  | succ n ih => rw [List.replicate_succ, List.flatten_cons, ih, List.replicate_succ]; rfl
theorem line_in {k high : Nat} {ls : Lns} {p : List Int × Int} (h : del k p.1 ∈ ls.map (·.1)) : lineStep k high ls p = ls.map fun x : List Int × List Int => if x.1 = del k p.1 then (x.1, x.2.set (p.1.getD k 0).toNat p.2) else x := by
  unfold lineStep
  rw [if_pos]
  obtain ⟨e, h1, h2⟩ := List.mem_map.mp h
  exact List.any_eq_true.mpr ⟨e, h1, decide_eq_true h2⟩
theorem line_out {k high : Nat} {ls : Lns} {p : List Int × Int} (h : del k p.1 ∉ ls.map (·.1)) : lineStep k high ls p = (ls ++ [(del k p.1, List.replicate (high + 1) 0)]).map fun x : List Int × List Int => if x.1 = del k p.1 then (x.1, x.2.set (p.1.getD k 0).toNat p.2) else x := by
  unfold lineStep
  rw [if_neg]
  intro z
  obtain ⟨e, h1, h2⟩ := List.any_eq_true.mp z
  exact h (List.mem_map.mpr ⟨e, h1, of_decide_eq_true h2⟩)
theorem atI_key {l : List Int} {k : Nat} (h : k < l.length) : atI ((ik l).map kV) (k : Int) = some (.int (l.getD k 0)) := by
  rw [ik_kV]
  refine atI_nat ?_
  rw [List.getElem?_map, List.getD_eq_getElem?_getD, List.getElem?_eq_getElem h]; rfl
theorem tup_ins {l : List Int} {k : Nat} {a : Int} (h : k ≤ l.length) : cutV ((ik l).map kV) none (some (k : Int)) ++ [V.int a] ++ cutV ((ik l).map kV) (some (k : Int)) none = (ik (ins k l a)).map kV := by
  rw [ik_kV, ik_kV, cut_take (by rw [List.length_map]; omega), cut_drop (by rw [List.length_map]; omega), ← List.map_take, ← List.map_drop]
  unfold ins
  rw [List.map_append, List.map_cons, List.append_assoc]; rfl
theorem putP_new {m : Pol} {k : List Int} {v : Int} (h : (keysP (m ++ [(k, v)])).Nodup) : putP m k v = m ++ [(k, v)] := by
  unfold putP
  rw [if_neg]
  intro z
  obtain ⟨p, h1, h2⟩ := List.any_eq_true.mp z
  unfold keysP at h
  rw [List.map_append] at h
  exact (List.nodup_append.mp h).2.2 p.1 (List.mem_map.mpr ⟨p, h1, rfl⟩) k (List.mem_singleton.mpr rfl) (of_decide_eq_true h2)
theorem tup_del {l : List Int} {k : Nat} (h : k < l.length) : cutV ((ik l).map kV) none (some (k : Int)) ++ cutV ((ik l).map kV) (some ((k : Int) + 1)) none = (ik (del k l)).map kV := by
  rw [ik_kV, ik_kV, cut_take (by rw [List.length_map]; omega), show (k : Int) + 1 = ((k + 1 : Nat) : Int) by omega, cut_drop (by rw [List.length_map]; omega), ← List.map_take, ← List.map_drop, ← List.map_append]
  rfl
section
variable {P : Program} {w : World} {K : PySem.W.Frag} {mg : Str → Option Value} {base : Heap}
theorem sc_spread_by : FnScope ["rows", "k", "high", "stretch", "low", "top", "under", "wholes", "_", "lines", "powers", "count", "rest", "found", "line", "at"] ["rows", "k", "high", "stretch"] (defScope s_spread_by) := ⟨rfl, rfl, rfl, by decide +kernel, rfl, by decide +kernel, by decide +kernel⟩
theorem cal_spread_by {f : Addr} {fd : FuncData} (F : FnP K "spread_by" "spread_by" s_spread_by f fd) (g : mg "spread_by" = some (.ref f)) (T : Txt0 mg) (C_shared_bottom : Cal P w K mg base "shared_bottom" 1 ["stretch"] spShared) (C_times_line : Cal P w K mg base "times_line" 1 ["line", "low", "high"] spTimes) (C_turned : Cal P w K mg base "turned" 2 ["line", "low", "high", "wholes"] spTurned) : Cal P w K mg base "spread_by" 3 ["rows", "k", "high", "stretch"] spSpreadBy := by
  obtain ⟨f_shared_bottom, fd_shared_bottom, g_shared_bottom, G_shared_bottom, b_shared_bottom, k_shared_bottom⟩ := C_shared_bottom
  obtain ⟨f_times_line, fd_times_line, g_times_line, G_times_line, b_times_line, k_times_line⟩ := C_times_line
  obtain ⟨f_turned, fd_turned, g_turned, G_turned, b_turned, k_turned⟩ := C_turned
  refine ⟨f, fd, g, ?_, F.bindsN (fun _ _ _ _ _ _ us hl => match us, hl with | [_, _, _, _], _ => rfl), F.kp⟩
  refine F.ok sc_spread_by (fun vs H Q E h => ?_) (fun cdv A outer s H vs Q E hr h => ?_)
  · obtain ⟨r, s, st, m, k, high, B, N, rfl, hr0, hs, so, ro, hk, hN, h60, hm, hm2, hb, hB, q⟩ := h
    rfl
  · obtain ⟨r, s, st, m, k, high, B, N, rfl, hr0, hs, so, ro, hk, hN, h60, hm, hm2, hb, hB, q⟩ := h
    have hu := hu_of hr
    refine ⟨_, PSs.nox (pss_cons (ps_asg (pe_call G_shared_bottom (hr.mono (by decide)) (by rfl) g_shared_bottom k_shared_bottom b_shared_bottom .nil pass0 (pa_cons (pv 3) pa_nil)) (pg_tup (by rfl) (pgs_cons (pg_name (i := 4) sc_spread_by.nd rfl (Or.inl rfl)) (pgs_cons (pg_name (i := 5) sc_spread_by.nd rfl (Or.inl rfl)) (pgs_cons (pg_name (i := 6) sc_spread_by.nd rfl (Or.inl rfl)) pgs_nil)))))
      (pss_cons (ps_set (i := 7) sc_spread_by.nd rfl (Or.inl rfl) (pe_lst (pa_cons (pe_lst (pa_cons pe_int pa_nil)) pa_nil)))
      (pss_cons (ps_for PassesOwn.never rfl (pi_range1 (by rfl) T.range (pa_cons (pv 2) pa_nil)) (pg_name (i := 8) sc_spread_by.nd rfl (Or.inl rfl))
       (pss_one (ps_expr (pe_bm PySem.F.plainAttrs_list PySem.F.slot_list_append PySem.F.type_list_append mt_append (pv 7) (pa_cons (pe_call G_times_line (hr.mono (by decide)) (by rfl) g_times_line k_times_line b_times_line .nil pass0 (pa_cons (pe_ix ix_list (pv 7) (pe_un un_neg pe_int) (fun _ _ => rfl)) (pa_cons (pv 6) (pa_cons (pv 6) pa_nil)))) pa_nil)))))
      (pss_cons (ps_set (i := 9) sc_spread_by.nd rfl (Or.inl rfl) pe_dnewT)
      (pss_cons (ps_lock (ps_for PassesOwn.never rfl (DX.pi_itemsT (pv 0)) (pg_tup (by rfl) (pgs_cons (pg_name (i := 10) sc_spread_by.nd rfl (Or.inl rfl)) (pgs_cons (pg_name (i := 11) sc_spread_by.nd rfl (Or.inl rfl)) pgs_nil)))
       (pss_cons (ps_set (i := 12) sc_spread_by.nd rfl (Or.inl rfl) (pe_op op_catA (pe_slice sl_tupA (pv 10) po_none (po_some (pv 1))) (pe_slice sl_tupA (pv 10) (po_some (pe_op op_add (pv 1) pe_int)) po_none)))
      (pss_cons (ps_if (pt_cmp (pc_dnotin hu (pv 12) (pv 9)))
       (pss_one (ps_dput hu (pv 9) (pv 12) (pe_op op_rep (pe_lst (pa_cons pe_int pa_nil)) (pe_op op_add (pv 2) pe_int)) rfl))
       pss_nil)
      (pss_one (ps_asg (pv 11) (pg_sub (pe_dget hu (pv 9) (pv 12) (fun _ _ => rfl)) (pe_ix ix_tup (pv 10) (pv 1) (fun _ _ => rfl)) set_list)))))))
      (pss_cons (ps_set (i := 13) sc_spread_by.nd rfl (Or.inl rfl) pe_dnewT)
      (pss_cons (ps_lock (ps_for PassesOwn.never rfl (DX.pi_itemsT (pv 9)) (pg_tup (by rfl) (pgs_cons (pg_name (i := 12) sc_spread_by.nd rfl (Or.inl rfl)) (pgs_cons (pg_name (i := 14) sc_spread_by.nd rfl (Or.inl rfl)) pgs_nil)))
       (pss_one (ps_for PassesOwn.never rfl (pi_enum (by rfl) T.enum (pa_cons (pe_call G_turned (hr.mono (by decide)) (by rfl) g_turned k_turned b_turned .nil pass0 (pa_cons (pv 14) (pa_cons (pv 4) (pa_cons (pv 5) (pa_cons (pv 7) pa_nil))))) pa_nil)) (pg_tup (by rfl) (pgs_cons (pg_name (i := 15) sc_spread_by.nd rfl (Or.inl rfl)) (pgs_cons (pg_name (i := 11) sc_spread_by.nd rfl (Or.inl rfl)) pgs_nil)))
       (pss_one (ps_dput hu (pv 13) (pe_op op_catA (pe_op op_catA (pe_slice sl_tupA (pv 12) po_none (po_some (pv 1))) (pe_tup (pa_cons (pv 15) pa_nil))) (pe_slice sl_tupA (pv 12) (po_some (pv 1)) po_none)) (pv 11) rfl))))))
      (pss_one (ps_ret (pv 13)))))))))), ?_⟩
    try dsimp only [cxOf, Cx.nox, Cx.wish]
    obtain ⟨bL, bH, bU⟩ := mkDm_bd (D := high) so
    walk_at "f"
    refine ⟨s, st, rfl, hs, so, fun T nT => ?_⟩
    have sT := same_new (o := HO.tup [.int (mkDm 0 st).L, .int (mkDm 0 st).H, .int (mkDm 0 st).U]) nT
    refine My.gtup3 (SqT.of upd_same) rfl ?_
    generalize upd H T _ = H1 at sT ⊢
    walk_at "f"
    refine My.new (My.sz (by simp)) fun p1 n1 => ?_
    walk_at "f"
    refine My.new (My.sz (by simp)) fun W nW => ?_
    have s1 := same_new (o := HO.lst [V.int 1]) n1
    have s2 := same_new (o := HO.lst [V.ref p1]) nW
    have np1 : H p1 = none := sT.free n1
    have nW0 : H W = none := (sT.trans s1).free nW
    have o1 := s2 _ _ (upd_same (H := H1) (a := p1) (o := HO.lst [V.int 1]))
    have oW := upd_same (H := upd H1 p1 (HO.lst [V.int 1])) (a := W) (o := HO.lst [V.ref p1])
    have s3 := (sT.trans s1).trans s2
    generalize upd (upd H1 p1 (HO.lst [V.int 1])) W (HO.lst [V.ref p1]) = H2 at s3 o1 oW ⊢
    walk_at "f"
    refine My.rngI (by omega) (by omega) (fun i σ' H' => ∃ (ws : List Addr) (u : Option V), σ' = [some (.ref r), some (.int (k : Int)), some (.int (high : Int)), some (.ref s), some (.int (mkDm high st).L), some (.int (mkDm high st).H), some (.int (mkDm high st).U), some (.ref W), u, none, none, none, none, none, none, none] ∧ Same H H' ∧ H' W = some (.lst (ws.map V.ref)) ∧ ws.length = i + 1 ∧ W ∉ ws ∧ Wholes H' ws (mkDm high st).U) ⟨[p1], none, rfl, s3, oW, rfl, ?_, ?_⟩ ?_ ?_
    · exact fun z => by rw [List.mem_singleton.mp z, o1] at oW; cases oW
    · intro j w e
      cases j with
      | zero =>
        cases Option.some.inj e
        rw [o1]
        show some (HO.lst [V.int 1]) = some (HO.lst [V.int ((mkDm high st).U ^ 0 * BM.ch 0 0)])
        rw [Int.pow_zero, BM.ch_zero]; rfl
      | succ j => cases e
    · rintro i σ' H3 hi ⟨ws, u, rfl, s4, hW, hl, nin, hw⟩
      obtain ⟨ws', wl, rfl, hl'⟩ : ∃ a b, ws = a ++ [b] ∧ a.length = i := by
        rcases List.eq_nil_or_concat ws with e | ⟨a, b, e⟩
        · rw [e] at hl; cases hl
        · rw [List.concat_eq_append] at e
          exact ⟨a, b, e, by rw [e, List.length_append] at hl; simpa using hl⟩
      have hwl := hw i wl (by rw [List.getElem?_append_right (by omega), hl', Nat.sub_self]; rfl)
      walk_at "f"
      refine My.tyL (SqL.of hW) ?_
      walk_at "f"
      refine My.ixLast (xs := ws'.map V.ref) (x := .ref wl) (by rw [List.map_append] at hW; exact SqL.of hW) ?_
      walk_at "f"
      refine ⟨wl, (List.range (i + 1)).map (whI (mkDm high st).U i), (mkDm high st).U, (mkDm high st).U, 60 * 450 + 62, 450, rfl, by rw [← lsF_ints]; exact hwl, by rw [List.length_map, List.length_range]; omega, fun z hz => ?_, bU, bU, by decide, fun p2 H4 np2 s5 hp2 => ?_⟩
      · obtain ⟨j, _, rfl⟩ := List.mem_map.mp hz
        refine (whI_bd bU i j).mono ?_
        have : i * 450 ≤ 60 * 450 := Nat.mul_le_mul_right _ (by omega)
        omega
      rw [tl_wh] at hp2
      walk_at "f"
      refine My.app (s5 _ _ hW) (by rw [List.length_map, List.length_append]; simp; omega) ?_
      have nW3 : W ≠ p2 := fun z => by rw [← z, hW] at np2; cases np2
      have keep : ∀ b o, b ≠ W → H4 b = some o → upd H4 W (.lst (List.map V.ref (ws' ++ [wl]) ++ [V.ref p2])) b = some o := fun b o nb e => by rw [upd_ne nb]; exact e
      refine ⟨ws' ++ [wl] ++ [p2], _, rfl, fun b o e => keep _ _ (ne_of_none e nW0) (s5 _ _ (s4 _ _ e)), ?_, by rw [List.length_append, hl]; rfl, ?_, ?_⟩
      · rw [upd_same, List.map_append (l₂ := [p2])]; rfl
      · intro z
        rcases List.mem_append.mp z with z | z
        · exact nin z
        · exact nW3 (List.mem_singleton.mp z)
      · intro j w e
        by_cases hj : j < i + 1
        · rw [List.getElem?_append_left (by rw [hl]; exact hj)] at e
          have := hw j w e
          exact keep _ _ (fun z => nin (by rw [← z]; exact List.mem_iff_getElem?.mpr ⟨j, e⟩)) (s5 _ _ this)
        · rw [List.getElem?_append_right (by rw [hl]; omega), hl] at e
          cases z : j - (i + 1) with
          | zero =>
            rw [z] at e
            cases Option.some.inj e
            obtain rfl : j = i + 1 := by omega
            exact keep _ _ nW3.symm hp2
          | succ y => rw [z] at e; cases e
    · rintro σ' H3 ⟨ws, u, rfl, s4, hW, hl, nin, hw⟩
      walk_at "f"
      refine My.dnewT fun ld nld => ?_
      have sl := same_new (o := HO.dT []) nld
      have s5 := s4.trans sl
      have old := upd_same (H := H3) (a := ld) (o := HO.dT [])
      have hW' := sl _ _ hW
      have hw' := hw.same sl
      have nld0 : H ld = none := s4.free nld
      have neW : W ≠ ld := fun z => by rw [z, nld] at hW; cases hW
      generalize upd H3 ld (HO.dT []) = H4 at s5 old hW' hw' ⊢
      walk_at "f"
      have hr4 := s5 _ _ hr0
      have ner : r ≠ ld := fun z => by have e : H r = _ := hr0; rw [z, nld0] at e; cases e
      refine My.lockS hr4 True.intro fun od => ?_
      -- the heap while the rows are locked
      have lk := upd_same (H := H4) (a := r) (o := HO.frz od (.dT (kvI m)))
      have keep : ∀ b o, b ≠ r → H4 b = some o → upd H4 r (.frz od (.dT (kvI m))) b = some o := fun b o nb e => by rw [upd_ne nb]; exact e
      have old5 := keep ld _ ner.symm old
      have nkeep : ∀ b, upd H4 r (.frz od (.dT (kvI m))) b = none → H b = none := fun b e => by
        by_cases z : b = r
        · rw [z, lk] at e; cases e
        · rw [upd_ne z] at e; exact s5.free e
      have back : ∀ b o, H b = some o → b ≠ r → upd H4 r (.frz od (.dT (kvI m))) b = some o := fun b o e z => keep b o z (s5 _ _ e)
      have hW5 := keep W _ (fun z => by rw [z, hr4] at hW'; cases hW') hW'
      have hw5 : Wholes (upd H4 r (.frz od (.dT (kvI m)))) ws (mkDm high st).U := fun j w e => keep _ _ (fun z => by have := hw' j w e; rw [z, hr4] at this; cases this) (hw' j w e)
      generalize upd H4 r (.frz od (.dT (kvI m))) = H5 at lk old5 nkeep back hW5 hw5 ⊢
      refine My.forItT rfl lk (fun i σ' H' => ∃ (as : List Addr) (x y z : Option V), σ' = [some (.ref r), some (.int (k : Int)), some (.int (high : Int)), some (.ref s), some (.int (mkDm high st).L), some (.int (mkDm high st).H), some (.int (mkDm high st).U), some (.ref W), u, some (.ref ld), x, y, z, none, none, none] ∧ But ld H5 H' ∧ LnAt H5 H' ld (linesP k high (m.take i)) as) ⟨[], none, none, none, rfl, .refl _ _, ⟨old5, rfl, List.nodup_nil, (fun a ha => by cases ha), fun i e a h => by simp [linesP] at h⟩⟩ (fun i σ' H' _ ⟨as, _, _, _, _, b, _⟩ => b _ _ ner lk) ?_ ?_
      · rintro i key v qa T σ' H6 ekv hqa ⟨as, x, y, z, rfl, b6, ln⟩ nT
        obtain ⟨l, c, em, rfl, rfl⟩ := kvI_get ekv
        have hml := ro.len (l, c) (List.mem_iff_getElem?.mpr ⟨i, em⟩)
        have hkl : k < l.length := by have z : l.length = N := hml.1; omega
        refine My.gtup2 (SqT.of upd_same) rfl ?_
        have sT2 := same_new (o := HO.tup [V.ref qa, V.int c]) nT
        have b7 := b6.trans (Same.but sT2)
        have ln7 := ln.same sT2
        have hq7 := sT2 _ _ hqa
        generalize upd H6 T _ = H7 at b7 ln7 hq7 ⊢
        walk_at "f"
        refine My.slA hq7 fun q1 H8 s8 h8 => ?_
        walk_at "f"
        refine My.slA (s8 _ _ hq7) fun q2 H9 s9 h9 => ?_
        have zl : l.length ≤ 4 := by have z : l.length = N := hml.1; omega
        refine My.catA (s9 _ _ h8) h9 (by have z1 := cutV_length ((ik l).map kV) none (some (k : Int)); have z2 := cutV_length ((ik l).map kV) (some ((k : Int) + 1)) none; rw [ik_kV, List.length_map] at z1 z2; rw [ik_kV]; omega) fun q3 H10 s10 h10 => ?_
        rw [tup_del hkl] at h10
        have s7 := (s8.trans s9).trans s10
        have b10 := b7.trans (Same.but s7)
        have ln10 := ln7.same s7
        have hq10 := s7 _ _ hq7
        have o := lines_ok (k := k) (high := high) hk _ (m.take i) rfl ⟨List.Nodup.sublist (List.Sublist.map _ (List.take_sublist i m)) ro.nd, fun p hp => ro.len p (List.mem_of_mem_take hp)⟩
        have etake : m.take (i + 1) = m.take i ++ [(l, c)] := by
          rw [List.take_succ, em]; rfl
        have eld : ∀ {a : Addr}, H5 a = none → a ≠ ld := fun e z => by rw [z, old5] at e; cases e
        have en : l.getD k 0 = (((l.getD k 0).toNat : Nat) : Int) := (Int.toNat_of_nonneg hml.2.1).symm
        have nh : (l.getD k 0).toNat < high + 1 := by have z := hml.2.2; have z2 := hml.2.1; simp only at z z2; omega
        walk_at "f"
        refine ⟨ld, _, rfl, DGet.t ln10.d h10, ?_⟩
        refine ⟨_, rfl, ?_⟩
        rw [etake, linesP_snoc]
        have ll : (linesP k high (m.take i)).length ≤ 500 := Nat.le_trans (lines_len _) (by rw [List.length_take]; omega)
        generalize linesP k high (m.take i) = ls at ln10 o ll ⊢
        by_cases hin : del k l ∈ ls.map (·.1)
        · obtain ⟨e, he, ee⟩ := List.mem_map.mp hin
          obtain ⟨j, ej⟩ := List.mem_iff_getElem?.mp he
          obtain ⟨a, ea⟩ : ∃ a, as[j]? = some a := ⟨_, List.getElem?_eq_getElem (by rw [ln10.len]; exact (List.getElem?_eq_some_iff.mp ej).1)⟩
          have eg : valV (dkK (ls.map (·.1)) as) (ik (del k l)) = some (.ref a) := by
            rw [← ee]
            exact dkK_get o.nd (by rw [List.getElem?_map, ej]; rfl) ea
          have an := ln10.new a (List.mem_iff_getElem?.mpr ⟨j, ea⟩)
          rw [line_in (p := (l, c)) hin, eg, Option.isSome_some]
          refine My.ite_nt ?_
          walk_at "f"
          refine ⟨ld, .ref a, rfl, by rw [← eg]; exact DGet.t ln10.d h10, ?_⟩
          walk_at "f"
          refine My.ixT (SqT.of hq10) (atI_key hkl) ?_
          rw [en]
          refine My.setL (ln10.at_ j e a ej ea) (by rw [List.length_map, (o.len e he).1]; exact nh) ?_
          refine ⟨as, _, _, _, rfl, fun b ob nb eb => by rw [upd_ne (ne_of_none eb an)]; exact b10 _ _ nb eb, ?_⟩
          have z := ln10.set (n := (l.getD k 0).toNat) (c := c) o.nd ej ea (eld an)
          rw [ee] at z
          exact z
        · have eg := dkK_none (as := as) hin
          rw [line_out (p := (l, c)) hin, eg]
          refine My.ite_nf ?_
          walk_at "f"
          refine My.new (My.sz (by simp)) fun z1 nz1 => ?_
          walk_at "f"
          refine My.repL upd_same (by omega) (by omega) (by simp) fun z2 nz2 => ?_
          walk_at "f"
          rw [flat0, show ((high : Int) + 1).toNat = high + 1 by omega] at *
          have sz1 := same_new (o := HO.lst [V.int 0]) nz1
          have b11 := b10.trans (Same.but sz1)
          have ln11 := ln10.same sz1
          have sz2 := sz1.trans (same_new (o := HO.lst ((List.replicate (high + 1) 0).map V.int)) nz2)
          have hq11 := sz2 _ _ hq10
          have h11 := sz2 _ _ h10
          have hp11 := (same_new (o := HO.lst ((List.replicate (high + 1) 0).map V.int)) nz2) _ _ ln11.d
          have zld : z2 ≠ ld := fun z => by rw [z, ln11.d] at nz2; cases nz2
          have z0 : H5 z2 = none := by
            cases e : H5 z2 with
            | none => rfl
            | some o => rw [b11 _ _ zld e] at nz2; cases nz2
          have ln12 := ln11.push (zs := List.replicate (high + 1) 0) nz2 z0 hin
          refine ⟨ld, _, rfl, DPut.t hp11 h11 (by unfold dkK; rw [List.length_zipWith, List.length_map, sizeLine_eq]; omega), ?_⟩
          have hq12 : upd (upd (upd H10 z1 (HO.lst [V.int 0])) z2 (HO.lst ((List.replicate (high + 1) 0).map V.int))) ld (.dT (putK (dkK (ls.map (·.1)) as) (ik (del k l)) (.ref z2))) qa = some (HO.tup ((ik l).map kV)) := by
            rw [upd_ne (fun z => by rw [z, hp11] at hq11; cases hq11)]; exact hq11
          have h12 : upd (upd (upd H10 z1 (HO.lst [V.int 0])) z2 (HO.lst ((List.replicate (high + 1) 0).map V.int))) ld (.dT (putK (dkK (ls.map (·.1)) as) (ik (del k l)) (.ref z2))) q3 = some (HO.tup ((ik (del k l)).map kV)) := by
            rw [upd_ne (fun z => by rw [z, hp11] at h11; cases h11)]; exact h11
          have b12 : But ld H5 (upd (upd (upd H10 z1 (HO.lst [V.int 0])) z2 (HO.lst ((List.replicate (high + 1) 0).map V.int))) ld (.dT (putK (dkK (ls.map (·.1)) as) (ik (del k l)) (.ref z2)))) := fun b ob nb eb => by
            rw [upd_ne nb]; exact same_new nz2 _ _ (b11 _ _ nb eb)
          generalize upd (upd (upd H10 z1 (HO.lst [V.int 0])) z2 (HO.lst ((List.replicate (high + 1) 0).map V.int))) ld (.dT (putK (dkK (ls.map (·.1)) as) (ik (del k l)) (.ref z2))) = H12 at ln12 hq12 h12 b12 ⊢
          have nd2 : ((ls ++ [((del k l, List.replicate (high + 1) 0) : List Int × List Int)]).map (·.1)).Nodup := by
            rw [List.map_append]
            exact List.nodup_append.mpr ⟨o.nd, List.nodup_cons.mpr ⟨by simp, List.nodup_nil⟩, fun x hx y hy e => hin (by rw [List.mem_singleton.mp hy] at e; have e : x = del k l := e; rw [← e]; exact hx)⟩
          have eg2 : valV (dkK ((ls ++ [((del k l, List.replicate (high + 1) 0) : List Int × List Int)]).map (·.1)) (as ++ [z2])) (ik (del k l)) = some (.ref z2) :=
            dkK_get (i := ls.length) nd2 (by rw [List.getElem?_map, List.getElem?_append_right (Nat.le_refl _), Nat.sub_self]; rfl) (by rw [← ln10.len, List.getElem?_append_right (Nat.le_refl _), Nat.sub_self]; rfl)
          walk_at "f"
          refine ⟨ld, .ref z2, rfl, by rw [← eg2]; exact DGet.t ln12.d h12, ?_⟩
          walk_at "f"
          refine My.ixT (SqT.of hq12) (atI_key hkl) ?_
          rw [en]
          have ej2 : (ls ++ [(del k l, List.replicate (high + 1) (0 : Int))])[ls.length]? = some (del k l, List.replicate (high + 1) 0) := by rw [List.getElem?_append_right (Nat.le_refl _), Nat.sub_self]; rfl
          have ea2 : (as ++ [z2])[ls.length]? = some z2 := by rw [← ln10.len, List.getElem?_append_right (Nat.le_refl _), Nat.sub_self]; rfl
          refine My.setL (ln12.at_ _ _ _ ej2 ea2) (by rw [List.length_map, List.length_replicate]; exact nh) ?_
          exact ⟨_, _, _, _, rfl, fun b ob nb eb => by rw [upd_ne (ne_of_none eb z0)]; exact b12 _ _ nb eb, ln12.set (n := (l.getD k 0).toNat) (c := c) nd2 ej2 ea2 (eld z0)⟩
      · rintro σ' H6 ⟨as, x, y, z, rfl, b6, ln⟩
        rw [show m.take (kvI m).length = m by rw [kvI_len]; exact List.take_length] at ln
        refine ⟨b6 _ _ ner lk, ?_⟩
        have o := lines_ok (k := k) (high := high) hk _ m rfl ro
        have nds := spread_nd (d := mkDm high st) hk ro
        have lbd := line_bd hk ro hb
        have ll : (linesP k high m).length ≤ 500 := Nat.le_trans (lines_len _) hm
        have lsp : (spreadP k high (mkDm high st) m).length ≤ 5000 := Nat.le_trans spread_len hm2
        unfold spreadP at q nds lsp
        generalize linesP k high m = ls at *
        have bk7 : ∀ b ob, b ≠ r → H6 b = some ob → upd H6 r (.dT (kvI m)) b = some ob := fun b ob nb e => by rw [upd_ne nb]; exact e
        have s7 : Same H (upd H6 r (.dT (kvI m))) := fun b ob e => by
          by_cases z : b = r
          · rw [z, upd_same]
            have e' : H b = _ := e
            rw [z, hr0] at e'
            exact e'
          · exact bk7 _ _ z (b6 _ _ (ne_of_none e nld0) (back _ _ e z))
        have hW7 := bk7 W _ (fun z => by rw [z, lk] at hW5; cases hW5) (b6 _ _ neW hW5)
        have hw7 : Wholes (upd H6 r (.dT (kvI m))) ws (mkDm high st).U := fun j w e => by
          have z := hw5 j w e
          exact bk7 _ _ (fun g => by rw [g, lk] at z; cases z) (b6 _ _ (fun g => by rw [g, old5] at z; cases z) z)
        have hd7 := bk7 _ _ ner.symm ln.d
        have ha7 : ∀ (i : Nat) e a, ls[i]? = some e → as[i]? = some a → upd H6 r (.dT (kvI m)) a = some (.lst (e.2.map V.int)) ∧ a ≠ ld := fun i e a h1 h2 => by
          have an := ln.new a (List.mem_iff_getElem?.mpr ⟨i, h2⟩)
          exact ⟨bk7 _ _ (fun g => by rw [g, lk] at an; cases an) (ln.at_ i e a h1 h2), fun g => by rw [g, old5] at an; cases an⟩
        have wnl : ∀ j w, ws[j]? = some w → w ≠ ld := fun j w e g => by
          have z := hw5 j w e
          rw [g, old5] at z; cases z
        have asl := ln.len
        generalize upd H6 r (.dT (kvI m)) = H7 at s7 hW7 hw7 hd7 ha7 ⊢
        walk_at "f"
        refine My.dnewT fun fd nfd => ?_
        have s8 := s7.trans (same_new (o := HO.dT []) nfd)
        have nfd0 : H fd = none := s7.free nfd
        have hf8 := upd_same (H := H7) (a := fd) (o := HO.dT [])
        have hW8 := same_new (o := HO.dT []) nfd _ _ hW7
        have hw8 := hw7.same (same_new (o := HO.dT []) nfd)
        have hd8 := same_new (o := HO.dT []) nfd _ _ hd7
        have nfl : fd ≠ ld := fun g => by rw [g, hd7] at nfd; cases nfd
        have ha8 : ∀ (i : Nat) e a, ls[i]? = some e → as[i]? = some a → upd H7 fd (.dT []) a = some (.lst (e.2.map V.int)) ∧ a ≠ ld ∧ a ≠ fd := fun i e a h1 h2 => ⟨same_new nfd _ _ (ha7 i e a h1 h2).1, (ha7 i e a h1 h2).2, ne_of_none (ha7 i e a h1 h2).1 nfd⟩
        have wnf : ∀ j w, ws[j]? = some w → w ≠ fd := fun j w e => ne_of_none (hw7 j w e) nfd
        have Wnf : W ≠ fd := ne_of_none hW7 nfd
        generalize upd H7 fd (HO.dT []) = H8 at s8 hf8 hW8 hw8 hd8 ha8 ⊢
        walk_at "f"
        refine My.lockS hd8 True.intro fun od2 => ?_
        have lk2 := upd_same (H := H8) (a := ld) (o := HO.frz od2 (.dT (dkK (ls.map (·.1)) as)))
        have bk9 : ∀ b ob, b ≠ ld → H8 b = some ob → upd H8 ld (.frz od2 (.dT (dkK (ls.map (·.1)) as))) b = some ob := fun b ob nb e => by rw [upd_ne nb]; exact e
        have hf9 := bk9 _ _ nfl hf8
        have hW9 := bk9 _ _ neW hW8
        have hw9 : Wholes (upd H8 ld (.frz od2 (.dT (dkK (ls.map (·.1)) as)))) ws (mkDm high st).U := fun j w e => bk9 _ _ (wnl j w e) (hw8 j w e)
        have ha9 : ∀ (i : Nat) e a, ls[i]? = some e → as[i]? = some a → upd H8 ld (.frz od2 (.dT (dkK (ls.map (·.1)) as))) a = some (.lst (e.2.map V.int)) ∧ a ≠ fd := fun i e a h1 h2 => ⟨bk9 _ _ (ha8 i e a h1 h2).2.1 (ha8 i e a h1 h2).1, (ha8 i e a h1 h2).2.2⟩
        have s9 : ∀ b ob, H b = some ob → b ≠ ld → upd H8 ld (.frz od2 (.dT (dkK (ls.map (·.1)) as))) b = some ob := fun b ob e nb => bk9 b ob nb (s8 _ _ e)
        generalize upd H8 ld (.frz od2 (.dT (dkK (ls.map (·.1)) as))) = H9 at lk2 hf9 hW9 hw9 ha9 s9 ⊢
        have dkl : (dkK (ls.map (·.1)) as).length = ls.length := by unfold dkK; rw [List.length_zipWith, List.length_map, asl, Nat.min_self]
        refine My.forItT rfl lk2 (fun i σ' H' => ∃ (x y z v v2 : Option V), σ' = [some (.ref r), some (.int (k : Int)), some (.int (high : Int)), some (.ref s), some (.int (mkDm high st).L), some (.int (mkDm high st).H), some (.int (mkDm high st).U), some (.ref W), u, some (.ref ld), x, y, z, some (.ref fd), v, v2] ∧ But fd H9 H' ∧ PolD H' fd (ents k high (mkDm high st) (ls.take i))) ⟨_, _, _, _, _, rfl, .refl _ _, hf9⟩ (fun i σ' H' _ ⟨_, _, _, _, _, _, b, _⟩ => b _ _ nfl.symm lk2) ?_ ?_
        · rintro i key v qa T σ' H10 ekv hqa ⟨x, y, z, v', v2, rfl, b10, hf10⟩ nT
          unfold dkK at ekv
          rw [List.getElem?_zipWith, List.getElem?_map] at ekv
          cases e1 : ls[i]? with
          | none => rw [e1] at ekv; cases ekv
          | some e =>
            cases e2 : as[i]? with
            | none => rw [e1, e2] at ekv; cases ekv
            | some a =>
              rw [e1, e2] at ekv
              cases Option.some.inj ekv
              have em : e ∈ ls := List.mem_iff_getElem?.mpr ⟨i, e1⟩
              have ol := o.len e em
              have hle : k ≤ e.1.length := by omega
              refine My.gtup2 (SqT.of upd_same) rfl ?_
              have sT2 := same_new (o := HO.tup [V.ref qa, V.ref a]) nT
              have b11 := b10.trans (Same.but sT2)
              have hf11 := sT2 _ _ hf10
              have hq11 := sT2 _ _ hqa
              generalize upd H10 T _ = H11 at b11 hf11 hq11 ⊢
              have qnf : qa ≠ fd := fun g => by rw [g, hf11] at hq11; cases hq11
              walk_at "f"
              refine My.forEn1 ?_
              walk_at "f"
              refine ⟨a, W, e.2, _, _, _, ws, high, B, 450, rfl, b11 _ _ (ha9 i e a e1 e2).2 (ha9 i e a e1 e2).1, ol.1, h60, b11 _ _ Wnf hW9, hl, fun j w ej => b11 _ _ (wnf j w ej) (hw9 j w ej), lbd e em, bL, bH, bU, by omega, fun p H12 np sp hp => ?_⟩
              have pnf : p ≠ fd := (ne_of_none hf11 np).symm
              have etake : ls.take (i + 1) = ls.take i ++ [e] := by rw [List.take_succ, e1]; rfl
              have eall : ents k high (mkDm high st) (ls.take (i + 1)) = ents k high (mkDm high st) (ls.take i) ++ ent k high (mkDm high st) e := by
                rw [etake]; unfold ents; rw [List.flatMap_append, List.flatMap_cons, List.flatMap_nil, List.append_nil]
              have subl : (ents k high (mkDm high st) (ls.take (i + 1))).Sublist (ents k high (mkDm high st) ls) := by
                have z : ents k high (mkDm high st) (ls.take (i + 1)) ++ ents k high (mkDm high st) (ls.drop (i + 1)) = ents k high (mkDm high st) ls := by
                  unfold ents; rw [← List.flatMap_append, List.take_append_drop]
                rw [← z]
                exact List.sublist_append_left _ _
              refine My.forEn (SqL.of hp) (fun j σ' H' => ∃ (x1 y1 : Option V), σ' = [some (.ref r), some (.int (k : Int)), some (.int (high : Int)), some (.ref s), some (.int (mkDm high st).L), some (.int (mkDm high st).H), some (.int (mkDm high st).U), some (.ref W), u, some (.ref ld), x, x1, some (.ref qa), some (.ref fd), some (.ref a), y1] ∧ But fd H12 H' ∧ PolD H' fd (ents k high (mkDm high st) (ls.take i) ++ (ent k high (mkDm high st) e).take j)) ⟨_, _, rfl, .refl _ _, by rw [List.take_zero, List.append_nil]; exact sp _ _ hf11⟩ (fun j σ' H' _ ⟨_, _, _, b, _⟩ => SqL.of (b _ _ pnf hp)) ?_ ?_
              · rintro j x T σ' H13 ex ⟨_, _, rfl, b13, hf13⟩ nT
                unfold lsF at ex
                rw [List.getElem?_map] at ex
                cases er : (List.range (high + 1))[j]? with
                | none => rw [er] at ex; cases ex
                | some j' =>
                  rw [er] at ex
                  cases Option.some.inj ex
                  obtain ⟨hj, ej⟩ := List.getElem?_eq_some_iff.mp er
                  rw [List.length_range] at hj
                  rw [List.getElem_range] at ej
                  subst ej
                  refine My.gtup2 (SqT.of upd_same) rfl ?_
                  have sT3 := same_new (o := HO.tup [V.int (j : Nat), V.int (BM.Fs e.2 (mkDm high st).L (mkDm high st).H (mkDm high st).U high 0 j)]) nT
                  have b14 := b13.trans (Same.but sT3)
                  have hf14 := sT3 _ _ hf13
                  generalize upd H13 T _ = H14 at b14 hf14 ⊢
                  have hq14 := b14 _ _ qnf (sp _ _ hq11)
                  walk_at "f"
                  refine My.slA hq14 fun q1 H15 s15 h15 => ?_
                  walk_at "f"
                  refine ⟨My.sz (by simp), fun p1 np1 => ?_⟩
                  have s16 := s15.trans (same_new (o := HO.tup [V.int (j : Nat)]) np1)
                  refine My.catA (same_new np1 _ _ h15) upd_same (by rw [ik_kV, cut_take (by rw [List.length_map]; omega), List.length_take, List.length_map]; simp; omega) fun q2 H17 s17 h17 => ?_
                  have s18 := s16.trans s17
                  walk_at "f"
                  refine My.slA (s18 _ _ hq14) fun q3 H19 s19 h19 => ?_
                  walk_at "f"
                  refine My.catA (s19 _ _ h17) h19 (by rw [ik_kV, cut_take (by rw [List.length_map]; omega), cut_drop (by rw [List.length_map]; omega), List.length_append, List.length_take, List.length_drop, List.length_map]; simp; omega) fun q4 H20 s20 h20 => ?_
                  rw [tup_ins hle] at h20
                  have s21 := (s18.trans s19).trans s20
                  have hf20 := s21 _ _ hf14
                  have pj : (ent k high (mkDm high st) e).take (j + 1) = (ent k high (mkDm high st) e).take j ++ [(ins k e.1 (j : Int), BM.Fs e.2 (mkDm high st).L (mkDm high st).H (mkDm high st).U high 0 j)] := by
                    rw [List.take_succ]
                    congr 1
                    unfold ent
                    rw [List.getElem?_map, List.getElem?_range hj]; rfl
                  have ndj : (keysP (ents k high (mkDm high st) (ls.take i) ++ (ent k high (mkDm high st) e).take (j + 1))).Nodup := by
                    refine List.Nodup.sublist (List.Sublist.map _ ?_) nds
                    refine List.Sublist.trans (List.Sublist.append (List.Sublist.refl _) (List.take_sublist _ _)) (eall ▸ subl)
                  have lj : (ents k high (mkDm high st) (ls.take i) ++ (ent k high (mkDm high st) e).take (j + 1)).length ≤ 5000 := by
                    refine Nat.le_trans (List.Sublist.length_le ?_) lsp
                    refine List.Sublist.trans (List.Sublist.append (List.Sublist.refl _) (List.take_sublist _ _)) (eall ▸ subl)
                  rw [pj, ← List.append_assoc] at ndj lj
                  refine ⟨fd, _, rfl, DPut.t hf20 h20 (by rw [kvI_len, sizeLine_eq]; rw [List.length_append] at lj; simp at lj ⊢; omega), ?_⟩
                  refine ⟨_, _, rfl, fun b ob nb eb => by rw [upd_ne nb]; exact s21 _ _ (b14 _ _ nb eb), ?_⟩
                  rw [PolD, upd_same, kvI_put, putP_new ndj, pj, ← List.append_assoc]
              · rintro σ' H13 ⟨_, _, rfl, b13, hf13⟩
                rw [show (lsF (high + 1) (BM.Fs e.2 (mkDm high st).L (mkDm high st).H (mkDm high st).U high 0)).length = high + 1 by unfold lsF; rw [List.length_map, List.length_range], List.take_of_length_le (l := ent k high (mkDm high st) e) (by unfold ent; rw [List.length_map, List.length_range]; exact Nat.le_refl _), ← eall] at hf13
                exact ⟨_, _, _, _, _, rfl, fun b ob nb eb => b13 _ _ nb (sp _ _ (b11 _ _ nb eb)), hf13⟩
        · rintro σ' H10 ⟨x, y, z, v', v2, rfl, b10, hf10⟩
          refine ⟨b10 _ _ nfl.symm lk2, ?_⟩
          rw [dkl, List.take_length] at hf10
          walk_at "f"
          refine q fd _ nfd0 (fun b ob e => ?_) (by rw [PolD, upd_ne nfl]; exact hf10)
          rw [upd_ne (ne_of_none e nld0)]
          exact b10 _ _ (ne_of_none e nfd0) (s9 _ _ e (ne_of_none e nld0))
end
end K25

set_option Elab.async false
set_option linter.all false
set_option maxRecDepth 100000
set_option maxHeartbeats 4000000
/-! the rows while they are spread, one unknown after another -/
namespace K25
open PySem PySem.Spec PyProof.Rows L2 DX
theorem ins_del_set {k : Nat} {I : List Int} {a : Int} (h : k < I.length) : ins k (del k I) a = I.set k a := by
  have e := ins_del (k := k) (l := I.set k a) (by rw [List.length_set]; exact h)
  rw [getD_set h, if_pos rfl] at e
  rw [← e]
  congr 1
  unfold del
  rw [List.take_set_of_le (Nat.le_refl _), List.drop_set_of_lt (Nat.lt_succ_self _)]
theorem del_set {k : Nat} {I : List Int} {a : Int} : del k (I.set k a) = del k I := by
  unfold del
  rw [List.take_set_of_le (Nat.le_refl _), List.drop_set_of_lt (Nat.lt_succ_self _)]
theorem del_eq {k : Nat} {I J : List Int} (hI : k < I.length) (hJ : k < J.length) (e : del k J = del k I) {j : Nat} (n : j ≠ k) : J.getD j 0 = I.getD j 0 := by
  have h1 := ins_del hJ
  rw [e, ins_del_set hI] at h1
  rw [← h1, getD_set hI, if_neg n]
def wtK : List BM.Dm → Nat → List Int → List Int → Int
  | _ :: ds, 0, J, I => (if J.headD 0 = I.headD 0 then 1 else 0) * wtK ds 0 J.tail I.tail
  | d :: ds, k + 1, J, I => BM.wt d (J.headD 0).toNat (I.headD 0).toNat * wtK ds k J.tail I.tail
  | [], _, _, _ => 1
theorem sm_ind (f : Nat → Int) (c : Int) {n : Nat} (h0 : 0 ≤ c) (h1 : c < n) : BM.sm n (fun j => (if c = (j : Int) then 1 else 0) * f j) = f c.toNat := by
  induction n with
  | zero => omega
  | succ n ih =>
    show BM.sm n _ + (if c = (n : Int) then 1 else 0) * f n = _
    by_cases e : c = (n : Int)
    · rw [if_pos e, BM.sm_zero fun t ht => by rw [if_neg (by omega), Int.zero_mul], Int.zero_add, Int.one_mul, e]; rfl
    · rw [if_neg e, Int.zero_mul, Int.add_zero]
      exact ih (by omega)
theorem headD_getD (l : List Int) : l.headD 0 = l.getD 0 0 := by cases l <;> rfl
theorem tail_getD (l : List Int) (k : Nat) : l.tail.getD k 0 = l.getD (k + 1) 0 := by cases l <;> rfl
theorem wtK_step : ∀ {k : Nat} {ds : List BM.Dm} {d : BM.Dm} {J I : List Int} {high : Nat}, ds[k]? = some d → I.length = ds.length → 0 ≤ J.getD k 0 → J.getD k 0 ≤ (high : Int) →
    BM.sm (high + 1) (fun j => wtK ds k J (I.set k (j : Int)) * BM.wt d j (I.getD k 0).toNat) = wtK ds (k + 1) J I
  | 0, [], _, _, _, _, h, _, _, _ => by cases h
  | _ + 1, [], _, _, _, _, h, _, _, _ => by cases h
  | _, _ :: _, _, _, [], _, _, l, _, _ => by cases l
  | 0, d :: ds, d', J, i :: I, high, h, l, h0, h1 => by
    cases Option.some.inj h
    show BM.sm (high + 1) (fun j => ((if J.headD 0 = (j : Int) then 1 else 0) * wtK ds 0 J.tail I) * BM.wt d j i.toNat) = BM.wt d (J.headD 0).toNat i.toNat * wtK ds 0 J.tail I
    rw [headD_getD]
    rw [show (fun j : Nat => ((if J.getD 0 0 = (j : Int) then 1 else 0) * wtK ds 0 J.tail I) * BM.wt d j i.toNat) = fun j : Nat => (if J.getD 0 0 = (j : Int) then 1 else 0) * (wtK ds 0 J.tail I * BM.wt d j i.toNat) from funext fun j => Int.mul_assoc _ _ _]
    rw [sm_ind (fun j => wtK ds 0 J.tail I * BM.wt d j i.toNat) _ h0 (by omega), Int.mul_comm]
  | k + 1, d :: ds, d', J, i :: I, high, h, l, h0, h1 => by
    have ih := wtK_step (k := k) (ds := ds) (d := d') (J := J.tail) (I := I) (high := high) h (Nat.succ.inj l) (by rw [tail_getD]; exact h0) (by rw [tail_getD]; exact h1)
    show BM.sm (high + 1) (fun j => (BM.wt d (J.headD 0).toNat i.toNat * wtK ds k J.tail (I.set k (j : Int))) * BM.wt d' j (I.getD k 0).toNat) = BM.wt d (J.headD 0).toNat i.toNat * wtK ds (k + 1) J.tail I
    rw [← ih]
    rw [show (fun j : Nat => (BM.wt d (J.headD 0).toNat i.toNat * wtK ds k J.tail (I.set k (j : Int))) * BM.wt d' j (I.getD k 0).toNat) = fun j : Nat => BM.wt d (J.headD 0).toNat i.toNat * (wtK ds k J.tail (I.set k (j : Int)) * BM.wt d' j (I.getD k 0).toNat) from funext fun j => Int.mul_assoc _ _ _]
    exact BM.sm_mul _ _ _
theorem wtK_zero : ∀ {k : Nat} {ds : List BM.Dm} {J I : List Int} {j : Nat}, k ≤ j → j < ds.length → J.getD j 0 ≠ I.getD j 0 → wtK ds k J I = 0
  | _, [], _, _, _, _, h, _ => by cases h
  | 0, d :: ds, J, I, 0, _, _, n => by
    show (if _ then (1 : Int) else 0) * _ = 0
    rw [headD_getD, headD_getD, if_neg n, Int.zero_mul]
  | 0, d :: ds, J, I, j + 1, _, h, n => by
    show (if _ then (1 : Int) else 0) * wtK ds 0 J.tail I.tail = 0
    rw [wtK_zero (j := j) (Nat.zero_le _) (by simpa using h) (by rw [tail_getD, tail_getD]; exact n), Int.mul_zero]
  | k + 1, d :: ds, J, I, 0, h, _, _ => by omega
  | k + 1, d :: ds, J, I, j + 1, h1, h, n => by
    show _ * wtK ds k J.tail I.tail = 0
    rw [wtK_zero (j := j) (by omega) (by simpa using h) (by rw [tail_getD, tail_getD]; exact n), Int.mul_zero]
theorem wtK_same : ∀ {ds : List BM.Dm} {I : List Int}, wtK ds 0 I I = 1
  | [], _ => rfl
  | _ :: ds, I => by
    show (if _ then (1 : Int) else 0) * wtK ds 0 I.tail I.tail = 1
    rw [if_pos rfl, wtK_same]; rfl
theorem wtK_all : ∀ {ds : List BM.Dm} {J I : List Int}, wtK ds ds.length J I = BM.wtA ds (J.map Int.toNat) (I.map Int.toNat)
  | [], _, _ => rfl
  | d :: ds, J, I => by
    show BM.wt d (J.headD 0).toNat (I.headD 0).toNat * wtK ds ds.length J.tail I.tail = BM.wt d ((J.map Int.toNat).headD 0) ((I.map Int.toNat).headD 0) * BM.wtA ds (J.map Int.toNat).tail (I.map Int.toNat).tail
    rw [wtK_all, List.map_tail, List.map_tail]
    congr 1
    cases J <;> cases I <;> rfl
/-- the rows behind k unknowns -/
structure RowsAt (ds : List BM.Dm) (ts : Pol) (k : Nat) (rows : Pol) : Prop where
  nd : (keysP rows).Nodup
  key : ∀ I, I ∈ keysP rows ↔ I.length = ds.length ∧ (∀ j d, j < k → ds[j]? = some d → 0 ≤ I.getD j 0 ∧ I.getD j 0 ≤ (d.D : Int)) ∧ ∃ p ∈ ts, ∀ j, k ≤ j → j < ds.length → p.1.getD j 0 = I.getD j 0
  val : ∀ I, I.length = ds.length → (∀ j d, j < k → ds[j]? = some d → 0 ≤ I.getD j 0 ∧ I.getD j 0 ≤ (d.D : Int)) → val rows I = (ts.map fun p => p.2 * wtK ds k p.1 I).sum
/-- what the terms keep -/
structure TsOk (ds : List BM.Dm) (ts : Pol) : Prop where
  nd : (keysP ts).Nodup
  len : ∀ p ∈ ts, p.1.length = ds.length
  wi : ∀ p ∈ ts, ∀ j d, ds[j]? = some d → 0 ≤ p.1.getD j 0 ∧ p.1.getD j 0 ≤ (d.D : Int)
theorem list_ext {I J : List Int} (l : I.length = J.length) (h : ∀ j, j < I.length → I.getD j 0 = J.getD j 0) : I = J := by
  refine List.ext_getElem l fun j h1 h2 => ?_
  have := h j h1
  rwa [List.getD_eq_getElem?_getD, List.getD_eq_getElem?_getD, List.getElem?_eq_getElem h1, List.getElem?_eq_getElem h2] at this
theorem rows_start {ds : List BM.Dm} {ts : Pol} (o : TsOk ds ts) : RowsAt ds ts 0 ts := by
  refine ⟨o.nd, fun I => ⟨fun h => ?_, ?_⟩, fun I l _ => ?_⟩
  · obtain ⟨p, hp, rfl⟩ := List.mem_map.mp h
    exact ⟨o.len p hp, fun j d h => by omega, p, hp, fun _ _ _ => rfl⟩
  · rintro ⟨l, _, p, hp, e⟩
    have : p.1 = I := list_ext (by rw [o.len p hp, l]) fun j hj => e j (Nat.zero_le _) (by rw [← o.len p hp]; exact hj)
    exact List.mem_map.mpr ⟨p, hp, this⟩
  · have nd := o.nd
    have hl := o.len
    clear o
    induction ts with
    | nil => rfl
    | cons p ts ih =>
      rw [keysP, List.map_cons, List.nodup_cons] at nd
      have ih := ih nd.2 fun q hq => hl q (List.mem_cons_of_mem _ hq)
      rw [List.map_cons, List.sum_cons, ← ih]
      by_cases e : p.1 = I
      · have z : val ts I = 0 := val_off (by rw [← e]; exact nd.1)
        rw [z, Int.add_zero, e, wtK_same, Int.mul_one]
        unfold val getP
        rw [List.find?_cons, decide_eq_true e]; rfl
      · obtain ⟨j, hj, n⟩ : ∃ j, j < ds.length ∧ p.1.getD j 0 ≠ I.getD j 0 := Classical.byContradiction fun z => e (list_ext (by rw [hl p List.mem_cons_self, l]) fun j hj => Classical.byContradiction fun n => z ⟨j, by rw [← hl p List.mem_cons_self]; exact hj, n⟩)
        rw [wtK_zero (Nat.zero_le _) hj n, Int.mul_zero, Int.zero_add]
        unfold val getP
        rw [List.find?_cons, decide_eq_false e]
theorem sum_sm {α : Type} (f : α → Nat → Int) (n : Nat) : ∀ l : List α, BM.sm n (fun j => (l.map fun a => f a j).sum) = (l.map fun a => BM.sm n (f a)).sum
  | [] => BM.sm_zero fun _ _ => rfl
  | a :: l => by
    rw [List.map_cons, List.sum_cons, ← sum_sm f n l, ← BM.sm_add]
    exact BM.sm_congr fun t _ => by rw [List.map_cons, List.sum_cons]
theorem sum_mulr {α : Type} (f : α → Int) (c : Int) : ∀ l : List α, (l.map f).sum * c = (l.map fun a => f a * c).sum
  | [] => Int.zero_mul c
  | a :: l => by rw [List.map_cons, List.sum_cons, List.map_cons, List.sum_cons, Int.add_mul, sum_mulr f c l]
theorem sum_all0 {α : Type} {f : α → Int} : ∀ {l : List α}, (∀ a ∈ l, f a = 0) → (l.map f).sum = 0
  | [], _ => rfl
  | a :: l, h => by rw [List.map_cons, List.sum_cons, h a List.mem_cons_self, sum_all0 fun b hb => h b (List.mem_cons_of_mem _ hb)]; rfl
theorem RowsAt.ok {ds : List BM.Dm} {ts rows : Pol} {k : Nat} {d : BM.Dm} (o : TsOk ds ts) (h : RowsAt ds ts k rows) (hd : ds[k]? = some d) : RowOk k d.D ds.length rows := by
  refine ⟨h.nd, fun p hp => ?_⟩
  have kl := (List.getElem?_eq_some_iff.mp hd).1
  obtain ⟨l, _, t, ht, e⟩ := (h.key p.1).mp (List.mem_map.mpr ⟨p, hp, rfl⟩)
  have w := o.wi t ht k d hd
  rw [e k (Nat.le_refl _) kl] at w
  exact ⟨l, w⟩
theorem RowsAt.step {ds : List BM.Dm} {ts rows : Pol} {k : Nat} {d : BM.Dm} (o : TsOk ds ts) (h : RowsAt ds ts k rows) (hd : ds[k]? = some d) : RowsAt ds ts (k + 1) (spreadP k d.D d rows) := by
  have kl := (List.getElem?_eq_some_iff.mp hd).1
  have ro := h.ok o hd
  have hkey : ∀ I, I ∈ keysP (spreadP k d.D d rows) ↔ I.length = ds.length ∧ (∀ j e, j < k + 1 → ds[j]? = some e → 0 ≤ I.getD j 0 ∧ I.getD j 0 ≤ (e.D : Int)) ∧ ∃ p ∈ ts, ∀ j, k + 1 ≤ j → j < ds.length → p.1.getD j 0 = I.getD j 0 := by
    intro I
    rw [spread_key kl ro]
    constructor
    · rintro ⟨l, h0, h1, p, hp, e⟩
      obtain ⟨lp, wi, t, ht, et⟩ := (h.key p.1).mp (List.mem_map.mpr ⟨p, hp, rfl⟩)
      have same : ∀ j, j ≠ k → p.1.getD j 0 = I.getD j 0 := fun j n => del_eq (by omega) (by omega) e n
      refine ⟨l, fun j e hj he => ?_, t, ht, fun j h1 h2 => ?_⟩
      · by_cases z : j = k
        · subst z
          rw [hd] at he
          cases he
          exact ⟨h0, h1⟩
        · rw [← same j z]
          exact wi j e (by omega) he
      · rw [et j (by omega) h2, same j (by omega)]
    · rintro ⟨l, wi, t, ht, et⟩
      have w := wi k d (Nat.lt_succ_self _) hd
      refine ⟨l, w.1, w.2, ?_⟩
      have hm : I.set k (t.1.getD k 0) ∈ keysP rows := by
        refine (h.key _).mpr ⟨by rw [List.length_set]; exact l, fun j e hj he => ?_, t, ht, fun j h1 h2 => ?_⟩
        · rw [getD_set (by omega), if_neg (by omega)]
          exact wi j e (by omega) he
        · rw [getD_set (by omega)]
          by_cases z : j = k
          · rw [if_pos z, z]
          · rw [if_neg z]
            exact et j (by omega) h2
      obtain ⟨p, hp, ep⟩ := List.mem_map.mp hm
      exact ⟨p, hp, by rw [ep, del_set]⟩
  refine ⟨spread_nd kl ro, hkey, fun I l wi => ?_⟩
  have w := wi k d (Nat.lt_succ_self _) hd
  by_cases hI : I ∈ keysP (spreadP k d.D d rows)
  · rw [spread_val kl ro rfl hI]
    have e : ∀ t, t < d.D + 1 → K25.val rows (ins k (del k I) (t : Int)) * BM.wt d t (I.getD k 0).toNat = (ts.map fun p => (p.2 * wtK ds k p.1 (I.set k (t : Int))) * BM.wt d t (I.getD k 0).toNat).sum := fun t ht => by
      rw [ins_del_set (by omega), h.val _ (by rw [List.length_set]; exact l) fun j e hj he => by rw [getD_set (by omega), if_neg (by omega)]; exact wi j e (by omega) he, sum_mulr]
    rw [BM.sm_congr e, sum_sm (fun (p : List Int × Int) (t : Nat) => (p.2 * wtK ds k p.1 (I.set k (t : Int))) * BM.wt d t (I.getD k 0).toNat)]
    congr 1
    refine List.map_congr_left fun p hp => ?_
    have wp := o.wi p hp k d hd
    rw [← wtK_step (J := p.1) hd l wp.1 wp.2, ← BM.sm_mul]
    exact BM.sm_congr fun t _ => Int.mul_assoc _ _ _
  · rw [val_off hI, sum_all0 fun p hp => ?_]
    obtain ⟨j, h1, h2, n⟩ : ∃ j, k + 1 ≤ j ∧ j < ds.length ∧ p.1.getD j 0 ≠ I.getD j 0 := Classical.byContradiction fun z => hI ((hkey I).mpr ⟨l, wi, p, hp, fun j h1 h2 => Classical.byContradiction fun n => z ⟨j, h1, h2, n⟩⟩)
    rw [wtK_zero h1 h2 n, Int.mul_zero]
theorem wtK_skip : ∀ {k : Nat} {ds : List BM.Dm} {d : BM.Dm} {J I : List Int}, ds[k]? = some d → d.D = 0 → J.getD k 0 = 0 → I.getD k 0 = 0 → wtK ds (k + 1) J I = wtK ds k J I
  | _, [], _, _, _, h, _, _, _ => by simp at h
  | 0, d :: ds, d', J, I, h, hD, hJ, hI => by
    cases Option.some.inj h
    show BM.wt d (J.headD 0).toNat (I.headD 0).toNat * wtK ds 0 J.tail I.tail = (if J.headD 0 = I.headD 0 then 1 else 0) * wtK ds 0 J.tail I.tail
    rw [headD_getD, headD_getD, hJ, hI, if_pos rfl]
    congr 1
    unfold BM.wt
    rw [hD]
    show d.U ^ 0 * BM.ch 0 0 = 1
    rw [BM.ch_zero, Int.pow_zero]; rfl
  | k + 1, d :: ds, d', J, I, h, hD, hJ, hI => by
    show _ * wtK ds (k + 1) J.tail I.tail = _ * wtK ds k J.tail I.tail
    rw [wtK_skip (k := k) (d := d') h hD (by rw [tail_getD]; exact hJ) (by rw [tail_getD]; exact hI)]
theorem RowsAt.skip {ds : List BM.Dm} {ts rows : Pol} {k : Nat} {d : BM.Dm} (o : TsOk ds ts) (h : RowsAt ds ts k rows) (hd : ds[k]? = some d) (h0 : d.D = 0) : RowsAt ds ts (k + 1) rows := by
  have kl := (List.getElem?_eq_some_iff.mp hd).1
  have tz : ∀ p ∈ ts, p.1.getD k 0 = 0 := fun p hp => by
    have w := o.wi p hp k d hd
    rw [h0] at w
    omega
  refine ⟨h.nd, fun I => ?_, fun I l wi => ?_⟩
  · rw [h.key]
    constructor
    · rintro ⟨l, wi, p, hp, e⟩
      refine ⟨l, fun j x hj hx => ?_, p, hp, fun j h1 h2 => e j (by omega) h2⟩
      by_cases z : j = k
      · subst z
        rw [hd] at hx
        cases hx
        rw [← e j (Nat.le_refl _) kl, tz p hp]
        exact ⟨Int.le_refl _, by omega⟩
      · exact wi j x (by omega) hx
    · rintro ⟨l, wi, p, hp, e⟩
      refine ⟨l, fun j x hj hx => wi j x (by omega) hx, p, hp, fun j h1 h2 => ?_⟩
      by_cases z : j = k
      · have w := wi k d (Nat.lt_succ_self _) hd
        rw [h0] at w
        rw [z, tz p hp]
        omega
      · exact e j (by omega) h2
  · have w := wi k d (Nat.lt_succ_self _) hd
    rw [h0] at w
    rw [h.val I l fun j x hj hx => wi j x (by omega) hx]
    congr 1
    refine List.map_congr_left fun p hp => ?_
    rw [wtK_skip hd h0 (tz p hp) (by omega)]
/-! ### the sign of all rows -/
def natP (ts : Pol) : BM.PolN := ts.map fun p => (p.1.map Int.toNat, p.2)
def rowSg (ds : List BM.Dm) (m : BM.PolN) : Int := if m.isEmpty = true then 0 else if ((BM.idx ds).all fun I => decide (0 < BM.rowV ds m I)) = true then 1 else if ((BM.idx ds).all fun I => decide (BM.rowV ds m I < 0)) = true then -1 else 0
def cntP : List BM.Dm → Nat
  | [] => 1
  | d :: ds => (d.D + 1) * cntP ds
theorem idx_len : ∀ ds : List BM.Dm, (BM.idx ds).length = cntP ds
  | [] => rfl
  | d :: ds => by
    show (List.flatMap _ _).length = (d.D + 1) * cntP ds
    rw [flat_len (c := cntP ds) (fun i => by rw [List.length_map, idx_len ds]), List.length_range]
theorem idx_nd : ∀ ds : List BM.Dm, (BM.idx ds).Nodup
  | [] => List.nodup_cons.mpr ⟨by simp, List.nodup_nil⟩
  | d :: ds => by
    show (List.flatMap _ _).Pairwise _
    rw [List.pairwise_flatMap]
    refine ⟨fun i _ => List.Pairwise.map _ (fun a b h e => h (List.cons.inj e).2) (idx_nd ds), ?_⟩
    refine List.Pairwise.imp (fun {i j} (n : i ≠ j) x hx y hy e => ?_) List.nodup_range
    obtain ⟨a, _, rfl⟩ := List.mem_map.mp hx
    obtain ⟨b, _, rfl⟩ := List.mem_map.mp hy
    exact n (List.cons.inj e).1
theorem toInt_nat {I : List Int} (h : ∀ j, j < I.length → 0 ≤ I.getD j 0) : (I.map Int.toNat).map Int.ofNat = I := by
  rw [List.map_map]
  conv => rhs; rw [← List.map_id I]
  refine List.map_congr_left fun x hx => ?_
  obtain ⟨j, hj⟩ := List.mem_iff_getElem?.mp hx
  have z := h j (List.getElem?_eq_some_iff.mp hj).1
  rw [List.getD_eq_getElem?_getD, hj] at z
  exact Int.toNat_of_nonneg z
theorem wi_iff : ∀ {ds : List BM.Dm} {I : List Nat}, BM.Wi ds I ↔ ∀ j d, ds[j]? = some d → I.getD j 0 ≤ d.D
  | [], I => ⟨fun _ j d h => by simp at h, fun _ => True.intro⟩
  | d :: ds, I => by
    have ih := wi_iff (ds := ds) (I := I.tail)
    have t0 : I.headD 0 = I.getD 0 0 := by cases I <;> rfl
    have tt : ∀ j, I.tail.getD j 0 = I.getD (j + 1) 0 := fun j => by cases I <;> rfl
    constructor
    · rintro ⟨h1, h2⟩ j e he
      cases j with
      | zero => cases Option.some.inj he; rw [← t0]; exact h1
      | succ j => rw [← tt]; exact ih.mp h2 j e he
    · intro h
      exact ⟨by rw [t0]; exact h 0 d rfl, ih.mpr fun j e he => by rw [tt]; exact h (j + 1) e he⟩
theorem getD_toNat (I : List Int) (j : Nat) : (I.map Int.toNat).getD j 0 = (I.getD j 0).toNat := by
  rw [List.getD_eq_getElem?_getD, List.getD_eq_getElem?_getD, List.getElem?_map]
  cases I[j]? <;> rfl
theorem getD_ofNat (I : List Nat) (j : Nat) : (I.map Int.ofNat).getD j 0 = ((I.getD j 0 : Nat) : Int) := by
  rw [List.getD_eq_getElem?_getD, List.getD_eq_getElem?_getD, List.getElem?_map]
  cases I[j]? <;> rfl
theorem rowV_val {ds : List BM.Dm} {ts rows : Pol} (h : RowsAt ds ts ds.length rows) {p : List Int × Int} (hp : p ∈ rows) : p.2 = BM.rowV ds (natP ts) (p.1.map Int.toNat) := by
  obtain ⟨l, wi, _⟩ := (h.key p.1).mp (List.mem_map.mpr ⟨p, hp, rfl⟩)
  have v := h.val p.1 l wi
  rw [val_of h.nd hp] at v
  rw [v]
  unfold BM.rowV natP
  rw [List.map_map]
  congr 1
  exact List.map_congr_left fun t _ => by
    show t.2 * wtK ds ds.length t.1 p.1 = t.2 * BM.wtA ds (t.1.map Int.toNat) (p.1.map Int.toNat)
    rw [wtK_all]
theorem rows_perm {ds : List BM.Dm} {ts rows : Pol} (h : RowsAt ds ts ds.length rows) (ne : ts ≠ []) : (keysP rows).Perm ((BM.idx ds).map fun I => I.map Int.ofNat) := by
  refine (List.perm_ext_iff_of_nodup h.nd ?_).mpr fun I => ?_
  · exact List.Pairwise.map _ (fun a b n e => n (map_inj (fun x y z => Int.ofNat.inj z) e)) (idx_nd ds)
  · rw [h.key, List.mem_map]
    constructor
    · rintro ⟨l, wi, _⟩
      have wi' : ∀ j, j < I.length → 0 ≤ I.getD j 0 := fun j hj => (wi j _ (by omega) (List.getElem?_eq_getElem (by omega))).1
      refine ⟨I.map Int.toNat, BM.idx_of (wi_iff.mpr fun j d hd => ?_) (by rw [List.length_map]; exact l), toInt_nat wi'⟩
      have := wi j d (List.getElem?_eq_some_iff.mp hd).1 hd
      rw [getD_toNat]; omega
    · rintro ⟨J, hJ, rfl⟩
      obtain ⟨w, l⟩ := BM.idx_wi hJ
      obtain ⟨t, ht⟩ : ∃ t, t ∈ ts := List.exists_mem_of_ne_nil ts ne
      refine ⟨by rw [List.length_map]; exact l, fun j d hj hd => ?_, t, ht, fun j h1 h2 => by omega⟩
      have := wi_iff.mp w j d hd
      rw [getD_ofNat]; omega
theorem rows_sign {ds : List BM.Dm} {ts rows : Pol} (h : RowsAt ds ts ds.length rows) :
    (if rows.length < cntP ds then (0 : Int) else if ((rows.map (·.2)).all fun c => decide (0 < c)) = true then 1 else if ((rows.map (·.2)).all fun c => decide (c < 0)) = true then -1 else 0) = rowSg ds (natP ts) := by
  unfold rowSg
  by_cases ne : ts = []
  · subst ne
    have : rows = [] := by
      cases rows with
      | nil => rfl
      | cons p r =>
        obtain ⟨_, _, t, ht, _⟩ := (h.key p.1).mp (List.mem_map.mpr ⟨p, List.mem_cons_self, rfl⟩)
        cases ht
    have c1 : 0 < cntP ds := by
      clear h this
      induction ds with
      | nil => exact Nat.zero_lt_one
      | cons d ds ih => exact Nat.mul_pos (Nat.succ_pos _) ih
    rw [this, if_pos (show ([] : Pol).length < _ from c1), if_pos (show (natP []).isEmpty = true from rfl)]
  · have pm := rows_perm h ne
    have hl : rows.length = cntP ds := by
      have := pm.length_eq
      rw [keysP, List.length_map, List.length_map, idx_len] at this
      exact this
    have e0 : ¬ (natP ts).isEmpty = true := by
      cases ts with
      | nil => exact absurd rfl ne
      | cons a b => exact fun z => nomatch z
    have al : ∀ f : Int → Bool, ((rows.map (·.2)).all f) = ((BM.idx ds).all fun I => f (BM.rowV ds (natP ts) I)) := fun f => by
      rw [Bool.eq_iff_iff, List.all_eq_true, List.all_eq_true]
      constructor
      · intro z I hI
        have hm : I.map Int.ofNat ∈ keysP rows := pm.mem_iff.mpr (List.mem_map.mpr ⟨I, hI, rfl⟩)
        obtain ⟨p, hp, ep⟩ := List.mem_map.mp hm
        have v := rowV_val h hp
        have e : p.1.map Int.toNat = I := by
          rw [ep, List.map_map]
          conv => rhs; rw [← List.map_id I]
          exact List.map_congr_left fun x _ => rfl
        rw [e] at v
        rw [← v]
        exact z _ (List.mem_map.mpr ⟨p, hp, rfl⟩)
      · intro z c hc
        obtain ⟨p, hp, rfl⟩ := List.mem_map.mp hc
        obtain ⟨I, hI, eI⟩ := List.mem_map.mp (pm.mem_iff.mp (List.mem_map.mpr ⟨p, hp, rfl⟩))
        have eI : I.map Int.ofNat = p.1 := eI
        have e : p.1.map Int.toNat = I := by
          rw [← eI, List.map_map]
          conv => rhs; rw [← List.map_id I]
          exact List.map_congr_left fun x _ => rfl
        rw [rowV_val h hp, e]
        exact z I hI
    rw [if_neg (by omega), if_neg e0, al fun c => decide (0 < c), al fun c => decide (c < 0)]
end K25

set_option Elab.async false
set_option linter.all false
set_option maxRecDepth 100000
set_option maxHeartbeats 4000000
namespace My
open PySem PySem.Spec PyProof.Rows L2 DX
section
variable {X : Cx} {σ : L2.St} {H1 : Hp} {Q : VK} {K : PySem.W.Frag} {te tk tv : TE} {g : TG} {tt : TT} {vs : List Nat}
/-- the turns of a dict comprehension -/
def DJ (kd : DKind X) (J : It) (g : TG) (tt : TT) (tk tv : TE) (vs : List Nat) (σ : L2.St) (Q : VK) (H1 : Hp) : Prop := ∀ D, H1 D = none → ∃ W : Nat → Nat → Hp → Prop, (∃ m, W 0 m (upd H1 D kd.new)) ∧ ∀ i m H, W i m H →
  (J.stop i H ∧ Q (.ref D) H) ∨ (J.go i H ∧ ∃ N : Hp → Prop, (∀ H', N H' → ∃ m', m' < m ∧ W (i + 1) m' H') ∧ ∀ x H', J.yld i H x H' → g x (wipe σ vs) H' fun σ2 H2 => wipe σ2 vs = wipe σ vs ∧ tt σ2 H2 fun b H3 =>
    if b = true then tk σ2 H3 fun y H4 => tv σ2 H4 fun z H5 => ∃ H6, kd.put H5 D y z H6 ∧ N H6 else N H3)
def DTp (kd : DKind X) (K : PySem.W.Frag) (x : V) (g : TG) (tt : TT) (tk tv : TE) (vs : List Nat) (σ : L2.St) (Q : VK) (H1 : Hp) : Prop := ∃ a, x = .ref a ∧ (∃ xs, SqT K H1 a xs) ∧ DJ kd (Itt K a) g tt tk tv vs σ Q H1
theorem dcT1 {kd : DKind X} (h : te σ H1 fun x H2 => DTp kd K x g tt tk tv vs σ Q H2) : tDcG kd (iTup K te) g tt tk tv vs σ H1 Q := h
theorem dcT2 {kd : DKind X} {a : Addr} {xs : List V} (ha : SqT K H1 a xs) (h : DJ kd (Itt K a) g tt tk tv vs σ Q H1) : DTp kd K (.ref a) g tt tk tv vs σ Q H1 := ⟨a, rfl, ⟨_, ha⟩, h⟩
theorem dj {kd : DKind X} {J : It} {n : Nat} {G : Hp → Prop} {Y : Nat → Hp → V → Hp → Prop} (w : Walk J n G Y)
    (h : ∀ D, H1 D = none → ∃ Pv : Nat → Hp → Prop, Pv 0 (upd H1 D kd.new) ∧ (∀ i H, i ≤ n → Pv i H → G H) ∧
      (∀ i x H H', i < n → Pv i H → Y i H x H' → g x (wipe σ vs) H' fun σ2 H2 => wipe σ2 vs = wipe σ vs ∧ tt σ2 H2 fun b H3 =>
        if b = true then tk σ2 H3 fun y H4 => tv σ2 H4 fun z H5 => ∃ H6, kd.put H5 D y z H6 ∧ Pv (i + 1) H6 else Pv (i + 1) H3) ∧ ∀ H, Pv n H → Q (.ref D) H) : DJ kd J g tt tk tv vs σ Q H1 := by
  intro D hD
  obtain ⟨Pv, h0, hG, hs, hd⟩ := h D hD
  refine ⟨fun i m H => m + i = n ∧ Pv i H, ⟨n, rfl, h0⟩, fun i m H ⟨e, p⟩ => ?_⟩
  have q := hG i H (by omega) p
  by_cases hi : i < n
  · exact .inr ⟨w.goes i H hi q, Pv (i + 1), fun H' p' => ⟨n - (i + 1), by omega, by omega, p'⟩, fun x H' y => hs i x H H' hi p (w.yields i H x H' hi q y)⟩
  · obtain rfl : i = n := by omega
    exact .inl ⟨w.stops H q, hd H p⟩
end
end My
namespace K25
open PySem PySem.Spec PyProof.Rows L2 XV DX
/-- the stretches with the degrees -/
def dmsP (ts : Pol) (b : List Str2) : List BM.Dm := List.zipWith (fun (D : Int) s => mkDm D.toNat s) (greatP ts) b
/-- a polynomial that is spread -/
structure Spr (ts : Pol) (b : List Str2) : Prop where
  nd : (keysP ts).Nodup
  len : ∀ p ∈ ts, p.1.length = 4
  wi : ∀ p ∈ ts, ∀ j, 0 ≤ p.1.getD j 0 ∧ p.1.getD j 0 ≤ 60
  off : ∀ p ∈ ts, ∀ j, b.length ≤ j → p.1.getD j 0 = 0
  few : ts.length ≤ 7
  bd : ∀ p ∈ ts, My.Bd 1000 p.2
  ok : ∀ s ∈ b, StrOk s
  b3 : b.length ≤ 3
  cnt : cntP (dmsP ts b) ≤ 64
def cutP (n : Nat) (ts : Pol) : Pol := ts.map fun p => (p.1.take n, p.2)
def spSpread (C : Addr) : Sp := fun vs H Q _ => ∃ (a b : Addr) (ts : Pol) (sts : List Str2), vs = [.ref a, .ref b] ∧ PolyAt C H a ts ∧ BoxAt H b sts ∧ Spr ts sts ∧
  ∀ T h r rows H', H T = none → Same H H' → H' T = some (.tup [.ref h, .ref r]) → H' h = some (.lst (((greatP ts).take sts.length).map V.int)) → PolD H' r rows → RowsAt (dmsP ts sts) (cutP sts.length ts) (dmsP ts sts).length rows → rows.length ≤ 1000 → Q (.ref T) H'
theorem cut_keys {ts : Pol} {b : List Str2} (o : Spr ts b) : (keysP (cutP b.length ts)).Nodup := by
  have e : keysP (cutP b.length ts) = (keysP ts).map (List.take b.length) := by
    unfold keysP cutP
    rw [List.map_map, List.map_map]; rfl
  rw [e]
  unfold List.Nodup
  rw [List.pairwise_map]
  refine List.Pairwise.imp_of_mem (fun {x y} hx hy n z => n ?_) o.nd
  obtain ⟨p, hp, rfl⟩ := List.mem_map.mp hx
  obtain ⟨q, hq, rfl⟩ := List.mem_map.mp hy
  refine list_ext (by rw [o.len p hp, o.len q hq]) fun j _ => ?_
  by_cases h : j < b.length
  · have g : ∀ l : List Int, (l.take b.length).getD j 0 = l.getD j 0 := fun l => by
      rw [List.getD_eq_getElem?_getD, List.getD_eq_getElem?_getD, List.getElem?_take_of_lt h]
    rw [← g p.1, ← g q.1, z]
  · rw [o.off p hp j (by omega), o.off q hq j (by omega)]
theorem greatP_get {ts : Pol} {j : Nat} (h : j < 4) : (greatP ts)[j]? = some (mx 0 (colP ts j)) := by
  unfold greatP
  rw [List.getElem?_map, List.getElem?_range h]; rfl
theorem dms_get {ts : Pol} {b : List Str2} (hb : b.length ≤ 3) {j : Nat} {s : Str2} (h : b[j]? = some s) : (dmsP ts b)[j]? = some (mkDm (mx 0 (colP ts j)).toNat s) := by
  have := (List.getElem?_eq_some_iff.mp h).1
  unfold dmsP
  rw [List.getElem?_zipWith, greatP_get (by omega), h]
theorem dms_len {ts : Pol} {b : List Str2} (hb : b.length ≤ 3) : (dmsP ts b).length = b.length := by
  unfold dmsP
  rw [List.length_zipWith]
  unfold greatP
  rw [List.length_map, List.length_range]; omega
theorem dms_of {ts : Pol} {b : List Str2} (hb : b.length ≤ 3) {j : Nat} {d : BM.Dm} (h : (dmsP ts b)[j]? = some d) : j < b.length ∧ d.D = (mx 0 (colP ts j)).toNat := by
  have l := (List.getElem?_eq_some_iff.mp h).1
  rw [dms_len hb] at l
  rw [dms_get hb (List.getElem?_eq_getElem l)] at h
  cases h
  exact ⟨l, rfl⟩
theorem mx_up {a : Int} {l : List Int} (h0 : 0 ≤ a) (h : ∀ x ∈ l, x ≤ a) : mx 0 l ≤ a := by
  cases l with
  | nil => exact h0
  | cons n r =>
    show r.foldl max n ≤ a
    rcases DX.fold_mem r n with e | e
    · rw [e]; exact h n List.mem_cons_self
    · exact h _ (List.mem_cons_of_mem _ e)
theorem mx_ge {l : List Int} {x : Int} (h : x ∈ l) : x ≤ mx 0 l := by
  cases l with
  | nil => cases h
  | cons n r =>
    show x ≤ r.foldl max n
    have g := DX.fold_ge r n
    rcases List.mem_cons.mp h with e | e
    · rw [e]; exact g.1
    · exact g.2 x e
theorem spr_ok {ts : Pol} {b : List Str2} (o : Spr ts b) : TsOk (dmsP ts b) (cutP b.length ts) := by
  refine ⟨cut_keys o, fun p hp => ?_, fun p hp j d hd => ?_⟩
  · obtain ⟨q, hq, rfl⟩ := List.mem_map.mp hp
    show (q.1.take b.length).length = _
    rw [List.length_take, o.len q hq, dms_len o.b3]
    have := o.b3
    omega
  · obtain ⟨q, hq, rfl⟩ := List.mem_map.mp hp
    obtain ⟨hj, e⟩ := dms_of o.b3 hd
    have g : (q.1.take b.length).getD j 0 = q.1.getD j 0 := by
      rw [List.getD_eq_getElem?_getD, List.getD_eq_getElem?_getD, List.getElem?_take_of_lt hj]
    show 0 ≤ (q.1.take b.length).getD j 0 ∧ (q.1.take b.length).getD j 0 ≤ (d.D : Int)
    have h0 := (o.wi q hq j).1
    have hm : q.1.getD j 0 ≤ mx 0 (colP ts j) := mx_ge (List.mem_map.mpr ⟨q, hq, rfl⟩)
    rw [g, e]
    omega
theorem cntP_snoc (d : BM.Dm) : ∀ l : List BM.Dm, cntP (l ++ [d]) = cntP l * (d.D + 1)
  | [] => by show (d.D + 1) * 1 = 1 * (d.D + 1); omega
  | e :: l => by
    show (e.D + 1) * cntP (l ++ [d]) = (e.D + 1) * cntP l * (d.D + 1)
    rw [cntP_snoc d l, Nat.mul_assoc]
theorem cntP_pos : ∀ ds : List BM.Dm, 0 < cntP ds
  | [] => Nat.zero_lt_one
  | d :: ds => Nat.mul_pos (Nat.succ_pos _) (cntP_pos ds)
theorem cntP_step {ds : List BM.Dm} {i : Nat} {d : BM.Dm} (h : ds[i]? = some d) : cntP (ds.take (i + 1)) = cntP (ds.take i) * (d.D + 1) := by
  rw [List.take_succ, h]
  exact cntP_snoc _ _
theorem cntP_take (ds : List BM.Dm) : ∀ i, cntP (ds.take i) ≤ cntP ds := fun i => by
  have key : ∀ (a b : List BM.Dm), cntP a ≤ cntP (a ++ b) := by
    intro a b
    induction a with
    | nil => exact cntP_pos b
    | cons d a ih => exact Nat.mul_le_mul_left _ ih
  have := key (ds.take i) (ds.drop i)
  rwa [List.take_append_drop] at this
section
variable {P : Program} {w : World} {K : PySem.W.Frag} {mg : Str → Option Value} {base : Heap}
theorem sc_spread : FnScope ["poly", "box", "many", "highs", "powers", "count", "rows", "k", "high"] ["poly", "box"] (defScope s_spread) := ⟨rfl, rfl, rfl, by decide +kernel, rfl, by decide +kernel, by decide +kernel⟩
theorem cal_spread {f : Addr} {fd : FuncData} {C fI fE : Addr} (F : FnP K "spread" "spread" s_spread f fd) (g : mg "spread" = some (.ref f)) (T : Txt0 mg) (C_greatest_powers : Cal P w K mg base "greatest_powers" 1 ["terms"] spGreat) (C_spread_by : Cal P w K mg base "spread_by" 3 ["rows", "k", "high", "stretch"] spSpreadBy) (PT : PolF K mg C fI fE) : Cal P w K mg base "spread" 4 ["poly", "box"] (spSpread C) := by
  obtain ⟨f_greatest_powers, fd_greatest_powers, g_greatest_powers, G_greatest_powers, b_greatest_powers, k_greatest_powers⟩ := C_greatest_powers
  obtain ⟨f_spread_by, fd_spread_by, g_spread_by, G_spread_by, b_spread_by, k_spread_by⟩ := C_spread_by
  refine ⟨f, fd, g, ?_, F.bindsN (fun _ _ _ _ _ _ us hl => match us, hl with | [_, _], _ => rfl), F.kp⟩
  refine F.ok sc_spread (fun vs H Q E h => ?_) (fun cdv A outer s H vs Q E hr h => ?_)
  · obtain ⟨a, b, ts, sts, rfl, hp, hb, sp, q⟩ := h
    rfl
  · obtain ⟨a, b, ts, sts, rfl, hp, hb, sp, q⟩ := h
    refine ⟨_, PSs.nox (pss_cons (ps_set (i := 2) sc_spread.nd rfl (Or.inr rfl) (pe_callB My.c_len (by rfl) T.len PySem.boot_len (pa_cons (pv 1) pa_nil)))
      (pss_cons (ps_set (i := 3) sc_spread.nd rfl (Or.inl rfl) (pe_slice sl_list (pe_call G_greatest_powers (hr.mono (by decide)) (by rfl) g_greatest_powers k_greatest_powers b_greatest_powers .nil pass0 (pa_cons (pe_fld (pv 0) rfl) pa_nil)) po_none (po_some (pv 2))))
      (pss_cons (DX.ps_dcG (i := 6) (own := [("powers", 4), ("count", 5)]) (tt := tYes) (g := gTup K 2 (gCons (gName 4) (gCons (gName 5) gNil))) (tk := tSl (rSlA K) (tVar 4) tNoPart (tPart (tVar 2))) (DX.kindT hr.units0) (by rfl) sc_spread.nd rfl rfl (DX.sw_dc rfl rfl rfl (by decide +kernel)) (pi_tup (pe_fld (pv 0) rfl)) (blkOk_by (own := [("powers", 4), ("count", 5)]) (N := ["poly", "box", "many", "highs", "powers", "count", "rows", "k", "high"]) (sc := (defScope s_spread)) (by decide +kernel)) (fun _ _ _ _ _ => (pg_tup (by rfl) (pgs_cons (pg_name (i := 4) sc_spread.nd rfl (Or.inl rfl)) (pgs_cons (pg_name (i := 5) sc_spread.nd rfl (Or.inl rfl)) pgs_nil)))) (fun _ _ _ _ _ => pts_nil) (fun _ _ _ _ _ => (pe_slice (DX.sl_tupK (K := K) rfl) (pv 4) po_none (po_some (pv 2)))) (fun _ _ _ _ _ => (pv 5)))
      (pss_cons (ps_for PassesOwn.never rfl (pi_enum (by rfl) T.enum (pa_cons (pv 3) pa_nil)) (pg_tup (by rfl) (pgs_cons (pg_name (i := 7) sc_spread.nd rfl (Or.inl rfl)) (pgs_cons (pg_name (i := 8) sc_spread.nd rfl (Or.inl rfl)) pgs_nil)))
       (pss_one (ps_if (pt_cmpR op_gt (pv 8) pe_int (nomark _))
       (pss_one (ps_set (i := 6) sc_spread.nd rfl (Or.inl rfl) (pe_call G_spread_by (hr.mono (by decide)) (by rfl) g_spread_by k_spread_by b_spread_by .nil pass0 (pa_cons (pv 6) (pa_cons (pv 7) (pa_cons (pv 8) (pa_cons (pe_ix ix_tup (pv 1) (pv 7) (fun _ _ => rfl)) pa_nil)))))))
       pss_nil)))
      (pss_one (ps_ret (pe_tup (pa_cons (pv 3) (pa_cons (pv 6) pa_nil))))))))), ?_⟩
    try dsimp only [cxOf, Cx.nox, Cx.wish]
    obtain ⟨dx, t, ha, ht⟩ := id hp
    walk_at "f"
    have hbl := sp.b3
    obtain ⟨bs, hb1, hb2⟩ := id hb
    have bl : bs.length = sts.length := My.plen hb2
    refine My.lenT (SqT.of hb1) ?_
    rw [List.length_map, bl]
    walk_at "f"
    refine My.fld ha PT.ins.cl PT.na (by rfl) rfl ?_
    walk_at "f"
    refine ⟨t, ts, rfl, ht, sp.len, Nat.le_trans sp.few (by decide), fun g1 H1 ng s1 hg1 => ?_⟩
    walk_at "f"
    refine My.slL (SqL.of hg1) fun g2 ng2 => ?_
    have gl : (greatP ts).length = 4 := by unfold greatP; rw [List.length_map, List.length_range]
    rw [cut_take (by rw [List.length_map, gl]; omega), ← List.map_take]
    have s2 := s1.trans (same_new (o := HO.lst (((greatP ts).take sts.length).map V.int)) ng2)
    have ng20 : H g2 = none := s1.free ng2
    have hg2 := upd_same (H := H1) (a := g2) (o := HO.lst (((greatP ts).take sts.length).map V.int))
    generalize upd H1 g2 _ = H2 at s2 hg2 ⊢
    walk_at "f"
    refine My.dcT1 ?_
    refine My.fld (s2 _ _ ha) PT.ins.cl PT.na (by rfl) rfl ?_
    obtain ⟨rs, hrs, hpr⟩ := ht.same s2
    have rl : rs.length = ts.length := My.plen hpr
    refine My.dcT2 (SqT.of hrs) (My.dj walk_tup fun D nD => ⟨fun i H' => But D H2 H' ∧ PolD H' D (cutP sts.length (ts.take i)), ⟨Same.but (same_new nD), upd_same⟩, fun i H' _ ⟨b, _⟩ => SqT.of (b _ _ (fun z => by rw [z, nD] at hrs; cases hrs) hrs), ?_, ?_⟩)
    · rintro i x H3 H4 hi ⟨b3, hD3⟩ ⟨rfl, ex⟩
      rw [List.getElem?_map] at ex
      cases er : rs[i]? with
      | none => rw [er] at ex; cases ex
      | some r =>
        rw [er] at ex
        cases Option.some.inj ex
        obtain ⟨p, ep, q0, hr, hq0⟩ := My.pget hpr er
        have keep : ∀ b o, H2 b = some o → H4 b = some o := fun b o e => b3 _ _ (ne_of_none e nD) e
        refine My.gtup2 (SqT.of (keep _ _ hr)) rfl ?_
        refine ⟨rfl, ?_⟩
        walk_at "f"
        refine My.slA (keep _ _ hq0) fun q1 H5 s5 h5 => ?_
        rw [cut_take (by rw [List.length_map, sp.len p (List.mem_iff_getElem?.mpr ⟨i, ep⟩)]; omega), ← List.map_take] at h5
        walk_at "f"
        have et : cutP sts.length (ts.take (i + 1)) = cutP sts.length (ts.take i) ++ [(p.1.take sts.length, p.2)] := by
          unfold cutP
          rw [List.take_succ, ep, List.map_append]; rfl
        have sub : (cutP sts.length (ts.take (i + 1))).Sublist (cutP sts.length ts) := List.Sublist.map _ (List.take_sublist _ _)
        have nd1 : (keysP (cutP sts.length (ts.take (i + 1)))).Nodup := List.Nodup.sublist (List.Sublist.map _ sub) (cut_keys sp)
        rw [et] at nd1
        have len1 : (cutP sts.length (ts.take i)).length ≤ 7 := by
          unfold cutP
          rw [List.length_map, List.length_take]
          have := sp.few
          omega
        refine ⟨_, ⟨_, ik (p.1.take sts.length), q1, ⟨rfl, by rw [ik_kV]; exact h5⟩, s5 _ _ hD3, by rw [kvI_len, sizeLine_eq]; omega, rfl⟩, fun b o nb e => by rw [upd_ne nb]; exact s5 _ _ (b3 _ _ nb e), ?_⟩
        rw [PolD, upd_same, kvI_put, putP_new nd1, et]
    · rintro H3 ⟨b3, hD3⟩
      rw [List.length_map, rl, List.take_length] at hD3
      have s3 : Same H H3 := fun b o e => b3 _ _ (ne_of_none (s2 _ _ e) nD) (s2 _ _ e)
      have hg3 : H3 g2 = some (.lst (((greatP ts).take sts.length).map V.int)) := b3 _ _ (ne_of_none hg2 nD) hg2
      have dl := dms_len (ts := ts) hbl
      have cl0 : (cutP sts.length ts).length ≤ 7 := by unfold cutP; rw [List.length_map]; exact sp.few
      have cb0 : ∀ p ∈ cutP sts.length ts, My.Bd 1000 p.2 := fun p hp => by
        obtain ⟨q', hq', rfl⟩ := List.mem_map.mp hp
        exact sp.bd q' hq'
      have to := spr_ok sp
      have st := rows_start to
      have ct : ∀ i, cntP ((dmsP ts sts).take i) ≤ 64 := fun i => Nat.le_trans (cntP_take _ i) sp.cnt
      have mx3 : ∀ j, 0 ≤ mx 0 (colP ts j) ∧ mx 0 (colP ts j) ≤ 60 := fun j => ⟨DX.mx_le (fun x hx => by
        obtain ⟨q', hq', rfl⟩ := List.mem_map.mp hx
        exact (sp.wi q' hq' j).1) (Int.le_refl 0), mx_up (by decide) fun x hx => by
        obtain ⟨q', hq', rfl⟩ := List.mem_map.mp hx
        exact (sp.wi q' hq' j).2⟩
      walk_at "f"
      refine My.forEn1 ?_
      walk_at "f"
      refine My.forEn (SqL.of hg3) (fun i σ' H' => ∃ (rd : Addr) (rows : Pol) (u v : Option V), σ' = [some (.ref a), some (.ref b), some (.int (sts.length : Nat)), some (.ref g2), none, none, some (.ref rd), u, v] ∧ Same H3 H' ∧ PolD H' rd rows ∧ RowsAt (dmsP ts sts) (cutP sts.length ts) i rows ∧ (∀ p ∈ rows, My.Bd (1000 + i * 27242) p.2) ∧ rows.length ≤ 7 * cntP ((dmsP ts sts).take i)) ⟨D, _, none, none, rfl, .refl _, hD3, st, cb0, cl0⟩ (fun i σ' H' _ ⟨_, _, _, _, _, s', _⟩ => SqL.of (s' _ _ hg3)) ?_ ?_
      · rintro i x T σ' H4 ex ⟨rd, rows, u, v, rfl, s4, hrd, ra, bd, rln⟩ nT
        rw [List.getElem?_map] at ex
        cases e1 : ((greatP ts).take sts.length)[i]? with
        | none => rw [e1] at ex; cases ex
        | some hi =>
          rw [e1] at ex
          cases Option.some.inj ex
          have il : i < sts.length := by
            have := (List.getElem?_eq_some_iff.mp e1).1
            rw [List.length_take] at this
            omega
          rw [List.getElem?_take_of_lt il, greatP_get (by omega)] at e1
          cases Option.some.inj e1
          have sT := same_new (o := HO.tup [V.int (i : Nat), V.int (mx 0 (colP ts i))]) nT
          refine My.gtup2 (SqT.of upd_same) rfl ?_
          have s5 := s4.trans sT
          have hrd5 := sT _ _ hrd
          generalize upd H4 T _ = H5 at s5 hrd5 ⊢
          have es : sts[i]? = some sts[i] := List.getElem?_eq_getElem il
          have ed := dms_get (ts := ts) hbl es
          obtain ⟨h0, h3⟩ := mx3 i
          have p4 := ct i
          have p5 := ct (i + 1)
          rw [cntP_step ed] at p5
          walk_at "f"
          · rename_i hpos
            have hb5 := hb.same ((s3.trans s5))
            obtain ⟨bs', hb1', hb2'⟩ := hb5
            obtain ⟨sa, ea⟩ : ∃ sa, bs'[i]? = some sa := ⟨_, List.getElem?_eq_getElem (by rw [My.plen hb2']; exact il)⟩
            obtain ⟨s0, es0, hs0⟩ := My.pget hb2' ea
            rw [es] at es0
            cases Option.some.inj es0
            refine My.ixT (SqT.of hb1') (atI_nat (by rw [List.getElem?_map, ea]; rfl)) ?_
            walk_at "f"
            have ro := ra.ok to ed
            have en : mx 0 (colP ts i) = (((mx 0 (colP ts i)).toNat : Nat) : Int) := (Int.toNat_of_nonneg h0).symm
            have ok := sp.ok _ (List.getElem_mem il)
            obtain ⟨bL, bH, bU⟩ := mkDm_bd (D := (mx 0 (colP ts i)).toNat) ok
            have d3 : (mx 0 (colP ts i)).toNat ≤ 60 := by omega
            have rr : rows.length * ((mx 0 (colP ts i)).toNat + 1) ≤ 7 * cntP ((dmsP ts sts).take i) * ((mx 0 (colP ts i)).toNat + 1) := Nat.mul_le_mul_right _ rln
            rw [Nat.mul_assoc] at rr
            have p5 : cntP ((dmsP ts sts).take i) * ((mx 0 (colP ts i)).toNat + 1) ≤ 64 := p5
            refine ⟨rd, sa, _, rows, i, (mx 0 (colP ts i)).toNat, 1000 + i * 27242, _, by rw [← en]; rfl, hrd5, hs0, ok, ro, by rw [dl]; exact il, by rw [dl]; omega, by omega, by omega, by omega, bd, by omega, fun rd2 H6 n6 s6 h6 => ?_⟩
            have sb := spread_bd (d := mkDm (mx 0 (colP ts i)).toNat sts[i]) (by rw [dl]; exact il) ro (show (mx 0 (colP ts i)).toNat ≤ 60 by omega) bd bL bH bU
            have sl := spread_len (k := i) (high := (mx 0 (colP ts i)).toNat) (d := mkDm (mx 0 (colP ts i)).toNat sts[i]) (m := rows)
            walk_at "f"
            refine ⟨rd2, _, _, _, rfl, s5.trans s6, h6, ra.step to ed, fun p hp => (sb p hp).mono (by omega), ?_⟩
            rw [cntP_step ed]
            exact Nat.le_trans sl rr
          · rename_i hpos
            have z0 : mx 0 (colP ts i) = 0 := by omega
            refine ⟨rd, rows, _, _, rfl, s5, hrd5, ra.skip to ed (by show (mx 0 (colP ts i)).toNat = 0; rw [z0]; rfl), fun p hp => (bd p hp).mono (by omega), by rw [cntP_step ed, show (mkDm (mx 0 (colP ts i)).toNat sts[i]).D = 0 by show (mx 0 (colP ts i)).toNat = 0; rw [z0]; rfl, Nat.zero_add, Nat.mul_one]; exact rln⟩
      · rintro σ' H4 ⟨rd, rows, u, v, rfl, s4, hrd, ra, bd, rln⟩
        rw [List.length_map, List.length_take, gl, Nat.min_eq_left (by omega)] at ra rln
        walk_at "f"
        refine ⟨My.sz (by simp), fun p np => ?_⟩
        have p4 := ct sts.length
        exact q p g2 rd rows _ ((s3.trans s4).free np) ((s3.trans s4).trans (same_new np)) upd_same (same_new np _ _ (s4 _ _ hg3)) (same_new np _ _ hrd) (by rw [dl]; exact ra) (by omega)
end
end K25

set_option Elab.async false
set_option linter.all false
set_option maxRecDepth 100000
set_option maxHeartbeats 4000000
namespace K25
open PySem PySem.Spec PyProof.Rows L2 XV DX
/-- the sign that is told -/
def sgP (ts : Pol) (sts : List Str2) : Int := rowSg (dmsP ts sts) (natP (cutP sts.length ts))
def spSignIn (C : Addr) : Sp := fun vs H Q _ => ∃ (a b : Addr) (ts : Pol) (sts : List Str2), vs = [.ref a, .ref b] ∧ PolyAt C H a ts ∧ BoxAt H b sts ∧ Spr ts sts ∧ ∀ H', Same H H' → Q (.int (sgP ts sts)) H'
def spBoxFor (C : Addr) : Sp := fun vs H Q _ => ∃ (a b : Addr) (ts : Pol) (sts : List Str2), vs = [.ref a, .ref b] ∧ PolyAt C H a ts ∧ BoxAt H b sts ∧ Spr ts sts ∧ ∀ H', Same H H' → Q (.bl true) H'
theorem top_low {ts : Pol} {n : Nat} (h : ∀ j, n ≤ j → mx 0 (colP ts j) = 0) : ∀ (l : List Nat) (acc : Option Nat), (∀ j, acc = some j → j < n) → ∀ j, l.foldl (fun acc j => if 0 < mx 0 (colP ts j) then some j else acc) acc = some j → j < n
  | [], acc, ha, j, e => ha j e
  | x :: l, acc, ha, j, e => by
    rw [List.foldl_cons] at e
    refine top_low h l _ (fun k hk => ?_) j e
    by_cases z : 0 < mx 0 (colP ts x)
    · rw [if_pos z] at hk
      cases hk
      refine Nat.lt_of_not_le fun g => ?_
      rw [h x g] at z
      exact absurd z (by decide)
    · rw [if_neg z] at hk
      exact ha k hk
theorem inP_spr {ts : Pol} {b : List Str2} (o : Spr ts b) : inP (b.length : Nat) ts = true := by
  unfold inP
  cases e : topP ts with
  | none => rfl
  | some j =>
    refine decide_eq_true ?_
    have := top_low (n := b.length) (ts := ts) (fun j hj => ?_) (List.range 4) none (fun j e => by cases e) j e
    · omega
    · refine (DX.mx_zero fun x hx => ?_).mpr fun x hx => ?_
      · obtain ⟨q, hq, rfl⟩ := List.mem_map.mp hx
        exact (o.wi q hq j).1
      · obtain ⟨q, hq, rfl⟩ := List.mem_map.mp hx
        exact o.off q hq j hj
section
variable {P : Program} {w : World} {K : PySem.W.Frag} {mg : Str → Option Value} {base : Heap}
theorem sc_sign_in : FnScope ["poly", "box", "highs", "rows", "many", "high", "counts", "count"] ["poly", "box"] (defScope s_sign_in) := ⟨rfl, rfl, rfl, by decide +kernel, rfl, by decide +kernel, by decide +kernel⟩
theorem cal_sign_in {f : Addr} {fd : FuncData} {C : Addr} (F : FnP K "sign_in" "sign_in" s_sign_in f fd) (g : mg "sign_in" = some (.ref f)) (T : Txt0 mg) (C_spread : Cal P w K mg base "spread" 4 ["poly", "box"] (spSpread C)) : Cal P w K mg base "sign_in" 5 ["poly", "box"] (spSignIn C) := by
  obtain ⟨f_spread, fd_spread, g_spread, G_spread, b_spread, k_spread⟩ := C_spread
  refine ⟨f, fd, g, ?_, F.bindsN (fun _ _ _ _ _ _ us hl => match us, hl with | [_, _], _ => rfl), F.kp⟩
  refine F.ok sc_sign_in (fun vs H Q E h => ?_) (fun cdv A outer s H vs Q E hr h => ?_)
  · obtain ⟨a, b, ts, sts, rfl, hp, hb, sp, q⟩ := h
    rfl
  · obtain ⟨a, b, ts, sts, rfl, hp, hb, sp, q⟩ := h
    refine ⟨_, PSs.nox (pss_cons (ps_asg (pe_call G_spread (hr.mono (by decide)) (by rfl) g_spread k_spread b_spread .nil pass0 (pa_cons (pv 0) (pa_cons (pv 1) pa_nil))) (pg_tup (by rfl) (pgs_cons (pg_name (i := 2) sc_sign_in.nd rfl (Or.inl rfl)) (pgs_cons (pg_name (i := 3) sc_sign_in.nd rfl (Or.inl rfl)) pgs_nil))))
      (pss_cons (ps_set (i := 4) sc_sign_in.nd rfl (Or.inl rfl) pe_int)
      (pss_cons (ps_for PassesOwn.never rfl (pi_list (pv 2)) (pg_name (i := 5) sc_sign_in.nd rfl (Or.inl rfl))
       (pss_one (ps_set (i := 4) sc_sign_in.nd rfl (Or.inl rfl) (pe_op op_mulW (pv 4) (pe_op op_add (pv 5) pe_int)))))
      (pss_cons (ps_if (pt_cmpR op_lt (pe_callB L2.call_len_dT (by rfl) T.len PySem.boot_len (pa_cons (pv 3) pa_nil)) (pv 4) (nomark _))
       (pss_one (ps_ret pe_int))
       pss_nil)
      (pss_cons (ps_set (i := 6) sc_sign_in.nd rfl (Or.inl rfl) (DX.pe_listValsT rfl (pv 3) (by rfl) T.list (by decide +kernel)))
      (pss_cons (ps_if (pt_val (pe_callB (cr_all rfl) (by rfl) T.all (by decide +kernel) (pa_cons (pe_lc (own := [("count", 7)]) (tt := tYes) (by rfl) sc_sign_in.nd (pi_list (pv 6)) (blkOk_by (own := [("count", 7)]) (N := ["poly", "box", "highs", "rows", "many", "high", "counts", "count"]) (sc := (defScope s_sign_in)) (by decide +kernel)) (fun _ _ _ _ _ => (pg_name (i := 7) sc_sign_in.nd rfl (Or.inl rfl))) (fun _ _ _ _ _ => pts_nil) (fun _ _ _ _ _ => (pe_cmpR op_gt (pv 7) pe_int (nomark _)))) pa_nil)))
       (pss_one (ps_ret pe_int))
       pss_nil)
      (pss_one (ps_ret (pe_ifExp (pt_val (pe_callB (cr_all rfl) (by rfl) T.all (by decide +kernel) (pa_cons (pe_lc (own := [("count", 7)]) (tt := tYes) (by rfl) sc_sign_in.nd (pi_list (pv 6)) (blkOk_by (own := [("count", 7)]) (N := ["poly", "box", "highs", "rows", "many", "high", "counts", "count"]) (sc := (defScope s_sign_in)) (by decide +kernel)) (fun _ _ _ _ _ => (pg_name (i := 7) sc_sign_in.nd rfl (Or.inl rfl))) (fun _ _ _ _ _ => pts_nil) (fun _ _ _ _ _ => (pe_cmpR op_lt (pv 7) pe_int (nomark _)))) pa_nil))) (pe_un un_neg pe_int) pe_int))))))))), ?_⟩
    try dsimp only [cxOf, Cx.nox, Cx.wish]
    walk_at "f"
    refine ⟨a, b, ts, sts, rfl, hp, hb, sp, fun T h r rows H1 nT s1 hT hh hr ra rl => ?_⟩
    refine My.gtup2 (SqT.of hT) rfl ?_
    walk_at "f"
    have hbl := sp.b3
    have dl := dms_len (ts := ts) hbl
    have ct : ∀ i, cntP ((dmsP ts sts).take i) ≤ 64 := fun i => Nat.le_trans (cntP_take _ i) sp.cnt
    have mx3 : ∀ j, 0 ≤ mx 0 (colP ts j) ∧ mx 0 (colP ts j) ≤ 60 := fun j => ⟨DX.mx_le (fun x hx => by
      obtain ⟨q', hq', rfl⟩ := List.mem_map.mp hx
      exact (sp.wi q' hq' j).1) (Int.le_refl 0), mx_up (by decide) fun x hx => by
      obtain ⟨q', hq', rfl⟩ := List.mem_map.mp hx
      exact (sp.wi q' hq' j).2⟩
    have gl : (greatP ts).length = 4 := by unfold greatP; rw [List.length_map, List.length_range]
    refine My.lstI (SqL.of hh) (fun i σ' H' => ∃ u, σ' = [some (.ref a), some (.ref b), some (.ref h), some (.ref r), some (.int ((cntP ((dmsP ts sts).take i) : Nat) : Int)), u, none, none] ∧ H' = H1) ⟨none, rfl, rfl⟩ (fun i σ' H' _ ⟨_, _, e⟩ => by rw [e]; exact SqL.of hh) ?_ ?_
    · rintro i x σ' H2 ex ⟨u, rfl, rfl⟩
      rw [List.getElem?_map] at ex
      cases e1 : ((greatP ts).take sts.length)[i]? with
      | none => rw [e1] at ex; cases ex
      | some hi =>
        rw [e1] at ex
        cases Option.some.inj ex
        have il : i < sts.length := by
          have := (List.getElem?_eq_some_iff.mp e1).1
          rw [List.length_take] at this
          omega
        rw [List.getElem?_take_of_lt il, greatP_get (by omega)] at e1
        cases Option.some.inj e1
        obtain ⟨h0, h3⟩ := mx3 i
        have ed := dms_get (ts := ts) hbl (List.getElem?_eq_getElem il)
        have p4 := ct i
        have et : cntP ((dmsP ts sts).take (i + 1)) = cntP ((dmsP ts sts).take i) * ((mx 0 (colP ts i)).toNat + 1) := by
          rw [List.take_succ, ed]
          exact cntP_snoc _ _
        walk_at "f"
        refine My.mulW (n := 7) (m := 6) (My.Bd.lit (k := 65) (by omega) (by decide)) (My.Bd.lit (k := 62) (by omega) (by decide)) (by decide) ?_
        walk_at "f"
        have ev : ((cntP ((dmsP ts sts).take i) : Nat) : Int) * (mx 0 (colP ts i) + 1) = ((cntP ((dmsP ts sts).take (i + 1)) : Nat) : Int) := by
          rw [et, Int.natCast_mul]
          congr 1
          omega
        rw [ev]
        exact ⟨_, rfl, rfl⟩
    · rintro σ' H2 ⟨u, rfl, rfl⟩
      rw [List.length_map, List.length_take, gl, Nat.min_eq_left (by omega), ← dl, List.take_length]
      have sg := rows_sign ra
      walk_at "f"
      refine ⟨r, _, rfl, hr, ?_⟩
      rw [kvI_len]
      walk_at "f"
      · rename_i z
        rw [if_pos (by omega)] at sg
        have : sgP ts sts = 0 := sg.symm
        rw [← this]
        exact q _ s1
      rename_i z
      rw [if_neg (by omega)] at sg
      refine ⟨.ref r, rfl, r, _, rfl, .inl hr, fun cd nc => ?_⟩
      rw [show (kvI rows).map (·.2) = (rows.map (·.2)).map V.int by unfold kvI; rw [List.map_map, List.map_map]; rfl]
      have s3 := s1.trans (same_new (o := HO.lst ((rows.map (·.2)).map V.int)) nc)
      have hcd := upd_same (H := H2) (a := cd) (o := HO.lst ((rows.map (·.2)).map V.int))
      generalize upd H2 cd _ = H3 at s3 hcd ⊢
      walk_at "f"
      refine ⟨cd, rfl, ⟨_, SqL.of hcd⟩, My.lcM (walk_list (xs := (rows.map (·.2)).map V.int)) Same (by rw [List.length_map, List.length_map]; exact rl) (fun D hD => same_new hD) fun D nD => ⟨fun j y H => ∃ c, (rows.map (·.2))[j]? = some c ∧ y = .bl (decide (0 < c)), fun j y H ys o _ h => h, fun H o s => same_at s nD, fun H2 _ s _ => SqL.of (s _ _ hcd), ?_, ?_⟩⟩
      · rintro i x H4 H5 ys N hi r' e l p' ⟨rfl, ex⟩ hN
        rw [List.getElem?_map] at ex
        cases eb : (rows.map (·.2))[i]? with
        | none => rw [eb] at ex; cases ex
        | some c =>
          rw [eb] at ex
          cases Option.some.inj ex
          walk_at "f"
          refine ⟨rfl, ?_⟩
          walk_at "f"
          exact hN _ _ r' e p' ⟨c, eb, rfl⟩
      · intro H4 ys hD hl2 s4 hy
        rw [List.length_map, List.length_map] at hl2
        have ey : ys = ((rows.map (·.2)).map fun c => decide (0 < c)).map V.bl := by
          refine List.ext_getElem? fun j => ?_
          rw [List.getElem?_map, List.getElem?_map]
          by_cases hj : j < ys.length
          · obtain ⟨c, e1, e2⟩ := hy j _ (List.getElem?_eq_getElem hj)
            rw [List.getElem?_eq_getElem hj, e1, e2]; rfl
          · rw [List.getElem?_eq_none (by omega), List.getElem?_eq_none (by rw [List.length_map]; omega)]; rfl
        walk_at "f"
        rw [ey] at hD
        refine My.allL (SqL.of hD) ?_
        rw [show ((rows.map (·.2)).map fun c => decide (0 < c)).all id = (rows.map (·.2)).all fun c => decide (0 < c) by rw [List.all_map]; rfl]
        refine ⟨_, rfl, ?_⟩
        by_cases z1 : ((rows.map (·.2)).all fun c => decide (0 < c)) = true
        · rw [if_pos z1] at sg ⊢
          walk_at "f"
          have : sgP ts sts = 1 := sg.symm
          rw [← this]
          exact q _ (s3.trans s4)
        · rw [if_neg z1] at sg ⊢
          have hcd4 := s4 _ _ hcd
          walk_at "f"
          refine ⟨cd, rfl, ⟨_, SqL.of hcd4⟩, My.lcM (walk_list (xs := (rows.map (·.2)).map V.int)) Same (by rw [List.length_map, List.length_map]; exact rl) (fun D hD => same_new hD) fun D2 nD2 => ⟨fun j y H => ∃ c, (rows.map (·.2))[j]? = some c ∧ y = .bl (decide (c < 0)), fun j y H ys o _ h => h, fun H o s => same_at s nD2, fun H2 _ s _ => SqL.of (s _ _ hcd4), ?_, ?_⟩⟩
          · rintro i x H6 H5 ys N hi r' e l p' ⟨rfl, ex⟩ hN
            rw [List.getElem?_map] at ex
            cases eb : (rows.map (·.2))[i]? with
            | none => rw [eb] at ex; cases ex
            | some c =>
              rw [eb] at ex
              cases Option.some.inj ex
              walk_at "f"
              refine ⟨rfl, ?_⟩
              walk_at "f"
              exact hN _ _ r' e p' ⟨c, eb, rfl⟩
          · intro H6 ys hD hl2 s6 hy
            rw [List.length_map, List.length_map] at hl2
            have ey : ys = ((rows.map (·.2)).map fun c => decide (c < 0)).map V.bl := by
              refine List.ext_getElem? fun j => ?_
              rw [List.getElem?_map, List.getElem?_map]
              by_cases hj : j < ys.length
              · obtain ⟨c, e1, e2⟩ := hy j _ (List.getElem?_eq_getElem hj)
                rw [List.getElem?_eq_getElem hj, e1, e2]; rfl
              · rw [List.getElem?_eq_none (by omega), List.getElem?_eq_none (by rw [List.length_map]; omega)]; rfl
            walk_at "f"
            rw [ey] at hD
            refine My.allL (SqL.of hD) ?_
            rw [show ((rows.map (·.2)).map fun c => decide (c < 0)).all id = (rows.map (·.2)).all fun c => decide (c < 0) by rw [List.all_map]; rfl]
            refine ⟨_, rfl, ?_⟩
            by_cases z2 : ((rows.map (·.2)).all fun c => decide (c < 0)) = true
            · rw [if_pos z2] at sg ⊢
              walk_at "f"
              have : sgP ts sts = -1 := sg.symm
              have q2 := q _ ((s3.trans s4).trans s6)
              rw [this] at q2
              exact q2
            · rw [if_neg z2] at sg ⊢
              walk_at "f"
              have : sgP ts sts = 0 := sg.symm
              rw [← this]
              exact q _ ((s3.trans s4).trans s6)
end
end K25

set_option Elab.async false
set_option linter.all false
set_option maxRecDepth 100000
set_option maxHeartbeats 4000000
namespace K25
open PySem PySem.Spec PyProof.Rows L2 XV DX
def tsOf (m : Pol) (ks : List (List Int)) : Pol := ks.map fun k => (k, (getP m k).getD 0)
def nzP (m : Pol) : Pol := m.filter fun p => !decide (p.2 = 0)
/-- what the law's parts keep -/
structure Lp (m : Pol) : Prop where
  nd : (keysP m).Nodup
  len : ∀ p ∈ m, p.1.length = 4
  wi : ∀ p ∈ m, ∀ e ∈ p.1, 0 ≤ e ∧ e ≤ 60
  few : m.length ≤ 7
  bd : ∀ p ∈ m, My.Bd 1000 p.2
theorem code_inj {k l : List Int} (hk : k.length = 4) (hl : l.length = 4) (bk : ∀ e ∈ k, 0 ≤ e ∧ e ≤ 60) (bl : ∀ e ∈ l, 0 ≤ e ∧ e ≤ 60) (h : TS.code 64 k = TS.code 64 l) : k = l := by
  obtain ⟨a, b, c, d, rfl⟩ := four hk
  obtain ⟨a', b', c', d', rfl⟩ := four hl
  have A := bk a (by simp); have B := bk b (by simp); have C := bk c (by simp); have D := bk d (by simp)
  have A' := bl a' (by simp); have B' := bl b' (by simp); have C' := bl c' (by simp); have D' := bl d' (by simp)
  have e : a * 262144 + b * 4096 + c * 64 + d = a' * 262144 + b' * 4096 + c' * 64 + d' := by
    simp [TS.code] at h
    omega
  obtain rfl : a = a' := by omega
  obtain rfl : b = b' := by omega
  obtain rfl : c = c' := by omega
  obtain rfl : d = d' := by omega
  rfl
theorem tsOf_keys {m : Pol} (h : (keysP m).Nodup) : tsOf m (keysP m) = m := by
  unfold tsOf keysP
  rw [List.map_map]
  refine List.ext_getElem? fun i => ?_
  rw [List.getElem?_map]
  cases e : m[i]? with
  | none => rfl
  | some p =>
    obtain ⟨l, c⟩ := p
    show some (l, (getP m l).getD 0) = _
    rw [getP_at h e]; rfl
theorem nz_perm {m : Pol} {ks : List (List Int)} (o : Lp m) (pe : ks.Perm (keysP m)) : (nzP (tsOf m ks)).Perm (nzP m) := by
  have z := pe.map fun k => (k, (getP m k).getD 0)
  have e := tsOf_keys (m := m) o.nd
  unfold tsOf at e
  rw [e] at z
  exact z.filter _
theorem nz_wft {m : Pol} {ks : List (List Int)} (o : Lp m) (pe : ks.Perm (keysP m)) (pw : ks.Pairwise fun k l => TS.code 64 k ≤ TS.code 64 l) : WFt (nzP (tsOf m ks)) := by
  have pm := nz_perm o pe
  have sub : ∀ p ∈ nzP (tsOf m ks), p ∈ m ∧ p.2 ≠ 0 := fun p hp => by
    have z := List.mem_filter.mp (pm.mem_iff.mp hp)
    exact ⟨z.1, by simpa using z.2⟩
  refine ⟨fun p hp => ⟨o.len p (sub p hp).1, fun e he => by have := o.wi p (sub p hp).1 e he; omega⟩, fun p hp => (sub p hp).2, ?_, ?_⟩
  · rw [pm.length_eq]
    have := List.length_filter_le (fun p : List Int × Int => !decide (p.2 = 0)) m
    have f := o.few
    show (List.filter _ m).length ≤ 300
    omega
  · refine List.Pairwise.sublist List.filter_sublist ?_
    unfold tsOf
    rw [List.pairwise_map]
    have nd : ks.Nodup := pe.symm.nodup o.nd
    have hk : ∀ k ∈ ks, k.length = 4 ∧ ∀ e ∈ k, 0 ≤ e ∧ e ≤ 60 := fun k hk => by
      obtain ⟨p, hp, rfl⟩ := List.mem_map.mp (pe.mem_iff.mp hk)
      exact ⟨o.len p hp, o.wi p hp⟩
    refine List.Pairwise.imp_of_mem ?_ (List.Pairwise.and pw nd)
    rintro k l h1 h2 ⟨h3, h4⟩
    have : TS.code 64 k ≠ TS.code 64 l := fun e => h4 (code_inj (hk k h1).1 (hk l h2).1 (hk k h1).2 (hk l h2).2 e)
    show TS.code 64 k < TS.code 64 l
    omega
theorem made_same {H1 H' : Hp} {x dx : Addr} {o1 o2 o3 : HO} (nx : H1 x = none) (nd : H1 dx = none) (s : Same (upd (upd H1 dx o1) x o2) H') : Same H1 (upd H' x o3) := fun b o e => by
  rw [upd_ne (ne_of_none e nx)]
  refine s _ _ ?_
  rw [upd_ne (ne_of_none e nx), upd_ne (ne_of_none e nd)]
  exact e
theorem ne_of_none' {H : Hp} {b t : Addr} {o : HO} (e : H b = some o) (n : H t = none) : t ≠ b := fun z => by rw [z, e] at n; cases n
theorem papp {α β : Type} {F : α → β → Prop} : ∀ {a c : List α} {b d : List β}, Paired F a b → Paired F c d → Paired F (a ++ c) (b ++ d)
  | _, _, _, _, .nil, h => h
  | _, _, _, _, .cons x t, h => .cons x (papp t h)
def spLPoly (C : Addr) : Sp := fun vs H Q _ => ∃ (d : Addr) (m : Pol), vs = [.ref d] ∧ PolD H d m ∧ Lp m ∧ ∀ a H' ts, Same H H' → PolyAt C H' a ts → ts.Perm (nzP m) → Q (.ref a) H'
section
variable {P : Program} {w : World} {K : PySem.W.Frag} {mg : Str → Option Value} {base : Heap}
theorem sc_law_poly : FnScope ["_law_parts_here", "_law_powers"] ["_law_parts_here"] (defScope s_law_poly) := ⟨rfl, rfl, rfl, by decide +kernel, rfl, by decide +kernel, by decide +kernel⟩
theorem cal_law_poly {f : Addr} {fd : FuncData} {C fI fE : Addr} {fdI : FuncData} (F : FnP K "_law_poly" "_law_poly" s_law_poly f fd) (g : mg "_law_poly" = some (.ref f)) (T : Txt0 mg) (PT : PolF K mg C fI fE) (G_Poly : FnOk P w K mg base CX0 5 fI fdI ["self", "terms"] (spPolyI C)) (b_Poly : L2.Binds K fdI ["self", "terms"] []) : Cal P w K mg base "_law_poly" 7 ["_law_parts_here"] (spLPoly C) := by
  refine ⟨f, fd, g, ?_, F.bindsN (fun _ _ _ _ _ _ us hl => match us, hl with | [_], _ => rfl), F.kp⟩
  refine F.ok sc_law_poly (fun vs H Q E h => ?_) (fun cdv A outer s H vs Q E hr h => ?_)
  · obtain ⟨d, m, rfl, hd, lp, q⟩ := h
    rfl
  · obtain ⟨d, m, rfl, hd, lp, q⟩ := h
    have hu := hu_of hr
    refine ⟨_, PSs.nox (pss_one (ps_ret (pe_make PT.mkr G_Poly (hr.mono (by decide)) (by rfl) PT.g b_Poly .nil pass0 (pa_cons (pe_tupleOf (by rfl) T.tuple (pe_lc (own := [("_law_powers", 1)]) (te := tTup (tCons (tVar 1) (tCons (tDGet (tVar 0) (tVar 1)) tNil))) (by rfl) sc_law_poly.nd (pi_list (pe_callB (DX.cr_sortDT rfl (d := 4) (B := 64) (by decide)) (by rfl) T.sorted (by decide +kernel) (pa_cons (pv 0) pa_nil))) (blkOk_by (own := [("_law_powers", 1)]) (N := ["_law_parts_here", "_law_powers"]) (sc := (defScope s_law_poly)) (by decide +kernel)) (fun _ _ _ _ _ => (pg_name (i := 1) sc_law_poly.nd rfl (Or.inl rfl))) (fun _ _ _ _ _ => (pts_one (pt_cmpR op_ne (pe_dget hu (pv 0) (pv 1) (fun _ _ => rfl)) pe_int (nomark _)))) (fun _ _ _ _ _ => (pe_tup (pa_cons (pv 1) (pa_cons (pe_dget hu (pv 0) (pv 1) (fun _ _ => rfl)) pa_nil)))))) pa_nil)))), ?_⟩
    try dsimp only [cxOf, Cx.nox, Cx.wish]
    walk_at "f"
    have few := lp.few
    refine ⟨d, kvI m, keysP m, rfl, .inl hd, ?_, by unfold keysP; rw [List.length_map]; omega, fun kk hk => ?_, fun bs ks' p pe pw pr np => ?_⟩
    · unfold kvI keysP
      rw [List.map_map, List.map_map]; rfl
    · obtain ⟨q', hq, rfl⟩ := List.mem_map.mp hk
      exact ⟨lp.len q' hq, fun x hx => by have := lp.wi q' hq x hx; omega⟩
    have sp := same_new (o := HO.lst (bs.map V.ref)) np
    have hp := upd_same (H := H) (a := p) (o := HO.lst (bs.map V.ref))
    have hbk := My.plen pr
    have hkm : ks'.length = m.length := by rw [pe.length_eq]; unfold keysP; rw [List.length_map]
    generalize upd H p _ = H1 at sp hp ⊢
    refine My.lcLI (SqL.of hp) fun A nA => ⟨fun i H' => ∃ rs : List Addr, H' A = some (.lst (rs.map V.ref)) ∧ But A H1 H' ∧ rs.length ≤ i ∧ Paired (fun r (p : List Int × Int) => ∃ q, H' r = some (.tup [.ref q, .int p.2]) ∧ KAt H' q p.1) rs (nzP (tsOf m (ks'.take i))), ⟨[], upd_same, Same.but (same_new nA), Nat.le_refl _, .nil⟩, fun i H' _ ⟨_, _, b, _⟩ => SqL.of (b _ _ (ne_of_none hp nA) hp), ?_, ?_⟩
    · rintro i x H2 ex ⟨rs, hA, b2, rl, pp⟩
      rw [List.getElem?_map] at ex
      cases eb : bs[i]? with
      | none => rw [eb] at ex; cases ex
      | some q1 =>
        rw [eb] at ex
        cases Option.some.inj ex
        obtain ⟨kk, ek, hq⟩ := My.pget pr eb
        have hkin : kk ∈ keysP m := pe.mem_iff.mp (List.mem_iff_getElem?.mpr ⟨i, ek⟩)
        obtain ⟨pp1, hpp, rfl⟩ := List.mem_map.mp hkin
        obtain ⟨jj, hjj⟩ := List.mem_iff_getElem?.mp hpp
        have eg : getP m pp1.1 = some pp1.2 := getP_at lp.nd (c := pp1.2) (l := pp1.1) hjj
        have i5 : i < 7 := by
          have := (List.getElem?_eq_some_iff.mp ek).1
          omega
        have keep : ∀ b o, H b = some o → H2 b = some o := fun b o e => b2 _ _ (ne_of_none (sp _ _ e) nA) (sp _ _ e)
        have et : nzP (tsOf m (ks'.take (i + 1))) = nzP (tsOf m (ks'.take i)) ++ if pp1.2 = 0 then [] else [(pp1.1, pp1.2)] := by
          unfold nzP tsOf
          rw [List.take_succ, ek, List.map_append, List.filter_append]
          congr 1
          show List.filter _ [(pp1.1, (getP m pp1.1).getD 0)] = _
          rw [eg]
          by_cases z : pp1.2 = 0
          · rw [if_pos z, List.filter_cons_of_neg (by simp [z])]; rfl
          · rw [if_neg z, List.filter_cons_of_pos (by simp [z])]; rfl
        have gv : ∀ H', Same H2 H' → DGet H' d (.ref q1) (some (.int pp1.2)) := fun H' s' => by
          have z := DGet.t (k := ik pp1.1) (s' _ _ (keep _ _ hd)) (b := q1) (by rw [ik_kV]; exact s' _ _ (keep _ _ hq))
          rw [valV_kvI, eg] at z
          exact z
        walk_at "f"
        refine ⟨rfl, ?_⟩
        walk_at "f"
        refine ⟨d, .int pp1.2, rfl, gv _ (.refl _), ?_⟩
        walk_at "f"
        rw [et]
        by_cases z0 : pp1.2 = 0
        · rw [if_neg (by simp [z0]), if_pos z0, List.append_nil]
          exact ⟨rs, hA, b2, by omega, pp⟩
        · rw [if_pos (by simp [z0]), if_neg z0]
          walk_at "f"
          refine ⟨d, .int pp1.2, rfl, gv _ (.refl _), ?_⟩
          walk_at "f"
          refine ⟨My.sz (by simp), fun t nt => ?_⟩
          have st := same_new (o := HO.tup [V.ref q1, V.int pp1.2]) nt
          have hA2 := st _ _ hA
          have ne : t ≠ A := ne_of_none' hA nt
          refine ⟨_, hA2, by rw [List.length_map, sizeLine_eq]; omega, rs ++ [t], by rw [upd_same, List.map_append]; rfl, fun b o nb e => by rw [upd_ne nb]; exact st _ _ (b2 _ _ nb e), by rw [List.length_append]; simp; omega, ?_⟩
          have kA : ∀ b o, b ≠ A → upd H2 t (.tup [.ref q1, .int pp1.2]) b = some o → upd (upd H2 t (.tup [.ref q1, .int pp1.2])) A (.lst (rs.map V.ref ++ [.ref t])) b = some o := fun b o nb e => by rw [upd_ne nb]; exact e
          have tn : ∀ b xs, upd H2 t (.tup [.ref q1, .int pp1.2]) b = some (.tup xs) → b ≠ A := fun b xs e z => by rw [z, hA2] at e; cases e
          refine papp (Paired.mapP pp fun r p' ⟨q', h1, h2⟩ => ⟨q', kA _ _ (tn _ _ (st _ _ h1)) (st _ _ h1), kA _ _ (tn _ _ (st _ _ h2)) (st _ _ h2)⟩) (.cons ⟨q1, kA _ _ ne upd_same, ?_⟩ .nil)
          have hq2 := st _ _ (keep _ _ hq)
          exact kA _ _ (tn _ _ hq2) hq2
    · rintro H2 ⟨rs, hA, b2, rl, pp⟩
      rw [List.length_map, hbk, List.take_length] at pp
      refine My.tupL (SqL.of hA) fun t nt => ?_
      have st := same_new (o := HO.tup (rs.map V.ref)) nt
      have s3 : Same H (upd H2 t (.tup (rs.map V.ref))) := fun b o e => st _ _ (b2 _ _ (ne_of_none (sp _ _ e) nA) (sp _ _ e))
      have tat : TermsAt (upd H2 t (.tup (rs.map V.ref))) t (nzP (tsOf m ks')) := ⟨rs, upd_same, Paired.mapP pp fun r p' ⟨q', h1, h2⟩ => ⟨q', st _ _ h1, st _ _ h2⟩⟩
      generalize upd H2 t _ = H3 at st s3 tat ⊢
      walk_at "f"
      intro x dx nx ndx nxd
      have sm : Same H3 (upd (upd H3 dx (HO.own x)) x (HO.ins C dx [])) := fun b o e => by
        rw [upd_ne (ne_of_none e nx), upd_ne (ne_of_none e ndx)]; exact e
      refine ⟨x, dx, t, nzP (tsOf m ks'), rfl, upd_same, tat.same sm, nz_wft lp pe pw, fun H4 s4 => ⟨rfl, ?_⟩⟩
      have s5 : Same H3 (upd H4 x (HO.ins C dx [("terms", V.ref t)])) := made_same nx ndx s4
      exact q x _ _ (s3.trans s5) ⟨dx, t, upd_same, tat.same s5⟩ (nz_perm lp pe)
end
end K25

set_option Elab.async false
set_option linter.all false
set_option maxRecDepth 100000
set_option maxHeartbeats 4000000
namespace My
open PySem PySem.Spec PyProof.Rows L2 DX
/-- the value as R tells it -/
theorem cutV {te : TE} {σ : L2.St} {H : Hp} {Q : VK} (R : VK) (h2 : ∀ Q' : VK, (∀ v H', R v H' → Q' v H') → te σ H Q') (h1 : ∀ v H', R v H' → Q v H') : te σ H Q := h2 Q h1
end My
namespace K25
open PySem PySem.Spec PyProof.Rows L2 XV DX
/-- the law's parts while they are drawn -/
structure Lq (many most : Int) (m : Pol) : Prop where
  nd : (keysP m).Nodup
  len : ∀ p ∈ m, p.1.length = 4
  wi : ∀ p ∈ m, ∀ e ∈ p.1, 0 ≤ e ∧ e ≤ most
  off : ∀ p ∈ m, ∀ j : Nat, many ≤ (j : Int) → p.1.getD j 0 = 0
  bd : ∀ p ∈ m, My.Bd 90 p.2
theorem fresh_of {K : PySem.W.Frag} {H H' : Hp} {d c p : Addr} (h : Hand K H d c) (h' : Hand K H' d c) (b : But d H H') (n : H' p = none) : H p = none := by
  cases e : H p with
  | none => rfl
  | some o =>
    by_cases z : p = d
    · obtain ⟨ks, g⟩ := h'.dk
      rw [z, g] at n; cases n
    · rw [b _ _ z e] at n; cases n
theorem lq_put {many most : Int} {m : Pol} {ks : List Int} {n : Int} (h : Lq many most m) (hl : ks.length = 4) (hk : ∀ (j : Nat) (e : Int), ks[j]? = some e → (0 ≤ e ∧ e ≤ most) ∧ (many ≤ (j : Int) → e = 0)) (hn : My.Bd 90 n) : Lq many most (putP m ks n) := by
  have hw : ∀ e ∈ ks, 0 ≤ e ∧ e ≤ most := fun e he => by
    obtain ⟨j, hj⟩ := List.mem_iff_getElem?.mp he
    exact (hk j e hj).1
  have ho : ∀ j : Nat, many ≤ (j : Int) → ks.getD j 0 = 0 := fun j hj => by
    rw [List.getD_eq_getElem?_getD]
    cases e : ks[j]? with
    | none => rfl
    | some x => exact (hk j x e).2 hj
  have key : ∀ p ∈ putP m ks n, (p ∈ m) ∨ (p.1 = ks ∧ p.2 = n) := fun p hp => by
    unfold putP at hp
    split at hp
    · obtain ⟨q, hq, rfl⟩ := List.mem_map.mp hp
      by_cases z : q.1 = ks
      · rw [if_pos z]; exact .inr ⟨z, rfl⟩
      · rw [if_neg z]; exact .inl hq
    · rcases List.mem_append.mp hp with g | g
      · exact .inl g
      · rw [List.mem_singleton.mp g]; exact .inr ⟨rfl, rfl⟩
  refine ⟨nodup_put h.nd, fun p hp => ?_, fun p hp => ?_, fun p hp => ?_, fun p hp => ?_⟩
  · rcases key p hp with g | ⟨g, _⟩
    · exact h.len p g
    · rw [g]; exact hl
  · rcases key p hp with g | ⟨g, _⟩
    · exact h.wi p g
    · rw [g]; exact hw
  · rcases key p hp with g | ⟨g, _⟩
    · exact h.off p g
    · rw [g]; exact ho
  · rcases key p hp with g | ⟨_, g⟩
    · exact h.bd p g
    · rw [g]; exact hn
theorem Hand.put {K : PySem.W.Frag} {H : Hp} {d c a : Addr} {kvs kvs' : List (List L2.Key × V)} (h : Hand K H d c) (e : H a = some (.dT kvs)) (n : a ≠ d) : Hand K (upd H a (.dT kvs')) d c := by
  obtain ⟨cs, a', g, sd, tn, hd, hc, cd, a0⟩ := h
  refine ⟨cs, a', g, sd, tn, by rw [upd_ne n.symm]; exact hd, ?_, cd, a0⟩
  rcases hc with (l | ⟨o, l⟩) | l
  · exact .inl (.inl (by rw [upd_ne (fun z => by rw [z, e] at l; cases l)]; exact l))
  · exact .inl (.inr ⟨o, by rw [upd_ne (fun z => by rw [z, e] at l; cases l)]; exact l⟩)
  · exact .inr l
def spParts (K : PySem.W.Frag) : Sp := fun vs H Q _ => ∃ (d c : Addr) (many most : Int), vs = [.ref d, .int many, .int most, .int 4] ∧ 0 ≤ most ∧ most ≤ 3 ∧ Hand K H d c ∧
  ∀ p H' m, H p = none → Hand K H' d c → But d H H' → PolD H' p m → Lq many most m → m.length ≤ 4 → Q (.ref p) H'
section
variable {P : Program} {w : World} {K : PySem.W.Frag} {mg : Str → Option Value} {base : Heap}
theorem sc_law_parts : FnScope ["_law_hand_here", "_law_many", "_law_most", "_law_terms", "_law_great", "_law_found", "_law_k", "_law_u", "_law_powers", "_law_count"] ["_law_hand_here", "_law_many", "_law_most", "_law_terms"] (defScope s_law_parts) := ⟨rfl, rfl, rfl, by decide +kernel, rfl, by decide +kernel, by decide +kernel⟩
theorem cal_law_parts {f : Addr} {fd : FuncData} (F : FnP K "_law_parts" "_law_parts" s_law_parts f fd) (g : mg "_law_parts" = some (.ref f)) (T : Txt0 mg) (C_law_draw : Cal P w K mg base "_law_draw" 1 ["_law_hand_here", "_law_many"] (spDraw K)) (C_law_any : Cal P w K mg base "_law_any" 2 ["_law_hand_here", "_law_things"] (spAny K)) : Cal P w K mg base "_law_parts" 3 ["_law_hand_here", "_law_many", "_law_most", "_law_terms"] (spParts K) := by
  obtain ⟨f_law_draw, fd_law_draw, g_law_draw, G_law_draw, b_law_draw, k_law_draw⟩ := C_law_draw
  obtain ⟨f_law_any, fd_law_any, g_law_any, G_law_any, b_law_any, k_law_any⟩ := C_law_any
  refine ⟨f, fd, g, ?_, F.bindsN (fun _ _ _ _ _ _ us hl => match us, hl with | [_, _, _, _], _ => rfl), F.kp⟩
  refine F.ok sc_law_parts (fun vs H Q E h => ?_) (fun cdv A outer s H vs Q E hr h => ?_)
  · obtain ⟨d, c, many, most, rfl, m0, m3, hh, k⟩ := h
    rfl
  · obtain ⟨d, c, many, most, rfl, m0, m3, hh, k⟩ := h
    have hu := hu_of hr
    refine ⟨_, PSs.nox (pss_cons (ps_set (i := 4) sc_law_parts.nd rfl (Or.inl rfl) (pe_ifExp (pt_cmpR op_gt (pe_call G_law_draw (hr.mono (by decide)) (by rfl) g_law_draw k_law_draw b_law_draw .nil pass0 (pa_cons (pv 0) (pa_cons pe_int pa_nil))) pe_int (nomark _)) (pe_call G_law_any (hr.mono (by decide)) (by rfl) g_law_any k_law_any b_law_any .nil pass0 (pa_cons (pv 0) (pa_cons (pe_lst (pa_cons pe_int (pa_cons pe_int (pa_cons pe_int (pa_cons pe_int (pa_cons pe_int (pa_cons (pe_op op_pow pe_int pe_int) pa_nil))))))) pa_nil))) pe_int))
      (pss_cons (ps_set (i := 5) sc_law_parts.nd rfl (Or.inl rfl) pe_dnewT)
      (pss_cons (ps_for PassesOwn.never rfl (pi_range1 (by rfl) T.range (pa_cons (pe_op op_add pe_int (pe_call G_law_draw (hr.mono (by decide)) (by rfl) g_law_draw k_law_draw b_law_draw .nil pass0 (pa_cons (pv 0) (pa_cons (pv 3) pa_nil)))) pa_nil)) (pg_name (i := 6) sc_law_parts.nd rfl (Or.inl rfl))
       (pss_cons (ps_set (i := 8) sc_law_parts.nd rfl (Or.inl rfl) (pe_tupleOf (by rfl) T.tuple (pe_lc (own := [("_law_u", 7)]) (tt := tYes) (by rfl) sc_law_parts.nd (pi_range1 (by rfl) T.range (pa_cons pe_int pa_nil)) (blkOk_by (own := [("_law_u", 7)]) (N := ["_law_hand_here", "_law_many", "_law_most", "_law_terms", "_law_great", "_law_found", "_law_k", "_law_u", "_law_powers", "_law_count"]) (sc := (defScope s_law_parts)) (by decide +kernel)) (fun _ _ _ _ _ => (pg_name (i := 7) sc_law_parts.nd rfl (Or.inl rfl))) (fun _ _ _ _ _ => pts_nil) (fun _ _ _ _ _ => (pe_ifExp (pt_cmpR op_lt (pv 7) (pv 1) (nomark _)) (pe_call G_law_draw (hr.mono (by decide)) (by rfl) g_law_draw k_law_draw b_law_draw .nil pass0 (pa_cons (pv 0) (pa_cons (pe_op op_add (pv 2) pe_int) pa_nil))) pe_int)))))
      (pss_cons (ps_set (i := 9) sc_law_parts.nd rfl (Or.inl rfl) (pe_op op_add pe_int (pe_call G_law_draw (hr.mono (by decide)) (by rfl) g_law_draw k_law_draw b_law_draw .nil pass0 (pa_cons (pv 0) (pa_cons (pv 4) pa_nil)))))
      (pss_one (ps_dput hu (pv 5) (pv 8) (pe_ifExp (pt_cmpR op_eq (pe_call G_law_draw (hr.mono (by decide)) (by rfl) g_law_draw k_law_draw b_law_draw .nil pass0 (pa_cons (pv 0) (pa_cons pe_int pa_nil))) pe_int (nomark _)) (pv 9) (pe_un un_neg (pv 9))) rfl)))))
      (pss_one (ps_ret (pv 5)))))), ?_⟩
    try dsimp only [cxOf, Cx.nox, Cx.wish]
    refine My.seq (My.asg (My.cutV (fun v H1 => ∃ g : Int, v = .int g ∧ 0 < g ∧ g ≤ 10 ^ 25 ∧ Hand K H1 d c ∧ But d H H1) (fun Q' hQ => ?_) ?_))
    · walk_at "f"
      refine ⟨d, c, 3, rfl, by decide, by decide, hh, fun r H1 r0 r1 hh1 b1 fr1 => ?_⟩
      walk_at "f"
      · refine My.new (My.sz (by simp)) fun pl nl => ?_
        have sl := same_new (o := HO.lst [V.int 3, V.int 9, V.int 9, V.int 9, V.int 100, V.int (10 ^ Int.toNat 25)]) nl
        walk_at "f"
        refine ⟨d, c, pl, _, rfl, hh1.same sl, SqL.of upd_same, by simp, by simp, fun v H2 hv hh2 b2 fr2 => ?_⟩
        obtain ⟨g, rfl, g0, g1⟩ : ∃ g : Int, v = .int g ∧ 0 < g ∧ g ≤ 10 ^ 25 := by
          simp only [List.mem_cons, List.not_mem_nil, or_false] at hv
          rcases hv with rfl | rfl | rfl | rfl | rfl | rfl <;> exact ⟨_, rfl, by decide, by decide⟩
        exact hQ _ _ ⟨g, rfl, g0, g1, hh2, (b1.trans (Same.but sl)).trans b2⟩
      · exact hQ _ _ ⟨2, rfl, by decide, by decide, hh1, b1⟩
    rintro v H1 ⟨g, rfl, g0, g1, hh1, b1⟩
    walk_at "f"
    refine My.dnewT fun pf nf => ?_
    have nf0 : H pf = none := fresh_of hh hh1 b1 nf
    have h2 := hh1.same (same_new (o := HO.dT []) nf)
    have b2 := b1.trans (Same.but (same_new (o := HO.dT []) nf))
    have hp2 := upd_same (H := H1) (a := pf) (o := HO.dT [])
    generalize upd H1 pf (HO.dT []) = H2 at h2 b2 hp2 ⊢
    walk_at "f"
    refine ⟨d, c, 4, rfl, by decide, by decide, h2, fun r H3 r0 r1 hh3 b3 fr3 => ?_⟩
    have hp3 : PolD H3 pf [] := b3 _ _ (fun z => by obtain ⟨ks, e⟩ := h2.dk; rw [← z, hp2] at e; cases e) hp2
    walk_at "f"
    refine My.rngI (by omega) (by omega) (fun i σ H' => ∃ (m : Pol) (u x y z : Option V), σ = [some (.ref d), some (.int many), some (.int most), some (.int 4), some (.int g), some (.ref pf), u, x, y, z] ∧ Hand K H' d c ∧ But d H H' ∧ PolD H' pf m ∧ Lq many most m ∧ m.length ≤ i) ⟨[], none, none, none, none, rfl, hh3, b2.trans b3, hp3, ⟨List.nodup_nil, (fun p hp => by cases hp), (fun p hp => by cases hp), (fun p hp => by cases hp), (fun p hp => by cases hp)⟩, Nat.le_refl _⟩ ?_ ?_
    · rintro i σ H4 hi ⟨m, u, x, y, z, rfl, hh4, b4, hp4, lq, ml⟩
      walk_at "f"
      refine ⟨4, rfl, by decide, by decide, My.lcM walk_range (fun H1 H' => But d H1 H' ∧ Hand K H' d c) (by decide) (fun D hD => ⟨Same.but (same_new hD), hh4.same (same_new hD)⟩) fun D nD => ⟨fun j y H => ∃ e : Int, y = .int e ∧ (0 ≤ e ∧ e ≤ most) ∧ (many ≤ (j : Int) → e = 0), fun j y H ys o _ h => h, fun H o s => ⟨but_at s.1 nD, Hand.at hh4 s.1 s.2 nD⟩, fun _ _ _ _ => trivial, ?_, ?_⟩⟩
      · rintro i x H5 H6 ys N hi r e l p' ⟨rfl, rfl⟩ hN
        walk_at "f"
        refine ⟨rfl, ?_⟩
        walk_at "f"
        · refine ⟨d, c, most + 1, rfl, by omega, by omega, r.2, fun q H5 q0 q1 hh5 b5 _ => ?_⟩
          refine hN _ _ ⟨r.1.trans b5, hh5⟩ (b5.obj r.2 e (fun _ z => by cases z)) (fun j v hv => p' j v hv) ⟨q, rfl, ⟨q0, by omega⟩, fun g => by omega⟩
        · exact hN _ _ r e (fun j v hv => p' j v hv) ⟨0, rfl, ⟨Int.le_refl _, m0⟩, fun _ => rfl⟩
      · intro H5 ys hD hl5 r5 hy
        obtain ⟨ks, rfl, hk⟩ := ints_of hy
        rw [List.length_map] at hl5
        refine My.tupL (SqL.of hD) fun t nt => ?_
        have st := same_new (o := HO.tup (ks.map V.int)) nt
        have ot := upd_same (H := H5) (a := t) (o := HO.tup (ks.map V.int))
        have h6 := r5.2.same st
        have b6 := (b4.trans r5.1).trans (Same.but st)
        have nd4 : pf ≠ d := fun z => by
          obtain ⟨kk, e⟩ := hh4.dk
          have e2 : H4 pf = some (HO.dT (kvI m)) := hp4
          rw [z, e] at e2; cases e2
        have hp6 := st _ _ (r5.1 _ _ nd4 hp4)
        generalize upd H5 t _ = H6 at ot h6 b6 hp6 ⊢
        have ntd : t ≠ d := fun z => by obtain ⟨kk, e⟩ := h6.dk; rw [z, e] at ot; cases ot
        walk_at "f"
        refine ⟨d, c, g, rfl, g0, by omega, h6, fun cv H7 c0 c1 h7 b7 _ => ?_⟩
        walk_at "f"
        have hp7 := b7 _ _ nd4 hp6
        have ht7 := b7 _ _ ntd ot
        refine ⟨d, c, 2, rfl, by decide, by decide, h7, fun tv H8 t0 t1 h8 b78 _ => ?_⟩
        have b8 := (b6.trans b7).trans b78
        have hp8 := b78 _ _ nd4 hp7
        have ht8 : H8 t = some (.tup ((ik ks).map kV)) := by rw [ik_kV]; exact b78 _ _ ntd ht7
        have bb : My.Bd 90 (1 + cv) := by
          have : 1 + cv ≤ 10 ^ 25 := by omega
          show (1 + cv).natAbs < 2 ^ 90
          omega
        walk_at "f"
        · refine ⟨pf, _, rfl, DPut.t hp8 ht8 (by rw [kvI_len, sizeLine_eq]; omega), ?_⟩
          refine ⟨putP m ks (1 + cv), _, _, _, _, rfl, ?_, fun b o nb e => by rw [upd_ne (ne_of_none e nf0)]; exact b8 _ _ nb e, by rw [PolD, upd_same, kvI_put], lq_put lq hl5 (fun j e he => hk j e he) bb, Nat.le_trans (len_put m ks _) (by omega)⟩
          exact Hand.put h8 hp8 nd4
        · refine ⟨pf, _, rfl, DPut.t hp8 ht8 (by rw [kvI_len, sizeLine_eq]; omega), ?_⟩
          refine ⟨putP m ks (-(1 + cv)), _, _, _, _, rfl, ?_, fun b o nb e => by rw [upd_ne (ne_of_none e nf0)]; exact b8 _ _ nb e, by rw [PolD, upd_same, kvI_put], lq_put lq hl5 (fun j e he => hk j e he) bb.neg, Nat.le_trans (len_put m ks _) (by omega)⟩
          exact Hand.put h8 hp8 nd4
    · rintro σ H4 ⟨m, u, x, y, z, rfl, hh4, b4, hp4, lq, ml⟩
      walk_at "f"
      exact k pf H4 m nf0 hh4 b4 hp4 lq (by omega)
end
end K25

set_option Elab.async false
set_option linter.all false
set_option maxRecDepth 100000
set_option maxHeartbeats 4000000
namespace K25
open PySem PySem.Spec PyProof.Rows L2 XV DX
/-- in lowest terms, not far from 0 -/
structure Nr (n : Int) (f : Fra) : Prop where
  pos : 0 < f.2
  red : Nat.gcd f.1.natAbs f.2.natAbs = 1
  lo : -(18 * f.2) ≤ f.1
  hi : f.1 ≤ 18 * f.2
  top : f.2 ≤ n
theorem low_div {t b : Int} (hb : 0 < b) : ∃ g : Int, 0 < g ∧ t = (low t b).1 * g ∧ b = (low t b).2 * g ∧ g = ((Nat.gcd t.natAbs b.natAbs : Nat) : Int) := by
  have hg : 0 < Nat.gcd t.natAbs b.natAbs := Nat.gcd_pos_of_pos_right _ (by omega)
  refine ⟨((Nat.gcd t.natAbs b.natAbs : Nat) : Int), by omega, ?_, ?_, rfl⟩
  · refine (Int.ediv_mul_cancel ?_).symm
    exact Int.natAbs_dvd_natAbs.mp (Nat.gcd_dvd_left _ _)
  · refine (Int.ediv_mul_cancel ?_).symm
    exact Int.natAbs_dvd_natAbs.mp (Nat.gcd_dvd_right _ _)
theorem low_pos {t b : Int} (hb : 0 < b) : 0 < (low t b).2 := by
  obtain ⟨g, g0, _, e, _⟩ := low_div (t := t) hb
  rw [e] at hb
  exact Int.pos_of_mul_pos_left hb g0
theorem low_red {t b : Int} (hb : 0 < b) : Nat.gcd (low t b).1.natAbs (low t b).2.natAbs = 1 := by
  obtain ⟨g, g0, e1, e2, e3⟩ := low_div (t := t) hb
  have t' : t.natAbs = (low t b).1.natAbs * g.natAbs := by rw [← Int.natAbs_mul, ← e1]
  have b' : b.natAbs = (low t b).2.natAbs * g.natAbs := by rw [← Int.natAbs_mul, ← e2]
  have h : Nat.gcd t.natAbs b.natAbs = Nat.gcd (low t b).1.natAbs (low t b).2.natAbs * g.natAbs := by rw [t', b', Nat.gcd_mul_right]
  have gn : Nat.gcd t.natAbs b.natAbs = g.natAbs := by rw [e3]; rfl
  rw [gn] at h
  have gp : 0 < g.natAbs := by omega
  have : 1 * g.natAbs = Nat.gcd (low t b).1.natAbs (low t b).2.natAbs * g.natAbs := by rw [Nat.one_mul]; exact h
  exact (Nat.eq_of_mul_eq_mul_right gp this).symm
theorem low_nr {t b n : Int} (hb : 0 < b) (h1 : -(18 * b) ≤ t) (h2 : t ≤ 18 * b) (hn : b ≤ n) : Nr n (low t b) := by
  obtain ⟨g, g0, e1, e2, _⟩ := low_div (t := t) hb
  have p := low_pos (t := t) hb
  refine ⟨p, low_red hb, ?_, ?_, ?_⟩
  · refine Int.le_of_mul_le_mul_right (a := g) ?_ g0
    rw [← e1, Int.neg_mul, Int.mul_assoc, ← e2]; exact h1
  · refine Int.le_of_mul_le_mul_right (a := g) ?_ g0
    rw [← e1, Int.mul_assoc, ← e2]; exact h2
  · refine Int.le_trans ?_ hn
    have : (low t b).2 * 1 ≤ (low t b).2 * g := Int.mul_le_mul_of_nonneg_left (by omega) (by omega)
    rw [← e2] at this
    omega
theorem low_lt {t u b c : Int} (hb : 0 < b) (hc : 0 < c) (h : t * c < u * b) : (low t b).1 * (low u c).2 < (low u c).1 * (low t b).2 := by
  obtain ⟨g, g0, e1, e2, _⟩ := low_div (t := t) hb
  obtain ⟨k, k0, f1, f2, _⟩ := low_div (t := u) hc
  generalize (low t b).1 = x1 at *
  generalize (low t b).2 = x2 at *
  generalize (low u c).1 = y1 at *
  generalize (low u c).2 = y2 at *
  subst e1 e2 f1 f2
  refine Int.lt_of_mul_lt_mul_right (a := g * k) ?_ (by have := Int.mul_pos g0 k0; omega)
  calc x1 * y2 * (g * k) = x1 * g * (y2 * k) := by grind
    _ < y1 * k * (x2 * g) := h
    _ = y1 * x2 * (g * k) := by grind
theorem Nr.ok {f : Fra} (h : Nr (10 ^ 15) f) : FraOk f := by
  have h1 := h.pos
  have h2 := h.lo
  have h3 := h.hi
  have h4 := h.top
  refine ⟨h.pos, h.red, ?_, ?_⟩
  · show f.1.natAbs < 2 ^ 150
    omega
  · show f.2.natAbs < 2 ^ 150
    omega
theorem Nr.mono {n m : Int} {f : Fra} (h : Nr n f) (l : n ≤ m) : Nr m f := ⟨h.pos, h.red, h.lo, h.hi, Int.le_trans h.top l⟩
structure StrN (n : Int) (s : Str2) : Prop where
  lo : Nr n s.1
  hi : Nr n s.2
  lt : s.1.1 * s.2.2 < s.2.1 * s.1.2
theorem StrN.ok {s : Str2} (h : StrN (10 ^ 15) s) : StrOk s := ⟨h.lo.ok, h.hi.ok, h.lt⟩
def spStretch (K : PySem.W.Frag) : Sp := fun vs H Q _ => ∃ (d c : Addr), vs = [.ref d] ∧ Hand K H d c ∧ ∀ p H' s, Hand K H' d c → But d H H' → StrAt H' p s → StrN (10 ^ 6) s → Q (.ref p) H'
def spPlace (K : PySem.W.Frag) : Sp := fun vs H Q _ => ∃ (d c a : Addr) (s : Str2), vs = [.ref d, .ref a] ∧ Hand K H d c ∧ StrAt H a s ∧ StrN (10 ^ 6) s ∧
  ∀ (p : Addr) H' (f : Fra) (t m : Int), Hand K H' d c → But d H H' → FraAt H' p f → Nr (10 ^ 15) f → 0 ≤ t → t ≤ m → 0 < m → f.1 * (s.1.2 * s.2.2 * m) = f.2 * (s.1.1 * s.2.2 * (m - t) + s.2.1 * s.1.2 * t) → Q (.ref p) H'
section
variable {P : Program} {w : World} {K : PySem.W.Frag} {mg : Str → Option Value} {base : Heap}
theorem sc_law_stretch : FnScope ["_law_hand_here", "_law_bottom", "_law_low_here", "_law_wide"] ["_law_hand_here"] (defScope s_law_stretch) := ⟨rfl, rfl, rfl, by decide +kernel, rfl, by decide +kernel, by decide +kernel⟩
theorem cal_law_stretch {f : Addr} {fd : FuncData} (F : FnP K "_law_stretch" "_law_stretch" s_law_stretch f fd) (g : mg "_law_stretch" = some (.ref f)) (T : Txt0 mg) (C_law_any : Cal P w K mg base "_law_any" 2 ["_law_hand_here", "_law_things"] (spAny K)) (C_law_draw : Cal P w K mg base "_law_draw" 1 ["_law_hand_here", "_law_many"] (spDraw K)) (C_law_low : Cal P w K mg base "_law_low" 1 ["_law_top", "_law_bottom"] spLow) : Cal P w K mg base "_law_stretch" 3 ["_law_hand_here"] (spStretch K) := by
  obtain ⟨f_law_any, fd_law_any, g_law_any, G_law_any, b_law_any, k_law_any⟩ := C_law_any
  obtain ⟨f_law_draw, fd_law_draw, g_law_draw, G_law_draw, b_law_draw, k_law_draw⟩ := C_law_draw
  obtain ⟨f_law_low, fd_law_low, g_law_low, G_law_low, b_law_low, k_law_low⟩ := C_law_low
  refine ⟨f, fd, g, ?_, F.bindsN (fun _ _ _ _ _ _ us hl => match us, hl with | [_], _ => rfl), F.kp⟩
  refine F.ok sc_law_stretch (fun vs H Q E h => ?_) (fun cdv A outer s H vs Q E hr h => ?_)
  · obtain ⟨d, c, rfl, hh, k⟩ := h
    rfl
  · obtain ⟨d, c, rfl, hh, k⟩ := h
    refine ⟨_, PSs.nox (pss_cons (ps_set (i := 1) sc_law_stretch.nd rfl (Or.inl rfl) (pe_call G_law_any (hr.mono (by decide)) (by rfl) g_law_any k_law_any b_law_any .nil pass0 (pa_cons (pv 0) (pa_cons (pe_lst (pa_cons pe_int (pa_cons pe_int (pa_cons pe_int (pa_cons pe_int (pa_cons pe_int (pa_cons pe_int (pa_cons (pe_op op_pow pe_int pe_int) pa_nil)))))))) pa_nil))))
      (pss_cons (ps_set (i := 2) sc_law_stretch.nd rfl (Or.inl rfl) (pe_op op_sub (pe_call G_law_draw (hr.mono (by decide)) (by rfl) g_law_draw k_law_draw b_law_draw .nil pass0 (pa_cons (pv 0) (pa_cons (pe_op op_mulW pe_int (pv 1)) pa_nil))) (pe_op op_mulW (pe_call G_law_any (hr.mono (by decide)) (by rfl) g_law_any k_law_any b_law_any .nil pass0 (pa_cons (pv 0) (pa_cons (pe_lst (pa_cons pe_int (pa_cons pe_int (pa_cons pe_int (pa_cons pe_int pa_nil))))) pa_nil))) (pv 1))))
      (pss_cons (ps_set (i := 3) sc_law_stretch.nd rfl (Or.inl rfl) (pe_op op_add pe_int (pe_call G_law_draw (hr.mono (by decide)) (by rfl) g_law_draw k_law_draw b_law_draw .nil pass0 (pa_cons (pv 0) (pa_cons (pe_call G_law_any (hr.mono (by decide)) (by rfl) g_law_any k_law_any b_law_any .nil pass0 (pa_cons (pv 0) (pa_cons (pe_lst (pa_cons pe_int (pa_cons (pv 1) (pa_cons (pe_op op_mulW pe_int (pv 1)) (pa_cons (pe_op op_mulW pe_int (pv 1)) pa_nil))))) pa_nil))) pa_nil)))))
      (pss_one (ps_ret (pe_tup (pa_cons (pe_call G_law_low (hr.mono (by decide)) (by rfl) g_law_low k_law_low b_law_low .nil pass0 (pa_cons (pv 2) (pa_cons (pv 1) pa_nil))) (pa_cons (pe_call G_law_low (hr.mono (by decide)) (by rfl) g_law_low k_law_low b_law_low .nil pass0 (pa_cons (pe_op op_add (pv 2) (pv 3)) (pa_cons (pv 1) pa_nil))) pa_nil)))))))), ?_⟩
    try dsimp only [cxOf, Cx.nox, Cx.wish]
    walk_at "f"
    refine My.new (My.sz (by simp)) fun pl nl => ?_
    have sl := same_new (o := HO.lst [V.int 1, V.int 1, V.int 1, V.int 2, V.int 3, V.int 7, V.int (10 ^ Int.toNat 6)]) nl
    walk_at "f"
    refine ⟨d, c, pl, _, rfl, hh.same sl, SqL.of upd_same, by simp, by simp, fun v H1 hv hh1 b1 _ => ?_⟩
    obtain ⟨B, rfl, B0, B1⟩ : ∃ B : Int, v = .int B ∧ 0 < B ∧ B ≤ 10 ^ 6 := by
      simp only [List.mem_cons, List.not_mem_nil, or_false] at hv
      rcases hv with rfl | rfl | rfl | rfl | rfl | rfl | rfl <;> exact ⟨_, rfl, by decide, by decide⟩
    have b1 := (Same.but sl).trans b1
    walk_at "f"
    refine My.mulW (n := 4) (m := 20) (My.Bd.lit (k := 10) (by decide) (by decide)) (My.Bd.lit (k := 10 ^ 6 + 1) (by omega) (by decide)) (by decide) ?_
    walk_at "f"
    refine ⟨d, c, 9 * B, rfl, by omega, by omega, hh1, fun r H2 r0 r1 hh2 b2 _ => ?_⟩
    walk_at "f"
    refine My.new (My.sz (by simp)) fun p2 n2 => ?_
    have s2 := same_new (o := HO.lst [V.int 0, V.int 4, V.int 4, V.int 9]) n2
    walk_at "f"
    refine ⟨d, c, p2, _, rfl, hh2.same s2, SqL.of upd_same, by simp, by simp, fun v H3 hv hh3 b3 _ => ?_⟩
    obtain ⟨e, rfl, e0, e1⟩ : ∃ e : Int, v = .int e ∧ 0 ≤ e ∧ e ≤ 9 := by
      simp only [List.mem_cons, List.not_mem_nil, or_false] at hv
      rcases hv with rfl | rfl | rfl | rfl <;> exact ⟨_, rfl, by decide, by decide⟩
    have b3 := ((b1.trans b2).trans (Same.but s2)).trans b3
    walk_at "f"
    refine My.mulW (n := 4) (m := 20) (My.Bd.lit (k := 10) (by omega) (by decide)) (My.Bd.lit (k := 10 ^ 6 + 1) (by omega) (by decide)) (by decide) ?_
    have eB0 : 0 ≤ e * B := Int.mul_nonneg e0 (by omega)
    have eB1 : e * B ≤ 9 * B := Int.mul_le_mul_of_nonneg_right e1 (by omega)
    walk_at "f"
    refine My.mulW (n := 4) (m := 20) (My.Bd.lit (k := 10) (by decide) (by decide)) (My.Bd.lit (k := 10 ^ 6 + 1) (by omega) (by decide)) (by decide) ?_
    walk_at "f"
    refine My.mulW (n := 4) (m := 20) (My.Bd.lit (k := 10) (by decide) (by decide)) (My.Bd.lit (k := 10 ^ 6 + 1) (by omega) (by decide)) (by decide) ?_
    walk_at "f"
    refine My.new (My.sz (by simp)) fun p3 n3 => ?_
    have s3 := same_new (o := HO.lst [V.int 1, V.int B, V.int (3 * B), V.int (9 * B)]) n3
    walk_at "f"
    refine ⟨d, c, p3, _, rfl, hh3.same s3, SqL.of upd_same, by simp, by simp, fun v H4 hv hh4 b4 _ => ?_⟩
    obtain ⟨W, rfl, W0, W1⟩ : ∃ W : Int, v = .int W ∧ 0 < W ∧ W ≤ 9 * B := by
      simp only [List.mem_cons, List.not_mem_nil, or_false] at hv
      rcases hv with rfl | rfl | rfl | rfl <;> exact ⟨_, rfl, by omega, by omega⟩
    have b4 := (b3.trans (Same.but s3)).trans b4
    walk_at "f"
    refine ⟨d, c, W, rfl, W0, by omega, hh4, fun x H5 x0 x1 hh5 b5 _ => ?_⟩
    have b5 := b4.trans b5
    walk_at "f"
    have BB : My.Bd 8990 B := (My.Bd.lit (n := 20) (k := 10 ^ 6 + 1) (by omega) (by decide)).mono (by decide)
    refine ⟨_, B, rfl, B0, BB, fun q1 nq1 => ?_⟩
    have s6 := same_new (o := HO.tup [V.int (low (r - e * B) B).1, V.int (low (r - e * B) B).2]) nq1
    have f6 := upd_same (H := H5) (a := q1) (o := HO.tup [V.int (low (r - e * B) B).1, V.int (low (r - e * B) B).2])
    have hh6 := hh5.same s6
    have b6 := b5.trans (Same.but s6)
    generalize upd H5 q1 _ = H6 at f6 hh6 b6 ⊢
    walk_at "f"
    refine ⟨_, B, rfl, B0, BB, fun q2 nq2 => ?_⟩
    have s7 := same_new (o := HO.tup [V.int (low (r - e * B + (1 + x)) B).1, V.int (low (r - e * B + (1 + x)) B).2]) nq2
    have f7 := upd_same (H := H6) (a := q2) (o := HO.tup [V.int (low (r - e * B + (1 + x)) B).1, V.int (low (r - e * B + (1 + x)) B).2])
    have f6' := s7 _ _ f6
    have hh7 := hh6.same s7
    have b7 := b6.trans (Same.but s7)
    generalize upd H6 q2 _ = H7 at f6' f7 hh7 b7 ⊢
    walk_at "f"
    refine My.new (My.sz (by simp)) fun q3 nq3 => ?_
    have s8 := same_new (o := HO.tup [V.ref q1, V.ref q2]) nq3
    refine k q3 _ (low (r - e * B) B, low (r - e * B + (1 + x)) B) (hh7.same s8) (b7.trans (Same.but s8)) ⟨q1, q2, upd_same, s8 _ _ f6', s8 _ _ f7⟩ ⟨low_nr B0 (by omega) (by omega) B1, low_nr B0 (by omega) (by omega) B1, low_lt B0 B0 ?_⟩
    exact Int.mul_lt_mul_of_pos_right (by omega) B0
theorem sc_law_place : FnScope ["_law_hand_here", "_law_stretch_here", "_law_a", "_law_b", "_law_c", "_law_d", "_law_under", "_law_s"] ["_law_hand_here", "_law_stretch_here"] (defScope s_law_place) := ⟨rfl, rfl, rfl, by decide +kernel, rfl, by decide +kernel, by decide +kernel⟩
theorem cal_law_place {f : Addr} {fd : FuncData} (F : FnP K "_law_place" "_law_place" s_law_place f fd) (g : mg "_law_place" = some (.ref f)) (T : Txt0 mg) (C_law_any : Cal P w K mg base "_law_any" 2 ["_law_hand_here", "_law_things"] (spAny K)) (C_law_draw : Cal P w K mg base "_law_draw" 1 ["_law_hand_here", "_law_many"] (spDraw K)) (C_law_low : Cal P w K mg base "_law_low" 1 ["_law_top", "_law_bottom"] spLow) : Cal P w K mg base "_law_place" 3 ["_law_hand_here", "_law_stretch_here"] (spPlace K) := by
  obtain ⟨f_law_any, fd_law_any, g_law_any, G_law_any, b_law_any, k_law_any⟩ := C_law_any
  obtain ⟨f_law_draw, fd_law_draw, g_law_draw, G_law_draw, b_law_draw, k_law_draw⟩ := C_law_draw
  obtain ⟨f_law_low, fd_law_low, g_law_low, G_law_low, b_law_low, k_law_low⟩ := C_law_low
  refine ⟨f, fd, g, ?_, F.bindsN (fun _ _ _ _ _ _ us hl => match us, hl with | [_, _], _ => rfl), F.kp⟩
  refine F.ok sc_law_place (fun vs H Q E h => ?_) (fun cdv A outer s H vs Q E hr h => ?_)
  · obtain ⟨d, c, a, s, rfl, hh, ha, sn, k⟩ := h
    rfl
  · obtain ⟨d, c, a, s, rfl, hh, ha, sn, k⟩ := h
    refine ⟨_, PSs.nox (pss_cons (ps_asg (pv 1) (pg_tup (by rfl) (pgs_cons (pg_tup (by rfl) (pgs_cons (pg_name (i := 2) sc_law_place.nd rfl (Or.inl rfl)) (pgs_cons (pg_name (i := 3) sc_law_place.nd rfl (Or.inl rfl)) pgs_nil))) (pgs_cons (pg_tup (by rfl) (pgs_cons (pg_name (i := 4) sc_law_place.nd rfl (Or.inl rfl)) (pgs_cons (pg_name (i := 5) sc_law_place.nd rfl (Or.inl rfl)) pgs_nil))) pgs_nil))))
      (pss_cons (ps_set (i := 6) sc_law_place.nd rfl (Or.inl rfl) (pe_call G_law_any (hr.mono (by decide)) (by rfl) g_law_any k_law_any b_law_any .nil pass0 (pa_cons (pv 0) (pa_cons (pe_lst (pa_cons pe_int (pa_cons pe_int (pa_cons pe_int (pa_cons pe_int pa_nil))))) pa_nil))))
      (pss_cons (ps_set (i := 7) sc_law_place.nd rfl (Or.inl rfl) (pe_call G_law_draw (hr.mono (by decide)) (by rfl) g_law_draw k_law_draw b_law_draw .nil pass0 (pa_cons (pv 0) (pa_cons (pe_op op_add (pv 6) pe_int) pa_nil))))
      (pss_one (ps_ret (pe_call G_law_low (hr.mono (by decide)) (by rfl) g_law_low k_law_low b_law_low .nil pass0 (pa_cons (pe_op op_add (pe_op op_mulW (pe_op op_mulW (pv 2) (pv 5)) (pe_op op_sub (pv 6) (pv 7))) (pe_op op_mulW (pe_op op_mulW (pv 4) (pv 3)) (pv 7))) (pa_cons (pe_op op_mulW (pe_op op_mulW (pv 3) (pv 5)) (pv 6)) pa_nil)))))))), ?_⟩
    try dsimp only [cxOf, Cx.nox, Cx.wish]
    obtain ⟨x1, x2, hx, h1, h2⟩ := id ha
    obtain ⟨⟨a1, a2⟩, ⟨c1, c2⟩⟩ := s
    have A := sn.lo
    have C := sn.hi
    have lt := sn.lt
    have hA2 := A.pos; have hA3 := A.lo; have hA4 := A.hi; have hA5 := A.top
    have hC2 := C.pos; have hC3 := C.lo; have hC4 := C.hi; have hC5 := C.top
    simp only at hA2 hA3 hA4 hA5 hC2 hC3 hC4 hC5 lt h1 h2 k
    walk_at "f"
    refine My.gtup22 (SqT.of hx) (SqT.of h1) (SqT.of h2) rfl ?_
    walk_at "f"
    refine My.new (My.sz (by simp)) fun pl nl => ?_
    have sl := same_new (o := HO.lst [V.int 1, V.int 2, V.int 7, V.int 1000]) nl
    walk_at "f"
    refine ⟨d, c, pl, _, rfl, hh.same sl, SqL.of upd_same, by simp, by simp, fun v H1 hv hh1 b1 _ => ?_⟩
    obtain ⟨m, rfl, m0, m1⟩ : ∃ m : Int, v = .int m ∧ 0 < m ∧ m ≤ 1000 := by
      simp only [List.mem_cons, List.not_mem_nil, or_false] at hv
      rcases hv with rfl | rfl | rfl | rfl <;> exact ⟨_, rfl, by decide, by decide⟩
    have b1 := (Same.but sl).trans b1
    walk_at "f"
    refine ⟨d, c, m + 1, rfl, by omega, by omega, hh1, fun t H2 t0 t1 hh2 b2 _ => ?_⟩
    have b2 := b1.trans b2
    have Ba : My.Bd 25 a1 := My.Bd.lit (k := 18000001) (by omega) (by decide)
    have Bb : My.Bd 20 a2 := My.Bd.lit (k := 1000001) (by omega) (by decide)
    have Bc : My.Bd 25 c1 := My.Bd.lit (k := 18000001) (by omega) (by decide)
    have Bd' : My.Bd 20 c2 := My.Bd.lit (k := 1000001) (by omega) (by decide)
    have Bm : My.Bd 10 m := My.Bd.lit (k := 1001) (by omega) (by decide)
    have Bt : My.Bd 10 t := My.Bd.lit (k := 1001) (by omega) (by decide)
    have Bmt : My.Bd 10 (m - t) := My.Bd.lit (k := 1001) (by omega) (by decide)
    walk_at "f"
    refine My.mulW (Ba.mul Bd') Bmt (by decide) ?_
    walk_at "f"
    refine My.mulW (Bc.mul Bb) Bt (by decide) ?_
    walk_at "f"
    refine My.mulW (Bb.mul Bd') Bm (by decide) ?_
    walk_at "f"
    have P : 0 < a2 * c2 := Int.mul_pos hA2 hC2
    have U0 : 0 < a2 * c2 * m := Int.mul_pos P m0
    have e1 : a1 * c2 ≤ 18 * a2 * c2 := Int.mul_le_mul_of_nonneg_right hA4 (by omega)
    have e2 : -(18 * a2) * c2 ≤ a1 * c2 := Int.mul_le_mul_of_nonneg_right hA3 (by omega)
    have e3 : c1 * a2 ≤ 18 * c2 * a2 := Int.mul_le_mul_of_nonneg_right hC4 (by omega)
    have e4 : -(18 * c2) * a2 ≤ c1 * a2 := Int.mul_le_mul_of_nonneg_right hC3 (by omega)
    have g1 := Int.mul_le_mul_of_nonneg_right e1 (show 0 ≤ m - t by omega)
    have g2 := Int.mul_le_mul_of_nonneg_right e2 (show 0 ≤ m - t by omega)
    have g3 := Int.mul_le_mul_of_nonneg_right e3 t0
    have g4 := Int.mul_le_mul_of_nonneg_right e4 t0
    have u1 : 18 * a2 * c2 * (m - t) + 18 * c2 * a2 * t = 18 * (a2 * c2 * m) := by grind
    have u2 : -(18 * a2) * c2 * (m - t) + -(18 * c2) * a2 * t = -(18 * (a2 * c2 * m)) := by grind
    have U1 : a2 * c2 * m ≤ 10 ^ 15 := by
      have z1 : a2 * c2 ≤ 10 ^ 6 * c2 := Int.mul_le_mul_of_nonneg_right hA5 (by omega)
      have z2 : a2 * c2 * m ≤ 10 ^ 6 * c2 * m := Int.mul_le_mul_of_nonneg_right z1 (by omega)
      have z3 : 10 ^ 6 * c2 * m ≤ 10 ^ 6 * c2 * 1000 := Int.mul_le_mul_of_nonneg_left m1 (by omega)
      omega
    refine ⟨_, _, rfl, U0, ((Bb.mul Bd').mul Bm).mono (by decide), fun p np => ?_⟩
    obtain ⟨g, _, q1, q2, _⟩ := low_div (t := a1 * c2 * (m - t) + c1 * a2 * t) U0
    have sp := same_new (o := HO.tup [V.int (low (a1 * c2 * (m - t) + c1 * a2 * t) (a2 * c2 * m)).1, V.int (low (a1 * c2 * (m - t) + c1 * a2 * t) (a2 * c2 * m)).2]) np
    refine k p _ _ t m (hh2.same sp) (b2.trans (Same.but sp)) upd_same (low_nr U0 (by omega) (by omega) U1) t0 (by omega) m0 ?_
    generalize low (a1 * c2 * (m - t) + c1 * a2 * t) (a2 * c2 * m) = f at q1 q2 ⊢
    rw [q2]
    conv => rhs; rw [q1]
    grind
end
end K25

set_option Elab.async false
set_option linter.all false
set_option maxRecDepth 100000
set_option maxHeartbeats 4000000
namespace K25
open PySem PySem.Spec PyProof.Rows L2 XV DX
/-- f lies t of m parts within the stretch -/
def InS (s : Str2) (f : Fra) : Prop := ∃ t m : Int, 0 ≤ t ∧ t ≤ m ∧ 0 < m ∧ f.1 * (s.1.2 * s.2.2 * m) = f.2 * (s.1.1 * s.2.2 * (m - t) + s.2.1 * s.1.2 * t)
theorem low_abs {t b : Int} (hb : 0 < b) : (low t b).1.natAbs ≤ t.natAbs ∧ (low t b).2.natAbs ≤ b.natAbs := by
  obtain ⟨g, g0, e1, e2, _⟩ := low_div (t := t) hb
  have t' : t.natAbs = (low t b).1.natAbs * g.natAbs := by rw [← Int.natAbs_mul, ← e1]
  have b' : b.natAbs = (low t b).2.natAbs * g.natAbs := by rw [← Int.natAbs_mul, ← e2]
  have gp : 1 ≤ g.natAbs := by omega
  exact ⟨by rw [t']; exact Nat.le_mul_of_pos_right _ gp, by rw [b']; exact Nat.le_mul_of_pos_right _ gp⟩
theorem but_str {K : PySem.W.Frag} {H H' : Hp} {d c a : Addr} {s : Str2} (b : But d H H') (h : Hand K H d c) (e : StrAt H a s) : StrAt H' a s := by
  obtain ⟨p, q, h1, h2, h3⟩ := e
  exact ⟨p, q, b.obj h h1 (fun _ z => by cases z), b.obj h h2 (fun _ z => by cases z), b.obj h h3 (fun _ z => by cases z)⟩
theorem but_box {K : PySem.W.Frag} {H H' : Hp} {d c a : Addr} {bs : List Str2} (b : But d H H') (h : Hand K H d c) (e : BoxAt H a bs) : BoxAt H' a bs := by
  obtain ⟨rs, h1, h2⟩ := e
  exact ⟨rs, b.obj h h1 (fun _ z => by cases z), Paired.mapP h2 fun _ _ z => but_str b h z⟩
theorem str_put {H : Hp} {D a : Addr} {ys zs : List V} {s : Str2} (e : H D = some (.lst ys)) (h : StrAt H a s) : StrAt (upd H D (.lst zs)) a s := by
  obtain ⟨p, q, h1, h2, h3⟩ := h
  have n : ∀ b xs, H b = some (.tup xs) → b ≠ D := fun b xs z g => by rw [g, e] at z; cases z
  exact ⟨p, q, by rw [upd_ne (n _ _ h1)]; exact h1, by unfold FraAt; rw [upd_ne (n _ _ h2)]; exact h2, by unfold FraAt; rw [upd_ne (n _ _ h3)]; exact h3⟩
theorem strs_of {H : Hp} : ∀ {ys : List V}, (∀ (j : Nat) y, ys[j]? = some y → ∃ a s, y = V.ref a ∧ StrAt H a s ∧ StrN (10 ^ 6) s) → ∃ rs sts, ys = rs.map V.ref ∧ Paired (StrAt H) rs sts ∧ ∀ s ∈ sts, StrN (10 ^ 6) s
  | [], _ => ⟨[], [], rfl, .nil, fun s h => by cases h⟩
  | y :: ys, h => by
    obtain ⟨a, s, rfl, h1, h2⟩ := h 0 y rfl
    obtain ⟨rs, sts, rfl, h3, h4⟩ := strs_of (ys := ys) fun j y e => h (j + 1) y e
    exact ⟨a :: rs, s :: sts, rfl, .cons h1 h3, fun x hx => by
      rcases List.mem_cons.mp hx with e | e
      · rw [e]; exact h2
      · exact h4 x e⟩
def spLBox (K : PySem.W.Frag) : Sp := fun vs H Q _ => ∃ (d c : Addr) (n : Nat), vs = [.ref d, .int (n : Int)] ∧ n ≤ 3 ∧ Hand K H d c ∧ ∀ p H' sts, Hand K H' d c → But d H H' → BoxAt H' p sts → sts.length = n → (∀ s ∈ sts, StrN (10 ^ 6) s) → Q (.ref p) H'
section
variable {P : Program} {w : World} {K : PySem.W.Frag} {mg : Str → Option Value} {base : Heap}
theorem sc_law_box : FnScope ["_law_hand_here", "_law_many", "_law_k"] ["_law_hand_here", "_law_many"] (defScope s_law_box) := ⟨rfl, rfl, rfl, by decide +kernel, rfl, by decide +kernel, by decide +kernel⟩
theorem cal_law_box {f : Addr} {fd : FuncData} (F : FnP K "_law_box" "_law_box" s_law_box f fd) (g : mg "_law_box" = some (.ref f)) (T : Txt0 mg) (C_law_stretch : Cal P w K mg base "_law_stretch" 3 ["_law_hand_here"] (spStretch K)) : Cal P w K mg base "_law_box" 4 ["_law_hand_here", "_law_many"] (spLBox K) := by
  obtain ⟨f_law_stretch, fd_law_stretch, g_law_stretch, G_law_stretch, b_law_stretch, k_law_stretch⟩ := C_law_stretch
  refine ⟨f, fd, g, ?_, F.bindsN (fun _ _ _ _ _ _ us hl => match us, hl with | [_, _], _ => rfl), F.kp⟩
  refine F.ok sc_law_box (fun vs H Q E h => ?_) (fun cdv A outer s H vs Q E hr h => ?_)
  · obtain ⟨d, c, n, rfl, hn, hh, k⟩ := h
    rfl
  · obtain ⟨d, c, n, rfl, hn, hh, k⟩ := h
    refine ⟨_, PSs.nox (pss_one (ps_ret (pe_tupleOf (by rfl) T.tuple (pe_lc (own := [("_law_k", 2)]) (tt := tYes) (by rfl) sc_law_box.nd (pi_range1 (by rfl) T.range (pa_cons (pv 1) pa_nil)) (blkOk_by (own := [("_law_k", 2)]) (N := ["_law_hand_here", "_law_many", "_law_k"]) (sc := (defScope s_law_box)) (by decide +kernel)) (fun _ _ _ _ _ => (pg_name (i := 2) sc_law_box.nd rfl (Or.inl rfl))) (fun _ _ _ _ _ => pts_nil) (fun _ _ _ _ _ => (pe_call G_law_stretch (hr.mono (by decide)) (by rfl) g_law_stretch k_law_stretch b_law_stretch .nil pass0 (pa_cons (pv 0) pa_nil))))))), ?_⟩
    try dsimp only [cxOf, Cx.nox, Cx.wish]
    walk_at "f"
    refine ⟨(n : Int), rfl, by omega, by omega, My.lcM2 walk_range (fun H1 H' => But d H1 H' ∧ Hand K H' d c) (by omega) (fun D hD => ⟨Same.but (same_new hD), hh.same (same_new hD)⟩) fun D nD => ⟨fun j y H => ∃ a s, y = .ref a ∧ StrAt H a s ∧ StrN (10 ^ 6) s, fun j y H ys zs e ⟨a, s, h1, h2, h3⟩ => ⟨a, s, h1, str_put e h2, h3⟩, fun H o s => ⟨but_at s.1 nD, Hand.at hh s.1 s.2 nD⟩, fun _ _ _ _ => trivial, ?_, ?_⟩⟩
    · rintro i x H3 H4 ys N hi r e l p' ⟨rfl, rfl⟩ hN
      walk_at "f"
      refine ⟨rfl, ?_⟩
      walk_at "f"
      refine ⟨d, c, rfl, r.2, fun q H5 s hh5 b5 hs sn => ?_⟩
      refine hN _ _ ⟨r.1.trans b5, hh5⟩ (b5.obj r.2 e (fun _ z => by cases z)) (fun j v hv => ?_) ⟨q, s, rfl, hs, sn⟩
      obtain ⟨a, s', h1, h2, h3⟩ := p' j v hv
      exact ⟨a, s', h1, but_str b5 r.2 h2, h3⟩
    · intro H3 ys hD hl3 r hy
      obtain ⟨rs, sts, rfl, hp, hs⟩ := strs_of hy
      refine My.tupL (SqL.of hD) fun t nt => ?_
      have st := same_new (o := HO.tup (rs.map V.ref)) nt
      rw [List.length_map] at hl3
      have pl := My.plen hp
      refine k t _ sts (r.2.same st) (r.1.trans (Same.but st)) ⟨rs, upd_same, Paired.mapP hp fun _ _ z => z.same st⟩ (by omega) hs
end
end K25

set_option Elab.async false
set_option linter.all false
set_option maxRecDepth 100000
set_option maxHeartbeats 4000000
namespace K25
open PySem PySem.Spec PyProof.Rows L2 XV DX
def spPolar : Sp := fun vs H Q _ => ∃ (a : Addr) (s : Str2) (D i j : Nat), vs = [.ref a, .int (D : Int), .int (i : Int), .int (j : Int)] ∧ StrAt H a s ∧ StrOk s ∧ D ≤ 60 ∧ i ≤ D ∧ j ≤ D ∧
  ∀ p H', Same H H' → H' p = some (.tup [.int (BM.pa (mkDm D s) j i), .int (BM.pb (mkDm D s) j)]) → Q (.ref p) H'
section
variable {P : Program} {w : World} {K : PySem.W.Frag} {mg : Str → Option Value} {base : Heap}
theorem sc_law_polar : FnScope ["_law_stretch_here", "_law_many", "_law_i", "_law_j", "_law_a", "_law_b", "_law_c", "_law_d", "_law_low_here", "_law_high", "_law_found", "_law_t", "_law_ways"] ["_law_stretch_here", "_law_many", "_law_i", "_law_j"] (defScope s_law_polar) := ⟨rfl, rfl, rfl, by decide +kernel, rfl, by decide +kernel, by decide +kernel⟩
theorem cal_law_polar {f : Addr} {fd : FuncData} (F : FnP K "_law_polar" "_law_polar" s_law_polar f fd) (g : mg "_law_polar" = some (.ref f)) (T : Txt0 mg) (C_law_binomial : Cal P w K mg base "_law_binomial" 1 ["_law_many", "_law_some"] spBin) (C_law_power : Cal P w K mg base "_law_power" 1 ["_law_number", "_law_many"] spPow) : Cal P w K mg base "_law_polar" 3 ["_law_stretch_here", "_law_many", "_law_i", "_law_j"] spPolar := by
  obtain ⟨f_law_binomial, fd_law_binomial, g_law_binomial, G_law_binomial, b_law_binomial, k_law_binomial⟩ := C_law_binomial
  obtain ⟨f_law_power, fd_law_power, g_law_power, G_law_power, b_law_power, k_law_power⟩ := C_law_power
  refine ⟨f, fd, g, ?_, F.bindsN (fun _ _ _ _ _ _ us hl => match us, hl with | [_, _, _, _], _ => rfl), F.kp⟩
  refine F.ok sc_law_polar (fun vs H Q E h => ?_) (fun cdv A outer s H vs Q E hr h => ?_)
  · obtain ⟨a, s, D, i, j, rfl, ha, ok, hD, hi, hj, k⟩ := h
    rfl
  · obtain ⟨a, s, D, i, j, rfl, ha, ok, hD, hi, hj, k⟩ := h
    refine ⟨_, PSs.nox (pss_cons (ps_asg (pv 0) (pg_tup (by rfl) (pgs_cons (pg_tup (by rfl) (pgs_cons (pg_name (i := 4) sc_law_polar.nd rfl (Or.inl rfl)) (pgs_cons (pg_name (i := 5) sc_law_polar.nd rfl (Or.inl rfl)) pgs_nil))) (pgs_cons (pg_tup (by rfl) (pgs_cons (pg_name (i := 6) sc_law_polar.nd rfl (Or.inl rfl)) (pgs_cons (pg_name (i := 7) sc_law_polar.nd rfl (Or.inl rfl)) pgs_nil))) pgs_nil))))
      (pss_cons (ps_par3 (i := 8) (j := 9) (l := 10) (by rfl) sc_law_polar.nd rfl rfl rfl (by decide) (by decide) (by decide) rfl rfl rfl (pa_cons (pe_op op_mulW (pv 4) (pv 7)) (pa_cons (pe_op op_mulW (pv 6) (pv 5)) (pa_cons pe_int pa_nil))) (by rfl))
      (pss_cons (ps_for PassesOwn.never rfl (pi_range1 (by rfl) T.range (pa_cons (pe_op op_add (pv 3) pe_int) pa_nil)) (pg_name (i := 11) sc_law_polar.nd rfl (Or.inl rfl))
       (pss_cons (ps_set (i := 12) sc_law_polar.nd rfl (Or.inl rfl) (pe_op op_mulW (pe_call G_law_binomial (hr.mono (by decide)) (by rfl) g_law_binomial k_law_binomial b_law_binomial .nil pass0 (pa_cons (pv 2) (pa_cons (pv 11) pa_nil))) (pe_call G_law_binomial (hr.mono (by decide)) (by rfl) g_law_binomial k_law_binomial b_law_binomial .nil pass0 (pa_cons (pe_op op_sub (pv 1) (pv 2)) (pa_cons (pe_op op_sub (pv 3) (pv 11)) pa_nil)))))
      (pss_one (ps_set (i := 10) sc_law_polar.nd rfl (Or.inl rfl) (pe_op op_add (pv 10) (pe_ifExp (pt_cmpR op_gt (pv 12) pe_int (nomark _)) (pe_op op_mulW (pe_op op_mulW (pv 12) (pe_call G_law_power (hr.mono (by decide)) (by rfl) g_law_power k_law_power b_law_power .nil pass0 (pa_cons (pv 9) (pa_cons (pv 11) pa_nil)))) (pe_call G_law_power (hr.mono (by decide)) (by rfl) g_law_power k_law_power b_law_power .nil pass0 (pa_cons (pv 8) (pa_cons (pe_op op_sub (pv 3) (pv 11)) pa_nil)))) pe_int))))))
      (pss_one (ps_ret (pe_tup (pa_cons (pv 10) (pa_cons (pe_op op_mulW (pe_call G_law_power (hr.mono (by decide)) (by rfl) g_law_power k_law_power b_law_power .nil pass0 (pa_cons (pe_op op_mulW (pv 5) (pv 7)) (pa_cons (pv 3) pa_nil))) (pe_call G_law_binomial (hr.mono (by decide)) (by rfl) g_law_binomial k_law_binomial b_law_binomial .nil pass0 (pa_cons (pv 1) (pa_cons (pv 3) pa_nil)))) pa_nil)))))))), ?_⟩
    try dsimp only [cxOf, Cx.nox, Cx.wish]
    obtain ⟨x1, x2, hx, h1, h2⟩ := id ha
    obtain ⟨⟨a1, a2⟩, ⟨c1, c2⟩⟩ := s
    have Ba := ok.lo.b1; have Bb := ok.lo.b2; have Bc := ok.hi.b1; have Be := ok.hi.b2
    simp only at Ba Bb Bc Be h1 h2
    walk_at "f"
    refine My.gtup22 (SqT.of hx) (SqT.of h1) (SqT.of h2) rfl ?_
    walk_at "f"
    have Bl := Ba.mul Be
    have Bh := Bc.mul Bb
    have Bu := Bb.mul Be
    have eD : (D : Int) - (i : Int) = ((D - i : Nat) : Int) := by omega
    refine My.rngI (by omega) (by omega) (fun n σ' H' => ∃ (x y : Option V), σ' = [some (.ref a), some (.int (D : Int)), some (.int (i : Int)), some (.int (j : Int)), some (.int a1), some (.int a2), some (.int c1), some (.int c2), some (.int (a1 * c2)), some (.int (c1 * a2)), some (.int (BM.sm n (BM.qt (a1 * c2) (c1 * a2) i (D - i) j))), x, y] ∧ H' = H) ⟨none, none, rfl, rfl⟩ ?_ ?_
    · rintro t σ' H' ht ⟨x, y, rfl, rfl⟩
      have htj : t ≤ j := by omega
      have ej : (j : Int) - (0 + (t : Int)) = ((j - t : Nat) : Int) := by omega
      walk_at "f"
      refine ⟨i, t, by rw [Int.zero_add]; rfl, by omega, by omega, ?_⟩
      walk_at "f"
      refine ⟨D - i, j - t, by rw [eD, ej]; rfl, by omega, by omega, ?_⟩
      have W1 : My.Bd 64 (BM.ch i t) := ch_bd (by omega)
      have W2 : My.Bd 64 (BM.ch (D - i) (j - t)) := ch_bd (by omega)
      walk_at "f"
      · rename_i hpos
        refine ⟨c1 * a2, t, 300, by rw [Int.zero_add]; rfl, Bh, by omega, by omega, ?_⟩
        have P1 := (pow_bd Bh t).mono (show t * (150 + 150) + 1 ≤ 18001 by omega)
        walk_at "f"
        refine My.mulW (W1.mul W2) P1 (by decide) ?_
        walk_at "f"
        refine ⟨a1 * c2, j - t, 300, by rw [ej]; rfl, Bl, by omega, by omega, ?_⟩
        have P2 := (pow_bd Bl (j - t)).mono (show (j - t) * (150 + 150) + 1 ≤ 18001 by omega)
        walk_at "f"
        refine My.mulW ((W1.mul W2).mul P1) P2 (by decide) ?_
        walk_at "f"
        have e : BM.sm (t + 1) (BM.qt (a1 * c2) (c1 * a2) i (D - i) j) = BM.sm t (BM.qt (a1 * c2) (c1 * a2) i (D - i) j) + BM.ch i t * BM.ch (D - i) (j - t) * (c1 * a2) ^ t * (a1 * c2) ^ (j - t) := by
          show _ + BM.ch i t * BM.ch (D - i) (j - t) * ((c1 * a2) ^ t * (a1 * c2) ^ (j - t)) = _
          rw [Int.mul_assoc (BM.ch i t * BM.ch (D - i) (j - t))]
        rw [e]
        exact ⟨_, _, rfl, rfl⟩
      · rename_i hpos
        have z : BM.ch i t * BM.ch (D - i) (j - t) = 0 := by
          have := Int.mul_nonneg (BM.ch_nonneg i t) (BM.ch_nonneg (D - i) (j - t))
          omega
        have e : BM.sm (t + 1) (BM.qt (a1 * c2) (c1 * a2) i (D - i) j) = BM.sm t (BM.qt (a1 * c2) (c1 * a2) i (D - i) j) + 0 := by
          show _ + BM.ch i t * BM.ch (D - i) (j - t) * ((c1 * a2) ^ t * (a1 * c2) ^ (j - t)) = _
          rw [z, Int.zero_mul]
        rw [e]
        exact ⟨_, _, rfl, rfl⟩
    · rintro σ' H' ⟨x, y, rfl, rfl⟩
      walk_at "f"
      refine ⟨a2 * c2, j, 300, rfl, Bu, by omega, by omega, ?_⟩
      have P1 := (pow_bd Bu j).mono (show j * (150 + 150) + 1 ≤ 18001 by omega)
      walk_at "f"
      refine ⟨D, j, rfl, by omega, by omega, ?_⟩
      have W1 : My.Bd 64 (BM.ch D j) := ch_bd (by omega)
      walk_at "f"
      refine My.new (My.sz (by simp)) fun p np => ?_
      refine k p _ (same_new np) ?_
      rw [upd_same]
      rfl
end
end K25

set_option Elab.async false
set_option linter.all false
set_option maxRecDepth 100000
set_option maxHeartbeats 4000000
namespace K25
open PySem PySem.Spec PyProof.Rows L2 XV DX
def ofN (I : List Nat) : List Int := I.map Int.ofNat
theorem idx_snoc (d : BM.Dm) : ∀ ds : List BM.Dm, BM.idx (ds ++ [d]) = (BM.idx ds).flatMap fun I => (List.range (d.D + 1)).map fun k => I ++ [k]
  | [] => by
    show (List.range (d.D + 1)).flatMap (fun i => [[i]]) = List.flatMap _ [[]]
    rw [List.flatMap_cons, List.flatMap_nil, List.append_nil]
    induction List.range (d.D + 1) with
    | nil => rfl
    | cons a l ih => rw [List.flatMap_cons, List.map_cons, ih]; rfl
  | e :: ds => by
    show (List.range (e.D + 1)).flatMap (fun i => (BM.idx (ds ++ [d])).map (i :: ·)) = ((List.range (e.D + 1)).flatMap fun i => (BM.idx ds).map (i :: ·)).flatMap _
    rw [List.flatMap_assoc]
    congr 1
    funext i
    rw [idx_snoc d ds, List.map_flatMap, List.flatMap_map]
    congr 1
    funext I
    rw [List.map_map]; rfl
theorem refsN_of {P : Nat → Addr → Prop} : ∀ {ys : List V}, (∀ (j : Nat) y, ys[j]? = some y → ∃ t, y = V.ref t ∧ P j t) → ∃ ts : List Addr, ys = ts.map V.ref ∧ ∀ (j : Nat) t, ts[j]? = some t → P j t := fun {ys} h => by
  induction ys generalizing P with
  | nil => exact ⟨[], rfl, fun j t e => by simp at e⟩
  | cons y ys ih =>
    obtain ⟨t, rfl, h0⟩ := h 0 y rfl
    obtain ⟨ts, rfl, hs⟩ := ih (P := fun j t => P (j + 1) t) fun j y e => h (j + 1) y e
    exact ⟨t :: ts, rfl, fun j u e => by
      cases j with
      | zero => cases Option.some.inj e; exact h0
      | succ j => exact hs j u e⟩
def spIdx : Sp := fun vs H Q _ => ∃ (a : Addr) (ds : List BM.Dm), vs = [.ref a] ∧ H a = some (.lst (ds.map fun d => V.int (d.D : Int))) ∧ ds.length ≤ 3 ∧ cntP ds ≤ 64 ∧
  ∀ p H' rs, Same H H' → H' p = some (.lst (rs.map V.ref)) → Paired (fun r I => KAt H' r (ofN I)) rs (BM.idx ds) → Q (.ref p) H'
section
variable {P : Program} {w : World} {K : PySem.W.Frag} {mg : Str → Option Value} {base : Heap}
theorem sc_law_indexes : FnScope ["_law_degrees_here", "_law_found", "_law_most", "_law_longer", "_law_index", "_law_k"] ["_law_degrees_here"] (defScope s_law_indexes) := ⟨rfl, rfl, rfl, by decide +kernel, rfl, by decide +kernel, by decide +kernel⟩
theorem cal_law_indexes {f : Addr} {fd : FuncData} (F : FnP K "_law_indexes" "_law_indexes" s_law_indexes f fd) (g : mg "_law_indexes" = some (.ref f)) (T : Txt0 mg) : Cal P w K mg base "_law_indexes" 3 ["_law_degrees_here"] spIdx := by
  refine ⟨f, fd, g, ?_, F.bindsN (fun _ _ _ _ _ _ us hl => match us, hl with | [_], _ => rfl), F.kp⟩
  refine F.ok sc_law_indexes (fun vs H Q E h => ?_) (fun cdv A outer s H vs Q E hr h => ?_)
  · obtain ⟨a, ds, rfl, ha, d3, dD, k⟩ := h
    rfl
  · obtain ⟨a, ds, rfl, ha, d3, dD, k⟩ := h
    refine ⟨_, PSs.nox (pss_cons (ps_set (i := 1) sc_law_indexes.nd rfl (Or.inl rfl) (pe_lst (pa_cons (pe_tup pa_nil) pa_nil)))
      (pss_cons (ps_for PassesOwn.never rfl (pi_list (pv 0)) (pg_name (i := 2) sc_law_indexes.nd rfl (Or.inl rfl))
       (pss_cons (ps_set (i := 3) sc_law_indexes.nd rfl (Or.inl rfl) (pe_lst pa_nil))
      (pss_cons (ps_for PassesOwn.never rfl (pi_list (pv 1)) (pg_name (i := 4) sc_law_indexes.nd rfl (Or.inr rfl))
       (pss_one (ps_expr (pe_bm PySem.F.plainAttrs_list PySem.F.slot_list_extend PySem.F.type_list_extend mt_extend (pv 3) (pa_cons (pe_lc (own := [("_law_k", 5)]) (tt := tYes) (te := tOp (rCatA K) (tVar 4) (tTup (tCons (tVar 5) tNil))) (by rfl) sc_law_indexes.nd (pi_range1 (by rfl) T.range (pa_cons (pe_op op_add (pv 2) pe_int) pa_nil)) (blkOk_by (own := [("_law_k", 5)]) (N := ["_law_degrees_here", "_law_found", "_law_most", "_law_longer", "_law_index", "_law_k"]) (sc := (defScope s_law_indexes)) (by decide +kernel)) (fun _ _ _ _ _ => (pg_name (i := 5) sc_law_indexes.nd rfl (Or.inl rfl))) (fun _ _ _ _ _ => pts_nil) (fun _ _ _ _ _ => (pe_op op_catA (pv 4) (pe_tup (pa_cons (pv 5) pa_nil))))) pa_nil)))))
      (pss_one (ps_set (i := 1) sc_law_indexes.nd rfl (Or.inl rfl) (pv 3))))))
      (pss_one (ps_ret (pv 1))))), ?_⟩
    try dsimp only [cxOf, Cx.nox, Cx.wish]
    have c64 : ∀ i, (BM.idx (ds.take i)).length ≤ 64 := fun i => by
      rw [idx_len]
      exact Nat.le_trans (cntP_take _ i) dD
    walk_at "f"
    refine My.new (My.sz (by simp)) fun p0 n0 => ?_
    have s0 := same_new (o := HO.tup []) n0
    have e0 := upd_same (H := H) (a := p0) (o := HO.tup [])
    generalize upd H p0 (HO.tup []) = H0 at s0 e0 ⊢
    walk_at "f"
    refine My.new (My.sz (by simp)) fun f0 nf0 => ?_
    have s1 := s0.trans (same_new (o := HO.lst [V.ref p0]) nf0)
    have e1 := upd_same (H := H0) (a := f0) (o := HO.lst [V.ref p0])
    have e01 := same_new (o := HO.lst [V.ref p0]) nf0 _ _ e0
    generalize upd H0 f0 (HO.lst [V.ref p0]) = H1 at s1 e1 e01 ⊢
    walk_at "f"
    refine My.lstI (SqL.of (s1 _ _ ha)) (fun i σ' H' => ∃ (f1 : Addr) (rs : List Addr) (u v x y : Option V), σ' = [some (.ref a), some (.ref f1), u, v, x, y] ∧ Same H H' ∧ H' f1 = some (.lst (rs.map V.ref)) ∧ Paired (fun r I => KAt H' r (ofN I)) rs (BM.idx (ds.take i))) ⟨f0, [p0], _, _, _, _, rfl, s1, e1, .cons e01 .nil⟩ (fun i σ' H' _ ⟨_, _, _, _, _, _, _, s', _⟩ => SqL.of (s' _ _ ha)) ?_ ?_
    · rintro i x σ' H2 ex ⟨f1, rs, u, v, x1, y1, rfl, s2, hf, hp⟩
      rw [List.getElem?_map] at ex
      cases ed : ds[i]? with
      | none => rw [ed] at ex; cases ex
      | some dd =>
        rw [ed] at ex
        cases Option.some.inj ex
        have il := (List.getElem?_eq_some_iff.mp ed).1
        have c1 := c64 i
        have c2 := Nat.le_trans (cntP_take ds (i + 1)) dD
        rw [cntP_step ed] at c2
        have dD' : dd.D + 1 ≤ 64 := Nat.le_trans (Nat.le_mul_of_pos_left _ (cntP_pos _)) c2
        rw [← idx_len] at c2
        have rl := My.plen hp
        have et : BM.idx (ds.take (i + 1)) = (BM.idx (ds.take i)).flatMap fun I => (List.range (dd.D + 1)).map fun k => I ++ [k] := by
          rw [List.take_succ, ed]
          exact idx_snoc dd _
        walk_at "f"
        refine My.new (My.sz (by simp)) fun L nL => ?_
        have sL := same_new (o := HO.lst []) nL
        have eL := upd_same (H := H2) (a := L) (o := HO.lst [])
        have nL0 : H L = none := s2.free nL
        have s3 := s2.trans sL
        have hf3 := sL _ _ hf
        have hp3 := Paired.mapP hp fun r I (z : KAt H2 r (ofN I)) => (sL _ _ z : KAt (upd H2 L (HO.lst [])) r (ofN I))
        have fL : f1 ≠ L := ne_of_none hf nL
        generalize upd H2 L (HO.lst []) = H3 at s3 eL hf3 hp3 ⊢
        walk_at "f"
        refine My.lstI (SqL.of hf3) (fun j σ' H' => ∃ (Ls : List Addr) (x y : Option V), σ' = [some (.ref a), some (.ref f1), some (.int (dd.D : Int)), some (.ref L), x, y] ∧ But L H3 H' ∧ H' L = some (.lst (Ls.map V.ref)) ∧ Paired (fun r I => KAt H' r (ofN I)) Ls (((BM.idx (ds.take i)).take j).flatMap fun I => (List.range (dd.D + 1)).map fun k => I ++ [k])) ⟨[], _, _, rfl, .refl _ _, eL, .nil⟩ (fun j σ' H' _ ⟨_, _, _, _, b, _⟩ => SqL.of (b _ _ fL hf3)) ?_ ?_
        · rintro j x σ' H4 ex ⟨Ls, x2, y2, rfl, b4, hL4, hp4⟩
          rw [List.getElem?_map] at ex
          cases er : rs[j]? with
          | none => rw [er] at ex; cases ex
          | some r =>
            rw [er] at ex
            cases Option.some.inj ex
            obtain ⟨I, eI, hr⟩ := My.pget hp3 er
            have tn : ∀ b xs, H4 b = some (.tup xs) → b ≠ L := fun b xs z g => by rw [g, hL4] at z; cases z
            have rL : r ≠ L := fun g => by
              have z : H3 r = _ := hr
              rw [g, eL] at z; cases z
            have hr4 := b4 _ _ rL hr
            have jl : j < rs.length := (List.getElem?_eq_some_iff.mp er).1
            have eI2 : (((BM.idx (ds.take i)).take (j + 1)).flatMap fun I => (List.range (dd.D + 1)).map fun k => I ++ [k]) = (((BM.idx (ds.take i)).take j).flatMap fun I => (List.range (dd.D + 1)).map fun k => I ++ [k]) ++ (List.range (dd.D + 1)).map fun k => I ++ [k] := by
              rw [List.take_succ, eI, List.flatMap_append]
              congr 1
              exact (List.flatMap_cons ..).trans (List.append_nil _)
            have Ll := My.plen hp4
            rw [flat_len (c := dd.D + 1) (fun I => by rw [List.length_map, List.length_range]), List.length_take] at Ll
            have Lb : Ls.length ≤ 64 := by rw [Ll]; exact Nat.le_trans (Nat.mul_le_mul_right _ (by omega)) c2
            have Il : (ofN I).length ≤ 3 := by
              have := (BM.idx_wi (List.mem_iff_getElem?.mpr ⟨j, eI⟩)).2
              rw [List.length_take] at this
              unfold ofN
              rw [List.length_map]; omega
            walk_at "f"
            refine My.tyL (SqL.of hL4) ?_
            walk_at "f"
            have n4 : ((dd.D : Int) + 1).toNat = dd.D + 1 := by omega
            refine ⟨(dd.D : Int) + 1, rfl, by omega, by omega, My.lcM2 walk_range Same (by omega) (fun D hD => same_new hD) fun D nD => ⟨fun k y H => ∃ t, y = .ref t ∧ KAt H t (ofN (I ++ [k])), fun k y H ys zs e ⟨t, h1, h2⟩ => ⟨t, h1, by show upd H D _ t = _; rw [upd_ne (fun g => by have z : H t = _ := h2; rw [g, e] at z; cases z)]; exact h2⟩, fun H o s => same_at s nD, fun _ _ _ _ => trivial, ?_, ?_⟩⟩
            · rintro q x H5 H6 ys N hq r' e l p' ⟨rfl, rfl⟩ hN
              walk_at "f"
              refine ⟨rfl, ?_⟩
              walk_at "f"
              refine My.new (My.sz (by simp)) fun t1 nt1 => ?_
              have st1 := same_new (o := HO.tup [V.int (0 + (q : Int))]) nt1
              refine My.catA (st1 _ _ (r' _ _ hr4)) upd_same (by rw [List.length_map]; simp; omega) fun t2 H7 s7 h7 => ?_
              have s8 := st1.trans s7
              refine hN _ _ (r'.trans s8) (s8 _ _ e) (fun k y hy => ?_) ⟨t2, rfl, ?_⟩
              · obtain ⟨t, h1, h2⟩ := p' k y hy
                exact ⟨t, h1, s8 _ _ h2⟩
              · show H7 t2 = _
                rw [h7]
                unfold ofN
                rw [List.map_append, List.map_append, Int.zero_add]; rfl
            · intro H5 ys hD hl2 s5 hy
              rw [n4] at hl2
              obtain ⟨cs, rfl, hc⟩ := refsN_of hy
              rw [List.length_map] at hl2
              walk_at "f"
              refine My.ext (s5 _ _ hL4) hD (by rw [List.length_map, List.length_map]; omega) ?_
              have DL : D ≠ L := fun g => by rw [g, hL4] at nD; cases nD
              have kp : ∀ b xs, H5 b = some (.tup xs) → upd H5 L (.lst (Ls.map V.ref ++ cs.map V.ref)) b = some (.tup xs) := fun b xs e => by
                rw [upd_ne (fun g => by rw [g, s5 _ _ hL4] at e; cases e)]; exact e
              refine ⟨Ls ++ cs, _, _, rfl, fun b o nb e => by rw [upd_ne nb]; exact s5 _ _ (b4 _ _ nb e), by rw [upd_same, List.map_append], ?_⟩
              rw [eI2]
              refine papp (Paired.mapP hp4 fun r I z => kp _ _ (s5 _ _ z)) (My.pof (by rw [List.length_map, List.length_range]; exact hl2) fun k r I hr hI => ?_)
              rw [List.getElem?_map] at hI
              cases ek : (List.range (dd.D + 1))[k]? with
              | none => rw [ek] at hI; cases hI
              | some k' =>
                rw [ek] at hI
                cases Option.some.inj hI
                obtain ⟨hk, ek'⟩ := List.getElem?_eq_some_iff.mp ek
                rw [List.getElem_range] at ek'
                subst ek'
                exact kp _ _ (hc k r hr)
        · rintro σ' H4 ⟨Ls, x2, y2, rfl, b4, hL4, hp4⟩
          rw [List.length_map, rl, List.take_length, ← et] at hp4
          walk_at "f"
          exact ⟨L, Ls, _, _, _, _, rfl, fun b o e => b4 _ _ (ne_of_none e nL0) (s3 _ _ e), hL4, hp4⟩
    · rintro σ' H2 ⟨f1, rs, u, v, x1, y1, rfl, s2, hf, hp⟩
      rw [List.length_map, List.take_length] at hp
      walk_at "f"
      exact k f1 H2 rs s2 hf hp
end
end K25

set_option Elab.async false
set_option linter.all false
set_option maxRecDepth 100000
set_option maxHeartbeats 4000000
namespace K25
open PySem PySem.Spec PyProof.Rows L2 XV DX
theorem same_lock {H H' : Hp} {b : Addr} {u w : HO} (hb : H b = some u) (s : Same (upd H b w) H') : Same H (upd H' b u) := fun x o e => by
  by_cases z : x = b
  · subst z
    rw [upd_same]
    rw [hb] at e
    exact e
  · rw [upd_ne z]
    exact s _ _ (by rw [upd_ne z]; exact e)
theorem nz_snoc {m : Pol} {i : Nat} {l : List Int} {c : Int} (e : m[i]? = some (l, c)) : nzP (m.take (i + 1)) = nzP (m.take i) ++ if c = 0 then [] else [(l, c)] := by
  unfold nzP
  rw [List.take_succ, e, List.filter_append]
  congr 1
  show List.filter _ [(l, c)] = _
  by_cases z : c = 0
  · rw [if_pos z, List.filter_cons_of_neg (by simp [z])]; rfl
  · rw [if_neg z, List.filter_cons_of_pos (by simp [z])]; rfl
theorem nz_len (m : Pol) (i : Nat) : (nzP (m.take i)).length ≤ i := by
  unfold nzP
  refine Nat.le_trans (List.length_filter_le _ _) ?_
  rw [List.length_take]; omega
def spDegs : Sp := fun vs H Q _ => ∃ (b : Addr) (m : Pol) (n : Nat), vs = [.ref b, .int (n : Int)] ∧ PolD H b m ∧ Lp m ∧ n ≤ 4 ∧
  ∀ p H', Same H H' → H' p = some (.lst ((List.range n).map fun k => V.int (mx 0 (colP (nzP m) k)))) → Q (.ref p) H'
def dgS : Scope := { kind := ScopeKind.function, names := [(".0", NameKind.local), ("_law_k", NameKind.cell), ("max", NameKind.globalImplicit), ("_law_parts_here", NameKind.cell)], isGenerator := false, isCoroutine := false }
section
variable {P : Program} {w : World} {K : PySem.W.Frag} {mg : Str → Option Value} {base : Heap}
theorem sc_law_degrees : FnScope ["_law_parts_here", "_law_many", "_law_k", "_law_powers"] ["_law_parts_here", "_law_many"] (defScope s_law_degrees) := ⟨rfl, rfl, rfl, by decide +kernel, rfl, by decide +kernel, by decide +kernel⟩
theorem cal_law_degrees {f : Addr} {fd : FuncData} (F : FnP K "_law_degrees" "_law_degrees" s_law_degrees f fd) (g : mg "_law_degrees" = some (.ref f)) (T : Txt0 mg) : Cal P w K mg base "_law_degrees" 3 ["_law_parts_here", "_law_many"] spDegs := by
  refine ⟨f, fd, g, ?_, F.bindsN (fun _ _ _ _ _ _ us hl => match us, hl with | [_, _], _ => rfl), F.kp⟩
  refine F.ok sc_law_degrees (fun vs H Q E h => ?_) (fun cdv A outer s H vs Q E hr h => ?_)
  · obtain ⟨b, m, n, rfl, hb, lp, n3, k⟩ := h
    rfl
  · obtain ⟨b, m, n, rfl, hb, lp, n3, k⟩ := h
    have hu := hu_of hr
    refine ⟨_, PSs.nox (pss_one (ps_ret (pe_lc (own := [("_law_k", 2)]) (tt := tYes) (te := tCB (rMax K) (tCons (tOp rCat (tLst (tCons (tC (.int 0)) tNil)) (tLockE (tLc (iKeys (tVar 0)) (gName 3) (tTest (tOp rNe (tDGet (tVar 0) (tVar 3)) (tC (.int 0)))) (tOp (rIxT K) (tVar 3) (tVar 2)) [3]))) tNil)) (by rfl) sc_law_degrees.nd (pi_range1 (by rfl) T.range (pa_cons (pv 1) pa_nil)) (blkOk_by (own := [("_law_k", 2)]) (N := ["_law_parts_here", "_law_many", "_law_k", "_law_powers"]) (sc := (defScope s_law_degrees)) (by decide +kernel)) (fun _ _ _ _ _ => (pg_name (i := 2) sc_law_degrees.nd rfl (Or.inr rfl))) (fun _ _ _ _ _ => pts_nil) (fun _ _ _ _ _ => (pe_callB (cr_max rfl) (by rfl) T.max (by decide +kernel) (pa_cons (pe_op op_cat (pe_lst (pa_cons pe_int pa_nil)) (pe_lock (pe_lc (own := [("_law_powers", 3)]) (te := tOp (rIxT K) (tVar 3) (tVar 2)) (wi := iKeys (tVar 0)) (tt := tTest (tOp rNe (tDGet (tVar 0) (tVar 3)) (tC (.int 0)))) (by rfl) sc_law_degrees.nd (pi_keys (pv 0)) (blkOk_by (own := [("_law_powers", 3)]) (N := ["_law_parts_here", "_law_many", "_law_k", "_law_powers"]) (sc := dgS) (by decide +kernel)) (fun _ _ _ _ _ => (pg_name (i := 3) sc_law_degrees.nd rfl (Or.inl rfl))) (fun _ _ _ _ _ => (pts_one (pt_cmpR op_ne (pe_dget hu (pv 0) (pv 3) (fun _ _ => rfl)) pe_int (nomark _)))) (fun _ _ _ _ _ => (pe_ix ix_tup (pv 3) (pv 2) (fun _ _ => rfl)))))) pa_nil)))))), ?_⟩
    try dsimp only [cxOf, Cx.nox, Cx.wish]
    have few := lp.few
    walk_at "f"
    refine ⟨(n : Int), rfl, by omega, by omega, My.lcM walk_range Same (by omega) (fun D hD => same_new hD) fun D nD => ⟨fun j y H => y = .int (mx 0 (colP (nzP m) j)), fun j y H ys o _ h => h, fun H o s => same_at s nD, fun _ _ _ _ => trivial, ?_, ?_⟩⟩
    · rintro i x H2 H3 ys N hi r e l p' ⟨rfl, rfl⟩ hN
      walk_at "f"
      refine ⟨rfl, ?_⟩
      walk_at "f"
      refine My.new (My.sz (by simp)) fun z0 nz0 => ?_
      have s0 := r.trans (same_new (o := HO.lst [V.int 0]) nz0)
      have ez := upd_same (H := H3) (a := z0) (o := HO.lst [V.int 0])
      have e0 := same_new (o := HO.lst [V.int 0]) nz0 _ _ e
      have s00 := same_new (o := HO.lst [V.int 0]) nz0
      generalize upd H3 z0 _ = H4 at s0 ez e0 s00 ⊢
      have hb4 : H4 b = some (.dT (kvI m)) := s0 _ _ hb
      walk_at "f"
      refine My.lockE hb4 True.intro fun od => ?_
      have hl := upd_same (H := H4) (a := b) (o := HO.frz od (.dT (kvI m)))
      have lk := fun {H' : Hp} (s : Same (upd H4 b (.frz od (.dT (kvI m)))) H') => same_lock hb4 s
      generalize upd H4 b (.frz od (.dT (kvI m))) = Hl at hl lk ⊢
      walk_at "f"
      refine My.lcK1 ⟨_, rfl, My.ckT hl fun A nA => ?_⟩
      have bA : b ≠ A := ne_of_none hl nA
      refine lc_it walk_keysT (fun j H' => H' A = some (.lst ((colP (nzP (m.take j)) i).map V.int)) ∧ But A Hl H') ⟨upd_same, Same.but (same_new nA)⟩ (fun j H' _ ⟨_, b'⟩ => b' _ _ bA hl) ?_ ?_
      · rintro j x H5 H6 hj ⟨hA, b5⟩ ⟨rfl, kk, v, q, ek, rfl, hq⟩
        obtain ⟨li, c, em, rfl, rfl⟩ := kvI_get ek
        have hm := List.mem_iff_getElem?.mpr ⟨j, em⟩
        have gv := getP_at lp.nd em
        have hb6 := b5 _ _ bA hl
        have jm := (List.getElem?_eq_some_iff.mp em).1
        walk_at "f"
        refine ⟨rfl, ?_⟩
        walk_at "f"
        refine ⟨b, .int c, rfl, .inr ⟨kvI m, ik li, q, .inr ⟨od, hb6⟩, rfl, hq, by rw [valV_kvI, gv]; rfl⟩, ?_⟩
        walk_at "f"
        rw [nz_snoc em]
        by_cases z : c = 0
        · rw [if_neg (by simp [z]), if_pos z, List.append_nil]
          exact ⟨hA, b5⟩
        · rw [if_pos (by simp [z]), if_neg z]
          walk_at "f"
          rw [show (0 + (i : Int)) = (i : Int) by omega]
          refine My.ixT (SqT.of hq) (atI_key (by rw [lp.len _ hm]; omega)) ?_
          refine ⟨_, hA, by have := nz_len m j; unfold colP; rw [List.length_map, List.length_map, sizeLine_eq]; omega, by rw [upd_same]; unfold colP; rw [List.map_append, List.map_append]; rfl, fun b' o nb e => by rw [upd_ne nb]; exact b5 _ _ nb e⟩
      · rintro H5 ⟨hA, b5⟩
        rw [kvI_len, List.take_length] at hA
        have s5 : Same Hl H5 := fun b' o e => b5 _ _ (ne_of_none e nA) e
        refine ⟨s5 _ _ hl, ?_⟩
        have s6 := lk s5
        have hA6 : upd H5 b (.dT (kvI m)) A = some (.lst ((colP (nzP m) i).map V.int)) := by rw [upd_ne bA.symm]; exact hA
        generalize upd H5 b (HO.dT (kvI m)) = H6 at s6 hA6 ⊢
        have cl : (colP (nzP m) i).length ≤ 7 := by
          have := List.length_filter_le (fun p : List Int × Int => !decide (p.2 = 0)) m
          unfold colP nzP
          rw [List.length_map]; omega
        refine My.cat (s6 _ _ ez) hA6 (by rw [List.length_map]; simp; omega) fun pc nc => ?_
        have s7 := s6.trans (same_new (o := HO.lst ([V.int 0] ++ (colP (nzP m) i).map V.int)) nc)
        walk_at "f"
        refine ⟨pc, 0 :: colP (nzP m) i, rfl, SqL.of upd_same, Nat.succ_pos _, fun M hM hall => ?_⟩
        have nn : ∀ x ∈ colP (nzP m) i, 0 ≤ x := fun x hx => by
          obtain ⟨p, hp, rfl⟩ := List.mem_map.mp hx
          have hp' := (List.mem_filter.mp hp).1
          have := lp.wi p hp'
          rw [List.getD_eq_getElem?_getD]
          cases eg : p.1[i]? with
          | none => exact Int.le_refl 0
          | some y => exact (this y (List.mem_iff_getElem?.mpr ⟨i, eg⟩)).1
        have eM : M = mx 0 (colP (nzP m) i) := by
          refine Int.le_antisymm ?_ (mx_up (hall 0 List.mem_cons_self) fun x hx => hall x (List.mem_cons_of_mem _ hx))
          rcases List.mem_cons.mp hM with z | z
          · rw [z]; exact DX.mx_le nn (Int.le_refl 0)
          · exact mx_ge z
        rw [eM]
        exact hN _ _ (s0.trans s7) (s7 _ _ e0) p' rfl
    · intro H2 ys hD hl2 s2 hy
      refine k D _ s2 ?_
      rw [hD, map_of hl2 hy]; rfl
end
end K25

set_option Elab.async false
set_option linter.all false
set_option maxRecDepth 100000
set_option maxHeartbeats 4000000
/-! the law's counts: how great they are -/
namespace K25
open PySem PySem.Spec PyProof.Rows L2 XV DX
theorem paA_snoc (d : BM.Dm) : ∀ (ds : List BM.Dm) (J I : List Nat), BM.paA (ds ++ [d]) J I = BM.paA ds J I * BM.pa d (J.getD ds.length 0) (I.getD ds.length 0)
  | [], J, I => by
    show BM.pa d (J.headD 0) (I.headD 0) * 1 = 1 * _
    rw [Int.mul_one, Int.one_mul]
    congr 1
    · cases J <;> rfl
    · cases I <;> rfl
  | e :: ds, J, I => by
    show _ * BM.paA (ds ++ [d]) J.tail I.tail = _ * BM.paA ds J.tail I.tail * _
    rw [paA_snoc d ds, Int.mul_assoc]
    congr 1
    congr 1
    congr 1
    · cases J <;> rfl
    · cases I <;> rfl
theorem pbA_snoc (d : BM.Dm) : ∀ (ds : List BM.Dm) (J : List Nat), BM.pbA (ds ++ [d]) J = BM.pbA ds J * BM.pb d (J.getD ds.length 0)
  | [], J => by
    show BM.pb d (J.headD 0) * 1 = 1 * _
    rw [Int.mul_one, Int.one_mul]
    congr 1
    cases J <;> rfl
  | e :: ds, J => by
    show _ * BM.pbA (ds ++ [d]) J.tail = _ * BM.pbA ds J.tail * _
    rw [pbA_snoc d ds, Int.mul_assoc]
    congr 1
    congr 1
    congr 1
    cases J <;> rfl
/-- bottoms of few bits -/
structure Bt (s : Str2) : Prop where
  ok : StrOk s
  lo : My.Bd 20 s.1.2
  hi : My.Bd 20 s.2.2
theorem sm_bd {B : Nat} {f : Nat → Int} : ∀ {n : Nat}, (∀ t, t < n → My.Bd B (f t)) → My.Bd (B + n) (BM.sm n f)
  | 0, _ => My.Bd.zero
  | n + 1, h => by
    have ih := sm_bd (n := n) fun t ht => h t (by omega)
    show My.Bd (B + n + 1) (BM.sm n f + f n)
    exact My.Bd.add ih ((h n (by omega)).mono (by omega))
theorem pa_bd {D i j : Nat} {s : Str2} (o : StrOk s) (hD : D ≤ 60) (hi : i ≤ D) (hj : j ≤ D) : My.Bd 18200 (BM.pa (mkDm D s) j i) := by
  have Bl : My.Bd 300 (mkDm D s).l := o.lo.b1.mul o.hi.b2
  have Bh : My.Bd 300 (mkDm D s).h := o.hi.b1.mul o.lo.b2
  refine (sm_bd (B := 18130) (n := j + 1) fun t ht => ?_).mono (by omega)
  show My.Bd 18130 (BM.ch i t * BM.ch (D - i) (j - t) * ((mkDm D s).h ^ t * (mkDm D s).l ^ (j - t)))
  refine (((ch_bd (n := i) (k := t) (by omega)).mul (ch_bd (n := D - i) (k := j - t) (by omega))).mul ((pow_bd Bh t).mul (pow_bd Bl (j - t)))).mono ?_
  omega
theorem pb_bd {D j : Nat} {s : Str2} (o : Bt s) (hD : D ≤ 60) : My.Bd (j * 40 + 65) (BM.pb (mkDm D s) j) := by
  have Bu : My.Bd 40 (mkDm D s).u := o.lo.mul o.hi
  exact ((pow_bd Bu j).mul (ch_bd (n := D) (k := j) hD)).mono (by omega)
/-- the powers of all that the box tells -/
def totN (J : List Nat) (k : Nat) : Nat := ((List.range k).map fun j => J.getD j 0).sum
theorem totN_succ (J : List Nat) (k : Nat) : totN J (k + 1) = totN J k + J.getD k 0 := by
  unfold totN
  rw [List.range_succ, List.map_append, List.sum_append]; simp
/-- what the law's sums take -/
structure Lc (ts : Pol) (sts : List Str2) (W : Nat) : Prop where
  spr : Spr ts sts
  bt : ∀ s ∈ sts, Bt s
  tot : ∀ p ∈ ts, 40 * totN (p.1.map Int.toNat) sts.length + 200 ≤ W
  lim : ts.length * W ≤ 8900
end K25

set_option Elab.async false
set_option linter.all false
set_option maxRecDepth 100000
set_option maxHeartbeats 4000000
namespace K25
open PySem PySem.Spec PyProof.Rows L2 XV DX
def cntAt (m : Pol) (sts : List Str2) (I : List Nat) : Fra := low (BM.lawC (dmsP (nzP m) sts) (natP (cutP sts.length (nzP m))) I).1 (BM.lawC (dmsP (nzP m) sts) (natP (cutP sts.length (nzP m))) I).2
def spCounts : Sp := fun vs H Q _ => ∃ (b x : Addr) (m : Pol) (sts : List Str2) (W : Nat), vs = [.ref b, .ref x] ∧ PolD H b m ∧ Lp m ∧ BoxAt H x sts ∧ Lc (nzP m) sts W ∧
  ∀ d H' rs, Same H H' → H' d = some (.dT (List.zipWith (fun I r => (ik (ofN I), V.ref r)) (BM.idx (dmsP (nzP m) sts)) rs)) → Paired (fun r I => FraAt H' r (cntAt m sts I)) rs (BM.idx (dmsP (nzP m) sts)) → Q (.ref d) H'
theorem degs_eq {ts : Pol} {sts : List Str2} (h3 : sts.length ≤ 3) (nn : ∀ j, 0 ≤ mx 0 (colP ts j)) : (List.range sts.length).map (fun k => V.int (mx 0 (colP ts k))) = (dmsP ts sts).map fun d => V.int (d.D : Int) := by
  refine List.ext_getElem? fun j => ?_
  rw [List.getElem?_map, List.getElem?_map]
  by_cases hj : j < sts.length
  · rw [List.getElem?_range hj, dms_get h3 (List.getElem?_eq_getElem hj)]
    show some (V.int _) = some (V.int (((mx 0 (colP ts j)).toNat : Nat) : Int))
    rw [Int.toNat_of_nonneg (nn j)]
  · rw [List.getElem?_eq_none (by rw [List.length_range]; omega), List.getElem?_eq_none (by rw [dms_len h3]; omega)]; rfl
theorem tot_le (J : List Nat) {i n t : Nat} (h : i ≤ n) (g : totN J n ≤ t) : totN J i ≤ t := by
  induction n with
  | zero => rw [show i = 0 by omega]; exact g
  | succ n ih =>
    rw [totN_succ] at g
    by_cases e : i = n + 1
    · rw [e, totN_succ]; exact g
    · exact ih (by omega) (by omega)
/-- one term's count -/
def trm (ds : List BM.Dm) (I : List Nat) (p : List Nat × Int) : Int × Int := (p.2 * BM.paA ds p.1 I, BM.pbA ds p.1)
section
variable {P : Program} {w : World} {K : PySem.W.Frag} {mg : Str → Option Value} {base : Heap}
theorem sc_law_counts : FnScope ["_law_parts_here", "_law_box_here", "_law_degrees_here", "_law_found", "_law_index", "_law_top", "_law_bottom", "_law_powers", "_law_here", "_law_under", "_law_k", "_law_part", "_law_by"] ["_law_parts_here", "_law_box_here"] (defScope s_law_counts) := ⟨rfl, rfl, rfl, by decide +kernel, rfl, by decide +kernel, by decide +kernel⟩
theorem cal_law_counts {f : Addr} {fd : FuncData} (F : FnP K "_law_counts" "_law_counts" s_law_counts f fd) (g : mg "_law_counts" = some (.ref f)) (T : Txt0 mg) (C_law_degrees : Cal P w K mg base "_law_degrees" 3 ["_law_parts_here", "_law_many"] spDegs) (C_law_indexes : Cal P w K mg base "_law_indexes" 3 ["_law_degrees_here"] spIdx) (C_law_polar : Cal P w K mg base "_law_polar" 3 ["_law_stretch_here", "_law_many", "_law_i", "_law_j"] spPolar) (C_law_low : Cal P w K mg base "_law_low" 1 ["_law_top", "_law_bottom"] spLow) : Cal P w K mg base "_law_counts" 4 ["_law_parts_here", "_law_box_here"] spCounts := by
  obtain ⟨f_law_degrees, fd_law_degrees, g_law_degrees, G_law_degrees, b_law_degrees, k_law_degrees⟩ := C_law_degrees
  obtain ⟨f_law_indexes, fd_law_indexes, g_law_indexes, G_law_indexes, b_law_indexes, k_law_indexes⟩ := C_law_indexes
  obtain ⟨f_law_polar, fd_law_polar, g_law_polar, G_law_polar, b_law_polar, k_law_polar⟩ := C_law_polar
  obtain ⟨f_law_low, fd_law_low, g_law_low, G_law_low, b_law_low, k_law_low⟩ := C_law_low
  refine ⟨f, fd, g, ?_, F.bindsN (fun _ _ _ _ _ _ us hl => match us, hl with | [_, _], _ => rfl), F.kp⟩
  refine F.ok sc_law_counts (fun vs H Q E h => ?_) (fun cdv A outer s H vs Q E hr h => ?_)
  · obtain ⟨b, x, m, sts, W, rfl, hb, lp, hx, lc, k⟩ := h
    rfl
  · obtain ⟨b, x, m, sts, W, rfl, hb, lp, hx, lc, k⟩ := h
    have hu := hu_of hr
    refine ⟨_, PSs.nox (pss_cons (ps_par (i := 2) (j := 3) (by rfl) sc_law_counts.nd rfl rfl (by decide) rfl rfl (pa_cons (pe_call G_law_degrees (hr.mono (by decide)) (by rfl) g_law_degrees k_law_degrees b_law_degrees .nil pass0 (pa_cons (pv 0) (pa_cons (pe_callB My.c_len (by rfl) T.len PySem.boot_len (pa_cons (pv 1) pa_nil)) pa_nil))) (pa_cons pe_dnewT pa_nil)) (by rfl))
      (pss_cons (ps_for PassesOwn.never rfl (pi_list (pe_call G_law_indexes (hr.mono (by decide)) (by rfl) g_law_indexes k_law_indexes b_law_indexes .nil pass0 (pa_cons (pv 2) pa_nil))) (pg_name (i := 4) sc_law_counts.nd rfl (Or.inl rfl))
       (pss_cons (ps_asg (pe_tup (pa_cons pe_int (pa_cons pe_int pa_nil))) (pg_tup (by rfl) (pgs_cons (pg_name (i := 5) sc_law_counts.nd rfl (Or.inl rfl)) (pgs_cons (pg_name (i := 6) sc_law_counts.nd rfl (Or.inl rfl)) pgs_nil))))
      (pss_cons (ps_for PassesOwn.never rfl (pi_list (pe_lock (pe_lc (own := [("_law_powers", 7)]) (by rfl) sc_law_counts.nd (pi_keys (pv 0)) (blkOk_by (own := [("_law_powers", 7)]) (N := ["_law_parts_here", "_law_box_here", "_law_degrees_here", "_law_found", "_law_index", "_law_top", "_law_bottom", "_law_powers", "_law_here", "_law_under", "_law_k", "_law_part", "_law_by"]) (sc := (defScope s_law_counts)) (by decide +kernel)) (fun _ _ _ _ _ => (pg_name (i := 7) sc_law_counts.nd rfl (Or.inl rfl))) (fun _ _ _ _ _ => (pts_one (pt_cmpR op_ne (pe_dget hu (pv 0) (pv 7) (fun _ _ => rfl)) pe_int (nomark _)))) (fun _ _ _ _ _ => (pv 7))))) (pg_name (i := 7) sc_law_counts.nd rfl (Or.inl rfl))
       (pss_cons (ps_par (i := 8) (j := 9) (by rfl) sc_law_counts.nd rfl rfl (by decide) rfl rfl (pa_cons (pe_dget hu (pv 0) (pv 7) (fun _ _ => rfl)) (pa_cons pe_int pa_nil)) (by rfl))
      (pss_cons (ps_for PassesOwn.never rfl (pi_range1 (by rfl) T.range (pa_cons (pe_callB My.c_len (by rfl) T.len PySem.boot_len (pa_cons (pv 1) pa_nil)) pa_nil)) (pg_name (i := 10) sc_law_counts.nd rfl (Or.inl rfl))
       (pss_cons (ps_asg (pe_call G_law_polar (hr.mono (by decide)) (by rfl) g_law_polar k_law_polar b_law_polar .nil pass0 (pa_cons (pe_ix ix_tup (pv 1) (pv 10) (fun _ _ => rfl)) (pa_cons (pe_ix ix_list (pv 2) (pv 10) (fun _ _ => rfl)) (pa_cons (pe_ix ix_tup (pv 4) (pv 10) (fun _ _ => rfl)) (pa_cons (pe_ix ix_tup (pv 7) (pv 10) (fun _ _ => rfl)) pa_nil))))) (pg_tup (by rfl) (pgs_cons (pg_name (i := 11) sc_law_counts.nd rfl (Or.inl rfl)) (pgs_cons (pg_name (i := 12) sc_law_counts.nd rfl (Or.inl rfl)) pgs_nil))))
      (pss_one (ps_par (i := 8) (j := 9) (by rfl) sc_law_counts.nd rfl rfl (by decide) rfl rfl (pa_cons (pe_op op_mulW (pv 8) (pv 11)) (pa_cons (pe_op op_mulW (pv 9) (pv 12)) pa_nil)) (by rfl)))))
      (pss_one (ps_par (i := 5) (j := 6) (by rfl) sc_law_counts.nd rfl rfl (by decide) rfl rfl (pa_cons (pe_op op_add (pe_op op_mulW (pv 5) (pv 9)) (pe_op op_mulW (pv 8) (pv 6))) (pa_cons (pe_op op_mulW (pv 6) (pv 9)) pa_nil)) (by rfl))))))
      (pss_one (ps_dput hu (pv 3) (pv 4) (pe_call G_law_low (hr.mono (by decide)) (by rfl) g_law_low k_law_low b_law_low .nil pass0 (pa_cons (pv 5) (pa_cons (pv 6) pa_nil))) rfl)))))
      (pss_one (ps_ret (pv 3))))), ?_⟩
    try dsimp only [cxOf, Cx.nox, Cx.wish]
    have spr := lc.spr
    have h3 := spr.b3
    have mx3 : ∀ j, 0 ≤ mx 0 (colP (nzP m) j) ∧ mx 0 (colP (nzP m) j) ≤ 60 := fun j => ⟨DX.mx_le (fun x hx => by
      obtain ⟨q', hq', rfl⟩ := List.mem_map.mp hx
      exact (spr.wi q' hq' j).1) (Int.le_refl 0), mx_up (by decide) fun x hx => by
      obtain ⟨q', hq', rfl⟩ := List.mem_map.mp hx
      exact (spr.wi q' hq' j).2⟩
    have dl := dms_len (ts := nzP m) h3
    walk_at "f"
    obtain ⟨bs, hx1, hx2⟩ := id hx
    have bl := My.plen hx2
    refine My.lenT (SqT.of hx1) ?_
    rw [List.length_map, bl]
    walk_at "f"
    refine ⟨b, m, sts.length, rfl, hb, lp, by omega, fun gl H1 s1 hg => ?_⟩
    rw [degs_eq h3 fun j => (mx3 j).1] at hg
    walk_at "f"
    refine My.dnewT fun fd nfd => ?_
    have s2 := s1.trans (same_new (o := HO.dT []) nfd)
    have nfd0 : H fd = none := s1.free nfd
    have hg2 := same_new (o := HO.dT []) nfd _ _ hg
    have hf2 := upd_same (H := H1) (a := fd) (o := HO.dT [])
    generalize upd H1 fd (HO.dT []) = H2 at s2 hg2 hf2 ⊢
    have gfd : gl ≠ fd := fun z => by rw [z, hf2] at hg2; cases hg2
    walk_at "f"
    refine ⟨gl, dmsP (nzP m) sts, rfl, hg2, by rw [dl]; exact h3, spr.cnt, fun gi H3 rs s3 hgi hpi => ?_⟩
    have s4 := s2.trans s3
    have hg3 := s3 _ _ hg2
    have hf3 := s3 _ _ hf2
    have ifd : gi ≠ fd := fun z => by rw [z, hf3] at hgi; cases hgi
    have hx3 := hx.same s4
    have hb3 : H3 b = some (.dT (kvI m)) := s4 _ _ hb
    have bfd : b ≠ fd := fun z => by have e : H b = some (.dT (kvI m)) := hb; rw [z, nfd0] at e; cases e
    have rl := My.plen hpi
    have ind := idx_nd (dmsP (nzP m) sts)
    walk_at "f"
    refine My.lstI (SqL.of hgi) (fun i σ' H' => ∃ (ks : List Addr) (u0 u1 u2 u3 u4 u5 u6 u7 u8 : Option V), σ' = [some (.ref b), some (.ref x), some (.ref gl), some (.ref fd), u0, u1, u2, u3, u4, u5, u6, u7, u8] ∧ But fd H3 H' ∧ H' fd = some (.dT (List.zipWith (fun I r => (ik (ofN I), V.ref r)) ((BM.idx (dmsP (nzP m) sts)).take i) ks)) ∧ Paired (fun r I => FraAt H' r (cntAt m sts I)) ks ((BM.idx (dmsP (nzP m) sts)).take i)) ⟨[], _, _, _, _, _, _, _, _, _, rfl, .refl _ _, hf3, .nil⟩ (fun i σ' H' _ ⟨_, _, _, _, _, _, _, _, _, _, _, b', _⟩ => SqL.of (b' _ _ ifd hgi)) ?_ ?_
    · rintro i x1 σ' H4 ex ⟨ks, u0, u1, u2, u3, u4, u5, u6, u7, u8, rfl, b4, hf4, hk4⟩
      rw [List.getElem?_map] at ex
      cases er : rs[i]? with
      | none => rw [er] at ex; cases ex
      | some r =>
        rw [er] at ex
        cases Option.some.inj ex
        obtain ⟨I, eI, hr⟩ := My.pget hpi er
        have keep : ∀ {c o}, H3 c = some o → c ≠ fd → H4 c = some o := fun e n => b4 _ _ n e
        have rfd : r ≠ fd := fun z => by have e : H3 r = _ := hr; rw [z, hf3] at e; cases e
        have hr4 : H4 r = some (.tup ((ofN I).map V.int)) := keep hr rfd
        have hb4 := keep hb3 bfd
        have hg4 := keep hg3 gfd
        obtain ⟨wI, lI⟩ := BM.idx_wi (List.mem_iff_getElem?.mpr ⟨i, eI⟩)
        have hx4 : BoxAt H4 x sts := by
          obtain ⟨bs', h1, h2⟩ := hx3
          have tn : ∀ c xs, H3 c = some (.tup xs) → c ≠ fd := fun c xs e z => by rw [z, hf3] at e; cases e
          refine ⟨bs', keep h1 (tn _ _ h1), Paired.mapP h2 fun c s' ⟨p, q, g1, g2, g3⟩ => ⟨p, q, keep g1 (tn _ _ g1), keep g2 (tn _ _ g2), keep g3 (tn _ _ g3)⟩⟩
        walk_at "f"
        refine My.new (My.sz (by simp)) fun c0 nc0 => ?_
        have s5 := same_new (o := HO.tup [V.int 0, V.int 1]) nc0
        refine My.gtup2 (SqT.of upd_same) rfl ?_
        have hr5 := s5 _ _ hr4
        have hb5 := s5 _ _ hb4
        have hg5 := s5 _ _ hg4
        have hx5 := hx4.same s5
        have hf5 := s5 _ _ hf4
        have hk5 := Paired.mapP hk4 fun c I' (z : FraAt H4 c (cntAt m sts I')) => z.same s5
        have b5 := b4.trans (Same.but s5)
        generalize upd H4 c0 _ = H5 at hr5 hb5 hg5 hx5 hf5 hk5 b5 ⊢
        walk_at "f"
        refine My.lockE hb5 True.intro fun od => ?_
        have hl := upd_same (H := H5) (a := b) (o := HO.frz od (.dT (kvI m)))
        have lk := fun {H' : Hp} (s : Same (upd H5 b (.frz od (.dT (kvI m)))) H') => same_lock hb5 s
        generalize upd H5 b (.frz od (.dT (kvI m))) = Hl at hl lk ⊢
        refine My.lcK1 ⟨_, rfl, My.ckT hl fun A nA => ?_⟩
        have bA : b ≠ A := ne_of_none hl nA
        refine lc_it walk_keysT (fun j H' => ∃ qs : List Addr, H' A = some (.lst (qs.map V.ref)) ∧ But A Hl H' ∧ Paired (fun q p => KAt H' q p.1) qs (nzP (m.take j))) ⟨[], upd_same, Same.but (same_new nA), .nil⟩ (fun j H' _ ⟨_, _, b', _⟩ => b' _ _ bA hl) ?_ ?_
        · rintro j x H6 H7 hj ⟨qs, hA, b6, hq6⟩ ⟨rfl, kk, v, q, ek, rfl, hq⟩
          obtain ⟨li, c, em, rfl, rfl⟩ := kvI_get ek
          have gv := getP_at lp.nd em
          have hb7 := b6 _ _ bA hl
          have ql := My.plen hq6
          have jm := (List.getElem?_eq_some_iff.mp em).1
          have few := lp.few
          walk_at "f"
          refine ⟨rfl, ?_⟩
          walk_at "f"
          refine ⟨b, .int c, rfl, .inr ⟨kvI m, ik li, q, .inr ⟨od, hb7⟩, rfl, hq, by rw [valV_kvI, gv]; rfl⟩, ?_⟩
          walk_at "f"
          rw [nz_snoc em]
          by_cases z : c = 0
          · rw [if_neg (by simp [z]), if_pos z, List.append_nil]
            exact ⟨qs, hA, b6, hq6⟩
          · rw [if_pos (by simp [z]), if_neg z]
            walk_at "f"
            have tn : ∀ c xs, H7 c = some (.tup xs) → c ≠ A := fun c xs e z => by rw [z, hA] at e; cases e
            refine ⟨_, hA, by have := nz_len m j; rw [List.length_map, sizeLine_eq]; omega, qs ++ [q], by rw [upd_same, List.map_append]; rfl, fun b' o nb e => by rw [upd_ne nb]; exact b6 _ _ nb e, ?_⟩
            refine papp (Paired.mapP hq6 fun q' p' (z' : KAt H7 q' p'.1) => by show upd H7 A _ q' = _; rw [upd_ne (tn _ _ z')]; exact z') (.cons ?_ .nil)
            show upd H7 A _ q = _
            rw [upd_ne (tn _ _ hq), hq, ik_kV]
        · rintro H6 ⟨qs, hA, b6, hq6⟩
          rw [kvI_len, List.take_length] at hq6
          have s6 : Same Hl H6 := fun b' o e => b6 _ _ (ne_of_none e nA) e
          refine ⟨s6 _ _ hl, ?_⟩
          have s7 := lk s6
          have hA7 : upd H6 b (.dT (kvI m)) A = some (.lst (qs.map V.ref)) := by rw [upd_ne bA.symm]; exact hA
          have tb : ∀ c xs, H6 c = some (.tup xs) → c ≠ b := fun c xs e z => by rw [z, s6 _ _ hl] at e; cases e
          have hq7 := Paired.mapP hq6 fun q' p' (z' : KAt H6 q' p'.1) => (show upd H6 b (.dT (kvI m)) q' = some (.tup (p'.1.map V.int)) by rw [upd_ne (tb _ _ z')]; exact z')
          generalize upd H6 b (HO.dT (kvI m)) = H7 at s7 hA7 hq7 ⊢
          have nzl : (nzP m).length ≤ 7 := spr.few
          have lim := lc.lim
          refine My.lstI (SqL.of hA7) (fun j σ' H' => ∃ (u3 u4 u5 u6 u7 u8 : Option V), σ' = [some (.ref b), some (.ref x), some (.ref gl), some (.ref fd), some (.ref r), some (.int (BM.fr (((natP (cutP sts.length (nzP m))).take j).map (trm (dmsP (nzP m) sts) I))).1), some (.int (BM.fr (((natP (cutP sts.length (nzP m))).take j).map (trm (dmsP (nzP m) sts) I))).2), u3, u4, u5, u6, u7, u8] ∧ Same H7 H' ∧ My.Bd (65000 * j + 1) (BM.fr (((natP (cutP sts.length (nzP m))).take j).map (trm (dmsP (nzP m) sts) I))).1 ∧ My.Bd (W * j + 1) (BM.fr (((natP (cutP sts.length (nzP m))).take j).map (trm (dmsP (nzP m) sts) I))).2 ∧ 0 < (BM.fr (((natP (cutP sts.length (nzP m))).take j).map (trm (dmsP (nzP m) sts) I))).2) ⟨_, _, _, _, _, _, rfl, .refl _, My.Bd.zero, (show (1 : Int).natAbs < 2 ^ 1 by decide), (show (0 : Int) < 1 by decide)⟩ (fun j σ' H' _ ⟨_, _, _, _, _, _, _, s', _⟩ => SqL.of (s' _ _ hA7)) ?_ ?_
          · rintro j y σ' H8 ex ⟨u3, u4, u5, u6, u7, u8, rfl, s8, B1, B2, B3⟩
            rw [List.getElem?_map] at ex
            cases eq1 : qs[j]? with
            | none => rw [eq1] at ex; cases ex
            | some q =>
              rw [eq1] at ex
              cases Option.some.inj ex
              obtain ⟨⟨l, c⟩, ep, hq⟩ := My.pget hq7 eq1
              have hmem := List.mem_iff_getElem?.mpr ⟨j, ep⟩
              have hq8 : H8 q = some (.tup (l.map V.int)) := s8 _ _ hq
              have hb8 : H8 b = some (.dT (kvI m)) := s8 _ _ (s7 _ _ hb5)
              have hg8 := s8 _ _ (s7 _ _ hg5)
              have hx8 := (hx5.same s7).same s8
              have hr8 := s8 _ _ (s7 _ _ hr5)
              have gv : getP m l = some c := by
                obtain ⟨jj, hjj⟩ := List.mem_iff_getElem?.mp (List.mem_filter.mp hmem).1
                exact getP_at lp.nd hjj
              have l4 : l.length = 4 := spr.len _ hmem
              have wl := fun k => spr.wi _ hmem k
              have tl := lc.tot _ hmem
              have cb := spr.bd _ hmem
              simp only at wl tl cb
              have jm : j < (nzP m).length := (List.getElem?_eq_some_iff.mp ep).1
              have wj : W * j + W ≤ 8900 := by
                have := Nat.mul_le_mul_left W (show j + 1 ≤ (nzP m).length by omega)
                rw [Nat.mul_succ, Nat.mul_comm W (nzP m).length] at this
                omega
              have wj2 : W * (j + 1) = W * j + W := Nat.mul_succ _ _
              generalize W * j = Wj at wj wj2 B2
              rw [wj2]
              have em : (natP (cutP sts.length (nzP m)))[j]? = some ((l.take sts.length).map Int.toNat, c) := by
                unfold natP cutP
                rw [List.getElem?_map, List.getElem?_map, ep]; rfl
              have efr : BM.fr (((natP (cutP sts.length (nzP m))).take (j + 1)).map (trm (dmsP (nzP m) sts) I)) = ((BM.fr (((natP (cutP sts.length (nzP m))).take j).map (trm (dmsP (nzP m) sts) I))).1 * BM.pbA (dmsP (nzP m) sts) ((l.take sts.length).map Int.toNat) + c * BM.paA (dmsP (nzP m) sts) ((l.take sts.length).map Int.toNat) I * (BM.fr (((natP (cutP sts.length (nzP m))).take j).map (trm (dmsP (nzP m) sts) I))).2, (BM.fr (((natP (cutP sts.length (nzP m))).take j).map (trm (dmsP (nzP m) sts) I))).2 * BM.pbA (dmsP (nzP m) sts) ((l.take sts.length).map Int.toNat)) := by
                rw [List.take_succ, em, List.map_append]
                unfold BM.fr
                rw [List.foldl_append]; rfl
              rw [efr]
              generalize BM.fr (((natP (cutP sts.length (nzP m))).take j).map (trm (dmsP (nzP m) sts) I)) = R at B1 B2 B3 ⊢
              walk_at "f"
              refine ⟨b, .int c, rfl, .inr ⟨kvI m, ik l, q, .inl hb8, rfl, by rw [ik_kV]; exact hq8, by rw [valV_kvI, gv]; rfl⟩, ?_⟩
              walk_at "f"
              obtain ⟨bs8, hx81, hx82⟩ := hx8
              have bl8 := My.plen hx82
              refine My.lenT (SqT.of hx81) ?_
              rw [List.length_map, bl8]
              walk_at "f"
              refine My.rngI (by omega) (by omega) (fun k σ' H' => ∃ (v0 v1 v2 : Option V), σ' = [some (.ref b), some (.ref x), some (.ref gl), some (.ref fd), some (.ref r), some (.int R.1), some (.int R.2), some (.ref q), some (.int (c * BM.paA ((dmsP (nzP m) sts).take k) ((l.take sts.length).map Int.toNat) I)), some (.int (BM.pbA ((dmsP (nzP m) sts).take k) ((l.take sts.length).map Int.toNat))), v0, v1, v2] ∧ Same H8 H' ∧ My.Bd (1000 + 18200 * k) (c * BM.paA ((dmsP (nzP m) sts).take k) ((l.take sts.length).map Int.toNat) I) ∧ My.Bd (40 * totN (l.map Int.toNat) k + 65 * k + 1) (BM.pbA ((dmsP (nzP m) sts).take k) ((l.take sts.length).map Int.toNat)) ∧ 0 < BM.pbA ((dmsP (nzP m) sts).take k) ((l.take sts.length).map Int.toNat)) ⟨u6, u7, u8, ?_, .refl _, ?_, (show (1 : Int).natAbs < 2 ^ 1 by decide), (show (0 : Int) < 1 by decide)⟩ ?_ ?_
              · rw [show c * BM.paA ((dmsP (nzP m) sts).take 0) ((l.take sts.length).map Int.toNat) I = c from Int.mul_one c]; rfl
              · rw [show c * BM.paA ((dmsP (nzP m) sts).take 0) ((l.take sts.length).map Int.toNat) I = c from Int.mul_one c]; exact cb
              · rintro kq σ' H9 hk ⟨v0, v1, v2, rfl, s9, C1, C2, C3⟩
                have kn : kq < sts.length := by omega
                have es : sts[kq]? = some sts[kq] := List.getElem?_eq_getElem kn
                have ed := dms_get (ts := nzP m) h3 es
                obtain ⟨sa, ea⟩ : ∃ sa, bs8[kq]? = some sa := ⟨_, List.getElem?_eq_getElem (by rw [bl8]; exact kn)⟩
                obtain ⟨s0, es0, hs0⟩ := My.pget hx82 ea
                rw [es] at es0
                cases Option.some.inj es0
                have bts := lc.bt _ (List.getElem_mem kn)
                have dk3 : (mx 0 (colP (nzP m) kq)).toNat ≤ 60 := by have := mx3 kq; omega
                have eDn : mx 0 (colP (nzP m) kq) = (((mx 0 (colP (nzP m) kq)).toNat : Nat) : Int) := (Int.toNat_of_nonneg (mx3 kq).1).symm
                have Ik : I.getD kq 0 ≤ (mx 0 (colP (nzP m) kq)).toNat := wi_iff.mp wI kq _ ed
                have l0 := (wl kq).1
                have lm : l.getD kq 0 ≤ mx 0 (colP (nzP m) kq) := mx_ge (List.mem_map.mpr ⟨(l, c), hmem, rfl⟩)
                have eJ : ((l.take sts.length).map Int.toNat).getD kq 0 = (l.getD kq 0).toNat := by
                  rw [getD_toNat, List.getD_eq_getElem?_getD, List.getElem?_take_of_lt kn, ← List.getD_eq_getElem?_getD]
                have eJ2 : (l.map Int.toNat).getD kq 0 = (l.getD kq 0).toNat := getD_toNat l kq
                have etk : (dmsP (nzP m) sts).take (kq + 1) = (dmsP (nzP m) sts).take kq ++ [mkDm (mx 0 (colP (nzP m) kq)).toNat sts[kq]] := by
                  rw [List.take_succ, ed]; rfl
                have ltk : ((dmsP (nzP m) sts).take kq).length = kq := by rw [List.length_take, dl]; omega
                have ez : (0 : Int) + (kq : Int) = (kq : Int) := Int.zero_add _
                walk_at "f"
                rw [ez]
                refine My.ixT (SqT.of (s9 _ _ hx81)) (atI_nat (by rw [List.getElem?_map, ea]; rfl)) ?_
                walk_at "f"
                refine My.ixL (v := .int (mx 0 (colP (nzP m) kq))) (SqL.of (s9 _ _ hg8)) (atI_nat (by rw [List.getElem?_map, ed]; show some (V.int (((mx 0 (colP (nzP m) kq)).toNat : Nat) : Int)) = _; rw [← eDn])) ?_
                walk_at "f"
                refine My.ixT (v := .int ((I.getD kq 0 : Nat) : Int)) (SqT.of (s9 _ _ hr8)) (atI_nat (by unfold ofN; rw [List.map_map, List.getElem?_map, List.getD_eq_getElem?_getD, List.getElem?_eq_getElem (show kq < I.length by rw [lI, dl]; exact kn)]; rfl)) ?_
                walk_at "f"
                refine My.ixT (v := .int (l.getD kq 0)) (SqT.of (s9 _ _ hq8)) (atI_nat (by rw [List.getElem?_map, List.getD_eq_getElem?_getD, List.getElem?_eq_getElem (show kq < l.length by omega)]; rfl)) ?_
                walk_at "f"
                refine ⟨sa, sts[kq], (mx 0 (colP (nzP m) kq)).toNat, I.getD kq 0, (l.getD kq 0).toNat, by rw [← eDn, Int.toNat_of_nonneg l0]; rfl, hs0.same s9, bts.ok, dk3, Ik, by omega, fun T H10 s10 hT => ?_⟩
                have pab := pa_bd (s := sts[kq]) (i := I.getD kq 0) (j := (l.getD kq 0).toNat) bts.ok dk3 Ik (by omega)
                have pbb := pb_bd (j := (l.getD kq 0).toNat) bts dk3
                have pbp := BM.pb_pos (mkDm_ok (D := (mx 0 (colP (nzP m) kq)).toNat) bts.ok) (j := (l.getD kq 0).toNat) (show (l.getD kq 0).toNat ≤ (mx 0 (colP (nzP m) kq)).toNat by omega)
                walk_at "f"
                refine My.gtup2 (SqT.of hT) rfl ?_
                walk_at "f"
                refine My.mulWk C1 pab (by omega) ?_
                walk_at "f"
                refine My.mulWk C2 pbb (by have := tl; have := tot_le (l.map Int.toNat) (i := kq) (n := sts.length) (by omega) (Nat.le_refl _); omega) ?_
                walk_at "f"
                have ea1 : c * BM.paA ((dmsP (nzP m) sts).take (kq + 1)) ((l.take sts.length).map Int.toNat) I = c * BM.paA ((dmsP (nzP m) sts).take kq) ((l.take sts.length).map Int.toNat) I * BM.pa (mkDm (mx 0 (colP (nzP m) kq)).toNat sts[kq]) (l.getD kq 0).toNat (I.getD kq 0) := by
                  rw [etk, paA_snoc, ltk, eJ, Int.mul_assoc]
                have ea2 : BM.pbA ((dmsP (nzP m) sts).take (kq + 1)) ((l.take sts.length).map Int.toNat) = BM.pbA ((dmsP (nzP m) sts).take kq) ((l.take sts.length).map Int.toNat) * BM.pb (mkDm (mx 0 (colP (nzP m) kq)).toNat sts[kq]) (l.getD kq 0).toNat := by
                  rw [etk, pbA_snoc, ltk, eJ]
                rw [ea1, ea2]
                refine ⟨_, _, _, rfl, s9.trans s10, (C1.mul pab).mono (by omega), (C2.mul pbb).mono (by rw [totN_succ, eJ2]; omega), Int.mul_pos C3 pbp⟩
              · rintro σ' H9 ⟨v0, v1, v2, rfl, s9, C1, C2, C3⟩
                have etn : (dmsP (nzP m) sts).take ((sts.length : Int)).toNat = dmsP (nzP m) sts := by
                  rw [show ((sts.length : Int)).toNat = (dmsP (nzP m) sts).length by rw [dl]; omega, List.take_length]
                rw [etn] at C1 C2 C3 ⊢
                have C1' := C1.mono (show 1000 + 18200 * ((sts.length : Int)).toNat ≤ 55600 by omega)
                have tl' : 40 * totN (l.map Int.toNat) ((sts.length : Int)).toNat + 200 ≤ W := by rw [show ((sts.length : Int)).toNat = sts.length by omega]; exact tl
                have C2' := C2.mono (show 40 * totN (l.map Int.toNat) ((sts.length : Int)).toNat + 65 * ((sts.length : Int)).toNat + 1 ≤ W by omega)
                walk_at "f"
                refine My.mulWk B1 C2' (by omega) ?_
                walk_at "f"
                refine My.mulWk C1' B2 (by omega) ?_
                walk_at "f"
                refine My.mulWk B2 C2' (by omega) ?_
                walk_at "f"
                refine ⟨_, _, _, _, _, _, rfl, s8.trans s9, ?_, (B2.mul C2').mono (by omega), Int.mul_pos B3 C3⟩
                exact (My.Bd.add (n := 65000 * j + 65000) ((B1.mul C2').mono (by omega)) ((C1'.mul B2).mono (by omega)))
          · rintro σ' H8 ⟨u3, u4, u5, u6, u7, u8, rfl, s8, B1, B2, B3⟩
            have ql : (qs.map V.ref).length = (natP (cutP sts.length (nzP m))).length := by
              unfold natP cutP
              rw [List.length_map, List.length_map, List.length_map, My.plen hq7]
            rw [ql, List.take_length] at B1 B2 B3 ⊢
            have nl : (natP (cutP sts.length (nzP m))).length = (nzP m).length := by unfold natP cutP; rw [List.length_map, List.length_map]
            rw [← nl, Nat.mul_comm] at lim
            have hr8 : H8 r = some (.tup ((ofN I).map V.int)) := s8 _ _ (s7 _ _ hr5)
            have hf8 := s8 _ _ (s7 _ _ hf5)
            have hk8 := Paired.mapP hk5 fun c I' (z : FraAt H5 c (cntAt m sts I')) => (z.same s7).same s8
            have b8 := (b5.trans (Same.but s7)).trans (Same.but s8)
            walk_at "f"
            refine ⟨_, _, rfl, B3, B2.mono (by omega), fun p np => ?_⟩
            have sp := same_new (o := HO.tup [V.int (low (BM.fr ((natP (cutP sts.length (nzP m))).map (trm (dmsP (nzP m) sts) I))).1 (BM.fr ((natP (cutP sts.length (nzP m))).map (trm (dmsP (nzP m) sts) I))).2).1, V.int (low (BM.fr ((natP (cutP sts.length (nzP m))).map (trm (dmsP (nzP m) sts) I))).1 (BM.fr ((natP (cutP sts.length (nzP m))).map (trm (dmsP (nzP m) sts) I))).2).2]) np
            have hp9 : FraAt (upd H8 p (HO.tup [V.int (low (BM.fr ((natP (cutP sts.length (nzP m))).map (trm (dmsP (nzP m) sts) I))).1 (BM.fr ((natP (cutP sts.length (nzP m))).map (trm (dmsP (nzP m) sts) I))).2).1, V.int (low (BM.fr ((natP (cutP sts.length (nzP m))).map (trm (dmsP (nzP m) sts) I))).1 (BM.fr ((natP (cutP sts.length (nzP m))).map (trm (dmsP (nzP m) sts) I))).2).2])) p (cntAt m sts I) := upd_same
            have hr9 := sp _ _ hr8
            have hf9 := sp _ _ hf8
            have hk9 := Paired.mapP hk8 fun c I' (z : FraAt H8 c (cntAt m sts I')) => z.same sp
            have b9 := b8.trans (Same.but sp)
            generalize upd H8 p _ = H9 at hp9 hr9 hf9 hk9 b9 ⊢
            walk_at "f"
            have kl := My.plen hk9
            rw [List.length_take] at kl
            have il : i < (BM.idx (dmsP (nzP m) sts)).length := (List.getElem?_eq_some_iff.mp eI).1
            have eti : (BM.idx (dmsP (nzP m) sts)).take (i + 1) = (BM.idx (dmsP (nzP m) sts)).take i ++ [I] := by rw [List.take_succ, eI]; rfl
            have i64 : (BM.idx (dmsP (nzP m) sts)).length ≤ 1000 := by
              rw [idx_len]
              exact Nat.le_trans spr.cnt (by decide)
            have tnf : ∀ c xs, H9 c = some (.tup xs) → c ≠ fd := fun c xs e z => by rw [z, hf9] at e; cases e
            refine ⟨fd, _, rfl, DPut.t hf9 (by rw [ik_kV]; exact hr9) (by rw [List.length_zipWith, sizeLine_eq, List.length_take]; omega), ?_⟩
            refine ⟨ks ++ [p], _, _, _, _, _, _, _, _, _, rfl, fun c o nb e => by rw [upd_ne nb]; exact b9 _ _ nb e, ?_, ?_⟩
            · rw [upd_same, putK_off, eti, List.zipWith_append (by rw [List.length_take]; omega)]
              · rfl
              · intro p' hp' e
                obtain ⟨jj, hjj⟩ := List.mem_iff_getElem?.mp hp'
                rw [List.getElem?_zipWith] at hjj
                cases e1 : ((BM.idx (dmsP (nzP m) sts)).take i)[jj]? with
                | none => rw [e1] at hjj; cases hjj
                | some J =>
                  cases e2 : ks[jj]? with
                  | none => rw [e1, e2] at hjj; cases hjj
                  | some kr =>
                    rw [e1, e2] at hjj
                    cases Option.some.inj hjj
                    have eJI : J = I := map_inj (fun x y z => Int.ofNat.inj z) (ik_inj e)
                    have jl : jj < i := by
                      have := (List.getElem?_eq_some_iff.mp e1).1
                      rw [List.length_take] at this
                      omega
                    rw [List.getElem?_take_of_lt jl, eJI, ← eI] at e1
                    have := (List.getElem?_inj (by omega) ind).mp e1
                    omega
            · rw [eti]
              refine papp (Paired.mapP hk9 fun c I' (z : FraAt H9 c (cntAt m sts I')) => (by show upd H9 fd _ c = _; rw [upd_ne (tnf _ _ z)]; exact z : FraAt _ c (cntAt m sts I'))) (.cons ?_ .nil)
              show upd H9 fd _ p = _
              rw [upd_ne (tnf _ _ hp9)]
              exact hp9
    · rintro σ' H4 ⟨ks, u0, u1, u2, u3, u4, u5, u6, u7, u8, rfl, b4, hf4, hk4⟩
      rw [List.length_map, rl, List.take_length] at hf4 hk4
      walk_at "f"
      exact k fd H4 ks (fun c o e => b4 _ _ (ne_of_none e nfd0) (s4 _ _ e)) hf4 hk4
end
end K25

set_option Elab.async false
set_option linter.all false
set_option maxRecDepth 100000
set_option maxHeartbeats 4000000
namespace My
open PySem PySem.Spec PyProof.Rows L2 DX
theorem lvals {te : TE} {σ : L2.St} {H : Hp} {Q : VK} (h : te σ H fun x H1 => rValsT x H1 Q) : tListValsT te σ H Q := h
end My
namespace K25
open PySem PySem.Spec PyProof.Rows L2 XV DX
theorem mx_mem {l k : List Int} (h : ∀ x, x ∈ l ↔ x ∈ k) : mx 0 l = mx 0 k := by
  cases l with
  | nil =>
    cases k with
    | nil => rfl
    | cons a k => exact absurd ((h a).mpr List.mem_cons_self) (by simp)
  | cons n r =>
    cases k with
    | nil => exact absurd ((h n).mp List.mem_cons_self) (by simp)
    | cons a k =>
      have m1 : mx 0 (n :: r) ∈ n :: r := by
        show r.foldl max n ∈ n :: r
        rcases DX.fold_mem r n with e | e
        · rw [e]; exact List.mem_cons_self
        · exact List.mem_cons_of_mem _ e
      have m2 : mx 0 (a :: k) ∈ a :: k := by
        show k.foldl max a ∈ a :: k
        rcases DX.fold_mem k a with e | e
        · rw [e]; exact List.mem_cons_self
        · exact List.mem_cons_of_mem _ e
      exact Int.le_antisymm (mx_ge ((h _).mp m1)) (mx_ge ((h _).mpr m2))
theorem dms_perm {ts us : Pol} {sts : List Str2} (h : ts.Perm us) : dmsP ts sts = dmsP us sts := by
  unfold dmsP
  congr 1
  unfold greatP
  refine List.map_congr_left fun j _ => mx_mem fun x => ?_
  unfold colP
  exact (h.map _).mem_iff
theorem sum_perm {l k : List Int} (h : l.Perm k) : l.sum = k.sum := by
  induction h with
  | nil => rfl
  | cons x _ ih => rw [List.sum_cons, List.sum_cons, ih]
  | swap x y l => rw [List.sum_cons, List.sum_cons, List.sum_cons, List.sum_cons]; omega
  | trans _ _ h1 h2 => rw [h1, h2]
theorem sg_perm {ts us : Pol} {sts : List Str2} (h : ts.Perm us) : sgP ts sts = sgP us sts := by
  unfold sgP
  rw [dms_perm h]
  have pm : (natP (cutP sts.length ts)).Perm (natP (cutP sts.length us)) := by
    unfold natP cutP
    exact (h.map _).map _
  have er : ∀ I, BM.rowV (dmsP us sts) (natP (cutP sts.length ts)) I = BM.rowV (dmsP us sts) (natP (cutP sts.length us)) I := fun I => by
    unfold BM.rowV
    exact sum_perm (pm.map _)
  have ee : (natP (cutP sts.length ts)).isEmpty = (natP (cutP sts.length us)).isEmpty := by
    rw [Bool.eq_iff_iff, List.isEmpty_iff_length_eq_zero, List.isEmpty_iff_length_eq_zero, pm.length_eq]
  unfold rowSg
  rw [ee]
  simp only [er]
theorem spr_perm {ts us : Pol} {sts : List Str2} (h : ts.Perm us) (o : Spr us sts) : Spr ts sts :=
  ⟨(h.map _).symm.nodup o.nd, fun p hp => o.len p (h.mem_iff.mp hp), fun p hp => o.wi p (h.mem_iff.mp hp), fun p hp => o.off p (h.mem_iff.mp hp), by rw [h.length_eq]; exact o.few, fun p hp => o.bd p (h.mem_iff.mp hp), o.ok, o.b3, by rw [dms_perm h]; exact o.cnt⟩
/-- the law's counts have the rows' signs -/
theorem cnt_sign {m : Pol} {sts : List Str2} (o : Spr (nzP m) sts) {I : List Nat} (hI : I ∈ BM.idx (dmsP (nzP m) sts)) :
    (0 < (cntAt m sts I).1 ↔ 0 < BM.rowV (dmsP (nzP m) sts) (natP (cutP sts.length (nzP m))) I) ∧ ((cntAt m sts I).1 < 0 ↔ BM.rowV (dmsP (nzP m) sts) (natP (cutP sts.length (nzP m))) I < 0) := by
  have ok : ∀ d ∈ dmsP (nzP m) sts, d.Ok := fun d hd => by
    obtain ⟨j, hj⟩ := List.mem_iff_getElem?.mp hd
    obtain ⟨jl, _⟩ := dms_of o.b3 hj
    rw [dms_get o.b3 (List.getElem?_eq_getElem jl)] at hj
    cases hj
    exact mkDm_ok (o.ok _ (List.getElem_mem jl))
  have to := spr_ok o
  have wm : ∀ p ∈ natP (cutP sts.length (nzP m)), BM.Wi (dmsP (nzP m) sts) p.1 := fun p hp => by
    obtain ⟨q, hq, rfl⟩ := List.mem_map.mp hp
    refine wi_iff.mpr fun j d hd => ?_
    have := to.wi q hq j d hd
    rw [getD_toNat]; omega
  have wI := (BM.idx_wi hI).1
  have s1 := BM.lawC_sign ok wm wI
  have b0 := (BM.lawC_row ok wm wI).2
  obtain ⟨g, g0, e1, _, _⟩ := low_div (t := (BM.lawC (dmsP (nzP m) sts) (natP (cutP sts.length (nzP m))) I).1) b0
  rw [s1.1, s1.2]
  unfold cntAt
  generalize low (BM.lawC (dmsP (nzP m) sts) (natP (cutP sts.length (nzP m))) I).1 (BM.lawC (dmsP (nzP m) sts) (natP (cutP sts.length (nzP m))) I).2 = f at e1 ⊢
  rw [e1]
  constructor
  · exact ⟨fun h => Int.mul_pos h g0, fun h => Int.pos_of_mul_pos_left h g0⟩
  · refine ⟨fun h => Int.mul_neg_of_neg_of_pos h g0, fun h => ?_⟩
    have : 0 < (-f.1) * g := by rw [Int.neg_mul]; omega
    have := Int.pos_of_mul_pos_left this g0
    omega
theorem idx_ne (ds : List BM.Dm) : BM.idx ds ≠ [] := fun e => by
  have l := idx_len ds
  rw [e] at l
  have : 0 < cntP ds := by
    clear e l
    induction ds with
    | nil => exact Nat.zero_lt_one
    | cons d ds ih => exact Nat.mul_pos (Nat.succ_pos _) ih
  have l' : 0 = cntP ds := l
  omega
theorem nat_empty {m : Pol} {n : Nat} (e : (natP (cutP n m)).isEmpty = true) : m = [] := by
  cases m with
  | nil => rfl
  | cons a b => cases e
theorem tops_pos {m : Pol} {sts : List Str2} (o : Spr (nzP m) sts) (h : ∀ I ∈ BM.idx (dmsP (nzP m) sts), 0 < (cntAt m sts I).1) : sgP (nzP m) sts = 1 := by
  unfold sgP rowSg
  rw [if_neg, if_pos]
  · rw [List.all_eq_true]
    exact fun I hI => decide_eq_true ((cnt_sign o hI).1.mp (h I hI))
  · intro e
    obtain ⟨I, hI⟩ := List.exists_mem_of_ne_nil _ (idx_ne (dmsP (nzP m) sts))
    have z := (cnt_sign o hI).1.mp (h I hI)
    rw [nat_empty e] at z
    exact absurd z (by show ¬ (0 : Int) < 0; decide)
theorem tops_neg {m : Pol} {sts : List Str2} (o : Spr (nzP m) sts) (h : ∀ I ∈ BM.idx (dmsP (nzP m) sts), (cntAt m sts I).1 < 0) : sgP (nzP m) sts = -1 := by
  obtain ⟨I, hI⟩ := List.exists_mem_of_ne_nil _ (idx_ne (dmsP (nzP m) sts))
  have z := (cnt_sign o hI).2.mp (h I hI)
  unfold sgP rowSg
  rw [if_neg, if_neg, if_pos]
  · rw [List.all_eq_true]
    exact fun I hI => decide_eq_true ((cnt_sign o hI).2.mp (h I hI))
  · rw [List.all_eq_true]
    intro g
    have := of_decide_eq_true (g I hI)
    omega
  · intro e
    rw [nat_empty e] at z
    exact absurd z (by show ¬ (0 : Int) < 0; decide)
theorem tops_no {m : Pol} {sts : List Str2} (o : Spr (nzP m) sts) (h1 : ∃ I ∈ BM.idx (dmsP (nzP m) sts), (cntAt m sts I).1 ≤ 0) (h2 : ∃ I ∈ BM.idx (dmsP (nzP m) sts), 0 ≤ (cntAt m sts I).1) : sgP (nzP m) sts = 0 := by
  unfold sgP rowSg
  by_cases e : (natP (cutP sts.length (nzP m))).isEmpty = true
  · rw [if_pos e]
  · rw [if_neg e, if_neg, if_neg]
    · rw [List.all_eq_true]
      intro g
      obtain ⟨I, hI, z⟩ := h2
      have := (cnt_sign o hI).2.mpr (of_decide_eq_true (g I hI))
      omega
    · rw [List.all_eq_true]
      intro g
      obtain ⟨I, hI, z⟩ := h1
      have := (cnt_sign o hI).1.mpr (of_decide_eq_true (g I hI))
      omega
def spSign : Sp := fun vs H Q _ => ∃ (b x : Addr) (m : Pol) (sts : List Str2) (W : Nat), vs = [.ref b, .ref x] ∧ PolD H b m ∧ Lp m ∧ BoxAt H x sts ∧ Lc (nzP m) sts W ∧ ∀ H', Same H H' → Q (.int (sgP (nzP m) sts)) H'
section
variable {P : Program} {w : World} {K : PySem.W.Frag} {mg : Str → Option Value} {base : Heap}
theorem sc_law_sign : FnScope ["_law_parts_here", "_law_box_here", "_law_count", "_law_tops"] ["_law_parts_here", "_law_box_here"] (defScope s_law_sign) := ⟨rfl, rfl, rfl, by decide +kernel, rfl, by decide +kernel, by decide +kernel⟩
theorem cal_law_sign {f : Addr} {fd : FuncData} (F : FnP K "_law_sign" "_law_sign" s_law_sign f fd) (g : mg "_law_sign" = some (.ref f)) (T : Txt0 mg) (C_law_counts : Cal P w K mg base "_law_counts" 4 ["_law_parts_here", "_law_box_here"] spCounts) : Cal P w K mg base "_law_sign" 5 ["_law_parts_here", "_law_box_here"] spSign := by
  obtain ⟨f_law_counts, fd_law_counts, g_law_counts, G_law_counts, b_law_counts, k_law_counts⟩ := C_law_counts
  refine ⟨f, fd, g, ?_, F.bindsN (fun _ _ _ _ _ _ us hl => match us, hl with | [_, _], _ => rfl), F.kp⟩
  refine F.ok sc_law_sign (fun vs H Q E h => ?_) (fun cdv A outer s H vs Q E hr h => ?_)
  · obtain ⟨b, x, m, sts, W, rfl, hb, lp, hx, lc, k⟩ := h
    rfl
  · obtain ⟨b, x, m, sts, W, rfl, hb, lp, hx, lc, k⟩ := h
    refine ⟨_, PSs.nox (pss_cons (ps_setLc (i := 3) (own := [("_law_count", 2)]) (tt := tYes) (te := tOp (rIxT K) (tVar 2) (tC (.int 0))) (by rfl) sc_law_sign.nd rfl rfl (sw_true rfl rfl rfl (by decide +kernel)) (pi_list (DX.pe_listValsT rfl (pe_call G_law_counts (hr.mono (by decide)) (by rfl) g_law_counts k_law_counts b_law_counts .nil pass0 (pa_cons (pv 0) (pa_cons (pv 1) pa_nil))) (by rfl) T.list (by decide +kernel))) (blkOk_by (own := [("_law_count", 2)]) (N := ["_law_parts_here", "_law_box_here", "_law_count", "_law_tops"]) (sc := (defScope s_law_sign)) (by decide +kernel)) (fun _ _ _ _ _ => (pg_name (i := 2) sc_law_sign.nd rfl (Or.inl rfl))) (fun _ _ _ _ _ => pts_nil) (fun _ _ _ _ _ => (pe_ix ix_tup (pv 2) pe_int (fun _ _ => rfl))))
      (pss_one (ps_ret (pe_ifExp (pt_cmpR op_gt (pe_callB (cr_min rfl) (by rfl) T.min (by decide +kernel) (pa_cons (pv 3) pa_nil)) pe_int (nomark _)) pe_int (pe_ifExp (pt_cmpR op_lt (pe_callB (cr_max rfl) (by rfl) T.max (by decide +kernel) (pa_cons (pv 3) pa_nil)) pe_int (nomark _)) (pe_un un_neg pe_int) pe_int))))), ?_⟩
    try dsimp only [cxOf, Cx.nox, Cx.wish]
    walk_at "f"
    refine My.lvals ?_
    walk_at "f"
    refine ⟨b, x, m, sts, W, rfl, hb, lp, hx, lc, fun d H1 rs s1 hd hr => ?_⟩
    have rl := My.plen hr
    refine ⟨d, _, rfl, .inl hd, fun cd nc => ?_⟩
    have ev : (List.zipWith (fun I r => (ik (ofN I), V.ref r)) (BM.idx (dmsP (nzP m) sts)) rs).map (·.2) = rs.map V.ref := by
      rw [List.map_zipWith]
      refine List.ext_getElem? fun j => ?_
      rw [List.getElem?_zipWith, List.getElem?_map]
      by_cases hj : j < rs.length
      · rw [List.getElem?_eq_getElem hj, List.getElem?_eq_getElem (show j < (BM.idx (dmsP (nzP m) sts)).length by omega)]; rfl
      · rw [List.getElem?_eq_none (show rs.length ≤ j by omega), List.getElem?_eq_none (show (BM.idx (dmsP (nzP m) sts)).length ≤ j by omega)]; rfl
    rw [ev]
    have sc := same_new (o := HO.lst (rs.map V.ref)) nc
    have s2 := s1.trans sc
    have hcd := upd_same (H := H1) (a := cd) (o := HO.lst (rs.map V.ref))
    have hr2 := Paired.mapP hr fun c I' (z : FraAt H1 c (cntAt m sts I')) => z.same sc
    generalize upd H1 cd _ = H2 at s2 hcd hr2 ⊢
    have spr := lc.spr
    have rl1 : rs.length ≤ 1000 := by
      rw [rl, idx_len]
      exact Nat.le_trans spr.cnt (by decide)
    refine ⟨cd, rfl, ⟨_, SqL.of hcd⟩, My.lcM (walk_list (xs := rs.map V.ref)) Same (by rw [List.length_map]; exact rl1) (fun D hD => same_new hD) fun D nD => ⟨fun j y H => ∃ I, (BM.idx (dmsP (nzP m) sts))[j]? = some I ∧ y = .int (cntAt m sts I).1, fun j y H ys o _ h => h, fun H o s => same_at s nD, fun H2 _ s _ => SqL.of (s _ _ hcd), ?_, ?_⟩⟩
    · rintro i x1 H4 H5 ys N hi r' e l p' ⟨rfl, ex⟩ hN
      rw [List.getElem?_map] at ex
      cases eb : rs[i]? with
      | none => rw [eb] at ex; cases ex
      | some c =>
        rw [eb] at ex
        cases Option.some.inj ex
        obtain ⟨I, eI, hc⟩ := My.pget hr2 eb
        walk_at "f"
        refine ⟨rfl, ?_⟩
        walk_at "f"
        refine My.ixT (SqT.of (r' _ _ hc)) (by rfl) ?_
        exact hN _ _ r' e p' ⟨I, eI, rfl⟩
    · intro H4 ys hD hl2 s4 hy
      rw [List.length_map] at hl2
      have ey : ys = ((BM.idx (dmsP (nzP m) sts)).map fun I => (cntAt m sts I).1).map V.int := by
        refine List.ext_getElem? fun j => ?_
        rw [List.getElem?_map, List.getElem?_map]
        by_cases hj : j < ys.length
        · obtain ⟨c, e1, e2⟩ := hy j _ (List.getElem?_eq_getElem hj)
          rw [List.getElem?_eq_getElem hj, e1, e2]; rfl
        · rw [List.getElem?_eq_none (by omega), List.getElem?_eq_none (by omega)]; rfl
      rw [ey] at hD
      have np : 0 < ((BM.idx (dmsP (nzP m) sts)).map fun I => (cntAt m sts I).1).length := by
        rw [List.length_map]
        exact List.length_pos_iff.mpr (idx_ne _)
      have s5 := s2.trans s4
      walk_at "f"
      refine ⟨D, _, rfl, SqL.of hD, np, fun mn hmn hall => ?_⟩
      walk_at "f"
      · rename_i hpos
        have e := tops_pos spr fun I hI => by
          have := hall _ (List.mem_map.mpr ⟨I, hI, rfl⟩)
          omega
        have q := k _ s5
        rw [e] at q
        exact q
      rename_i hpos
      obtain ⟨I1, hI1, e1⟩ := List.mem_map.mp hmn
      refine ⟨D, _, rfl, SqL.of hD, np, fun mm hmm hall2 => ?_⟩
      walk_at "f"
      · rename_i hneg
        have e := tops_neg spr fun I hI => by
          have := hall2 _ (List.mem_map.mpr ⟨I, hI, rfl⟩)
          omega
        have q := k _ s5
        rw [e] at q
        exact q
      · rename_i hneg
        obtain ⟨I2, hI2, e2⟩ := List.mem_map.mp hmm
        have e := tops_no spr ⟨I1, hI1, by omega⟩ ⟨I2, hI2, by omega⟩
        have q := k _ s5
        rw [e] at q
        exact q
end
end K25

set_option Elab.async false
set_option linter.all false
set_option maxRecDepth 100000
set_option maxHeartbeats 4000000
namespace K25
open PySem PySem.Spec PyProof.Rows L2 XV DX
def plc (pts : List Fra) (k : Nat) : Fra := pts.getD k (0, 1)
def wnK (pts : List Fra) (J : List Int) : Nat → Int
  | 0 => 1
  | k + 1 => wnK pts J k * (plc pts k).1 ^ (J.getD k 0).toNat
def wbK (pts : List Fra) (J : List Int) : Nat → Int
  | 0 => 1
  | k + 1 => wbK pts J k * (plc pts k).2 ^ (J.getD k 0).toNat
def wrt (pts : List Fra) (p : List Int × Int) : Int × Int := (p.2 * wnK pts p.1 4, wbK pts p.1 4)
def wthF (m : Pol) (pts : List Fra) : Int × Int := BM.fr (m.map (wrt pts))
/-- a place of few bits -/
structure PtB (f : Fra) : Prop where
  pos : 0 < f.2
  n : My.Bd 100 f.1
  b : My.Bd 60 f.2
/-- what the sums of a worth take: v bits the bottoms, W a term -/
structure Wl (m : Pol) (pts : List Fra) (W : Nat) : Prop where
  pt : ∀ f ∈ pts, PtB f
  w : ∃ v, (∀ f ∈ pts, My.Bd v f.2) ∧ ∀ p ∈ m, v * totN (p.1.map Int.toNat) 4 + 8 ≤ W
  lim : m.length * W ≤ 8900
def spWorth : Sp := fun vs H Q _ => ∃ (b l : Addr) (m : Pol) (fs : List Addr) (pts : List Fra) (W : Nat), vs = [.ref b, .ref l] ∧ PolD H b m ∧ Lp m ∧ H l = some (.lst (fs.map V.ref)) ∧ Paired (FraAt H) fs pts ∧ Wl m pts W ∧ pts.length ≤ 4 ∧
  ∀ p H', Same H H' → FraAt H' p (low (wthF m pts).1 (wthF m pts).2) → 0 < (wthF m pts).2 → My.Bd 240001 (wthF m pts).1 → Q (.ref p) H'
section
variable {P : Program} {w : World} {K : PySem.W.Frag} {mg : Str → Option Value} {base : Heap}
theorem sc_law_worth : FnScope ["_law_parts_here", "_law_point", "_law_top", "_law_bottom", "_law_powers", "_law_here", "_law_under", "_law_k", "_law_place_here"] ["_law_parts_here", "_law_point"] (defScope s_law_worth) := ⟨rfl, rfl, rfl, by decide +kernel, rfl, by decide +kernel, by decide +kernel⟩
theorem cal_law_worth {f : Addr} {fd : FuncData} (F : FnP K "_law_worth" "_law_worth" s_law_worth f fd) (g : mg "_law_worth" = some (.ref f)) (T : Txt0 mg) (C_law_power : Cal P w K mg base "_law_power" 1 ["_law_number", "_law_many"] spPow) (C_law_low : Cal P w K mg base "_law_low" 1 ["_law_top", "_law_bottom"] spLow) : Cal P w K mg base "_law_worth" 3 ["_law_parts_here", "_law_point"] spWorth := by
  obtain ⟨f_law_power, fd_law_power, g_law_power, G_law_power, b_law_power, k_law_power⟩ := C_law_power
  obtain ⟨f_law_low, fd_law_low, g_law_low, G_law_low, b_law_low, k_law_low⟩ := C_law_low
  refine ⟨f, fd, g, ?_, F.bindsN (fun _ _ _ _ _ _ us hl => match us, hl with | [_, _], _ => rfl), F.kp⟩
  refine F.ok sc_law_worth (fun vs H Q E h => ?_) (fun cdv A outer s H vs Q E hr h => ?_)
  · obtain ⟨b, l, m, fs, pts, W, rfl, hb, lp, hl, hf, wl0, l3, k⟩ := h
    rfl
  · obtain ⟨b, l, m, fs, pts, W, rfl, hb, lp, hl, hf, wl0, l3, k⟩ := h
    have hu := hu_of hr
    refine ⟨_, PSs.nox (pss_cons (ps_asg (pe_tup (pa_cons pe_int (pa_cons pe_int pa_nil))) (pg_tup (by rfl) (pgs_cons (pg_name (i := 2) sc_law_worth.nd rfl (Or.inl rfl)) (pgs_cons (pg_name (i := 3) sc_law_worth.nd rfl (Or.inl rfl)) pgs_nil))))
      (pss_cons (ps_lock (ps_for PassesOwn.never rfl (pi_keys (pv 0)) (pg_name (i := 4) sc_law_worth.nd rfl (Or.inl rfl))
       (pss_cons (ps_par (i := 5) (j := 6) (by rfl) sc_law_worth.nd rfl rfl (by decide) rfl rfl (pa_cons (pe_dget hu (pv 0) (pv 4) (fun _ _ => rfl)) (pa_cons pe_int pa_nil)) (by rfl))
      (pss_cons (ps_for PassesOwn.never rfl (pi_range1 (by rfl) T.range (pa_cons pe_int pa_nil)) (pg_name (i := 7) sc_law_worth.nd rfl (Or.inl rfl))
       (pss_cons (ps_set (i := 8) sc_law_worth.nd rfl (Or.inl rfl) (pe_ifExp (pt_cmpR op_lt (pv 7) (pe_callB My.c_len (by rfl) T.len PySem.boot_len (pa_cons (pv 1) pa_nil)) (nomark _)) (pe_ix ix_list (pv 1) (pv 7) (fun _ _ => rfl)) (pe_tup (pa_cons pe_int (pa_cons pe_int pa_nil)))))
      (pss_one (ps_par (i := 5) (j := 6) (by rfl) sc_law_worth.nd rfl rfl (by decide) rfl rfl (pa_cons (pe_op op_mulW (pv 5) (pe_call G_law_power (hr.mono (by decide)) (by rfl) g_law_power k_law_power b_law_power .nil pass0 (pa_cons (pe_ix ix_tup (pv 8) pe_int (fun _ _ => rfl)) (pa_cons (pe_ix ix_tup (pv 4) (pv 7) (fun _ _ => rfl)) pa_nil)))) (pa_cons (pe_op op_mulW (pv 6) (pe_call G_law_power (hr.mono (by decide)) (by rfl) g_law_power k_law_power b_law_power .nil pass0 (pa_cons (pe_ix ix_tup (pv 8) pe_int (fun _ _ => rfl)) (pa_cons (pe_ix ix_tup (pv 4) (pv 7) (fun _ _ => rfl)) pa_nil)))) pa_nil)) (by rfl)))))
      (pss_one (ps_par (i := 2) (j := 3) (by rfl) sc_law_worth.nd rfl rfl (by decide) rfl rfl (pa_cons (pe_op op_add (pe_op op_mulW (pv 2) (pv 6)) (pe_op op_mulW (pv 5) (pv 3))) (pa_cons (pe_op op_mulW (pv 3) (pv 6)) pa_nil)) (by rfl)))))))
      (pss_one (ps_ret (pe_call G_law_low (hr.mono (by decide)) (by rfl) g_law_low k_law_low b_law_low .nil pass0 (pa_cons (pv 2) (pa_cons (pv 3) pa_nil))))))), ?_⟩
    try dsimp only [cxOf, Cx.nox, Cx.wish]
    have few := lp.few
    have fl := My.plen hf
    obtain ⟨v, hv, hW⟩ := wl0.w
    have pB : ∀ kq, My.Bd 100 (plc pts kq).1 ∧ (v = 0 ∨ My.Bd v (plc pts kq).2) ∧ 0 < (plc pts kq).2 ∧ (v = 0 → (plc pts kq).2 = 1) := fun kq => by
      unfold plc
      rw [List.getD_eq_getElem?_getD]
      cases e : pts[kq]? with
      | none =>
        refine ⟨My.Bd.zero, ?_, (by show (0 : Int) < 1; decide), fun _ => rfl⟩
        cases v with
        | zero => exact .inl rfl
        | succ v => exact .inr (show (1 : Int).natAbs < 2 ^ (v + 1) by rw [Nat.pow_succ]; have := Nat.two_pow_pos v; show 1 < _; omega)
      | some f0 =>
        have hm := List.mem_iff_getElem?.mpr ⟨kq, e⟩
        have n := wl0.pt f0 hm
        refine ⟨n.n, .inr (hv f0 hm), n.pos, fun z => ?_⟩
        have z2 : My.Bd v f0.2 := hv f0 hm
        have z3 := n.pos
        rw [z] at z2
        have : f0.2.natAbs < 1 := z2
        omega
    have pb60 : ∀ kq, My.Bd 60 (plc pts kq).2 := fun kq => by
      unfold plc
      rw [List.getD_eq_getElem?_getD]
      cases e : pts[kq]? with
      | none => exact (by decide : (1 : Int).natAbs < 2 ^ 60)
      | some f0 => exact (wl0.pt f0 (List.mem_iff_getElem?.mpr ⟨kq, e⟩)).b
    have pP : ∀ kq (e : Nat), My.Bd (v * e + 1) ((plc pts kq).2 ^ e) := fun kq e => by
      obtain ⟨_, h, _, h1⟩ := pB kq
      rcases h with h | h
      · rw [h1 h, Int.one_pow]
        exact (show My.Bd 1 1 from (by decide : (1 : Int).natAbs < 2 ^ 1)).mono (by omega)
      · have := pow_bd h e
        rwa [Nat.mul_comm] at this
    walk_at "f"
    refine My.new (My.sz (by simp)) fun c0 nc0 => ?_
    have s1 := same_new (o := HO.tup [V.int 0, V.int 1]) nc0
    refine My.gtup2 (SqT.of upd_same) rfl ?_
    have hb1 : upd H c0 (.tup [V.int 0, V.int 1]) b = some (.dT (kvI m)) := s1 _ _ hb
    generalize upd H c0 (.tup [V.int 0, V.int 1]) = H1 at s1 hb1 ⊢
    walk_at "f"
    refine My.lockS hb1 True.intro fun od => ?_
    have hl1 := upd_same (H := H1) (a := b) (o := HO.frz od (.dT (kvI m)))
    have lk := fun {H' : Hp} (s : Same (upd H1 b (.frz od (.dT (kvI m)))) H') => same_lock hb1 s
    have keep : ∀ c o, c ≠ b → H c = some o → upd H1 b (.frz od (.dT (kvI m))) c = some o := fun c o n e => by rw [upd_ne n]; exact s1 _ _ e
    have lb : l ≠ b := fun z => by have e : H b = some (.dT (kvI m)) := hb; rw [z, e] at hl; cases hl
    have hll := keep _ _ lb hl
    have hfl := Paired.mapP hf fun c f' (z : FraAt H c f') => (keep c _ (fun g => by have e : H b = some (.dT (kvI m)) := hb; have z' : H c = _ := z; rw [g, e] at z'; cases z') z : FraAt (upd H1 b (.frz od (.dT (kvI m)))) c f')
    generalize upd H1 b (.frz od (.dT (kvI m))) = Hl at hl1 lk hll hfl ⊢
    refine My.forKT rfl rfl hl1 (fun j σ' H' => ∃ (u4 u5 u6 u7 u8 : Option V), σ' = [some (.ref b), some (.ref l), some (.int (BM.fr ((m.take j).map (wrt pts))).1), some (.int (BM.fr ((m.take j).map (wrt pts))).2), u4, u5, u6, u7, u8] ∧ Same Hl H' ∧ My.Bd (34000 * j + 1) (BM.fr ((m.take j).map (wrt pts))).1 ∧ My.Bd (W * j + 1) (BM.fr ((m.take j).map (wrt pts))).2 ∧ 0 < (BM.fr ((m.take j).map (wrt pts))).2) ⟨none, none, none, none, none, rfl, .refl _, My.Bd.zero, (show (1 : Int).natAbs < 2 ^ 1 by decide), (show (0 : Int) < 1 by decide)⟩ (fun i σ' H' _ ⟨_, _, _, _, _, _, s', _⟩ => s' _ _ hl1) ?_ ?_
    · rintro j kk v q σ' H4 ek hq ⟨u4, u5, u6, u7, u8, rfl, s4, B1, B2, B3⟩
      obtain ⟨li, c, em, rfl, rfl⟩ := kvI_get ek
      have hmem := List.mem_iff_getElem?.mpr ⟨j, em⟩
      have gv := getP_at lp.nd em
      have l4 := lp.len _ hmem
      have cb := lp.bd _ hmem
      have jm := (List.getElem?_eq_some_iff.mp em).1
      simp only at l4 cb
      have tl := hW _ hmem
      have wj : W * j + W ≤ 8900 := by
        have := Nat.mul_le_mul_left W (show j + 1 ≤ m.length by omega)
        have lim := wl0.lim
        rw [Nat.mul_succ, Nat.mul_comm W m.length] at this
        omega
      have wj2 : W * (j + 1) = W * j + W := Nat.mul_succ _ _
      generalize W * j = Wj at wj wj2 B2
      rw [wj2]
      simp only at tl
      have wl : ∀ kq, 0 ≤ li.getD kq 0 ∧ li.getD kq 0 ≤ 60 := fun kq => by
        rw [List.getD_eq_getElem?_getD]
        cases e : li[kq]? with
        | none => exact ⟨Int.le_refl 0, (by decide : (0 : Int) ≤ 60)⟩
        | some y => exact lp.wi _ hmem y (List.mem_iff_getElem?.mpr ⟨kq, e⟩)
      have efr : BM.fr ((m.take (j + 1)).map (wrt pts)) = ((BM.fr ((m.take j).map (wrt pts))).1 * wbK pts li 4 + c * wnK pts li 4 * (BM.fr ((m.take j).map (wrt pts))).2, (BM.fr ((m.take j).map (wrt pts))).2 * wbK pts li 4) := by
        rw [List.take_succ, em, List.map_append]
        unfold BM.fr
        rw [List.foldl_append]; rfl
      rw [efr]
      generalize BM.fr ((m.take j).map (wrt pts)) = R at B1 B2 B3 ⊢
      have hb4 := s4 _ _ hl1
      walk_at "f"
      refine ⟨b, .int c, rfl, .inr ⟨kvI m, ik li, q, .inr ⟨od, hb4⟩, rfl, hq, by rw [valV_kvI, gv]; rfl⟩, ?_⟩
      walk_at "f"
      refine My.rngI (by omega) (by omega) (fun kq σ' H' => ∃ (v0 v1 : Option V), σ' = [some (.ref b), some (.ref l), some (.int R.1), some (.int R.2), some (.ref q), some (.int (c * wnK pts li kq)), some (.int (wbK pts li kq)), v0, v1] ∧ Same H4 H' ∧ My.Bd (1000 + 6001 * kq) (c * wnK pts li kq) ∧ My.Bd (v * totN (li.map Int.toNat) kq + kq + 1) (wbK pts li kq) ∧ 0 < wbK pts li kq) ⟨u7, u8, ?_, .refl _, ?_, (show (1 : Int).natAbs < 2 ^ 1 by decide), (show (0 : Int) < 1 by decide)⟩ ?_ ?_
      · rw [show c * wnK pts li 0 = c from Int.mul_one c]; rfl
      · rw [show c * wnK pts li 0 = c from Int.mul_one c]; exact cb
      · rintro kq σ' H5 hk ⟨v0, v1, rfl, s5, C1, C2, C3⟩
        have s45 := s4.trans s5
        have k4 : kq < 4 := by omega
        obtain ⟨P1, _, P3, _⟩ := pB kq
        have ez : (0 : Int) + (kq : Int) = (kq : Int) := Int.zero_add _
        have fll : fs.length = pts.length := fl
        refine My.name rfl (My.seq (My.asg (My.cutV (fun v H' => ∃ t, v = .ref t ∧ FraAt H' t (plc pts kq) ∧ Same H5 H') (fun Q' hQ => ?_) ?_)))
        · rw [ez]
          walk_at "f"
          refine My.lenL (SqL.of (s45 _ _ hll)) ?_
          rw [List.length_map, fll]
          walk_at "f"
          · rename_i hlt
            obtain ⟨t, et⟩ : ∃ t, fs[kq]? = some t := ⟨_, List.getElem?_eq_getElem (by omega)⟩
            obtain ⟨f0, ef, ht⟩ := My.pget hfl et
            refine My.ixL (v := .ref t) (SqL.of (s45 _ _ hll)) (atI_nat (by rw [List.getElem?_map, et]; rfl)) ?_
            refine hQ _ _ ⟨t, rfl, ?_, .refl _⟩
            have ep : plc pts kq = f0 := by unfold plc; rw [List.getD_eq_getElem?_getD, ef]; rfl
            rw [ep]
            exact s45 _ _ ht
          · rename_i hge
            refine My.new (My.sz (by simp)) fun t nt => ?_
            have ep : plc pts kq = (0, 1) := by unfold plc; rw [List.getD_eq_getElem?_getD, List.getElem?_eq_none (by omega)]; rfl
            refine hQ _ _ ⟨t, rfl, ?_, same_new nt⟩
            rw [ep]
            exact upd_same
        · rintro v H6 ⟨t, rfl, ht, s6⟩
          have hq6 : H6 q = some (.tup (li.map V.int)) := by rw [← ik_kV]; exact s6 _ _ (s5 _ _ hq)
          have s46 := s45.trans s6
          obtain ⟨w0, w1⟩ := wl kq
          have ep : li.getD kq 0 = (((li.getD kq 0).toNat : Nat) : Int) := (Int.toNat_of_nonneg w0).symm
          have gq : atI (li.map V.int) (kq : Int) = some (.int (li.getD kq 0)) := atI_nat (by rw [List.getElem?_map, List.getD_eq_getElem?_getD, List.getElem?_eq_getElem (show kq < li.length by omega)]; rfl)
          rw [ez]
          walk_at "f"
          refine My.ixT (v := .int (plc pts kq).1) (SqT.of ht) (by rfl) ?_
          walk_at "f"
          refine My.ixT (SqT.of hq6) gq ?_
          walk_at "f"
          refine ⟨(plc pts kq).1, (li.getD kq 0).toNat, 100, by rw [← ep]; rfl, P1, by omega, by omega, ?_⟩
          have p1 := (pow_bd P1 (li.getD kq 0).toNat).mono (show (li.getD kq 0).toNat * 100 + 1 ≤ 6001 by omega)
          have p2 := pP kq (li.getD kq 0).toNat
          have ej2 : (li.map Int.toNat).getD kq 0 = (li.getD kq 0).toNat := getD_toNat li kq
          have ts1 : v * totN (li.map Int.toNat) (kq + 1) = v * totN (li.map Int.toNat) kq + v * (li.getD kq 0).toNat := by rw [totN_succ, ej2, Nat.mul_add]
          have tle : v * totN (li.map Int.toNat) (kq + 1) ≤ v * totN (li.map Int.toNat) 4 := Nat.mul_le_mul_left _ (tot_le _ (by omega) (Nat.le_refl _))
          have p3 := BM.pow_pos P3 (li.getD kq 0).toNat
          refine My.mulWk C1 p1 (by omega) ?_
          walk_at "f"
          refine My.ixT (v := .int (plc pts kq).2) (SqT.of ht) (by rfl) ?_
          walk_at "f"
          refine My.ixT (SqT.of hq6) gq ?_
          walk_at "f"
          refine ⟨(plc pts kq).2, (li.getD kq 0).toNat, 60, by rw [← ep]; rfl, pb60 kq, by omega, by omega, ?_⟩
          refine My.mulWk C2 p2 (by omega) ?_
          walk_at "f"
          have e1 : c * wnK pts li (kq + 1) = c * wnK pts li kq * (plc pts kq).1 ^ (li.getD kq 0).toNat := by
            rw [Int.mul_assoc]; rfl
          have e2 : wbK pts li (kq + 1) = wbK pts li kq * (plc pts kq).2 ^ (li.getD kq 0).toNat := rfl
          rw [e1, e2]
          exact ⟨_, _, rfl, s5.trans s6, (C1.mul p1).mono (by omega), (C2.mul p2).mono (by omega), Int.mul_pos C3 p3⟩
      · rintro σ' H5 ⟨v0, v1, rfl, s5, C1, C2, C3⟩
        have C1 : My.Bd 25004 (c * wnK pts li 4) := C1
        have C2 : My.Bd W (wbK pts li 4) := C2.mono (show v * totN (li.map Int.toNat) 4 + 4 + 1 ≤ W by omega)
        have C3 : 0 < wbK pts li 4 := C3
        show _
        walk_at "f"
        refine My.mulWk (i := R.1) (j := wbK pts li 4) B1 C2 (by omega) ?_
        walk_at "f"
        refine My.mulWk (i := c * wnK pts li 4) (j := R.2) C1 B2 (by omega) ?_
        walk_at "f"
        refine My.mulWk (i := R.2) (j := wbK pts li 4) B2 C2 (by omega) ?_
        walk_at "f"
        refine ⟨_, _, _, _, _, rfl, s4.trans s5, ?_, (B2.mul C2).mono (by omega), Int.mul_pos B3 C3⟩
        exact My.Bd.add (n := 34000 * j + 34000) ((B1.mul C2).mono (by omega)) ((C1.mul B2).mono (by omega))
    · rintro σ' H4 ⟨u4, u5, u6, u7, u8, rfl, s4, B1, B2, B3⟩
      rw [kvI_len, List.take_length] at B1 B2 B3 ⊢
      have lim := wl0.lim
      rw [Nat.mul_comm] at lim
      refine ⟨s4 _ _ hl1, ?_⟩
      have s5 := s1.trans (lk s4)
      generalize upd H4 b (HO.dT (kvI m)) = H5 at s5 ⊢
      walk_at "f"
      refine ⟨_, _, rfl, B3, B2.mono (by omega), fun p np => ?_⟩
      exact k p _ (s5.trans (same_new np)) upd_same B3 (B1.mono (by omega))
end
end K25

set_option Elab.async false
set_option linter.all false
set_option maxRecDepth 100000
set_option maxHeartbeats 4000000
namespace My
open PySem PySem.Spec PyProof.Rows L2 DX
def FS (x : Str) (g : TG) (tb : TS) (D : Ends) (σ : L2.St) (H1 : Hp) : Prop := ∃ W : Nat → Nat → L2.St → Hp → Prop, (∃ m, W 0 m σ H1) ∧ ∀ i' m σ H, W i' m σ H →
  ((Its x).stop i' H ∧ D.nx σ H) ∨ ((Its x).go i' H ∧ ∃ N : L2.St → Hp → Prop, (∀ σ' H', N σ' H' → ∃ m', m' < m ∧ W (i' + 1) m' σ' H') ∧ ∀ v H', (Its x).yld i' H v H' → g v σ H' fun σ2 H2 => tb { D with nx := N, ct := N, bk := D.nx } σ2 H2)
section
variable {σ : L2.St} {H : Hp} {Q : VK} {te : TE} {D : Ends} {g : TG} {tb : TS}
theorem forS1 (h : te σ H fun v H1 => ∃ x, v = .str x ∧ FS x g tb D σ H1) : tFor (iStr te) g tb D σ H := h
theorem forS {x : Str} (Pv : Nat → L2.St → Hp → Prop) (h0 : Pv 0 σ H)
    (hs : ∀ i c σ H, x.cps[i]? = some c → Pv i σ H → g (.str ⟨#[c]⟩) σ H fun σ2 H2 => tb { D with nx := Pv (i + 1), ct := Pv (i + 1), bk := D.nx } σ2 H2) (he : ∀ σ H, Pv x.cps.size σ H → D.nx σ H) : FS x g tb D σ H :=
  for_it walk_str Pv h0 (fun _ _ _ _ _ => True.intro) (fun i v σ H H' hi p y => by
    obtain ⟨rfl, c, e1, rfl⟩ := y
    exact hs i c σ H' e1 p) he
theorem fmtB1 (h : te σ H fun x H1 => ∃ n : Nat, x = .int (n : Int) ∧ (binS n).length ≤ sizeLine ∧ Q (.str (binS n)) H1) : tFmtB te σ H Q := h
theorem eqS {x y : Str} {A : Hp} {Q : VK} (q : Q (.bl (decide (x = y))) A) : rEq (.str x) (.str y) A Q := ⟨rfl, by
  have e : decide (V.str x = V.str y) = decide (x = y) := by
    by_cases z : x = y
    · rw [z, decide_eq_true rfl, decide_eq_true rfl]
    · rw [decide_eq_false z, decide_eq_false fun g => z (V.str.inj g)]
  rw [e]; exact q⟩
end
end My
namespace K25
open PySem PySem.Spec PyProof.Rows L2 XV DX
def spNumR : Sp := fun vs H Q _ => ∃ (b : Int) (n B : Nat), vs = [.int b, .int (n : Int)] ∧ My.Bd B b ∧ n ≤ 1000 ∧ (n + 1) * B ≤ 400000 ∧ Q (.int (b ^ n)) H
def oneS (c : Nat) : Str := ⟨#[c]⟩
theorem one_dec {c : Nat} : decide ((⟨#[c]⟩ : Str) = ⟨#[49]⟩) = decide (c = 49) := by
  by_cases h : c = 49
  · rw [h]; rfl
  · rw [decide_eq_false h, decide_eq_false fun z => h (by injection z with z; injection z with z; injection z)]
section
variable {P : Program} {w : World} {K : PySem.W.Frag} {mg : Str → Option Value} {base : Heap}
theorem sc_number_raised : FnScope ["base", "many", "found", "bit"] ["base", "many"] (defScope s_number_raised) := ⟨rfl, rfl, rfl, by decide +kernel, rfl, by decide +kernel, by decide +kernel⟩
theorem cal_number_raised {f : Addr} {fd : FuncData} (F : FnP K "number_raised" "number_raised" s_number_raised f fd) (g : mg "number_raised" = some (.ref f)) (T : Txt0 mg) : Cal P w K mg base "number_raised" 1 ["base", "many"] spNumR := by
  refine ⟨f, fd, g, ?_, F.bindsN (fun _ _ _ _ _ _ us hl => match us, hl with | [_, _], _ => rfl), F.kp⟩
  refine F.ok sc_number_raised (fun vs H Q E h => ?_) (fun cdv A outer s H vs Q E hr h => ?_)
  · obtain ⟨b, n, B, rfl, bx, hn, hB, k⟩ := h
    rfl
  · obtain ⟨b, n, B, rfl, bx, hn, hB, k⟩ := h
    refine ⟨_, PSs.nox (pss_cons (ps_set (i := 2) sc_number_raised.nd rfl (Or.inl rfl) pe_int)
      (pss_cons (ps_for PassesOwn.never rfl (pi_str (pe_joined1 (DX.pe_fmtB (pv 1)))) (pg_name (i := 3) sc_number_raised.nd rfl (Or.inl rfl))
       (pss_cons (ps_set (i := 2) sc_number_raised.nd rfl (Or.inl rfl) (pe_op op_mulW (pv 2) (pv 2)))
      (pss_one (ps_if (pt_cmpR op_eq (pv 3) pe_str (nomark _))
       (pss_one (ps_set (i := 2) sc_number_raised.nd rfl (Or.inl rfl) (pe_op op_mulW (pv 2) (pv 0))))
       pss_nil))))
      (pss_one (ps_ret (pv 2))))), ?_⟩
    try dsimp only [cxOf, Cx.nox, Cx.wish]
    have hl := bin_len n
    obtain ⟨r1, r2⟩ := bin_read n
    have cl : (binS n).cps.toList = (Nat.toDigits 2 n).map Char.toNat := by unfold binS; rw [List.toList_toArray]
    walk_at "f"
    refine My.forS1 ?_
    refine My.fmtB1 ?_
    walk_at "f"
    refine ⟨n, rfl, Nat.le_trans hl (by rw [sizeLine_eq]; omega), _, rfl, ?_⟩
    have ij : ∀ i, binF 0 (((Nat.toDigits 2 n).map Char.toNat).take i) ≤ n := fun i => by
      have := binF_take ((Nat.toDigits 2 n).map Char.toNat) i 0
      rwa [r1] at this
    have pb : ∀ e, e ≤ n → My.Bd (n * B + 1) (b ^ e) := fun e he => (pow_bd bx e).mono (by have := Nat.mul_le_mul_right B he; omega)
    have nB : n * B + B ≤ 400000 := by rw [← Nat.succ_mul]; exact hB
    refine My.forS (fun i σ' H' => H' = H ∧ ∃ u, σ' = [some (.int b), some (.int (n : Int)), some (.int (b ^ binF 0 (((Nat.toDigits 2 n).map Char.toNat).take i))), u]) ⟨rfl, none, by rw [List.take_zero, show binF 0 [] = 0 from rfl, Int.pow_zero]; rfl⟩ ?_ ?_
    · rintro i c σ' H' hc ⟨rfl, u, rfl⟩
      have hc' : ((Nat.toDigits 2 n).map Char.toNat)[i]? = some c := by rw [← cl, Array.getElem?_toList]; exact hc
      have e1 : ((Nat.toDigits 2 n).map Char.toNat).take (i + 1) = ((Nat.toDigits 2 n).map Char.toNat).take i ++ [c] := by rw [List.take_succ, hc']; rfl
      have h2 := ij (i + 1)
      have e2 : b ^ binF 0 (((Nat.toDigits 2 n).map Char.toNat).take (i + 1)) = if c = 49 then b ^ binF 0 (((Nat.toDigits 2 n).map Char.toNat).take i) * b ^ binF 0 (((Nat.toDigits 2 n).map Char.toNat).take i) * b else b ^ binF 0 (((Nat.toDigits 2 n).map Char.toNat).take i) * b ^ binF 0 (((Nat.toDigits 2 n).map Char.toNat).take i) := by
        rw [e1, binF_snoc]
        split
        · rw [← Int.pow_add, ← Int.pow_succ]; congr 1; omega
        · rw [← Int.pow_add]; congr 1; omega
      rw [e1, binF_snoc] at h2
      rw [e2]
      generalize hE : binF 0 (((Nat.toDigits 2 n).map Char.toNat).take i) = E at h2 ⊢
      have p1 := pb E (by omega)
      walk_at "f"
      refine My.mulW p1 p1 (by omega) ?_
      walk_at "f"
      refine My.eqS ?_
      rw [show (Str.ofString "1" : Str) = ⟨#[49]⟩ from rfl, one_dec]
      walk_at "f"
      · rename_i h
        have p2 : My.Bd (n * B + 1) (b ^ E * b ^ E) := by rw [← Int.pow_add]; exact pb _ (by omega)
        refine My.mulW p2 bx (by omega) ?_
        walk_at "f"
        exact ⟨rfl, _, by rw [if_pos h]; rfl⟩
      · rename_i h
        exact ⟨rfl, _, by rw [if_neg h]; rfl⟩
    · rintro σ' H' ⟨rfl, u, rfl⟩
      have : ((Nat.toDigits 2 n).map Char.toNat).take (binS n).cps.size = (Nat.toDigits 2 n).map Char.toNat := by
        rw [← cl, ← Array.length_toList, List.take_length]
      rw [this, r1]
      walk_at "f"
      exact k
end
end K25

set_option Elab.async false
set_option linter.all false
set_option maxRecDepth 100000
set_option maxHeartbeats 4000000
namespace My
open PySem PySem.Spec PyProof.Rows L2 DX
section
variable {K : PySem.W.Frag} {td te : TE} {g : TG} {tt : TT} {vs : List Nat} {σ : L2.St} {H : Hp} {Q : VK}
def CTp (K : PySem.W.Frag) (x : V) (g : TG) (tt : TT) (te : TE) (vs : List Nat) (σ : L2.St) (Q : VK) (H1 : Hp) : Prop := ∃ a, x = .ref a ∧ (∃ xs, SqT K H1 a xs) ∧ LJ (Itt K a) g tt te vs σ Q H1
theorem lcTe1 (h : td σ H fun x H1 => CTp K x g tt te vs σ Q H1) : tLc (iTup K td) g tt te vs σ H Q := h
theorem lcTe2 {a : Addr} {xs : List V} (ha : SqT K H a xs) (h : LJ (Itt K a) g tt te vs σ Q H) : CTp K (.ref a) g tt te vs σ Q H := ⟨a, rfl, ⟨_, ha⟩, h⟩
end
end My
namespace K25
open PySem PySem.Spec PyProof.Rows L2 XV DX
def spUnk (K : PySem.W.Frag) : Sp := fun vs H Q _ => ∃ (v : V) (t : Tg), vs = [v] ∧ TgV K H v t ∧ Q (.bl (inTo 3 v)) H
def spBnd : Sp := fun vs H Q _ => ∃ i : Int, vs = [.int i] ∧ Q (.bl (decide (1 ≤ i))) H
def spDeg (C : Addr) : Sp := fun vs H Q _ => ∃ (a : Addr) (ts : Pol) (k : Nat), vs = [.ref a, .int (k : Int)] ∧ PolyAt C H a ts ∧ k < 4 ∧ (∀ p ∈ ts, p.1.length = 4) ∧ ts.length ≤ 1000 ∧ ∀ H', Same H H' → Q (.int (mx 0 (colP ts k))) H'
def spWithP : Sp := fun vs H Q _ => ∃ (q : Addr) (l : List Int) (k : Nat) (x : Int), vs = [.ref q, .int (k : Int), .int x] ∧ KAt H q l ∧ l.length = 4 ∧ k < 4 ∧ ∀ p H', Same H H' → KAt H' p (l.set k x) → Q (.ref p) H'
def spPolyW (C : Addr) : Sp := fun vs H Q _ => ∃ (t : Addr) (ts : Pol), vs = [.ref t] ∧ TermsAt H t ts ∧ ∀ a H', Same H H' → PolyAt C H' a ts → Q (.ref a) H'
/-- counts that are gathered -/
structure Gp (m : Pol) : Prop where
  nd : (keysP m).Nodup
  len : ∀ p ∈ m, p.1.length = 4
  wi : ∀ p ∈ m, ∀ e ∈ p.1, 0 ≤ e ∧ e ≤ 60
  few : m.length ≤ 60
def spGath (C : Addr) : Sp := fun vs H Q _ => ∃ (d : Addr) (m : Pol), vs = [.ref d] ∧ PolD H d m ∧ Gp m ∧ ∀ a H' ts, Same H H' → PolyAt C H' a ts → ts.Perm (nzP m) → Q (.ref a) H'
theorem nz_perm2 {m : Pol} {ks : List (List Int)} (o : Gp m) (pe : ks.Perm (keysP m)) : (nzP (tsOf m ks)).Perm (nzP m) := by
  have z := pe.map fun k => (k, (getP m k).getD 0)
  have e := tsOf_keys (m := m) o.nd
  unfold tsOf at e
  rw [e] at z
  exact z.filter _
section
variable {P : Program} {w : World} {K : PySem.W.Frag} {mg : Str → Option Value} {base : Heap}
theorem sc_is_unknown : FnScope ["thing"] ["thing"] (defScope s_is_unknown) := ⟨rfl, rfl, rfl, by decide +kernel, rfl, by decide +kernel, by decide +kernel⟩
theorem cal_is_unknown {f : Addr} {fd : FuncData} (F : FnP K "is_unknown" "is_unknown" s_is_unknown f fd) (g : mg "is_unknown" = some (.ref f)) (T : Txt0 mg) (C_is_number_to : Cal P w K mg base "is_number_to" 2 ["most", "thing"] (spNumTo K)) {tU : Tok} (gUNK : mg "UNKNOWNS" = some (.int 4 tU)) : Cal P w K mg base "is_unknown" 3 ["thing"] (spUnk K) := by
  obtain ⟨f_is_number_to, fd_is_number_to, g_is_number_to, G_is_number_to, b_is_number_to, k_is_number_to⟩ := C_is_number_to
  refine ⟨f, fd, g, ?_, F.bindsN (fun _ _ _ _ _ _ us hl => match us, hl with | [_], _ => rfl), F.kp⟩
  refine F.ok sc_is_unknown (fun vs H Q E h => ?_) (fun cdv A outer s H vs Q E hr h => ?_)
  · obtain ⟨v, t, rfl, tv, k⟩ := h
    rfl
  · obtain ⟨v, t, rfl, tv, k⟩ := h
    refine ⟨_, PSs.nox (pss_one (ps_ret (pe_call G_is_number_to (hr.mono (by decide)) (by rfl) g_is_number_to k_is_number_to b_is_number_to .nil pass0 (pa_cons (pe_op op_sub (pe_glob (v := .int 4) (by rfl) gUNK ⟨_, rfl⟩) pe_int) (pa_cons (pv 0) pa_nil))))), ?_⟩
    try dsimp only [cxOf, Cx.nox, Cx.wish]
    walk_at "f"
    exact ⟨3, v, t, rfl, tv, k⟩
theorem sc_is_bound : FnScope ["thing"] ["thing"] (defScope s_is_bound) := ⟨rfl, rfl, rfl, by decide +kernel, rfl, by decide +kernel, by decide +kernel⟩
theorem cal_is_bound {f : Addr} {fd : FuncData} (F : FnP K "is_bound" "is_bound" s_is_bound f fd) (g : mg "is_bound" = some (.ref f)) (T : Txt0 mg) (C_is_integer : Cal P w K mg base "is_integer" 1 ["thing"] (spIsInt K)) : Cal P w K mg base "is_bound" 2 ["thing"] spBnd := by
  obtain ⟨f_is_integer, fd_is_integer, g_is_integer, G_is_integer, b_is_integer, k_is_integer⟩ := C_is_integer
  refine ⟨f, fd, g, ?_, F.bindsN (fun _ _ _ _ _ _ us hl => match us, hl with | [_], _ => rfl), F.kp⟩
  refine F.ok sc_is_bound (fun vs H Q E h => ?_) (fun cdv A outer s H vs Q E hr h => ?_)
  · obtain ⟨i, rfl, k⟩ := h
    rfl
  · obtain ⟨i, rfl, k⟩ := h
    refine ⟨_, PSs.nox (pss_one (ps_ret (pe_and (pe_call G_is_integer (hr.mono (by decide)) (by rfl) g_is_integer k_is_integer b_is_integer .nil pass0 (pa_cons (pv 0) pa_nil)) (pe_one (pe_cmpR op_ge (pv 0) pe_int (nomark _)))))), ?_⟩
    try dsimp only [cxOf, Cx.nox, Cx.wish]
    walk_at "f"
    refine ⟨_, .int, rfl, .int i, ?_⟩
    refine ⟨_, rfl, ?_⟩
    refine My.ite_ct rfl ?_
    walk_at "f"
    exact k
theorem sc_degree : FnScope ["poly", "k", "powers", "_"] ["poly", "k"] (defScope s_degree) := ⟨rfl, rfl, rfl, by decide +kernel, rfl, by decide +kernel, by decide +kernel⟩
theorem cal_degree {f : Addr} {fd : FuncData} {C fI fE : Addr} (F : FnP K "degree" "degree" s_degree f fd) (g : mg "degree" = some (.ref f)) (T : Txt0 mg) (C_is_unknown : Cal P w K mg base "is_unknown" 3 ["thing"] (spUnk K)) (PT : PolF K mg C fI fE) : Cal P w K mg base "degree" 4 ["poly", "k"] (spDeg C) := by
  obtain ⟨f_is_unknown, fd_is_unknown, g_is_unknown, G_is_unknown, b_is_unknown, k_is_unknown⟩ := C_is_unknown
  refine ⟨f, fd, g, ?_, F.bindsN (fun _ _ _ _ _ _ us hl => match us, hl with | [_, _], _ => rfl), F.kp⟩
  refine F.ok sc_degree (fun vs H Q E h => ?_) (fun cdv A outer s H vs Q E hr h => ?_)
  · obtain ⟨a, ts, k, rfl, hp, hk, h4, hl, q⟩ := h
    rfl
  · obtain ⟨a, ts, k, rfl, hp, hk, h4, hl, q⟩ := h
    refine ⟨_, PSs.nox (pss_cons (ps_if (pt_not (pt_val (pe_call G_is_unknown (hr.mono (by decide)) (by rfl) g_is_unknown k_is_unknown b_is_unknown .nil pass0 (pa_cons (pv 1) pa_nil))))
       (pss_one ps_never)
       pss_nil)
      (pss_one (ps_ret (pe_callBK (DX.cr_maxDf rfl (Nat.lt_of_le_of_lt (Nat.add_le_add_left (by decide) _) hr.units)) (by rfl) T.max (by decide +kernel) (pa_cons (pe_lc (own := [("powers", 2), ("_", 3)]) (tt := tYes) (te := tOp (rIxT K) (tVar 2) (tVar 1)) (g := gTup K 2 (gCons (gName 2) (gCons (gName 3) gNil))) (by rfl) sc_degree.nd (pi_tup (pe_fld (pv 0) rfl)) (blkOk_by (own := [("powers", 2), ("_", 3)]) (N := ["poly", "k", "powers", "_"]) (sc := (defScope s_degree)) (by decide +kernel)) (fun _ _ _ _ _ => (pg_tup (by rfl) (pgs_cons (pg_name (i := 2) sc_degree.nd rfl (Or.inl rfl)) (pgs_cons (pg_name (i := 3) sc_degree.nd rfl (Or.inl rfl)) pgs_nil)))) (fun _ _ _ _ _ => pts_nil) (fun _ _ _ _ _ => (pe_ix ix_tup (pv 2) (pv 1) (fun _ _ => rfl)))) pa_nil) (pk_cons pe_int pk_nil))))), ?_⟩
    try dsimp only [cxOf, Cx.nox, Cx.wish]
    obtain ⟨dx, t, ha, ht⟩ := id hp
    obtain ⟨rs, ht1, ht2⟩ := id ht
    have hrl := My.plen ht2
    walk_at "f"
    refine ⟨_, .int, rfl, .int _, ?_⟩
    rw [show inTo 3 (.int (k : Int)) = true by show (decide (0 ≤ (k : Int)) && decide ((k : Int) ≤ 3)) = true; rw [decide_eq_true (by omega), decide_eq_true (by omega)]; rfl]
    walk_at "f"
    refine My.lcTe1 ?_
    refine My.fld ha PT.ins.cl PT.na (by rfl) rfl ?_
    refine My.lcTe2 (SqT.of ht1) (My.lcM (walk_tup (xs := rs.map V.ref)) Same (by rw [List.length_map]; omega) (fun D hD => same_new hD) fun D2 nD2 => ⟨fun j y H => ∃ p, ts[j]? = some p ∧ y = .int (p.1.getD k 0), fun j y H ys o _ h => h, fun H o s => same_at s nD2, fun H2 _ s _ => My.same_seqT s ht1, ?_, ?_⟩)
    · rintro j x H4 H5 zs N2 hj r2 e2 l2 p2 ⟨rfl, ex⟩ hN2
      rw [List.getElem?_map] at ex
      cases er : rs[j]? with
      | none => rw [er] at ex; cases ex
      | some a' =>
        rw [er] at ex
        cases Option.some.inj ex
        obtain ⟨⟨kk, c⟩, ep, q', g1, g2⟩ := My.pget ht2 er
        refine My.gtup2 (SqT.of (r2 _ _ g1)) rfl ?_
        refine ⟨rfl, ?_⟩
        walk_at "f"
        have hk4 := h4 _ (List.mem_iff_getElem?.mpr ⟨j, ep⟩)
        have hik : (kk.map V.int)[k]? = some (V.int (kk.getD k 0)) := by
          rw [List.getElem?_map, List.getElem?_eq_getElem (show k < kk.length by rw [hk4]; exact hk), List.getD_eq_getElem?_getD, List.getElem?_eq_getElem (show k < kk.length by rw [hk4]; exact hk)]
          rfl
        refine My.ixT (SqT.of (r2 _ _ g2)) (atI_nat hik) ?_
        exact hN2 _ _ r2 e2 p2 ⟨_, ep, rfl⟩
    · intro H4 zs hD2 hl2 r2 hz
      have ez : zs = (colP ts k).map V.int := by
        refine List.ext_getElem? fun j => ?_
        rw [List.getElem?_map, colP, List.getElem?_map]
        by_cases hj : j < zs.length
        · obtain ⟨p, e1, e2⟩ := hz j _ (List.getElem?_eq_getElem hj)
          rw [List.getElem?_eq_getElem hj, e1, e2]; rfl
        · rw [List.getElem?_eq_none (by omega), List.getElem?_eq_none (by rw [List.length_map] at hl2; omega)]; rfl
      walk_at "f"
      rw [ez] at hD2
      refine ⟨D2, colP ts k, 0, rfl, rfl, SqL.of hD2, ?_⟩
      exact q _ r2
theorem sc_with_power : FnScope ["powers", "k", "high"] ["powers", "k", "high"] (defScope s_with_power) := ⟨rfl, rfl, rfl, by decide +kernel, rfl, by decide +kernel, by decide +kernel⟩
theorem cal_with_power {f : Addr} {fd : FuncData} (F : FnP K "with_power" "with_power" s_with_power f fd) (g : mg "with_power" = some (.ref f)) (T : Txt0 mg) : Cal P w K mg base "with_power" 1 ["powers", "k", "high"] spWithP := by
  refine ⟨f, fd, g, ?_, F.bindsN (fun _ _ _ _ _ _ us hl => match us, hl with | [_, _, _], _ => rfl), F.kp⟩
  refine F.ok sc_with_power (fun vs H Q E h => ?_) (fun cdv A outer s H vs Q E hr h => ?_)
  · obtain ⟨q, l, k, x, rfl, hq, h4, hk, kk⟩ := h
    rfl
  · obtain ⟨q, l, k, x, rfl, hq, h4, hk, kk⟩ := h
    refine ⟨_, PSs.nox (pss_one (ps_ret (pe_op op_catA (pe_op op_catA (pe_slice sl_tupA (pv 0) po_none (po_some (pv 1))) (pe_tup (pa_cons (pv 2) pa_nil))) (pe_slice sl_tupA (pv 0) (po_some (pe_op op_add (pv 1) pe_int)) po_none)))), ?_⟩
    try dsimp only [cxOf, Cx.nox, Cx.wish]
    have e : l.set k x = l.take k ++ [x] ++ l.drop (k + 1) := by
      rw [List.set_eq_take_append_cons_drop, if_pos (by omega)]; simp
    walk_at "f"
    refine My.slA hq fun q1 H1 s1 h1 => ?_
    rw [cut_take (by rw [List.length_map]; omega), ← List.map_take] at h1
    walk_at "f"
    refine My.new (My.sz (by simp)) fun q2 n2 => ?_
    have s2 := same_new (o := HO.tup [V.int x]) n2
    refine My.catA (s2 _ _ h1) upd_same (by rw [List.length_map, List.length_take]; simp; omega) fun q3 H3 s3 h3 => ?_
    have s4 := (s1.trans s2).trans s3
    walk_at "f"
    refine My.slA (s4 _ _ hq) fun q4 H4 s5 h5 => ?_
    rw [show ((k : Int) + 1) = ((k + 1 : Nat) : Int) by omega, cut_drop (by rw [List.length_map]; omega), ← List.map_drop] at h5
    refine My.catA (s5 _ _ h3) h5 (by rw [List.length_append, List.length_map, List.length_map, List.length_take, List.length_drop]; simp; omega) fun q5 H5 s6 h6 => ?_
    refine kk q5 H5 ((s4.trans s5).trans s6) ?_
    rw [e]
    show H5 q5 = _
    rw [h6, List.map_append, List.map_append]; rfl
theorem sc_poly_with : FnScope ["terms", "poly"] ["terms"] (defScope s_poly_with) := ⟨rfl, rfl, rfl, by decide +kernel, rfl, by decide +kernel, by decide +kernel⟩
theorem cal_poly_with {f : Addr} {fd : FuncData} {C fI fE : Addr} {fdI : FuncData} (F : FnP K "poly_with" "poly_with" s_poly_with f fd) (g : mg "poly_with" = some (.ref f)) (T : Txt0 mg) (PT : PolF K mg C fI fE) (G_Poly : FnOk P w K mg base CX0 5 fI fdI ["self", "terms"] (spPolyI C)) (b_Poly : L2.Binds K fdI ["self", "terms"] []) : Cal P w K mg base "poly_with" 7 ["terms"] (spPolyW C) := by
  refine ⟨f, fd, g, ?_, F.bindsN (fun _ _ _ _ _ _ us hl => match us, hl with | [_], _ => rfl), F.kp⟩
  refine F.ok sc_poly_with (fun vs H Q E h => ?_) (fun cdv A outer s H vs Q E hr h => ?_)
  · obtain ⟨t, ts, rfl, ht, q⟩ := h
    rfl
  · obtain ⟨t, ts, rfl, ht, q⟩ := h
    refine ⟨_, PSs.nox (pss_cons (ps_set (i := 1) sc_poly_with.nd rfl (Or.inl rfl) (pe_make PT.mkr G_Poly (hr.mono (by decide)) (by rfl) PT.g b_Poly .nil pass0 (pa_cons (pe_tup pa_nil) pa_nil)))
      (pss_cons (ps_fld (pv 1) (pv 0) rfl)
      (pss_one (ps_ret (pv 1))))), ?_⟩
    try dsimp only [cxOf, Cx.nox, Cx.wish]
    walk_at "f"
    refine My.new (My.sz (by simp)) fun t0 nt0 => ?_
    have s0 := same_new (o := HO.tup []) nt0
    have e0 := upd_same (H := H) (a := t0) (o := HO.tup [])
    generalize upd H t0 _ = H0 at s0 e0 ⊢
    intro x dx nx ndx nxd
    have sm : Same H0 (upd (upd H0 dx (HO.own x)) x (HO.ins C dx [])) := fun b o e => by
      rw [upd_ne (ne_of_none e nx), upd_ne (ne_of_none e ndx)]; exact e
    refine ⟨x, dx, t0, [], rfl, upd_same, ⟨[], sm _ _ e0, .nil⟩, ⟨(fun p h => nomatch h), (fun p h => nomatch h), Nat.zero_le _, List.Pairwise.nil⟩, fun H4 s4 => ⟨rfl, ?_⟩⟩
    have s5 : Same H0 (upd H4 x (HO.ins C dx [("terms", V.ref t0)])) := made_same nx ndx s4
    have ex := upd_same (H := H4) (a := x) (o := HO.ins C dx [("terms", V.ref t0)])
    have nx0 : H x = none := s0.free nx
    have s6 := s0.trans s5
    generalize upd H4 x _ = H5 at s6 ex ⊢
    refine My.fldS ex PT.ins.cl PT.na (by show 1 < 1000; decide) rfl rfl ?_
    walk_at "f"
    refine q x _ (fun b o e => by rw [upd_ne (ne_of_none e nx0)]; exact s6 _ _ e) ⟨dx, t, by rw [upd_same]; rfl, ?_⟩
    obtain ⟨rs, h1, h2⟩ := ht
    have kp : Same H (upd H5 x (HO.ins C dx (putF "terms" (V.ref t) [("terms", V.ref t0)]))) := fun b o e => by rw [upd_ne (ne_of_none e nx0)]; exact s6 _ _ e
    exact TermsAt.same kp ⟨rs, h1, h2⟩
theorem sc_gathered : FnScope ["counts", "powers"] ["counts"] (defScope s_gathered) := ⟨rfl, rfl, rfl, by decide +kernel, rfl, by decide +kernel, by decide +kernel⟩
theorem cal_gathered {f : Addr} {fd : FuncData} {C : Addr} (F : FnP K "gathered" "gathered" s_gathered f fd) (g : mg "gathered" = some (.ref f)) (T : Txt0 mg) (C_poly_with : Cal P w K mg base "poly_with" 7 ["terms"] (spPolyW C)) : Cal P w K mg base "gathered" 9 ["counts"] (spGath C) := by
  obtain ⟨f_poly_with, fd_poly_with, g_poly_with, G_poly_with, b_poly_with, k_poly_with⟩ := C_poly_with
  refine ⟨f, fd, g, ?_, F.bindsN (fun _ _ _ _ _ _ us hl => match us, hl with | [_], _ => rfl), F.kp⟩
  refine F.ok sc_gathered (fun vs H Q E h => ?_) (fun cdv A outer s H vs Q E hr h => ?_)
  · obtain ⟨d, m, rfl, hd, lp, q⟩ := h
    rfl
  · obtain ⟨d, m, rfl, hd, lp, q⟩ := h
    have hu := hu_of hr
    refine ⟨_, PSs.nox (pss_one (ps_ret (pe_call G_poly_with (hr.mono (by decide)) (by rfl) g_poly_with k_poly_with b_poly_with .nil pass0 (pa_cons (pe_tupleOf (by rfl) T.tuple (pe_lc (own := [("powers", 1)]) (te := tTup (tCons (tVar 1) (tCons (tDGet (tVar 0) (tVar 1)) tNil))) (by rfl) sc_gathered.nd (pi_list (pe_callB (DX.cr_sortDT rfl (d := 4) (B := 64) (by decide)) (by rfl) T.sorted (by decide +kernel) (pa_cons (pv 0) pa_nil))) (blkOk_by (own := [("powers", 1)]) (N := ["counts", "powers"]) (sc := (defScope s_gathered)) (by decide +kernel)) (fun _ _ _ _ _ => (pg_name (i := 1) sc_gathered.nd rfl (Or.inl rfl))) (fun _ _ _ _ _ => (pts_one (pt_cmpR op_ne (pe_dget hu (pv 0) (pv 1) (fun _ _ => rfl)) pe_int (nomark _)))) (fun _ _ _ _ _ => (pe_tup (pa_cons (pv 1) (pa_cons (pe_dget hu (pv 0) (pv 1) (fun _ _ => rfl)) pa_nil)))))) pa_nil)))), ?_⟩
    try dsimp only [cxOf, Cx.nox, Cx.wish]
    walk_at "f"
    have few := lp.few
    refine ⟨d, kvI m, keysP m, rfl, .inl hd, ?_, by unfold keysP; rw [List.length_map]; omega, fun kk hk => ?_, fun bs ks' p pe pw pr np => ?_⟩
    · unfold kvI keysP
      rw [List.map_map, List.map_map]; rfl
    · obtain ⟨q', hq, rfl⟩ := List.mem_map.mp hk
      exact ⟨lp.len q' hq, fun x hx => by have := lp.wi q' hq x hx; omega⟩
    have sp := same_new (o := HO.lst (bs.map V.ref)) np
    have hp := upd_same (H := H) (a := p) (o := HO.lst (bs.map V.ref))
    have hbk := My.plen pr
    have hkm : ks'.length = m.length := by rw [pe.length_eq]; unfold keysP; rw [List.length_map]
    generalize upd H p _ = H1 at sp hp ⊢
    refine My.lcLI (SqL.of hp) fun A nA => ⟨fun i H' => ∃ rs : List Addr, H' A = some (.lst (rs.map V.ref)) ∧ But A H1 H' ∧ rs.length ≤ i ∧ Paired (fun r (p : List Int × Int) => ∃ q, H' r = some (.tup [.ref q, .int p.2]) ∧ KAt H' q p.1) rs (nzP (tsOf m (ks'.take i))), ⟨[], upd_same, Same.but (same_new nA), Nat.le_refl _, .nil⟩, fun i H' _ ⟨_, _, b, _⟩ => SqL.of (b _ _ (ne_of_none hp nA) hp), ?_, ?_⟩
    · rintro i x H2 ex ⟨rs, hA, b2, rl, pp⟩
      rw [List.getElem?_map] at ex
      cases eb : bs[i]? with
      | none => rw [eb] at ex; cases ex
      | some q1 =>
        rw [eb] at ex
        cases Option.some.inj ex
        obtain ⟨kk, ek, hq⟩ := My.pget pr eb
        have hkin : kk ∈ keysP m := pe.mem_iff.mp (List.mem_iff_getElem?.mpr ⟨i, ek⟩)
        obtain ⟨pp1, hpp, rfl⟩ := List.mem_map.mp hkin
        obtain ⟨jj, hjj⟩ := List.mem_iff_getElem?.mp hpp
        have eg : getP m pp1.1 = some pp1.2 := getP_at lp.nd (c := pp1.2) (l := pp1.1) hjj
        have i5 : i < 60 := by
          have := (List.getElem?_eq_some_iff.mp ek).1
          omega
        have keep : ∀ b o, H b = some o → H2 b = some o := fun b o e => b2 _ _ (ne_of_none (sp _ _ e) nA) (sp _ _ e)
        have et : nzP (tsOf m (ks'.take (i + 1))) = nzP (tsOf m (ks'.take i)) ++ if pp1.2 = 0 then [] else [(pp1.1, pp1.2)] := by
          unfold nzP tsOf
          rw [List.take_succ, ek, List.map_append, List.filter_append]
          congr 1
          show List.filter _ [(pp1.1, (getP m pp1.1).getD 0)] = _
          rw [eg]
          by_cases z : pp1.2 = 0
          · rw [if_pos z, List.filter_cons_of_neg (by simp [z])]; rfl
          · rw [if_neg z, List.filter_cons_of_pos (by simp [z])]; rfl
        have gv : ∀ H', Same H2 H' → DGet H' d (.ref q1) (some (.int pp1.2)) := fun H' s' => by
          have z := DGet.t (k := ik pp1.1) (s' _ _ (keep _ _ hd)) (b := q1) (by rw [ik_kV]; exact s' _ _ (keep _ _ hq))
          rw [valV_kvI, eg] at z
          exact z
        walk_at "f"
        refine ⟨rfl, ?_⟩
        walk_at "f"
        refine ⟨d, .int pp1.2, rfl, gv _ (.refl _), ?_⟩
        walk_at "f"
        rw [et]
        by_cases z0 : pp1.2 = 0
        · rw [if_neg (by simp [z0]), if_pos z0, List.append_nil]
          exact ⟨rs, hA, b2, by omega, pp⟩
        · rw [if_pos (by simp [z0]), if_neg z0]
          walk_at "f"
          refine ⟨d, .int pp1.2, rfl, gv _ (.refl _), ?_⟩
          walk_at "f"
          refine ⟨My.sz (by simp), fun t nt => ?_⟩
          have st := same_new (o := HO.tup [V.ref q1, V.int pp1.2]) nt
          have hA2 := st _ _ hA
          have ne : t ≠ A := ne_of_none' hA nt
          refine ⟨_, hA2, by rw [List.length_map, sizeLine_eq]; omega, rs ++ [t], by rw [upd_same, List.map_append]; rfl, fun b o nb e => by rw [upd_ne nb]; exact st _ _ (b2 _ _ nb e), by rw [List.length_append]; simp; omega, ?_⟩
          have kA : ∀ b o, b ≠ A → upd H2 t (.tup [.ref q1, .int pp1.2]) b = some o → upd (upd H2 t (.tup [.ref q1, .int pp1.2])) A (.lst (rs.map V.ref ++ [.ref t])) b = some o := fun b o nb e => by rw [upd_ne nb]; exact e
          have tn : ∀ b xs, upd H2 t (.tup [.ref q1, .int pp1.2]) b = some (.tup xs) → b ≠ A := fun b xs e z => by rw [z, hA2] at e; cases e
          refine papp (Paired.mapP pp fun r p' ⟨q', h1, h2⟩ => ⟨q', kA _ _ (tn _ _ (st _ _ h1)) (st _ _ h1), kA _ _ (tn _ _ (st _ _ h2)) (st _ _ h2)⟩) (.cons ⟨q1, kA _ _ ne upd_same, ?_⟩ .nil)
          have hq2 := st _ _ (keep _ _ hq)
          exact kA _ _ (tn _ _ hq2) hq2
    · rintro H2 ⟨rs, hA, b2, rl, pp⟩
      rw [List.length_map, hbk, List.take_length] at pp
      refine My.tupL (SqL.of hA) fun t nt => ?_
      have st := same_new (o := HO.tup (rs.map V.ref)) nt
      have s3 : Same H (upd H2 t (.tup (rs.map V.ref))) := fun b o e => st _ _ (b2 _ _ (ne_of_none (sp _ _ e) nA) (sp _ _ e))
      have tat : TermsAt (upd H2 t (.tup (rs.map V.ref))) t (nzP (tsOf m ks')) := ⟨rs, upd_same, Paired.mapP pp fun r p' ⟨q', h1, h2⟩ => ⟨q', st _ _ h1, st _ _ h2⟩⟩
      generalize upd H2 t _ = H3 at st s3 tat ⊢
      walk_at "f"
      exact ⟨t, _, rfl, tat, fun x H4 s4 px => q x _ _ (s3.trans s4) px (nz_perm2 lp pe)⟩
end
end K25

set_option Elab.async false
set_option linter.all false
set_option maxRecDepth 100000
set_option maxHeartbeats 4000000
namespace My
open PySem PySem.Spec PyProof.Rows L2 DX
section
variable {σ : L2.St} {H : Hp} {Q : VK} {td ty tx : TE}
theorem setd (h : td σ H fun x H1 => ∃ a, x = .ref a ∧ IsD H1 a ∧ ty σ H1 fun y H2 => tx σ H2 fun z H3 => ∃ (kvs : List (Key × V)) (k : Key), H3 a = some (.dK kvs) ∧ y = kV k ∧ kvs.length < sizeLine ∧
  (∀ v, valV kvs k = some v → Q v H3) ∧ (valV kvs k = none → Q z (upd H3 a (.dK (putK kvs k z))))) : tDSetd td ty tx σ H Q := h
theorem dcK {J : It} {n : Nat} {G : Hp → Prop} {Y : Nat → Hp → V → Hp → Prop} {g : TG} {tt : TT} {tk tv : TE} {vs : List Nat} {D : Addr} {H1 : Hp} (w : Walk J n G Y) (Pv : Nat → Hp → Prop) (h0 : Pv 0 (upd H1 D (.dK []))) (hG : ∀ i H, i ≤ n → Pv i H → G H)
    (hs : ∀ i x H H', i < n → Pv i H → Y i H x H' → g x (wipe σ vs) H' fun σ2 H2 => wipe σ2 vs = wipe σ vs ∧ tt σ2 H2 fun b H3 =>
      if b = true then tk σ2 H3 fun y H4 => tv σ2 H4 fun z H5 => ∃ kvs k, y = kV k ∧ H5 D = some (.dK kvs) ∧ kvs.length < sizeLine ∧ Pv (i + 1) (upd H5 D (.dK (putK kvs k z))) else Pv (i + 1) H3) (hd : ∀ H, Pv n H → Q (.ref D) H) :
    ∃ W : Nat → Nat → Hp → Prop, (∃ m, W 0 m (upd H1 D (.dK []))) ∧ ∀ i m H, W i m H →
      (J.stop i H ∧ Q (.ref D) H) ∨ (J.go i H ∧ ∃ Nx : Hp → Prop, (∀ H', Nx H' → ∃ m', m' < m ∧ W (i + 1) m' H') ∧ ∀ x H', J.yld i H x H' → g x (wipe σ vs) H' fun σ2 H2 => wipe σ2 vs = wipe σ vs ∧ tt σ2 H2 fun b H3 =>
        if b = true then tk σ2 H3 fun y H4 => tv σ2 H4 fun z H5 => ∃ kvs k, y = kV k ∧ H5 D = some (.dK kvs) ∧ kvs.length < sizeLine ∧ Nx (upd H5 D (.dK (putK kvs k z))) else Nx H3) := by
  refine ⟨fun i m H => m + i = n ∧ Pv i H, ⟨n, rfl, h0⟩, fun i m H ⟨e, p⟩ => ?_⟩
  have q := hG i H (by omega) p
  by_cases hi : i < n
  · exact .inr ⟨w.goes i H hi q, Pv (i + 1), fun H' p' => ⟨n - (i + 1), by omega, by omega, p'⟩, fun x H' y => hs i x H H' hi p (w.yields i H x H' hi q y)⟩
  · obtain rfl : i = n := by omega
    exact .inl ⟨w.stops H q, hd H p⟩
theorem dnewK (h : ∀ p, H p = none → Q (.ref p) (upd H p (.dK []))) : tDNewK σ H Q := h
end
end My
namespace K25
open PySem PySem.Spec PyProof.Rows L2 XV DX
def rowP (ts : Pol) (k : Nat) (e : Int) : Pol := (ts.filter fun p => decide (p.1.getD k 0 = e)).map fun p => (p.1.set k 0, p.2)
abbrev Gs := List (Int × Addr)
def dkG (G : Gs) : List (L2.Key × V) := G.map fun g => (.inl g.1, V.ref g.2)
def TermR (H : Hp) (r : Addr) (p : List Int × Int) : Prop := ∃ q, H r = some (.tup [.ref q, .int p.2]) ∧ KAt H q p.1
theorem TermR.same {H H' : Hp} {r : Addr} {p : List Int × Int} (s : Same H H') (h : TermR H r p) : TermR H' r p := by
  obtain ⟨q, h1, h2⟩ := h
  exact ⟨q, s _ _ h1, s _ _ h2⟩
theorem rowP_snoc (ts : Pol) (k : Nat) (e : Int) (p : List Int × Int) : rowP (ts ++ [p]) k e = rowP ts k e ++ if p.1.getD k 0 = e then [(p.1.set k 0, p.2)] else [] := by
  unfold rowP
  rw [List.filter_append, List.map_append]
  congr 1
  by_cases z : p.1.getD k 0 = e
  · rw [if_pos z, List.filter_cons_of_pos (p := fun p : List Int × Int => decide (p.1.getD k 0 = e)) (decide_eq_true z)]; rfl
  · rw [if_neg z, List.filter_cons_of_neg (p := fun p : List Int × Int => decide (p.1.getD k 0 = e)) (by rw [decide_eq_false z]; exact Bool.false_ne_true)]; rfl
theorem valG_some : ∀ {G : Gs} {e : Int} {v : V}, valV (dkG G) (.inl e) = some v → ∃ l, v = .ref l ∧ (e, l) ∈ G
  | [], _, _, h => by cases h
  | g :: G, e, v, h => by
    by_cases z : g.1 = e
    · have : valV (dkG (g :: G)) (.inl e) = some (.ref g.2) := valV_pos (congrArg Sum.inl z)
      rw [this] at h
      exact ⟨g.2, (Option.some.inj h).symm, by rw [← z]; exact List.mem_cons_self⟩
    · have : valV (dkG (g :: G)) (.inl e) = valV (dkG G) (.inl e) := valV_neg (fun y => z (by injection y))
      rw [this] at h
      obtain ⟨l, h1, h2⟩ := valG_some h
      exact ⟨l, h1, List.mem_cons_of_mem _ h2⟩
theorem valG_none : ∀ {G : Gs} {e : Int}, valV (dkG G) (.inl e) = none → e ∉ G.map (·.1)
  | [], _, _ => by simp
  | g :: G, e, h => by
    by_cases z : g.1 = e
    · have : valV (dkG (g :: G)) (.inl e) = some (.ref g.2) := valV_pos (congrArg Sum.inl z)
      rw [this] at h; cases h
    · have : valV (dkG (g :: G)) (.inl e) = valV (dkG G) (.inl e) := valV_neg (fun y => z (by injection y))
      rw [this] at h
      rw [List.map_cons, List.mem_cons, not_or]
      exact ⟨fun y => z y.symm, valG_none h⟩
theorem valG_at {G : Gs} {e : Int} {l : Addr} (nd : (G.map (·.1)).Nodup) (h : (e, l) ∈ G) : valV (dkG G) (.inl e) = some (.ref l) := by
  induction G with
  | nil => cases h
  | cons g G ih =>
    rw [List.map_cons, List.nodup_cons] at nd
    rcases List.mem_cons.mp h with z | z
    · subst z; exact valV_pos rfl
    · have n : g.1 ≠ e := fun y => nd.1 (List.mem_map.mpr ⟨(e, l), z, y.symm⟩)
      rw [show valV (dkG (g :: G)) (.inl e) = valV (dkG G) (.inl e) from valV_neg (fun y => n (by injection y))]
      exact ih nd.2 z
/-- the rows while they are made -/
structure RI (H0 H' : Hp) (rd : Addr) (k : Nat) (ts : Pol) (G : Gs) : Prop where
  d : H' rd = some (.dK (dkG G))
  nk : (G.map (·.1)).Nodup
  na : (G.map (·.2)).Nodup
  nw : ∀ g ∈ G, H0 g.2 = none
  ne : H0 rd = none
  row : ∀ g ∈ G, ∃ rs : List Addr, H' g.2 = some (.lst (rs.map V.ref)) ∧ Paired (TermR H') rs (rowP ts k g.1)
  same : Same H0 H'
theorem RI.mono {H0 H' H'' : Hp} {rd : Addr} {k : Nat} {ts : Pol} {G : Gs} (r : RI H0 H' rd k ts G) (s : Same H' H'') : RI H0 H'' rd k ts G :=
  ⟨s _ _ r.d, r.nk, r.na, r.nw, r.ne, fun g hg => by
    obtain ⟨rs, h1, h2⟩ := r.row g hg
    exact ⟨rs, s _ _ h1, Paired.mapP h2 fun _ _ z => z.same s⟩, r.same.trans s⟩
theorem TermR.updT {H : Hp} {b r : Addr} {o o' : HO} {p : List Int × Int} (e : H b = some o) (n : ∀ xs, o ≠ .tup xs) (h : TermR H r p) : TermR (L2.upd H b o') r p := by
  obtain ⟨q, h1, h2⟩ := h
  have tn : ∀ c xs, H c = some (.tup xs) → c ≠ b := fun c xs z g => by rw [g, e] at z; exact n xs (Option.some.inj z)
  exact ⟨q, by rw [upd_ne (tn _ _ h1)]; exact h1, by show L2.upd H b o' q = _; rw [upd_ne (tn _ _ h2)]; exact h2⟩
theorem RI.new {H0 H' : Hp} {rd z : Addr} {k : Nat} {ts : Pol} {G : Gs} {e : Int} (r : RI H0 H' rd k ts G) (nz : H' z = none) (he : e ∉ G.map (·.1)) (h0 : rowP ts k e = []) :
    RI H0 (upd (upd H' z (.lst [])) rd (.dK (putK (dkG G) (.inl e) (.ref z)))) rd k ts (G ++ [(e, z)]) := by
  have s1 := same_new (o := HO.lst []) nz
  have rz : rd ≠ z := ne_of_none r.d nz
  have hd := s1 _ _ r.d
  have ep : putK (dkG G) (.inl e) (.ref z) = dkG (G ++ [(e, z)]) := by
    rw [putK_off]
    · unfold dkG; rw [List.map_append]; rfl
    · intro p hp y
      obtain ⟨g, hg, rfl⟩ := List.mem_map.mp hp
      exact he (List.mem_map.mpr ⟨g, hg, by injection y⟩)
  have zg : ∀ g ∈ G, g.2 ≠ z := fun g hg y => by
    obtain ⟨rs, h1, _⟩ := r.row g hg
    rw [y, nz] at h1; cases h1
  have rg : ∀ g ∈ G, g.2 ≠ rd := fun g hg y => by
    obtain ⟨rs, h1, _⟩ := r.row g hg
    rw [y, r.d] at h1; cases h1
  refine ⟨by rw [upd_same, ep], ?_, ?_, ?_, r.ne, ?_, ?_⟩
  · rw [List.map_append]
    exact List.nodup_append.mpr ⟨r.nk, List.nodup_cons.mpr ⟨by simp, List.nodup_nil⟩, fun a ha b hb y => he (by rw [← show a = e from y.trans (List.mem_singleton.mp hb)]; exact ha)⟩
  · rw [List.map_append]
    refine List.nodup_append.mpr ⟨r.na, List.nodup_cons.mpr ⟨by simp, List.nodup_nil⟩, fun a ha b hb y => ?_⟩
    obtain ⟨g, hg, rfl⟩ := List.mem_map.mp ha
    exact zg g hg (by rw [y]; exact List.mem_singleton.mp hb)
  · intro g hg
    rcases List.mem_append.mp hg with y | y
    · exact r.nw g y
    · rw [List.mem_singleton.mp y]
      exact r.same.free nz
  · intro g hg
    rcases List.mem_append.mp hg with y | y
    · obtain ⟨rs, h1, h2⟩ := r.row g y
      exact ⟨rs, by rw [upd_ne (rg g y)]; exact s1 _ _ h1, Paired.mapP h2 fun _ _ w => (w.same s1).updT hd (fun xs => by simp)⟩
    · rw [List.mem_singleton.mp y]
      refine ⟨[], by rw [upd_ne rz.symm, upd_same]; rfl, ?_⟩
      show Paired _ [] (rowP ts k e)
      rw [h0]; exact .nil
  · intro b o h
    rw [upd_ne (ne_of_none h r.ne)]
    exact s1 _ _ (r.same _ _ h)
theorem RI.app {H0 H' : Hp} {rd l t q : Addr} {k : Nat} {ts : Pol} {G : Gs} {e c : Int} {kk : List Int} {rs : List Addr} (r : RI H0 H' rd k ts G) (he : (e, l) ∈ G) (hl : H' l = some (.lst (rs.map V.ref))) (ht : H' t = some (.tup [.ref q, .int c])) (hq : KAt H' q (kk.set k 0)) (ek : kk.getD k 0 = e) :
    RI H0 (upd H' l (.lst (rs.map V.ref ++ [.ref t]))) rd k (ts ++ [(kk, c)]) G := by
  have nrl : rd ≠ l := fun y => by rw [← y, r.d] at hl; cases hl
  refine ⟨by rw [upd_ne nrl]; exact r.d, r.nk, r.na, r.nw, r.ne, fun g hg => ?_, fun b o h => by rw [upd_ne (ne_of_none h (r.nw _ he))]; exact r.same _ _ h⟩
  obtain ⟨rs', h1, h2⟩ := r.row g hg
  rw [rowP_snoc]
  by_cases z : g.1 = e
  · have eg : g.2 = l := by
      have v1 := valG_at r.nk (show (g.1, g.2) ∈ G from hg)
      rw [z, valG_at r.nk he] at v1
      have := Option.some.inj v1
      injection this with this
      exact this.symm
    rw [eg, hl] at h1
    have ers : rs.map V.ref = rs'.map V.ref := by injection h1 with h1; injection h1
    rw [if_pos (by rw [z]; exact ek), eg, upd_same, ers]
    refine ⟨rs' ++ [t], by rw [List.map_append]; rfl, papp (Paired.mapP h2 fun _ _ w => w.updT hl (fun xs => by simp)) (.cons ?_ .nil)⟩
    exact TermR.updT (p := (kk.set k 0, c)) hl (fun xs => by simp) ⟨q, ht, hq⟩
  · have n : g.2 ≠ l := fun y => z (by
      obtain ⟨i, hi⟩ := List.mem_iff_getElem?.mp hg
      obtain ⟨j, hj⟩ := List.mem_iff_getElem?.mp he
      have h3 : (G.map (·.2))[i]? = some l := by rw [List.getElem?_map, hi]; exact congrArg some y
      have h4 : (G.map (·.2))[j]? = some l := by rw [List.getElem?_map, hj]; rfl
      have ij : i = j := (List.getElem?_inj (List.getElem?_eq_some_iff.mp h3).1 r.na).mp (h3.trans h4.symm)
      rw [ij, hj] at hi
      rw [← Option.some.inj hi])
    rw [if_neg fun y => z (by rw [← y]; exact ek), List.append_nil, upd_ne n]
    exact ⟨rs', h1, Paired.mapP h2 fun _ _ w => w.updT hl (fun xs => by simp)⟩
theorem PolyAt.updK {C : Addr} {H : Hp} {b a : Addr} {ts : Pol} {kvs : List (L2.Key × V)} {o' : HO} (e : H b = some (.dK kvs)) (h : PolyAt C H a ts) : PolyAt C (upd H b o') a ts := by
  obtain ⟨dx, t, h1, rs, h2, h3⟩ := h
  exact ⟨dx, t, by rw [upd_ne (fun z => by rw [z, e] at h1; cases h1)]; exact h1, rs, by rw [upd_ne (fun z => by rw [z, e] at h2; cases h2)]; exact h2, Paired.mapP h3 fun _ _ w => TermR.updT e (fun xs => by simp) w⟩
def spRowsOf (C : Addr) : Sp := fun vs H Q _ => ∃ (a : Addr) (ts : Pol) (k : Nat), vs = [.ref a, .int (k : Int)] ∧ PolyAt C H a ts ∧ k < 4 ∧ (∀ p ∈ ts, p.1.length = 4) ∧ ts.length ≤ 100 ∧
  ∀ (D : Addr) (H' : Hp) (G : Gs), Same H H' → H' D = some (.dK (dkG G)) → (G.map (·.1)).Nodup → (∀ g ∈ G, PolyAt C H' g.2 (rowP ts k g.1)) → (∀ e, e ∈ G.map (·.1) ↔ ∃ p ∈ ts, p.1.getD k 0 = e) → G.length ≤ ts.length → Q (.ref D) H'
section
variable {P : Program} {w : World} {K : PySem.W.Frag} {mg : Str → Option Value} {base : Heap}
theorem sc_rows_of : FnScope ["poly", "k", "rows", "powers", "count", "high", "row"] ["poly", "k"] (defScope s_rows_of) := ⟨rfl, rfl, rfl, by decide +kernel, rfl, by decide +kernel, by decide +kernel⟩
theorem cal_rows_of {f : Addr} {fd : FuncData} {C fI fE : Addr} (F : FnP K "rows_of" "rows_of" s_rows_of f fd) (g : mg "rows_of" = some (.ref f)) (T : Txt0 mg) (C_with_power : Cal P w K mg base "with_power" 1 ["powers", "k", "high"] spWithP) (C_poly_with : Cal P w K mg base "poly_with" 7 ["terms"] (spPolyW C)) (PT : PolF K mg C fI fE) : Cal P w K mg base "rows_of" 8 ["poly", "k"] (spRowsOf C) := by
  obtain ⟨f_with_power, fd_with_power, g_with_power, G_with_power, b_with_power, k_with_power⟩ := C_with_power
  obtain ⟨f_poly_with, fd_poly_with, g_poly_with, G_poly_with, b_poly_with, k_poly_with⟩ := C_poly_with
  refine ⟨f, fd, g, ?_, F.bindsN (fun _ _ _ _ _ _ us hl => match us, hl with | [_, _], _ => rfl), F.kp⟩
  refine F.ok sc_rows_of (fun vs H Q E h => ?_) (fun cdv A outer s H vs Q E hr h => ?_)
  · obtain ⟨a, ts, k, rfl, hp, hk, h4, hl, q⟩ := h
    rfl
  · obtain ⟨a, ts, k, rfl, hp, hk, h4, hl, q⟩ := h
    have hu := hu_of hr
    refine ⟨_, PSs.nox (pss_cons (ps_set (i := 2) sc_rows_of.nd rfl (Or.inl rfl) pe_dnewK)
      (pss_cons (ps_for PassesOwn.never rfl (pi_tup (pe_fld (pv 0) rfl)) (pg_tup (by rfl) (pgs_cons (pg_name (i := 3) sc_rows_of.nd rfl (Or.inl rfl)) (pgs_cons (pg_name (i := 4) sc_rows_of.nd rfl (Or.inl rfl)) pgs_nil)))
       (pss_one (ps_expr (pe_bm PySem.F.plainAttrs_list PySem.F.slot_list_append PySem.F.type_list_append mt_append (pe_dsetd (pv 2) (pe_ix ix_tup (pv 3) (pv 1) (fun _ _ => rfl)) (pe_lst pa_nil) ⟨rfl, rfl, rfl, rfl⟩) (pa_cons (pe_tup (pa_cons (pe_call G_with_power (hr.mono (by decide)) (by rfl) g_with_power k_with_power b_with_power .nil pass0 (pa_cons (pv 3) (pa_cons (pv 1) (pa_cons pe_int pa_nil)))) (pa_cons (pv 4) pa_nil))) pa_nil)))))
      (pss_one (ps_ret (pe_lock (pe_dc (own := [("high", 5), ("row", 6)]) (tt := tYes) (g := gTup K 2 (gCons (gName 5) (gCons (gName 6) gNil))) (tk := tVar 5) (wi := iItems (tVar 2)) (tv := tCall (spPolyW C) [] (fun _ _ _ => False) (tCons (tThen (tVar 6) (kTup K)) tNil)) (by rfl) sc_rows_of.nd (pi_items (pv 2)) (blkOk_by (own := [("high", 5), ("row", 6)]) (N := ["poly", "k", "rows", "powers", "count", "high", "row"]) (sc := (defScope s_rows_of)) (by decide +kernel)) (fun _ _ _ _ _ => (pg_tup (by rfl) (pgs_cons (pg_name (i := 5) sc_rows_of.nd rfl (Or.inl rfl)) (pgs_cons (pg_name (i := 6) sc_rows_of.nd rfl (Or.inl rfl)) pgs_nil)))) (fun _ _ _ _ _ => pts_nil) (fun _ _ _ _ _ => (pv 5)) (fun _ _ _ _ _ => (pe_call G_poly_with (hr.mono (by decide)) (by rfl) g_poly_with k_poly_with b_poly_with .nil pass0 (pa_cons (pe_tupleOf (by rfl) T.tuple (pv 6)) pa_nil))))))))), ?_⟩
    try dsimp only [cxOf, Cx.nox, Cx.wish]
    obtain ⟨dx, t, ha, ht⟩ := id hp
    obtain ⟨rs, ht1, ht2⟩ := id ht
    have hrl := My.plen ht2
    walk_at "f"
    refine My.dnewK fun rd nrd => ?_
    have s0 := same_new (o := HO.dK []) nrd
    have e0 := upd_same (H := H) (a := rd) (o := HO.dK [])
    generalize upd H rd _ = H0 at s0 e0 ⊢
    walk_at "f"
    refine My.forTe1 ?_
    refine My.fld (s0 _ _ ha) PT.ins.cl PT.na (by rfl) rfl ?_
    refine My.forTe (SqT.of (s0 _ _ ht1)) (fun i σ' H' => ∃ (G : Gs) (u v x y : Option V), σ' = [some (.ref a), some (.int (k : Int)), some (.ref rd), u, v, x, y] ∧ RI H H' rd k (ts.take i) G ∧ (∀ e, e ∈ G.map (·.1) ↔ ∃ p ∈ ts.take i, p.1.getD k 0 = e) ∧ G.length ≤ i) ⟨[], none, none, none, none, rfl, ⟨e0, List.nodup_nil, List.nodup_nil, (fun g hg => nomatch hg), nrd, (fun g hg => nomatch hg), s0⟩, (fun e => by simp), Nat.le_refl _⟩ (fun _ _ _ _ ⟨_, _, _, _, _, _, r, _⟩ => My.same_seqT r.same ht1) ?_ ?_
    · rintro i x σ' H1 ex ⟨G, u, v, x1, y1, rfl, ri, hkeys, gl⟩
      rw [List.getElem?_map] at ex
      cases er : rs[i]? with
      | none => rw [er] at ex; cases ex
      | some r =>
        rw [er] at ex
        cases Option.some.inj ex
        obtain ⟨⟨kk, c⟩, ep, q0, hr1, hq0⟩ := My.pget ht2 er
        have il : i < ts.length := (List.getElem?_eq_some_iff.mp ep).1
        have hk4 := h4 _ (List.mem_iff_getElem?.mpr ⟨i, ep⟩)
        simp only at hk4
        have et : ts.take (i + 1) = ts.take i ++ [(kk, c)] := by rw [List.take_succ, ep]; rfl
        have hik : (kk.map V.int)[k]? = some (V.int (kk.getD k 0)) := by
          rw [List.getElem?_map, List.getElem?_eq_getElem (show k < kk.length by rw [hk4]; exact hk), List.getD_eq_getElem?_getD, List.getElem?_eq_getElem (show k < kk.length by rw [hk4]; exact hk)]
          rfl
        refine My.gtup2 (SqT.of (ri.same _ _ hr1)) rfl ?_
        walk_at "f"
        refine My.cutV (fun v H3 => ∃ (l : Addr) (G3 : Gs), v = .ref l ∧ RI H H3 rd k (ts.take i) G3 ∧ (kk.getD k 0, l) ∈ G3 ∧ (∀ e', e' ∈ G3.map (·.1) ↔ (∃ p ∈ ts.take i, p.1.getD k 0 = e') ∨ e' = kk.getD k 0) ∧ G3.length ≤ i + 1) (fun Q' hQ => ?_) ?_
        · refine My.setd ?_
          walk_at "f"
          refine ⟨rd, rfl, .inl ⟨_, .inl ri.d⟩, ?_⟩
          walk_at "f"
          refine My.ixT (SqT.of (ri.same _ _ hq0)) (atI_nat hik) ?_
          walk_at "f"
          refine My.new (My.sz (by simp)) fun z nz => ?_
          have sz := same_new (o := HO.lst []) nz
          refine ⟨dkG G, .inl (kk.getD k 0), sz _ _ ri.d, rfl, by unfold dkG; rw [List.length_map, sizeLine_eq]; omega, fun v0 hv => ?_, fun hn => ?_⟩
          · obtain ⟨l, rfl, hm⟩ := valG_some hv
            refine hQ _ _ ⟨l, G, rfl, ri.mono sz, hm, fun e' => ?_, by omega⟩
            rw [hkeys]
            refine ⟨.inl, fun g => ?_⟩
            rcases g with g | g
            · exact g
            · rw [g]; exact (hkeys _).mp (List.mem_map.mpr ⟨_, hm, rfl⟩)
          · have he := valG_none hn
            have h0 : rowP (ts.take i) k (kk.getD k 0) = [] := by
              unfold rowP
              rw [List.map_eq_nil_iff, List.filter_eq_nil_iff]
              exact fun p hp z => he ((hkeys _).mpr ⟨p, hp, of_decide_eq_true z⟩)
            refine hQ _ _ ⟨z, G ++ [(kk.getD k 0, z)], rfl, ri.new nz he h0, List.mem_append_right _ List.mem_cons_self, fun e' => ?_, by rw [List.length_append]; simp; omega⟩
            rw [List.map_append, List.mem_append, hkeys]
            simp
        · rintro v0 H3 ⟨l, G3, rfl, ri3, hm, hk3, gl3⟩
          obtain ⟨rl, hrl3, prl⟩ := ri3.row _ hm
          refine My.tyL (SqL.of hrl3) ?_
          walk_at "f"
          refine ⟨q0, kk, k, 0, rfl, ri3.same _ _ hq0, hk4, hk, fun q1 H4 s4 hq1 => ?_⟩
          walk_at "f"
          refine ⟨My.sz (by simp), fun t1 nt1 => ?_⟩
          have s5 := s4.trans (same_new (o := HO.tup [V.ref q1, V.int c]) nt1)
          have ri5 := ri3.mono s5
          have hq5 : KAt (upd H4 t1 (.tup [.ref q1, .int c])) q1 (kk.set k 0) := same_new (o := HO.tup [V.ref q1, V.int c]) nt1 _ _ hq1
          have ap := ri5.app hm (s5 _ _ hrl3) upd_same hq5 rfl
          rw [← et] at ap
          have ll : rl.length ≤ 100 := by
            have z := My.plen prl
            unfold rowP at z
            rw [List.length_map] at z
            have z2 := List.length_filter_le (fun p : List Int × Int => decide (p.1.getD k 0 = kk.getD k 0)) (ts.take i)
            rw [List.length_take] at z2
            simp only at z
            omega
          refine ⟨l, rl.map V.ref, .ref t1, rfl, rfl, s5 _ _ hrl3, by rw [List.length_map, sizeLine_eq]; omega, G3, _, _, _, _, rfl, ap, fun e' => ?_, gl3⟩
          rw [hk3, et]
          constructor
          · rintro (⟨p, hp, e⟩ | e)
            · exact ⟨p, List.mem_append_left _ hp, e⟩
            · exact ⟨(kk, c), List.mem_append_right _ List.mem_cons_self, e.symm⟩
          · rintro ⟨p, hp, e⟩
            rcases List.mem_append.mp hp with g | g
            · exact .inl ⟨p, g, e⟩
            · rw [List.mem_singleton.mp g] at e
              exact .inr e.symm
    · rintro σ' H1 ⟨G, u, v, x1, y1, rfl, ri, hkeys, gl⟩
      rw [List.length_map, hrl, List.take_length] at ri hkeys
      walk_at "f"
      refine My.lockE ri.d True.intro fun od => ?_
      have hlk := upd_same (H := H1) (a := rd) (o := HO.frz od (.dK (dkG G)))
      have nrd1 : ∀ b o, H b = some o → b ≠ rd := fun b o e => ne_of_none e ri.ne
      have rowk : ∀ g ∈ G, ∃ rs : List Addr, upd H1 rd (.frz od (.dK (dkG G))) g.2 = some (.lst (rs.map V.ref)) ∧ Paired (TermR (upd H1 rd (.frz od (.dK (dkG G))))) rs (rowP ts k g.1) := fun g hg => by
        obtain ⟨rs, h1, h2⟩ := ri.row g hg
        refine ⟨rs, by rw [upd_ne (fun z => by rw [z, ri.d] at h1; cases h1)]; exact h1, Paired.mapP h2 fun _ _ w => w.updT ri.d (fun xs => by simp)⟩
      have lk := fun {H' : Hp} (s : Same (upd H1 rd (.frz od (.dK (dkG G)))) H') => same_lock ri.d s
      generalize upd H1 rd (.frz od (.dK (dkG G))) = Hl at hlk rowk lk ⊢
      refine ⟨.ref rd, rfl, rd, od, dkG G, rfl, hlk, fun D nD => ?_⟩
      refine My.dcK (Q := fun v H' => H' rd = some (.frz od (.dK (dkG G))) ∧ Q v (upd H' rd (.dK (dkG G)))) walk_items (fun i H' => ∃ G' : Gs, H' D = some (.dK (dkG G')) ∧ G'.map (·.1) = (G.take i).map (·.1) ∧ (∀ g ∈ G', PolyAt C H' g.2 (rowP ts k g.1)) ∧ But D Hl H') ⟨[], upd_same, rfl, (fun g hg => nomatch hg), Same.but (same_new nD)⟩ (fun i H' _ ⟨_, _, _, _, b⟩ => b _ _ (ne_of_none hlk nD) hlk) ?_ ?_
      · rintro i x H2 H3 hi ⟨G', hD, hkk, hpp, bt⟩ ⟨T, ka, va, rfl, nT, rfl, e1, e2⟩
        unfold dkG at hi
        rw [List.length_map] at hi
        have eg : G[i]? = some G[i] := List.getElem?_eq_getElem hi
        have e1' : ka = .int G[i].1 := by
          unfold dkG at e1
          dsimp only at e1
          rw [List.getElem?_map, eg] at e1
          exact (Option.some.inj e1).symm
        have e2' : va = .ref G[i].2 := by
          unfold dkG at e2
          dsimp only at e2
          rw [List.getElem?_map, eg] at e2
          exact (Option.some.inj e2).symm
        subst e1' e2'
        have sT := same_new (o := HO.tup [V.int G[i].1, V.ref G[i].2]) nT
        refine My.gtup2 (SqT.of upd_same) rfl ?_
        have hgm := List.getElem_mem hi
        obtain ⟨rl, hrl3, prl⟩ := rowk _ hgm
        have kp : ∀ b o, Hl b = some o → upd H2 T (.tup [.int G[i].1, .ref G[i].2]) b = some o := fun b o e => sT _ _ (bt _ _ (ne_of_none e nD) e)
        have hD3 := sT _ _ hD
        have bt3 := bt.trans (Same.but sT)
        have hpp3 : ∀ g ∈ G', PolyAt C (upd H2 T (.tup [.int G[i].1, .ref G[i].2])) g.2 (rowP ts k g.1) := fun g hg => (hpp g hg).same sT
        generalize upd H2 T _ = H3 at kp hD3 bt3 hpp3 ⊢
        refine ⟨rfl, ?_⟩
        walk_at "f"
        refine My.tupL (SqL.of (kp _ _ hrl3)) fun t1 nt1 => ?_
        have s1 := same_new (o := HO.tup (rl.map V.ref)) nt1
        walk_at "f"
        refine ⟨t1, rowP ts k G[i].1, rfl, ⟨rl, upd_same, Paired.mapP prl fun r p w => ?_⟩, fun pa H4 s4 hpa => ?_⟩
        · obtain ⟨q9, g1, g2⟩ := w
          exact ⟨q9, s1 _ _ (kp _ _ g1), s1 _ _ (kp _ _ g2)⟩
        have s5 := s1.trans s4
        have kn : G[i].1 ∉ G'.map (·.1) := fun z => by
          rw [hkk] at z
          have nd := ri.nk
          have e3 : G = G.take i ++ G.drop i := (List.take_append_drop i G).symm
          rw [e3, List.map_append, List.nodup_append] at nd
          refine nd.2.2 _ z G[i].1 ?_ rfl
          rw [List.drop_eq_getElem_cons hi]
          exact List.mem_map.mpr ⟨_, List.mem_cons_self, rfl⟩
        have gl' : G'.length ≤ i := by
          have := congrArg List.length hkk
          rw [List.length_map, List.length_map, List.length_take] at this
          omega
        have il2 : i < 100 := by rw [List.length_map] at gl; omega
        refine ⟨dkG G', .inl G[i].1, rfl, s5 _ _ hD3, by unfold dkG; rw [List.length_map, sizeLine_eq]; omega, G' ++ [(G[i].1, pa)], ?_, ?_, ?_, fun b o nb e => by rw [upd_ne nb]; exact s5 _ _ (bt3 _ _ nb e)⟩
        · rw [upd_same, putK_off]
          · unfold dkG; rw [List.map_append]; rfl
          · intro p hp y
            obtain ⟨g, hg, rfl⟩ := List.mem_map.mp hp
            exact kn (List.mem_map.mpr ⟨g, hg, by injection y⟩)
        · rw [List.take_succ, eg, List.map_append, List.map_append, hkk]; rfl
        · intro g hg
          rcases List.mem_append.mp hg with y | y
          · exact ((hpp3 g y).same s5).updK (s5 _ _ hD3)
          · rw [List.mem_singleton.mp y]
            exact hpa.updK (s5 _ _ hD3)
      · rintro H2 ⟨G', hD, hkk, hpp, bt⟩
        unfold dkG at hkk
        rw [List.length_map, List.take_length] at hkk
        have s2 : Same Hl H2 := fun b o e => bt _ _ (ne_of_none e nD) e
        have hlk2 := s2 _ _ hlk
        have nDr : D ≠ rd := fun z => by rw [z, hlk] at nD; cases nD
        refine ⟨hlk2, ?_⟩
        have gl2 := congrArg List.length hkk
        rw [List.length_map, List.length_map] at gl2
        rw [List.length_map, hrl] at gl
        refine q D _ G' (ri.same.trans (lk s2)) (by rw [upd_ne nDr]; exact hD) (by rw [hkk]; exact ri.nk) (fun g hg => ?_) (fun e => by rw [hkk]; exact hkeys e) (by omega)
        obtain ⟨dx', t', h1, rs', h2, h3⟩ := hpp g hg
        exact ⟨dx', t', by rw [upd_ne (fun z => by rw [z, hlk2] at h1; cases h1)]; exact h1, rs', by rw [upd_ne (fun z => by rw [z, hlk2] at h2; cases h2)]; exact h2, Paired.mapP h3 fun _ _ w => TermR.updT hlk2 (fun xs => by simp) w⟩
end
end K25

set_option Elab.async false
set_option linter.all false
set_option maxRecDepth 100000
set_option maxHeartbeats 4000000
/-! sums of counts by keys -/
namespace K25
open PySem PySem.Spec PyProof.Rows L2 DX
theorem getP_put (m : Pol) (k : List Int) (v : Int) (l : List Int) : getP (putP m k v) l = if l = k then some v else getP m l := by
  have h := congrArg (fun d => valV d (ik l)) (kvI_put m k v)
  simp only [valV_kvI] at h
  have e : valV (putK (kvI m) (ik k) (.int v)) (ik l) = if ik l = ik k then some (.int v) else valV (kvI m) (ik l) := valV_put _ _ _ _
  rw [e, valV_kvI] at h
  by_cases z : l = k
  · rw [if_pos (by rw [z])] at h
    rw [if_pos z]
    cases g : getP (putP m k v) l with
    | none => rw [g] at h; cases h
    | some x => rw [g] at h; cases (Option.some.inj h); rfl
  · rw [if_neg (fun y => z (ik_inj y))] at h
    rw [if_neg z]
    cases g : getP (putP m k v) l with
    | none =>
      rw [g] at h
      cases g2 : getP m l with
      | none => rfl
      | some x => rw [g2] at h; cases h
    | some x =>
      rw [g] at h
      cases g2 : getP m l with
      | none => rw [g2] at h; cases h
      | some y => rw [g2] at h; cases (Option.some.inj h); rfl
theorem val_put (m : Pol) (k : List Int) (v : Int) (l : List Int) : val (putP m k v) l = if l = k then v else val m l := by
  unfold val
  rw [getP_put]
  split <;> rfl
/-- what a key has in all -/
def sumAt (cs : Pol) (l : List Int) : Int := (cs.map fun p => if p.1 = l then p.2 else 0).sum
theorem val_add : ∀ (cs m : Pol) (l : List Int), val (addP m cs 1) l = val m l + sumAt cs l
  | [], m, l => by show val m l = val m l + 0; omega
  | p :: cs, m, l => by
    show val (addP (putP m p.1 ((getP m p.1).getD 0 + 1 * p.2)) cs 1) l = _
    rw [val_add cs, val_put]
    show _ = val m l + ((if p.1 = l then p.2 else 0) + sumAt cs l)
    by_cases z : l = p.1
    · rw [if_pos z, if_pos z.symm, z]
      show val m p.1 + 1 * p.2 + _ = _
      omega
    · rw [if_neg z, if_neg fun y => z y.symm]
      omega
theorem map_off {m : Pol} {k : List Int} {v : Int} (h : k ∉ keysP m) : (m.map fun p => if p.1 = k then (p.1, v) else p) = m := by
  conv => rhs; rw [← List.map_id m]
  refine List.map_congr_left fun p hp => ?_
  rw [if_neg fun z => h (List.mem_map.mpr ⟨p, hp, z⟩)]; rfl
theorem putP_cons (p : List Int × Int) (m : Pol) (k : List Int) (v : Int) (nd : (keysP (p :: m)).Nodup) : putP (p :: m) k v = if p.1 = k then (p.1, v) :: m else p :: putP m k v := by
  rw [keysP, List.map_cons, List.nodup_cons] at nd
  unfold putP
  by_cases z : p.1 = k
  · rw [if_pos z, if_pos (by rw [List.any_cons, decide_eq_true z]; rfl), List.map_cons, if_pos z]
    have : k ∉ keysP m := by rw [← z]; exact nd.1
    rw [map_off this]
  · rw [if_neg z]
    by_cases y : (m.any fun p => decide (p.1 = k)) = true
    · rw [if_pos (by rw [List.any_cons, y, Bool.or_true]), if_pos y, List.map_cons, if_neg z]
    · rw [if_neg (by rw [List.any_cons, decide_eq_false z, Bool.false_or]; exact y), if_neg y]; rfl
/-- linear functions of the counts -/
theorem sum_putP (k : List Int) (v : Int) (F : List Int → Int) : ∀ {m : Pol}, (keysP m).Nodup → ((putP m k v).map fun p => p.2 * F p.1).sum = (m.map fun p => p.2 * F p.1).sum + (v - val m k) * F k
  | [], _ => by
    show v * F k + 0 = 0 + (v - 0) * F k
    rw [Int.sub_zero, Int.zero_add, Int.add_zero]
  | p :: m, nd => by
    have nd' := nd
    rw [keysP, List.map_cons, List.nodup_cons] at nd'
    rw [putP_cons p m k v nd]
    by_cases z : p.1 = k
    · have e : val (p :: m) k = p.2 := by
        rw [← z]; exact val_of nd List.mem_cons_self
      rw [if_pos z, e, List.map_cons, List.sum_cons, List.map_cons, List.sum_cons, ← z]
      show v * F p.1 + _ = _
      rw [Int.sub_mul]; omega
    · have e : val (p :: m) k = val m k := by
        unfold val getP
        rw [List.find?_cons, decide_eq_false z]
      rw [if_neg z, e, List.map_cons, List.sum_cons, List.map_cons, List.sum_cons, sum_putP k v F nd'.2]
      omega
theorem sum_addP (F : List Int → Int) : ∀ (cs : Pol) {m : Pol}, (keysP m).Nodup → ((addP m cs 1).map fun p => p.2 * F p.1).sum = (m.map fun p => p.2 * F p.1).sum + (cs.map fun p => p.2 * F p.1).sum
  | [], m, _ => by show _ = _ + 0; rw [Int.add_zero]; rfl
  | p :: cs, m, nd => by
    show ((addP (putP m p.1 ((getP m p.1).getD 0 + 1 * p.2)) cs 1).map fun p => p.2 * F p.1).sum = _
    rw [sum_addP F cs (nodup_put nd), sum_putP p.1 _ F nd, List.map_cons, List.sum_cons]
    have : (getP m p.1).getD 0 + 1 * p.2 - val m p.1 = p.2 := by unfold val; omega
    rw [this]; omega
theorem nz_val {m : Pol} (nd : (keysP m).Nodup) (l : List Int) : val (nzP m) l = val m l := by
  by_cases h : l ∈ keysP m
  · obtain ⟨p, hp, rfl⟩ := List.mem_map.mp h
    rw [val_of nd hp]
    by_cases z : p.2 = 0
    · rw [z]
      refine val_off fun g => ?_
      obtain ⟨q, hq, e⟩ := List.mem_map.mp g
      obtain ⟨h1, h2⟩ := List.mem_filter.mp hq
      have a1 := val_of nd h1
      have a2 := val_of nd hp
      rw [e, a2, z] at a1
      simp [← a1] at h2
    · have nd2 : (keysP (nzP m)).Nodup := List.Nodup.sublist (List.Sublist.map _ List.filter_sublist) nd
      exact val_of nd2 (List.mem_filter.mpr ⟨hp, by simp [z]⟩)
  · rw [val_off h, val_off fun g => h (by
      obtain ⟨q, hq, e⟩ := List.mem_map.mp g
      exact List.mem_map.mpr ⟨q, (List.mem_filter.mp hq).1, e⟩)]
theorem perm_of_val {a b : Pol} (na : (keysP a).Nodup) (nb : (keysP b).Nodup) (za : ∀ p ∈ a, p.2 ≠ 0) (zb : ∀ p ∈ b, p.2 ≠ 0) (h : ∀ l, val a l = val b l) : a.Perm b := by
  have key : ∀ {a b : Pol}, (keysP a).Nodup → (keysP b).Nodup → (∀ p ∈ a, p.2 ≠ 0) → (∀ l, val a l = val b l) → ∀ p ∈ a, p ∈ b := by
    intro a b na nb za h p hp
    have e := h p.1
    rw [val_of na hp] at e
    have hb : p.1 ∈ keysP b := Classical.byContradiction fun z => za p hp (by rw [e, val_off z])
    obtain ⟨q, hq, eq⟩ := List.mem_map.mp hb
    rw [← eq, val_of nb hq] at e
    have : p = q := Prod.ext eq.symm e
    rw [this]; exact hq
  have nd : ∀ {a : Pol}, (keysP a).Nodup → a.Nodup := fun h => List.Pairwise.of_map _ (fun _ _ n e => n (by rw [e])) h
  exact (List.perm_ext_iff_of_nodup (nd na) (nd nb)).mpr fun p => ⟨key na nb za h p, key nb na zb (fun l => (h l).symm) p⟩
theorem val_perm {a b : Pol} (na : (keysP a).Nodup) (h : a.Perm b) (l : List Int) : val a l = val b l := by
  have nb : (keysP b).Nodup := (h.map _).nodup na
  by_cases g : l ∈ keysP a
  · obtain ⟨p, hp, rfl⟩ := List.mem_map.mp g
    rw [val_of na hp, val_of nb (h.mem_iff.mp hp)]
  · rw [val_off g, val_off fun z => g ((h.map _).mem_iff.mpr z)]
theorem sumAt_perm {a b : Pol} (h : a.Perm b) (l : List Int) : sumAt a l = sumAt b l := sum_perm (h.map _)
end K25

set_option Elab.async false
set_option linter.all false
set_option maxRecDepth 100000
set_option maxHeartbeats 4000000
namespace K25
open PySem PySem.Spec PyProof.Rows L2 XV DX
/-- one term of the polynomial with sg (b + t) in the place of the unknown k -/
def frn (sg : Int) (k : Nat) (p : List Int × Int) : Int := if 0 < sg ∨ p.1.getD k 0 % 2 = 0 then p.2 else -p.2
def mvE (k : Nat) (b sg : Int) (p : List Int × Int) (low : Nat) : List Int × Int := (p.1.set k (low : Int), frn sg k p * BM.ch (p.1.getD k 0).toNat low * b ^ ((p.1.getD k 0).toNat - low))
def mvT (k : Nat) (b sg : Int) (p : List Int × Int) : Pol := (List.range ((p.1.getD k 0).toNat + 1)).map (mvE k b sg p)
def mvL (k : Nat) (b sg : Int) (ts : Pol) : Pol := ts.flatMap (mvT k b sg)
theorem mvT_len (k : Nat) (b sg : Int) (p : List Int × Int) : (mvT k b sg p).length = (p.1.getD k 0).toNat + 1 := by
  unfold mvT; rw [List.length_map, List.length_range]
theorem mvL_len {k : Nat} {b sg : Int} : ∀ {ts : Pol}, (∀ p ∈ ts, p.1.getD k 0 ≤ 3) → (mvL k b sg ts).length ≤ 4 * ts.length
  | [], _ => Nat.le_refl 0
  | p :: ts, h => by
    have := mvL_len (k := k) (b := b) (sg := sg) (ts := ts) fun q hq => h q (List.mem_cons_of_mem _ hq)
    have hp := h p List.mem_cons_self
    show (mvT k b sg p ++ mvL k b sg ts).length ≤ _
    rw [List.length_append, mvT_len, List.length_cons]; omega
theorem addP_app (m a c : Pol) : addP m (a ++ c) 1 = addP (addP m a 1) c 1 := by
  unfold addP; rw [List.foldl_append]
structure Mv (ts : Pol) (k : Nat) : Prop where
  nd : (keysP ts).Nodup
  len : ∀ p ∈ ts, p.1.length = 4
  wi : ∀ p ∈ ts, ∀ e ∈ p.1, 0 ≤ e ∧ e ≤ 60
  k3 : ∀ p ∈ ts, p.1.getD k 0 ≤ 3
  few : ts.length ≤ 7
  bd : ∀ p ∈ ts, My.Bd 200 p.2
theorem Mv.k0 {ts : Pol} {k : Nat} (m : Mv ts k) {p : List Int × Int} (hp : p ∈ ts) : 0 ≤ p.1.getD k 0 := by
  rw [List.getD_eq_getElem?_getD]
  cases e : p.1[k]? with
  | none => exact Int.le_refl 0
  | some x => exact (m.wi p hp x (List.mem_iff_getElem?.mpr ⟨k, e⟩)).1
/-- the counts are right to gather -/
theorem mv_key {ts : Pol} {k : Nat} {b sg : Int} (m : Mv ts k) {l : List Int} (h : l ∈ keysP (addP [] (mvL k b sg ts) 1)) : l.length = 4 ∧ ∀ e ∈ l, 0 ≤ e ∧ e ≤ 60 := by
  rcases mem_add h with g | g
  · cases g
  · obtain ⟨q, hq, rfl⟩ := List.mem_map.mp g
    obtain ⟨p, hp, hq'⟩ := List.mem_flatMap.mp hq
    obtain ⟨low, hl, rfl⟩ := List.mem_map.mp hq'
    have hl := List.mem_range.mp hl
    have := m.k3 p hp
    refine ⟨by show (p.1.set k _).length = 4; rw [List.length_set]; exact m.len p hp, fun e he => ?_⟩
    rcases List.mem_or_eq_of_mem_set (show e ∈ p.1.set k (low : Int) from he) with z | z
    · exact m.wi p hp e z
    · rw [z]; omega
theorem mv_gp {ts : Pol} {k : Nat} {b sg : Int} (m : Mv ts k) : Gp (addP [] (mvL k b sg ts) 1) := by
  refine ⟨nodup_add List.nodup_nil, fun p hp => (mv_key m (List.mem_map.mpr ⟨p, hp, rfl⟩)).1, fun p hp => (mv_key m (List.mem_map.mpr ⟨p, hp, rfl⟩)).2, ?_⟩
  have h1 := len_add (by_ := 1) (mvL k b sg ts) []
  have h2 := mvL_len (k := k) (b := b) (sg := sg) m.k3
  have := m.few
  rw [List.length_nil] at h1
  omega
def spMoved (C : Addr) : Sp := fun vs H Q _ => ∃ (a : Addr) (ts : Pol) (k : Nat) (b sg : Int), vs = [.ref a, .int (k : Int), .int b, .int sg] ∧ PolyAt C H a ts ∧ Mv ts k ∧ k < 4 ∧ 0 < b ∧ My.Bd 100 b ∧
  ∀ x H' us, Same H H' → PolyAt C H' x us → us.Perm (nzP (addP [] (mvL k b sg ts) 1)) → Q (.ref x) H'
section
variable {P : Program} {w : World} {K : PySem.W.Frag} {mg : Str → Option Value} {base : Heap}
theorem sc_moved : FnScope ["poly", "k", "bound", "sign", "high", "low", "weights", "counts", "powers", "count", "at", "front", "place"] ["poly", "k", "bound", "sign"] (defScope s_moved) := ⟨rfl, rfl, rfl, by decide +kernel, rfl, by decide +kernel, by decide +kernel⟩
theorem cal_moved {f : Addr} {fd : FuncData} {C fI fE : Addr} (F : FnP K "moved" "moved" s_moved f fd) (g : mg "moved" = some (.ref f)) (T : Txt0 mg) (C_degree : Cal P w K mg base "degree" 4 ["poly", "k"] (spDeg C)) (C_number_raised : Cal P w K mg base "number_raised" 1 ["base", "many"] spNumR) (C_with_power : Cal P w K mg base "with_power" 1 ["powers", "k", "high"] spWithP) (C_gathered : Cal P w K mg base "gathered" 9 ["counts"] (spGath C)) (PT : PolF K mg C fI fE) (gComb : mg "comb" = some (.builtin "math.comb")) : Cal P w K mg base "moved" 10 ["poly", "k", "bound", "sign"] (spMoved C) := by
  obtain ⟨f_degree, fd_degree, g_degree, G_degree, b_degree, k_degree⟩ := C_degree
  obtain ⟨f_number_raised, fd_number_raised, g_number_raised, G_number_raised, b_number_raised, k_number_raised⟩ := C_number_raised
  obtain ⟨f_with_power, fd_with_power, g_with_power, G_with_power, b_with_power, k_with_power⟩ := C_with_power
  obtain ⟨f_gathered, fd_gathered, g_gathered, G_gathered, b_gathered, k_gathered⟩ := C_gathered
  refine ⟨f, fd, g, ?_, F.bindsN (fun _ _ _ _ _ _ us hl => match us, hl with | [_, _, _, _], _ => rfl), F.kp⟩
  refine F.ok sc_moved (fun vs H Q E h => ?_) (fun cdv A outer s H vs Q E hr h => ?_)
  · obtain ⟨a, ts, k, b, sg, rfl, hp, mv, hk, hb0, hb, q⟩ := h
    rfl
  · obtain ⟨a, ts, k, b, sg, rfl, hp, mv, hk, hb0, hb, q⟩ := h
    have hu := hu_of hr
    refine ⟨_, PSs.nox (pss_cons (ps_set (i := 4) sc_moved.nd rfl (Or.inl rfl) (pe_call G_degree (hr.mono (by decide)) (by rfl) g_degree k_degree b_degree .nil pass0 (pa_cons (pv 0) (pa_cons (pv 1) pa_nil))))
      (pss_cons (ps_setLc (i := 6) (own := [("low", 5)]) (tt := tYes) (by rfl) sc_moved.nd rfl rfl (sw_true rfl rfl rfl (by decide +kernel)) (pi_range1 (by rfl) T.range (pa_cons (pe_op op_add (pv 4) pe_int) pa_nil)) (blkOk_by (own := [("low", 5)]) (N := ["poly", "k", "bound", "sign", "high", "low", "weights", "counts", "powers", "count", "at", "front", "place"]) (sc := (defScope s_moved)) (by decide +kernel)) (fun _ _ _ _ _ => (pg_name (i := 5) sc_moved.nd rfl (Or.inl rfl))) (fun _ _ _ _ _ => pts_nil) (fun _ _ _ _ _ => (pe_call G_number_raised (hr.mono (by decide)) (by rfl) g_number_raised k_number_raised b_number_raised .nil pass0 (pa_cons (pv 2) (pa_cons (pv 5) pa_nil)))))
      (pss_cons (ps_set (i := 7) sc_moved.nd rfl (Or.inl rfl) pe_dnewT)
      (pss_cons (ps_for PassesOwn.never rfl (pi_tup (pe_fld (pv 0) rfl)) (pg_tup (by rfl) (pgs_cons (pg_name (i := 8) sc_moved.nd rfl (Or.inl rfl)) (pgs_cons (pg_name (i := 9) sc_moved.nd rfl (Or.inl rfl)) pgs_nil)))
       (pss_cons (ps_set (i := 10) sc_moved.nd rfl (Or.inl rfl) (pe_ix ix_tup (pv 8) (pv 1) (fun _ _ => rfl)))
      (pss_cons (ps_set (i := 11) sc_moved.nd rfl (Or.inl rfl) (pe_ifExp (PW.pt (pw_or (pt_cmpR op_gt (pv 3) pe_int (nomark _)) (pw_or1 (pt_cmpR op_eq (pe_op op_and (pv 10) pe_int) pe_int (nomark _))))) (pv 9) (pe_un un_neg (pv 9))))
      (pss_one (ps_for PassesOwn.never rfl (pi_range1 (by rfl) T.range (pa_cons (pe_op op_add (pv 10) pe_int) pa_nil)) (pg_name (i := 5) sc_moved.nd rfl (Or.inl rfl))
       (pss_cons (ps_set (i := 12) sc_moved.nd rfl (Or.inl rfl) (pe_call G_with_power (hr.mono (by decide)) (by rfl) g_with_power k_with_power b_with_power .nil pass0 (pa_cons (pv 8) (pa_cons (pv 1) (pa_cons (pv 5) pa_nil)))))
      (pss_one (ps_dput hu (pv 7) (pv 12) (pe_op op_add (pe_dget2 hu (pv 7) (pv 12) pe_int ⟨rfl, rfl, rfl, rfl⟩) (pe_op op_mulW (pe_op op_mulW (pv 11) (pe_callBfun DX.cr_comb (by rfl) gComb (pa_cons (pv 10) (pa_cons (pv 5) pa_nil)))) (pe_ix ix_list (pv 6) (pe_op op_sub (pv 10) (pv 5)) (fun _ _ => rfl)))) rfl))))))))
      (pss_one (ps_ret (pe_call G_gathered (hr.mono (by decide)) (by rfl) g_gathered k_gathered b_gathered .nil pass0 (pa_cons (pv 7) pa_nil)))))))), ?_⟩
    try dsimp only [cxOf, Cx.nox, Cx.wish]
    obtain ⟨dx, t, ha, ht⟩ := id hp
    walk_at "f"
    refine ⟨a, ts, k, rfl, hp, hk, mv.len, Nat.le_trans mv.few (by decide), fun H1 s1 => ?_⟩
    have mx3 : 0 ≤ mx 0 (colP ts k) ∧ mx 0 (colP ts k) ≤ 3 := ⟨DX.mx_le (fun x hx => by
      obtain ⟨q', hq', rfl⟩ := List.mem_map.mp hx
      exact mv.k0 hq') (Int.le_refl 0), mx_up (by decide) fun x hx => by
      obtain ⟨q', hq', rfl⟩ := List.mem_map.mp hx
      exact mv.k3 q' hq'⟩
    walk_at "f"
    obtain ⟨rs, ht1, ht2⟩ := ht.same s1
    have ha1 := s1 _ _ ha
    have hrl := My.plen ht2
    refine ⟨mx 0 (colP ts k) + 1, rfl, by omega, by omega, My.lcM walk_range Same (by omega) (fun D hD => same_new hD) fun D nD => ⟨fun j y H => y = .int (b ^ j), fun j y H ys o _ h => h, fun H o s => same_at s nD, fun _ _ _ _ => trivial, ?_, ?_⟩⟩
    · rintro i x H2 H3 ys N hi r e l p' ⟨rfl, rfl⟩ hN
      walk_at "f"
      refine ⟨rfl, ?_⟩
      walk_at "f"
      refine ⟨b, i, 100, by rw [Int.zero_add]; rfl, hb, by omega, by omega, ?_⟩
      exact hN _ _ r e (fun j v hv => p' j v hv) rfl
    intro H2 ys hD hl2 s2 hy
    have ey := map_of hl2 hy
    rw [ey] at hD
    have hT : ((mx 0 (colP ts k) + 1)).toNat = (mx 0 (colP ts k)).toNat + 1 := by omega
    walk_at "f"
    refine My.dnewT fun cd ncd => ?_
    have s3 := same_new (o := HO.dT []) ncd
    have hcd := upd_same (H := H2) (a := cd) (o := HO.dT [])
    have hD3 := s3 _ _ hD
    have s13 := s2.trans s3
    have nc1 : H1 cd = none := s2.free ncd
    have nc0 : H cd = none := s1.free nc1
    have Dc : D ≠ cd := fun z => by rw [z, ncd] at hD; cases hD
    generalize upd H2 cd _ = H3 at s13 hcd hD3 ⊢
    walk_at "f"
    refine My.forTe1 ?_
    refine My.fld (s13 _ _ ha1) PT.ins.cl PT.na (by rfl) rfl ?_
    refine My.forTe (SqT.of (s13 _ _ ht1)) (fun i σ' H' => ∃ (u v x1 x2 x3 x4 : Option V), σ' = [some (.ref a), some (.int (k : Int)), some (.int b), some (.int sg), some (.int (mx 0 (colP ts k))), u, some (.ref D), some (.ref cd), v, x1, x2, x3, x4] ∧ Same H1 H' ∧ H' D = some (.lst ((List.range ((mx 0 (colP ts k) + 1)).toNat).map fun j => V.int (b ^ j))) ∧ PolD H' cd (addP [] (mvL k b sg (ts.take i)) 1)) ⟨_, _, _, _, _, _, rfl, s13, hD3, hcd⟩ (fun _ _ _ _ ⟨_, _, _, _, _, _, _, s', _⟩ => My.same_seqT s' ht1) ?_ ?_
    · rintro i x σ' H4 ex ⟨u, v, x1, x2, x3, x4, rfl, s4, hD4, hc4⟩
      rw [List.getElem?_map] at ex
      cases er : rs[i]? with
      | none => rw [er] at ex; cases ex
      | some r =>
        rw [er] at ex
        cases Option.some.inj ex
        obtain ⟨⟨kk, c⟩, ep, q0, hr1, hq0⟩ := My.pget ht2 er
        have hm := List.mem_iff_getElem?.mpr ⟨i, ep⟩
        have il : i < ts.length := (List.getElem?_eq_some_iff.mp ep).1
        have hk4 := mv.len _ hm
        have k0 := mv.k0 hm
        have k3 := mv.k3 _ hm
        have cb := mv.bd _ hm
        simp only at hk4 k0 k3 cb
        have kmx : kk.getD k 0 ≤ mx 0 (colP ts k) := mx_ge (List.mem_map.mpr ⟨_, hm, rfl⟩)
        have et : mvL k b sg (ts.take (i + 1)) = mvL k b sg (ts.take i) ++ mvT k b sg (kk, c) := by
          rw [List.take_succ, ep]
          unfold mvL
          rw [List.flatMap_append]; simp
        have few := mv.few
        have hik : (kk.map V.int)[k]? = some (V.int (kk.getD k 0)) := by
          rw [List.getElem?_map, List.getElem?_eq_getElem (show k < kk.length by rw [hk4]; exact hk), List.getD_eq_getElem?_getD, List.getElem?_eq_getElem (show k < kk.length by rw [hk4]; exact hk)]
          rfl
        refine My.gtup2 (SqT.of (s4 _ _ hr1)) rfl ?_
        walk_at "f"
        refine My.ixT (SqT.of (s4 _ _ hq0)) (atI_nat hik) ?_
        have ee : kk.getD k 0 = (((kk.getD k 0).toNat : Nat) : Int) := (Int.toNat_of_nonneg k0).symm
        refine My.name rfl (My.seq (My.asg (My.cutV (fun v H' => v = .int (frn sg k (kk, c)) ∧ H' = H4) (fun Q' hQ => ?_) ?_)))
        · unfold frn at hQ
          walk_at "f"
          · rename_i h
            refine hQ _ _ ⟨?_, rfl⟩
            rw [if_pos (.inl h)]
          · rename_i h1 h2
            rw [bitAnd_m1] at h2
            refine hQ _ _ ⟨?_, rfl⟩
            rw [if_pos (.inr h2)]
          · rename_i h1 h2
            rw [bitAnd_m1] at h2
            refine hQ _ _ ⟨?_, rfl⟩
            rw [if_neg (fun z => z.elim h1 h2)]
        rintro v9 H9 ⟨rfl, rfl⟩
        have fb : My.Bd 200 (frn sg k (kk, c)) := by
          unfold frn; split
          · exact cb
          · exact cb.neg
        walk_at "f"
        rw [et, addP_app]
        have pl := len_add (by_ := 1) (mvL k b sg (ts.take i)) []
        have pl2 := mvL_len (k := k) (b := b) (sg := sg) (ts := ts.take i) fun q hq => mv.k3 q (List.mem_of_mem_take hq)
        rw [List.length_take] at pl2
        rw [List.length_nil] at pl
        generalize hP : addP [] (mvL k b sg (ts.take i)) 1 = M0 at hc4 pl ⊢
        refine My.rngI (by omega) (by omega) (fun j σ' H' => ∃ (y1 y2 : Option V), σ' = [some (.ref a), some (.int (k : Int)), some (.int b), some (.int sg), some (.int (mx 0 (colP ts k))), y1, some (.ref D), some (.ref cd), some (.ref q0), some (.int c), some (.int (kk.getD k 0)), some (.int (frn sg k (kk, c))), y2] ∧ Same H1 H' ∧ H' D = some (.lst ((List.range ((mx 0 (colP ts k) + 1)).toNat).map fun j => V.int (b ^ j))) ∧ PolD H' cd (addP M0 ((mvT k b sg (kk, c)).take j) 1)) ⟨_, _, rfl, s4, hD4, hc4⟩ ?_ ?_
        · rintro j σ' H5 hj ⟨y1, y2, rfl, s5, hD5, hc5⟩
          have jl : j ≤ (kk.getD k 0).toNat := by omega
          rw [show (0 : Int) + (j : Int) = (j : Int) from Int.zero_add _]
          walk_at "f"
          refine ⟨q0, kk, k, (j : Int), rfl, s5 _ _ hq0, hk4, hk, fun q1 H6 s6 hq1 => ?_⟩
          have s56 := s5.trans s6
          have hD6 := s6 _ _ hD5
          have hc6 : H6 cd = some (.dT (kvI (addP M0 ((mvT k b sg (kk, c)).take j) 1))) := s6 _ _ hc5
          walk_at "f"
          refine ⟨cd, rfl, .inr ⟨_, .inl hc6⟩, ?_⟩
          walk_at "f"
          have hq1' : H6 q1 = some (.tup ((ik (kk.set k (j : Int))).map kV)) := by rw [ik_kV]; exact hq1
          refine ⟨_, DGet.t hc6 hq1', ?_⟩
          walk_at "f"
          refine ⟨(kk.getD k 0).toNat, j, by rw [← ee], jl, by omega, ?_⟩
          have cB : My.Bd 64 (BM.ch (kk.getD k 0).toNat j) := ch_bd (by omega)
          refine My.mulW fb cB (by decide) ?_
          walk_at "f"
          have ej : kk.getD k 0 - (j : Int) = (((kk.getD k 0).toNat - j : Nat) : Int) := by omega
          rw [ej]
          refine My.ixL (v := .int (b ^ ((kk.getD k 0).toNat - j))) (SqL.of hD6) (atI_nat (by rw [List.getElem?_map, List.getElem?_range (by omega)]; rfl)) ?_
          have pB := (pow_bd hb ((kk.getD k 0).toNat - j)).mono (show ((kk.getD k 0).toNat - j) * 100 + 1 ≤ 301 by omega)
          refine My.mulW (fb.mul cB) pB (by decide) ?_
          have eg : (valV (kvI (addP M0 ((mvT k b sg (kk, c)).take j) 1)) (ik (kk.set k (j : Int)))).getD (.int 0) = .int ((getP (addP M0 ((mvT k b sg (kk, c)).take j) 1) (kk.set k (j : Int))).getD 0) := by
            rw [valV_kvI]
            cases getP (addP M0 ((mvT k b sg (kk, c)).take j) 1) (kk.set k (j : Int)) <;> rfl
          rw [eg]
          walk_at "f"
          have tl := len_add (by_ := 1) ((mvT k b sg (kk, c)).take j) M0
          rw [List.length_take] at tl
          refine ⟨cd, _, rfl, DPut.t hc6 hq1' (by rw [kvI_len, sizeLine_eq]; omega), ?_⟩
          have etj : (mvT k b sg (kk, c)).take (j + 1) = (mvT k b sg (kk, c)).take j ++ [mvE k b sg (kk, c) j] := by
            rw [List.take_succ]
            congr 1
            unfold mvT
            rw [List.getElem?_map, List.getElem?_range (show j < (kk.getD k 0).toNat + 1 by omega)]; rfl
          refine ⟨_, _, rfl, fun b' o e => by rw [upd_ne (ne_of_none e nc1)]; exact s56 _ _ e, by rw [upd_ne Dc]; exact hD6, ?_⟩
          rw [PolD, upd_same, kvI_put, etj, addP_app]
          show some (HO.dT (kvI _)) = some (HO.dT (kvI (putP _ (kk.set k (j : Int)) (_ + 1 * (frn sg k (kk, c) * BM.ch (kk.getD k 0).toNat j * b ^ ((kk.getD k 0).toNat - j))))))
          rw [Int.one_mul]
          rfl
        · rintro σ' H5 ⟨y1, y2, rfl, s5, hD5, hc5⟩
          rw [show (kk.getD k 0 + 1).toNat = (mvT k b sg (kk, c)).length by rw [mvT_len]; show _ = (kk.getD k 0).toNat + 1; omega, List.take_length] at hc5
          exact ⟨_, _, _, _, _, _, rfl, s5, hD5, hc5⟩
    · rintro σ' H4 ⟨u, v, x1, x2, x3, x4, rfl, s4, hD4, hc4⟩
      rw [List.length_map, hrl, List.take_length] at hc4
      walk_at "f"
      exact ⟨cd, _, rfl, hc4, mv_gp mv, fun x H5 us s5 hx pe => q x H5 us ((s1.trans s4).trans s5) hx pe⟩
end
end K25

set_option Elab.async false
set_option linter.all false
set_option maxRecDepth 100000
set_option maxHeartbeats 4000000
namespace My
open PySem PySem.Spec PyProof.Rows L2 DX
section
variable {K : PySem.W.Frag} {td te : TE} {g : TG} {tt : TT} {vs : List Nat} {σ : L2.St} {H : Hp} {Q : VK}
theorem lcVd {d : Addr} {o : Obj} {kvs : List (Key × V)} {n : Nat} (hσ : σ[n]? = some (some (.ref d))) (hd : H d = some (.frz o (.dK kvs))) (h : LJ (Itd d o kvs) g tt te vs σ Q H) : tLc (iVals (tVar n)) g tt te vs σ H Q := ⟨_, hσ, d, o, kvs, rfl, hd, h⟩
end
end My
namespace K25
open PySem PySem.Spec PyProof.Rows L2 XV DX
def kpB (ts : Pol) (k : Nat) (sts : List Str2) : Bool := (!decide (sgP (rowP ts k 0) sts = 0)) && ts.all fun p => decide (sgP (rowP ts k (p.1.getD k 0)) sts = sgP (rowP ts k 0) sts)
theorem rowP_perm {a b : Pol} (h : a.Perm b) (k : Nat) (e : Int) : (rowP a k e).Perm (rowP b k e) := (h.filter _).map _
theorem kpB_perm {a b : Pol} (h : a.Perm b) (k : Nat) (sts : List Str2) : kpB a k sts = kpB b k sts := by
  unfold kpB
  rw [sg_perm (rowP_perm h k 0)]
  congr 1
  have e : ∀ p : List Int × Int, decide (sgP (rowP a k (p.1.getD k 0)) sts = sgP (rowP b k 0) sts) = decide (sgP (rowP b k (p.1.getD k 0)) sts = sgP (rowP b k 0) sts) := fun p => by
    rw [sg_perm (rowP_perm h k _)]
  rw [Bool.eq_iff_iff, List.all_eq_true, List.all_eq_true]
  exact ⟨fun z p hp => by rw [← e]; exact z p (h.mem_iff.mpr hp), fun z p hp => by rw [e]; exact z p (h.mem_iff.mp hp)⟩
def spKeeps (C : Addr) : Sp := fun vs H Q _ => ∃ (a b : Addr) (ts : Pol) (k : Nat) (sts : List Str2), vs = [.ref a, .int (k : Int), .ref b] ∧ PolyAt C H a ts ∧ k < 4 ∧ (∀ p ∈ ts, p.1.length = 4) ∧ ts.length ≤ 100 ∧ BoxAt H b sts ∧ (∀ e, Spr (rowP ts k e) sts) ∧
  ∀ H', Same H H' → Q (.bl (kpB ts k sts)) H'
/-- what is moved keeps sizes -/
structure Mb (ts : Pol) (k : Nat) (b : Int) (sts : List Str2) : Prop where
  mv : Mv ts k
  k4 : k < 4
  b0 : 0 < b
  bb : My.Bd 100 b
  row : ∀ sg e, (sg = 1 ∨ sg = -1) → Spr (rowP (nzP (addP [] (mvL k b sg ts) 1)) k e) sts
def kbB (ts : Pol) (k : Nat) (b sg : Int) (sts : List Str2) : Bool := kpB (nzP (addP [] (mvL k b sg ts) 1)) k sts
def spBounds (C : Addr) : Sp := fun vs H Q _ => ∃ (a x : Addr) (ts : Pol) (k : Nat) (b : Int) (sts : List Str2), vs = [.ref a, .int (k : Int), .ref x, .int b] ∧ PolyAt C H a ts ∧ BoxAt H x sts ∧ Mb ts k b sts ∧
  ∀ H', Same H H' → Q (.bl (kbB ts k b 1 sts && kbB ts k b (-1) sts)) H'
def spHolds (C : Addr) : Sp := fun vs H Q _ => ∃ (a x : Addr) (ts : Pol) (k : Nat) (b : Int) (sts : List Str2), vs = [.ref a, .int (k : Int), .ref x, .int b] ∧ PolyAt C H a ts ∧ BoxAt H x sts ∧ Mb ts k b sts ∧ topP ts = some k ∧ sts.length = k ∧ (∀ s ∈ sts, StrOk s) ∧
  ∀ H', Same H H' → Q (.bl (kbB ts k b 1 sts && kbB ts k b (-1) sts)) H'
section
variable {P : Program} {w : World} {K : PySem.W.Frag} {mg : Str → Option Value} {base : Heap}
theorem sc_keeps_sign : FnScope ["poly", "k", "box", "rows", "sign", "row"] ["poly", "k", "box"] (defScope s_keeps_sign) := ⟨rfl, rfl, rfl, by decide +kernel, rfl, by decide +kernel, by decide +kernel⟩
theorem cal_keeps_sign {f : Addr} {fd : FuncData} {C fI fE : Addr} {fdI : FuncData} (F : FnP K "keeps_sign" "keeps_sign" s_keeps_sign f fd) (g : mg "keeps_sign" = some (.ref f)) (T : Txt0 mg) (C_rows_of : Cal P w K mg base "rows_of" 8 ["poly", "k"] (spRowsOf C)) (C_sign_in : Cal P w K mg base "sign_in" 5 ["poly", "box"] (spSignIn C)) (PT : PolF K mg C fI fE) (G_Poly : FnOk P w K mg base CX0 5 fI fdI ["self", "terms"] (spPolyI C)) (b_Poly : L2.Binds K fdI ["self", "terms"] []) : Cal P w K mg base "keeps_sign" 11 ["poly", "k", "box"] (spKeeps C) := by
  obtain ⟨f_rows_of, fd_rows_of, g_rows_of, G_rows_of, b_rows_of, k_rows_of⟩ := C_rows_of
  obtain ⟨f_sign_in, fd_sign_in, g_sign_in, G_sign_in, b_sign_in, k_sign_in⟩ := C_sign_in
  refine ⟨f, fd, g, ?_, F.bindsN (fun _ _ _ _ _ _ us hl => match us, hl with | [_, _, _], _ => rfl), F.kp⟩
  refine F.ok sc_keeps_sign (fun vs H Q E h => ?_) (fun cdv A outer s H vs Q E hr h => ?_)
  · obtain ⟨a, b, ts, k, sts, rfl, hp, hk, h4, hl, hb, sp, q⟩ := h
    rfl
  · obtain ⟨a, b, ts, k, sts, rfl, hp, hk, h4, hl, hb, sp, q⟩ := h
    have hu := hu_of hr
    refine ⟨_, PSs.nox (pss_cons (ps_set (i := 3) sc_keeps_sign.nd rfl (Or.inl rfl) (pe_call G_rows_of (hr.mono (by decide)) (by rfl) g_rows_of k_rows_of b_rows_of .nil pass0 (pa_cons (pv 0) (pa_cons (pv 1) pa_nil))))
      (pss_cons (ps_set (i := 4) sc_keeps_sign.nd rfl (Or.inr rfl) (pe_call G_sign_in (hr.mono (by decide)) (by rfl) g_sign_in k_sign_in b_sign_in .nil pass0 (pa_cons (pe_dget2 hu (pv 3) pe_int (pe_make PT.mkr G_Poly (hr.mono (by decide)) (by rfl) PT.g b_Poly .nil pass0 (pa_cons (pe_tup pa_nil) pa_nil)) ⟨rfl, rfl, rfl, rfl⟩) (pa_cons (pv 2) pa_nil))))
      (pss_cons (ps_if (pt_cmpR op_eq (pv 4) pe_int (nomark _))
       (pss_one (ps_ret pe_bl))
       pss_nil)
      (pss_one (ps_ret (pe_callB (cr_all rfl) (by rfl) T.all (by decide +kernel) (pa_cons (pe_lock (pe_lc (own := [("row", 5)]) (tt := tYes) (by rfl) sc_keeps_sign.nd (pi_values (pv 3)) (blkOk_by (own := [("row", 5)]) (N := ["poly", "k", "box", "rows", "sign", "row"]) (sc := (defScope s_keeps_sign)) (by decide +kernel)) (fun _ _ _ _ _ => (pg_name (i := 5) sc_keeps_sign.nd rfl (Or.inl rfl))) (fun _ _ _ _ _ => pts_nil) (fun _ _ _ _ _ => (pe_cmpR op_eq (pe_call G_sign_in (hr.mono (by decide)) (by rfl) g_sign_in k_sign_in b_sign_in .nil pass0 (pa_cons (pv 5) (pa_cons (pv 2) pa_nil))) (pv 4) (nomark _))))) pa_nil))))))), ?_⟩
    try dsimp only [cxOf, Cx.nox, Cx.wish]
    walk_at "f"
    refine ⟨a, ts, k, rfl, hp, hk, h4, hl, fun rd H1 G s1 hrd nk hrow hkeys gl => ?_⟩
    walk_at "f"
    refine ⟨rd, rfl, .inl ⟨_, .inl hrd⟩, ?_⟩
    walk_at "f"
    refine My.new (My.sz (by simp)) fun t0 nt0 => ?_
    have s0 := same_new (o := HO.tup []) nt0
    have e0 := upd_same (H := H1) (a := t0) (o := HO.tup [])
    generalize upd H1 t0 _ = H2 at s0 e0 ⊢
    intro x dx nx ndx nxd
    have sm : Same H2 (upd (upd H2 dx (HO.own x)) x (HO.ins C dx [])) := fun b o e => by
      rw [upd_ne (ne_of_none e nx), upd_ne (ne_of_none e ndx)]; exact e
    refine ⟨x, dx, t0, [], rfl, upd_same, ⟨[], sm _ _ e0, .nil⟩, ⟨(fun p h => nomatch h), (fun p h => nomatch h), Nat.zero_le _, List.Pairwise.nil⟩, fun H4 s4 => ⟨rfl, ?_⟩⟩
    have s5 : Same H2 (upd H4 x (HO.ins C dx [("terms", V.ref t0)])) := made_same nx ndx s4
    have ex : PolyAt C (upd H4 x (HO.ins C dx [("terms", V.ref t0)])) x [] := ⟨dx, t0, upd_same, [], s5 _ _ e0, .nil⟩
    have s6 := s0.trans s5
    generalize upd H4 x _ = H5 at s6 ex ⊢
    have hrd5 := s6 _ _ hrd
    refine ⟨_, DGet.k (k := .inl 0) hrd5, ?_⟩
    have h0 : ∃ y, (valV (dkG G) (.inl 0)).getD (.ref x) = .ref y ∧ PolyAt C H5 y (rowP ts k 0) := by
      cases e : valV (dkG G) (.inl 0) with
      | none =>
        have n := valG_none e
        have : rowP ts k 0 = [] := by
          unfold rowP
          rw [List.map_eq_nil_iff, List.filter_eq_nil_iff]
          exact fun p hp z => n ((hkeys 0).mpr ⟨p, hp, of_decide_eq_true z⟩)
        exact ⟨x, rfl, by rw [this]; exact ex⟩
      | some v =>
        obtain ⟨l, rfl, hm⟩ := valG_some e
        exact ⟨l, rfl, (hrow _ hm).same s6⟩
    obtain ⟨y, ey, hy⟩ := h0
    rw [ey]
    have s7 := s1.trans s6
    walk_at "f"
    refine ⟨y, b, rowP ts k 0, sts, rfl, hy, hb.same s7, sp 0, fun H6 s8 => ?_⟩
    have s9 := s7.trans s8
    have kp0 : kpB ts k sts = ((!decide (sgP (rowP ts k 0) sts = 0)) && ts.all fun p => decide (sgP (rowP ts k (p.1.getD k 0)) sts = sgP (rowP ts k 0) sts)) := rfl
    walk_at "f"
    · rename_i z
      rw [decide_eq_true z] at kp0
      have kp1 : kpB ts k sts = false := kp0
      have qq := q _ s9
      rw [kp1] at qq
      exact qq
    rename_i z
    rw [decide_eq_false z, Bool.not_false, Bool.true_and] at kp0
    have hrd6 := s8 _ _ hrd5
    refine My.lockE hrd6 True.intro fun od => ?_
    have hlk := upd_same (H := H6) (a := rd) (o := HO.frz od (.dK (dkG G)))
    have lk := fun {H' : Hp} (s : Same (upd H6 rd (.frz od (.dK (dkG G)))) H') => same_lock hrd6 s
    have hrowl : ∀ g ∈ G, PolyAt C (upd H6 rd (.frz od (.dK (dkG G)))) g.2 (rowP ts k g.1) := fun g hg => ((hrow g hg).same (s6.trans s8)).updK hrd6
    have hbl : BoxAt (upd H6 rd (.frz od (.dK (dkG G)))) b sts := by
      obtain ⟨rs, h1, h2⟩ := hb.same s9
      have tn : ∀ c xs, H6 c = some (.tup xs) → c ≠ rd := fun c xs e z => by rw [z, hrd6] at e; cases e
      exact ⟨rs, by rw [upd_ne (tn _ _ h1)]; exact h1, Paired.mapP h2 fun c s' ⟨p, q', g1, g2, g3⟩ => ⟨p, q', by rw [upd_ne (tn _ _ g1)]; exact g1, by show upd H6 rd _ p = _; rw [upd_ne (tn _ _ g2)]; exact g2, by show upd H6 rd _ q' = _; rw [upd_ne (tn _ _ g3)]; exact g3⟩⟩
    generalize upd H6 rd (.frz od (.dK (dkG G))) = Hl at hlk lk hrowl hbl ⊢
    have gl1 : (dkG G).length ≤ 1000 := by unfold dkG; rw [List.length_map]; omega
    refine My.lcVd rfl hlk (My.lcM walk_values Same gl1 (fun D hD => same_new hD) fun D nD => ⟨fun j y H => ∃ g, G[j]? = some g ∧ y = .bl (decide (sgP (rowP ts k g.1) sts = sgP (rowP ts k 0) sts)), fun j y H ys o _ h => h, fun H o s => same_at s nD, fun H2 _ s _ => s _ _ hlk, ?_, ?_⟩)
    · rintro i x1 H7 H8 ys N hi r e l p' ⟨rfl, kk, ex2⟩ hN
      unfold dkG at ex2
      rw [List.getElem?_map] at ex2
      cases eg : G[i]? with
      | none => rw [eg] at ex2; cases ex2
      | some g =>
        rw [eg] at ex2
        have e9 := Option.some.inj ex2
        injection e9 with e91 e92
        subst e92
        have hg := List.mem_iff_getElem?.mpr ⟨i, eg⟩
        walk_at "f"
        refine ⟨rfl, ?_⟩
        walk_at "f"
        refine ⟨g.2, b, rowP ts k g.1, sts, rfl, (hrowl g hg).same r, hbl.same r, sp g.1, fun H9 s10 => ?_⟩
        walk_at "f"
        exact hN _ _ (r.trans s10) (s10 _ _ e) p' ⟨g, eg, rfl⟩
    · intro H7 ys hD hl2 s10 hy
      unfold dkG at hl2
      rw [List.length_map] at hl2
      have ey2 : ys = (G.map fun g => decide (sgP (rowP ts k g.1) sts = sgP (rowP ts k 0) sts)).map V.bl := by
        refine List.ext_getElem? fun j => ?_
        rw [List.getElem?_map, List.getElem?_map]
        by_cases hj : j < ys.length
        · obtain ⟨g, e1, e2⟩ := hy j _ (List.getElem?_eq_getElem hj)
          rw [List.getElem?_eq_getElem hj, e1, e2]; rfl
        · rw [List.getElem?_eq_none (by omega), List.getElem?_eq_none (by omega)]; rfl
      have hlk7 := s10 _ _ hlk
      refine ⟨hlk7, ?_⟩
      have Dr : D ≠ rd := fun z => by rw [z, hlk] at nD; cases nD
      have s11 := s9.trans (lk s10)
      have hD8 : upd H7 rd (.dK (dkG G)) D = some (.lst ((G.map fun g => decide (sgP (rowP ts k g.1) sts = sgP (rowP ts k 0) sts)).map V.bl)) := by rw [upd_ne Dr, hD, ey2]
      generalize upd H7 rd (HO.dK (dkG G)) = H8 at s11 hD8 ⊢
      walk_at "f"
      refine My.allL (SqL.of hD8) ?_
      have ea : (G.map fun g => decide (sgP (rowP ts k g.1) sts = sgP (rowP ts k 0) sts)).all id = kpB ts k sts := by
        rw [kp0, Bool.eq_iff_iff, List.all_eq_true, List.all_eq_true]
        constructor
        · intro h p hp
          obtain ⟨g, hg, e⟩ := List.mem_map.mp ((hkeys (p.1.getD k 0)).mpr ⟨p, hp, rfl⟩)
          have := h _ (List.mem_map.mpr ⟨g, hg, rfl⟩)
          rw [e] at this
          exact this
        · intro h z hz
          obtain ⟨g, hg, rfl⟩ := List.mem_map.mp hz
          obtain ⟨p, hp, e⟩ := (hkeys g.1).mp (List.mem_map.mpr ⟨g, hg, rfl⟩)
          have := h p hp
          rw [e] at this
          exact this
      rw [ea]
      exact q _ s11
theorem sc_bounds : FnScope ["poly", "k", "box", "bound", "sign"] ["poly", "k", "box", "bound"] (defScope s_bounds) := ⟨rfl, rfl, rfl, by decide +kernel, rfl, by decide +kernel, by decide +kernel⟩
theorem cal_bounds {f : Addr} {fd : FuncData} {C : Addr} (F : FnP K "bounds" "bounds" s_bounds f fd) (g : mg "bounds" = some (.ref f)) (T : Txt0 mg) (C_keeps_sign : Cal P w K mg base "keeps_sign" 11 ["poly", "k", "box"] (spKeeps C)) (C_moved : Cal P w K mg base "moved" 10 ["poly", "k", "bound", "sign"] (spMoved C)) : Cal P w K mg base "bounds" 13 ["poly", "k", "box", "bound"] (spBounds C) := by
  obtain ⟨f_keeps_sign, fd_keeps_sign, g_keeps_sign, G_keeps_sign, b_keeps_sign, k_keeps_sign⟩ := C_keeps_sign
  obtain ⟨f_moved, fd_moved, g_moved, G_moved, b_moved, k_moved⟩ := C_moved
  refine ⟨f, fd, g, ?_, F.bindsN (fun _ _ _ _ _ _ us hl => match us, hl with | [_, _, _, _], _ => rfl), F.kp⟩
  refine F.ok sc_bounds (fun vs H Q E h => ?_) (fun cdv A outer s H vs Q E hr h => ?_)
  · obtain ⟨a, x, ts, k, b, sts, rfl, hp, hx, mb, q⟩ := h
    rfl
  · obtain ⟨a, x, ts, k, b, sts, rfl, hp, hx, mb, q⟩ := h
    refine ⟨_, PSs.nox (pss_one (ps_ret (pe_callB (cr_all rfl) (by rfl) T.all (by decide +kernel) (pa_cons (pe_lc (own := [("sign", 4)]) (tt := tYes) (by rfl) sc_bounds.nd (pi_tup (pe_tup (pa_cons pe_int (pa_cons (pe_un un_neg pe_int) pa_nil)))) (blkOk_by (own := [("sign", 4)]) (N := ["poly", "k", "box", "bound", "sign"]) (sc := (defScope s_bounds)) (by decide +kernel)) (fun _ _ _ _ _ => (pg_name (i := 4) sc_bounds.nd rfl (Or.inl rfl))) (fun _ _ _ _ _ => pts_nil) (fun _ _ _ _ _ => (pe_call G_keeps_sign (hr.mono (by decide)) (by rfl) g_keeps_sign k_keeps_sign b_keeps_sign .nil pass0 (pa_cons (pe_call G_moved (hr.mono (by decide)) (by rfl) g_moved k_moved b_moved .nil pass0 (pa_cons (pv 0) (pa_cons (pv 1) (pa_cons (pv 3) (pa_cons (pv 4) pa_nil))))) (pa_cons (pv 1) (pa_cons (pv 2) pa_nil)))))) pa_nil)))), ?_⟩
    try dsimp only [cxOf, Cx.nox, Cx.wish]
    walk_at "f"
    refine My.lcTe1 ?_
    walk_at "f"
    refine My.new (My.sz (by simp)) fun tp ntp => ?_
    have s0 := same_new (o := HO.tup [V.int 1, V.int (-1)]) ntp
    have e0 := upd_same (H := H) (a := tp) (o := HO.tup [V.int 1, V.int (-1)])
    generalize upd H tp _ = H0 at s0 e0 ⊢
    refine My.lcTe2 (SqT.of e0) (My.lcM (walk_tup (xs := [V.int 1, V.int (-1)])) Same (by simp) (fun D hD => same_new hD) fun D nD => ⟨fun j y H => y = .bl (kbB ts k b (if j = 0 then 1 else -1) sts), fun j y H ys o _ h => h, fun H o s => same_at s nD, fun H2 _ s _ => My.same_seqT s e0, ?_, ?_⟩)
    · rintro i x1 H7 H8 ys N hi r e l p' ⟨rfl, ex2⟩ hN
      obtain ⟨sg, rfl, esg⟩ : ∃ sg : Int, x1 = .int sg ∧ sg = if i = 0 then 1 else -1 := by
        match i, ex2 with
        | 0, ex2 => exact ⟨1, (Option.some.inj ex2).symm, rfl⟩
        | 1, ex2 => exact ⟨-1, (Option.some.inj ex2).symm, rfl⟩
      walk_at "f"
      refine ⟨rfl, ?_⟩
      walk_at "f"
      refine ⟨a, ts, k, b, sg, rfl, hp.same (s0.trans r), mb.mv, mb.k4, mb.b0, mb.bb, fun y H9 us s9 hy pe => ?_⟩
      walk_at "f"
      have gp := mv_gp (b := b) (sg := sg) mb.mv
      have sub : ∀ p ∈ us, p ∈ addP [] (mvL k b sg ts) 1 := fun p hp => (List.mem_filter.mp (pe.mem_iff.mp hp)).1
      refine ⟨y, x, us, k, sts, rfl, hy, mb.k4, fun p hp => gp.len p (sub p hp), ?_, hx.same ((s0.trans r).trans s9), fun e => spr_perm (rowP_perm pe k e) (mb.row sg e (by rw [esg]; split; exact .inl rfl; exact .inr rfl)), fun H10 s10 => ?_⟩
      · have := List.length_filter_le (fun p : List Int × Int => !decide (p.2 = 0)) (addP [] (mvL k b sg ts) 1)
        have f := gp.few
        rw [pe.length_eq]
        show (List.filter _ _).length ≤ 100
        omega
      · refine hN _ _ ((r.trans s9).trans s10) (s10 _ _ (s9 _ _ e)) p' ?_
        show V.bl _ = V.bl (kbB ts k b (if i = 0 then 1 else -1) sts)
        rw [kpB_perm pe, ← esg]; rfl
    · intro H7 ys hD hl2 s10 hy
      have ey := map_of hl2 hy
      walk_at "f"
      have ey2 : ys = [kbB ts k b 1 sts, kbB ts k b (-1) sts].map V.bl := by rw [ey]; rfl
      rw [ey2] at hD
      refine My.allL (SqL.of hD) ?_
      have := q _ (s0.trans s10)
      simpa using this
theorem sc_holds_in : FnScope ["poly", "k", "box", "bound"] ["poly", "k", "box", "bound"] (defScope s_holds_in) := ⟨rfl, rfl, rfl, by decide +kernel, rfl, by decide +kernel, by decide +kernel⟩
theorem cal_holds_in {f : Addr} {fd : FuncData} {C : Addr} (F : FnP K "holds_in" "holds_in" s_holds_in f fd) (g : mg "holds_in" = some (.ref f)) (T : Txt0 mg) (C_bounds : Cal P w K mg base "bounds" 13 ["poly", "k", "box", "bound"] (spBounds C)) (C_is_unknown : Cal P w K mg base "is_unknown" 3 ["thing"] (spUnk K)) (C_top : Cal P w K mg base "top" 2 ["poly"] (spTop C)) (C_is_box : Cal P w K mg base "is_box" 4 ["thing"] (spBoxT K)) (C_is_bound : Cal P w K mg base "is_bound" 2 ["thing"] spBnd) : Cal P w K mg base "holds_in" 14 ["poly", "k", "box", "bound"] (spHolds C) := by
  obtain ⟨f_bounds, fd_bounds, g_bounds, G_bounds, b_bounds, k_bounds⟩ := C_bounds
  obtain ⟨f_is_unknown, fd_is_unknown, g_is_unknown, G_is_unknown, b_is_unknown, k_is_unknown⟩ := C_is_unknown
  obtain ⟨f_top, fd_top, g_top, G_top, b_top, k_top⟩ := C_top
  obtain ⟨f_is_box, fd_is_box, g_is_box, G_is_box, b_is_box, k_is_box⟩ := C_is_box
  obtain ⟨f_is_bound, fd_is_bound, g_is_bound, G_is_bound, b_is_bound, k_is_bound⟩ := C_is_bound
  refine ⟨f, fd, g, ?_, F.bindsN (fun _ _ _ _ _ _ us hl => match us, hl with | [_, _, _, _], _ => rfl), F.kp⟩
  refine F.ok sc_holds_in (fun vs H Q E h => ?_) (fun cdv A outer s H vs Q E hr h => ?_)
  · obtain ⟨a, x, ts, k, b, sts, rfl, hp, hx, mb, et, el, ok, q⟩ := h
    rfl
  · obtain ⟨a, x, ts, k, b, sts, rfl, hp, hx, mb, et, el, ok, q⟩ := h
    refine ⟨_, PSs.nox (pss_cons (ps_if (PW.pt (pw_or (pt_not (pt_val (pe_call G_is_unknown (hr.mono (by decide)) (by rfl) g_is_unknown k_is_unknown b_is_unknown .nil pass0 (pa_cons (pv 1) pa_nil)))) (pw_or1 (pt_cmpR op_ne (pe_call G_top (hr.mono (by decide)) (by rfl) g_top k_top b_top .nil pass0 (pa_cons (pv 0) pa_nil)) (pv 1) (nomark _)))))
       (pss_one ps_never)
       pss_nil)
      (pss_cons (ps_if (PW.pt (pw_or (pt_not (pt_val (pe_call G_is_box (hr.mono (by decide)) (by rfl) g_is_box k_is_box b_is_box .nil pass0 (pa_cons (pv 2) pa_nil)))) (pw_or1 (pt_cmpR op_ne (pe_callB My.c_len (by rfl) T.len PySem.boot_len (pa_cons (pv 2) pa_nil)) (pv 1) (nomark _)))))
       (pss_one ps_never)
       pss_nil)
      (pss_cons (ps_if (pt_not (pt_val (pe_call G_is_bound (hr.mono (by decide)) (by rfl) g_is_bound k_is_bound b_is_bound .nil pass0 (pa_cons (pv 3) pa_nil))))
       (pss_one ps_never)
       pss_nil)
      (pss_one (ps_ret (pe_call G_bounds (hr.mono (by decide)) (by rfl) g_bounds k_bounds b_bounds .nil pass0 (pa_cons (pv 0) (pa_cons (pv 1) (pa_cons (pv 2) (pa_cons (pv 3) pa_nil)))))))))), ?_⟩
    try dsimp only [cxOf, Cx.nox, Cx.wish]
    have k4 := mb.k4
    have k3 : k ≤ 3 := by omega
    walk_at "f"
    refine ⟨_, .int, rfl, .int _, ?_⟩
    rw [show inTo 3 (.int (k : Int)) = true by show (decide (0 ≤ (k : Int)) && decide ((k : Int) ≤ 3)) = true; rw [decide_eq_true (by omega), decide_eq_true (by omega)]; rfl]
    walk_at "f"
    refine ⟨a, ts, rfl, hp, mb.mv.len, Nat.le_trans mb.mv.few (by decide), fun H1 s1 => ?_⟩
    rw [show topV ts = .int (k : Int) by unfold topV; rw [et]]
    walk_at "f"
    rw [decide_eq_true rfl]
    walk_at "f"
    refine ⟨x, sts, rfl, hx.same s1, ok, by omega, fun H2 s2 => ?_⟩
    walk_at "f"
    obtain ⟨rs, h1, h2⟩ := hx.same (s1.trans s2)
    refine My.lenT (SqT.of h1) ?_
    rw [List.length_map, My.plen h2, el]
    walk_at "f"
    rw [decide_eq_true rfl]
    walk_at "f"
    refine ⟨b, rfl, ?_⟩
    have b0 := mb.b0
    rw [decide_eq_true (by omega : (1 : Int) ≤ b)]
    walk_at "f"
    exact ⟨a, x, ts, k, b, sts, rfl, hp.same (s1.trans s2), ⟨rs, h1, h2⟩, mb, fun H3 s3 => q _ ((s1.trans s2).trans s3)⟩
end
end K25

set_option Elab.async false
set_option linter.all false
set_option maxRecDepth 100000
set_option maxHeartbeats 4000000
/-! the rows, as the program makes them and as the law does -/
namespace K25
open PySem PySem.Spec PyProof.Rows L2 DX
def lwC (k : Nat) (b sg : Int) (p : List Int × Int) (i : Nat) : Int := p.2 * sg ^ (p.1.getD k 0).toNat * BM.ch (p.1.getD k 0).toNat i * b ^ ((p.1.getD k 0).toNat - i)
def mvR (k : Nat) (b sg : Int) (ts : Pol) (i : Nat) : Pol := (ts.filter fun p => decide (i ≤ (p.1.getD k 0).toNat)).map fun p => (p.1.set k 0, lwC k b sg p i)
def rowL (k : Nat) (b sg : Int) (ts : Pol) (i : Nat) : Pol := addP [] (mvR k b sg ts i) 1
theorem pow_sg {sg : Int} (h : sg = 1 ∨ sg = -1) (n : Nat) : sg ^ n = if 0 < sg ∨ n % 2 = 0 then 1 else -1 := by
  rcases h with rfl | rfl
  · rw [if_pos (.inl (by decide)), Int.one_pow]
  · induction n with
    | zero => rw [if_pos (.inr rfl), Int.pow_zero]
    | succ n ih =>
      rw [Int.pow_succ, ih]
      by_cases z : n % 2 = 0
      · rw [if_pos (.inr z), if_neg (by rintro (y | y) <;> omega)]; rfl
      · rw [if_neg (by rintro (y | y) <;> omega), if_pos (.inr (by omega))]; rfl
theorem frn_sg {sg : Int} (h : sg = 1 ∨ sg = -1) {k : Nat} {p : List Int × Int} (h0 : 0 ≤ p.1.getD k 0) : frn sg k p = p.2 * sg ^ (p.1.getD k 0).toNat := by
  unfold frn
  rw [pow_sg h]
  by_cases z : 0 < sg ∨ p.1.getD k 0 % 2 = 0
  · rw [if_pos z, if_pos (z.imp_right fun y => by omega), Int.mul_one]
  · rw [if_neg z, if_neg fun y => z (y.imp_right fun y => by omega)]; omega
theorem sumAt_app (a c : Pol) (l : List Int) : sumAt (a ++ c) l = sumAt a l + sumAt c l := by
  unfold sumAt; rw [List.map_append, List.sum_append]
theorem set_set0 {k : Nat} {a : List Int} {x y : Int} : (a.set k x).set k y = a.set k y := List.set_set ..
theorem set_self {k : Nat} {l : List Int} {x : Int} (h : l.getD k 0 = x) (hk : k < l.length) : l.set k x = l := by
  refine List.ext_getElem (List.length_set ..) fun j h1 h2 => ?_
  rw [List.getElem_set]
  split
  · rename_i e
    subst e
    rw [← h, List.getD_eq_getElem?_getD, List.getElem?_eq_getElem h2]; rfl
  · rfl
theorem set_iff {k : Nat} {a l : List Int} {x y : Int} (ha : k < a.length) (hl : k < l.length) (l0 : l.getD k 0 = 0) : a.set k x = l.set k y ↔ x = y ∧ a.set k 0 = l := by
  constructor
  · intro e
    have h1 : (a.set k x).getD k 0 = (l.set k y).getD k 0 := by rw [e]
    rw [getD_set ha, getD_set hl, if_pos rfl, if_pos rfl] at h1
    have h2 : (a.set k x).set k 0 = (l.set k y).set k 0 := by rw [e]
    rw [set_set0, set_set0, set_self l0 hl] at h2
    exact ⟨h1, h2⟩
  · rintro ⟨rfl, e⟩
    rw [← e, set_set0]
theorem sumAt_mvT {k : Nat} {b sg : Int} {p : List Int × Int} {l : List Int} {i : Nat} (hp : k < p.1.length) (hl : k < l.length) (l0 : l.getD k 0 = 0) :
    sumAt (mvT k b sg p) (l.set k (i : Int)) = if i ≤ (p.1.getD k 0).toNat ∧ p.1.set k 0 = l then frn sg k p * BM.ch (p.1.getD k 0).toNat i * b ^ ((p.1.getD k 0).toNat - i) else 0 := by
  unfold sumAt mvT
  rw [List.map_map]
  have e : ((fun q : List Int × Int => if q.1 = l.set k (i : Int) then q.2 else 0) ∘ mvE k b sg p) = fun low => if low = i ∧ p.1.set k 0 = l then frn sg k p * BM.ch (p.1.getD k 0).toNat i * b ^ ((p.1.getD k 0).toNat - i) else 0 := by
    funext low
    show (if p.1.set k (low : Int) = l.set k (i : Int) then _ else 0) = _
    by_cases z : low = i ∧ p.1.set k 0 = l
    · rw [if_pos z, if_pos ((set_iff hp hl l0).mpr ⟨by rw [z.1], z.2⟩), z.1]; rfl
    · rw [if_neg z, if_neg fun y => z (by obtain ⟨y1, y2⟩ := (set_iff hp hl l0).mp y; exact ⟨by omega, y2⟩)]
  rw [e, BM.sum_range]
  generalize frn sg k p * BM.ch (p.1.getD k 0).toNat i * b ^ ((p.1.getD k 0).toNat - i) = c
  generalize (p.1.getD k 0).toNat = n
  by_cases hc : p.1.set k 0 = l
  · have key : ∀ n, BM.sm n (fun low => if low = i ∧ p.1.set k 0 = l then c else 0) = if i < n then c else 0 := by
      intro n
      induction n with
      | zero => rfl
      | succ n ih =>
        show BM.sm n _ + (if n = i ∧ _ then c else 0) = _
        rw [ih]
        by_cases z : n = i
        · rw [if_neg (by omega), if_pos ⟨z, hc⟩, if_pos (by omega), Int.zero_add]
        · by_cases y : i < n
          · rw [if_pos y, if_neg fun w => z w.1, if_pos (by omega), Int.add_zero]
          · rw [if_neg y, if_neg fun w => z w.1, if_neg (by omega)]; rfl
    rw [key]
    by_cases y : i ≤ n
    · rw [if_pos (by omega), if_pos ⟨y, hc⟩]
    · rw [if_neg (by omega), if_neg fun w => y w.1]
  · rw [if_neg fun w => hc w.2]
    exact BM.sm_zero fun t _ => if_neg fun w => hc w.2
theorem sumAt_rows {k : Nat} {b sg : Int} (hs : sg = 1 ∨ sg = -1) {l : List Int} {i : Nat} (hl : k < l.length) (l0 : l.getD k 0 = 0) : ∀ {ts : Pol}, (∀ p ∈ ts, k < p.1.length ∧ 0 ≤ p.1.getD k 0) →
    sumAt (mvL k b sg ts) (l.set k (i : Int)) = sumAt (mvR k b sg ts i) l
  | [], _ => rfl
  | p :: ts, h => by
    have ih := sumAt_rows (b := b) hs (i := i) hl l0 (ts := ts) fun q hq => h q (List.mem_cons_of_mem _ hq)
    obtain ⟨h1, h2⟩ := h p List.mem_cons_self
    show sumAt (mvT k b sg p ++ mvL k b sg ts) _ = _
    rw [sumAt_app, ih, sumAt_mvT h1 hl l0, frn_sg hs h2]
    unfold mvR
    by_cases z : i ≤ (p.1.getD k 0).toNat
    · rw [List.filter_cons_of_pos (p := fun p : List Int × Int => decide (i ≤ (p.1.getD k 0).toNat)) (decide_eq_true z), List.map_cons]
      show _ = (if p.1.set k 0 = l then lwC k b sg p i else 0) + sumAt _ l
      congr 1
      by_cases y : p.1.set k 0 = l
      · rw [if_pos ⟨z, y⟩, if_pos y]; rfl
      · rw [if_neg fun w => y w.2, if_neg y]
    · rw [List.filter_cons_of_neg (p := fun p : List Int × Int => decide (i ≤ (p.1.getD k 0).toNat)) (by rw [decide_eq_false z]; exact Bool.false_ne_true), if_neg fun w => z w.1, Int.zero_add]
theorem rowP_nd {us : Pol} {k : Nat} {e : Int} (nd : (keysP us).Nodup) (h4 : ∀ p ∈ us, k < p.1.length) : (keysP (rowP us k e)).Nodup := by
  unfold rowP keysP
  rw [List.map_map]
  unfold List.Nodup
  rw [List.pairwise_map]
  have nd2 : (us.filter fun p => decide (p.1.getD k 0 = e)).Pairwise fun p q => p.1 ≠ q.1 := by
    have : us.Pairwise fun p q => p.1 ≠ q.1 := List.pairwise_map.mp nd
    exact this.sublist List.filter_sublist
  refine List.Pairwise.imp_of_mem (fun {p q} hp hq n z => n ?_) nd2
  obtain ⟨p1, p2⟩ := List.mem_filter.mp hp
  obtain ⟨q1, q2⟩ := List.mem_filter.mp hq
  have p2 := of_decide_eq_true p2
  have q2 := of_decide_eq_true q2
  have z : p.1.set k 0 = q.1.set k 0 := z
  rw [← set_self p2 (h4 p p1), ← set_self q2 (h4 q q1), ← set_set0 (x := (0 : Int)), z, set_set0]
theorem val_rowP {us : Pol} {k : Nat} {e : Int} {l : List Int} (nd : (keysP us).Nodup) (h4 : ∀ p ∈ us, k < p.1.length) (hl : k < l.length) (l0 : l.getD k 0 = 0) : val (rowP us k e) l = val us (l.set k e) := by
  by_cases z : l.set k e ∈ keysP us
  · obtain ⟨p, hp, ep⟩ := List.mem_map.mp z
    have pe : p.1.getD k 0 = e := by rw [ep, getD_set hl, if_pos rfl]
    have hr : (p.1.set k 0, p.2) ∈ rowP us k e := List.mem_map.mpr ⟨p, List.mem_filter.mpr ⟨hp, decide_eq_true pe⟩, rfl⟩
    have e1 := val_of (rowP_nd nd h4) hr
    have e2 : p.1.set k 0 = l := by rw [ep, set_set0, set_self l0 hl]
    rw [← ep, val_of nd hp, ← e2]
    exact e1
  · rw [val_off z, val_off fun y => z ?_]
    obtain ⟨q, hq, eq⟩ := List.mem_map.mp y
    obtain ⟨p, hp, rfl⟩ := List.mem_map.mp hq
    obtain ⟨p1, p2⟩ := List.mem_filter.mp hp
    have p2 := of_decide_eq_true p2
    refine List.mem_map.mpr ⟨p, p1, ?_⟩
    have eq : p.1.set k 0 = l := eq
    rw [← eq, set_set0, set_self p2 (h4 p p1)]
theorem row_bridge {ts : Pol} {k : Nat} {b sg : Int} (hs : sg = 1 ∨ sg = -1) (mv : Mv ts k) (hk : k < 4) (i : Nat) : (rowP (nzP (addP [] (mvL k b sg ts) 1)) k (i : Int)).Perm (nzP (rowL k b sg ts i)) := by
  have gp := mv_gp (b := b) (sg := sg) mv
  have ndN : (keysP (nzP (addP [] (mvL k b sg ts) 1))).Nodup := List.Nodup.sublist (List.Sublist.map _ List.filter_sublist) gp.nd
  have hN : ∀ p ∈ nzP (addP [] (mvL k b sg ts) 1), k < p.1.length := fun p hp => by rw [gp.len p (List.mem_filter.mp hp).1]; exact hk
  have ndR : (keysP (rowL k b sg ts i)).Nodup := nodup_add List.nodup_nil
  refine perm_of_val (rowP_nd ndN hN) (List.Nodup.sublist (List.Sublist.map _ List.filter_sublist) ndR) (fun p hp => ?_) (fun p hp => by simpa using (List.mem_filter.mp hp).2) fun l => ?_
  · obtain ⟨q, hq, rfl⟩ := List.mem_map.mp hp
    simpa using (List.mem_filter.mp (List.mem_filter.mp hq).1).2
  · rw [nz_val ndR]
    by_cases z : l.length = 4 ∧ l.getD k 0 = 0
    · have hl : k < l.length := by rw [z.1]; exact hk
      rw [val_rowP ndN hN hl z.2, nz_val gp.nd]
      unfold rowL
      rw [val_add, val_add, sumAt_rows hs hl z.2 fun p hp => ⟨by rw [mv.len p hp]; exact hk, mv.k0 hp⟩]
      rfl
    · rw [val_off fun y => z ?_, val_off fun y => z ?_]
      · rcases mem_add y with y | y
        · cases y
        · obtain ⟨q, hq, eq⟩ := List.mem_map.mp y
          obtain ⟨p, hp, rfl⟩ := List.mem_map.mp hq
          have p1 := (List.mem_filter.mp hp).1
          have eq : p.1.set k 0 = l := eq
          rw [← eq, List.length_set, getD_set (by rw [mv.len p p1]; exact hk), if_pos rfl]
          exact ⟨mv.len p p1, rfl⟩
      · obtain ⟨q, hq, eq⟩ := List.mem_map.mp y
        obtain ⟨p, hp, rfl⟩ := List.mem_map.mp hq
        have p1 := (List.mem_filter.mp hp).1
        have eq : p.1.set k 0 = l := eq
        rw [← eq, List.length_set, getD_set (hN p p1), if_pos rfl]
        exact ⟨gp.len p (List.mem_filter.mp p1).1, rfl⟩
end K25

set_option Elab.async false
set_option linter.all false
set_option maxRecDepth 100000
set_option maxHeartbeats 4000000
namespace K25
open PySem PySem.Spec PyProof.Rows L2 XV DX
def dgN (m : Pol) (k : Nat) : Nat := (mx 0 (colP (nzP m) k)).toNat
/-- a list of dicts -/
structure DL (H0 H' : Hp) (L : Addr) (ds : List Addr) (f : Nat → Pol) : Prop where
  l : H' L = some (.lst (ds.map V.ref))
  nd : ds.Nodup
  nw : ∀ d ∈ ds, H0 d = none
  nl : H0 L = none
  at_ : ∀ i d, ds[i]? = some d → PolD H' d (f i)
  same : Same H0 H'
theorem DL.mono {H0 H' H'' : Hp} {L : Addr} {ds : List Addr} {f : Nat → Pol} (r : DL H0 H' L ds f) (s : Same H' H'') : DL H0 H'' L ds f :=
  ⟨s _ _ r.l, r.nd, r.nw, r.nl, fun i d h => s _ _ (r.at_ i d h), r.same.trans s⟩
theorem DL.put {H0 H' : Hp} {L d : Addr} {ds : List Addr} {f g : Nat → Pol} {i : Nat} (r : DL H0 H' L ds f) (hd : ds[i]? = some d) (hg : ∀ j, j ≠ i → g j = f j) : DL H0 (upd H' d (.dT (kvI (g i)))) L ds g := by
  have e := r.at_ i d hd
  have ne : L ≠ d := fun z => by
    have e' : H' d = some (.dT (kvI (f i))) := e
    rw [← z, r.l] at e'; cases e'
  refine ⟨by rw [upd_ne ne]; exact r.l, r.nd, r.nw, r.nl, fun j d' h => ?_, fun b o h => by rw [upd_ne (ne_of_none h (r.nw _ (List.mem_iff_getElem?.mpr ⟨i, hd⟩)))]; exact r.same _ _ h⟩
  by_cases z : j = i
  · subst z
    rw [hd] at h
    cases (Option.some.inj h)
    exact upd_same
  · have n : d' ≠ d := fun y => z ((List.getElem?_inj (List.getElem?_eq_some_iff.mp h).1 r.nd).mp (by rw [h, hd, y]))
    rw [hg j z]
    show upd H' d _ d' = _
    rw [upd_ne n]
    exact r.at_ j d' h
theorem DL.congr {H0 H' : Hp} {L : Addr} {ds : List Addr} {f g : Nat → Pol} (r : DL H0 H' L ds f) (h : ∀ i, f i = g i) : DL H0 H' L ds g :=
  ⟨r.l, r.nd, r.nw, r.nl, fun i d e => by rw [← h i]; exact r.at_ i d e, r.same⟩
theorem mvR_snoc (k : Nat) (b sg : Int) (ts : Pol) (p : List Int × Int) (i : Nat) : mvR k b sg (ts ++ [p]) i = mvR k b sg ts i ++ if i ≤ (p.1.getD k 0).toNat then [(p.1.set k 0, lwC k b sg p i)] else [] := by
  unfold mvR
  rw [List.filter_append, List.map_append]
  congr 1
  by_cases z : i ≤ (p.1.getD k 0).toNat
  · rw [if_pos z, List.filter_cons_of_pos (p := fun p : List Int × Int => decide (i ≤ (p.1.getD k 0).toNat)) (decide_eq_true z)]; rfl
  · rw [if_neg z, List.filter_cons_of_neg (p := fun p : List Int × Int => decide (i ≤ (p.1.getD k 0).toNat)) (by rw [decide_eq_false z]; exact Bool.false_ne_true)]; rfl
def spPutIn : Sp := fun vs H Q _ => ∃ (p : Addr) (m : Pol) (k : Nat) (b sg : Int), vs = [.ref p, .int (k : Int), .int b, .int sg] ∧ PolD H p m ∧ Lp m ∧ Mv (nzP m) k ∧ k < 4 ∧ 0 < b ∧ My.Bd 100 b ∧ (sg = 1 ∨ sg = -1) ∧
  ∀ (L : Addr) (H' : Hp) (ds : List Addr), Same H H' → H' L = some (.lst (ds.map V.ref)) → ds.length = dgN m k + 1 → (∀ i d, ds[i]? = some d → PolD H' d (rowL k b sg (nzP m) i)) → Q (.ref L) H'
def spNought : Sp := fun vs H Q _ => ∃ (p : Addr) (m : Pol), vs = [.ref p] ∧ PolD H p m ∧ (keysP m).Nodup ∧ m.length ≤ 100 ∧ ∀ H', Same H H' → Q (.bl (nzP m).isEmpty) H'
section
variable {P : Program} {w : World} {K : PySem.W.Frag} {mg : Str → Option Value} {base : Heap}
theorem sc_law_is_nought : FnScope ["_law_parts_here", "_law_powers"] ["_law_parts_here"] (defScope s_law_is_nought) := ⟨rfl, rfl, rfl, by decide +kernel, rfl, by decide +kernel, by decide +kernel⟩
theorem cal_law_is_nought {f : Addr} {fd : FuncData} (F : FnP K "_law_is_nought" "_law_is_nought" s_law_is_nought f fd) (g : mg "_law_is_nought" = some (.ref f)) (T : Txt0 mg) : Cal P w K mg base "_law_is_nought" 1 ["_law_parts_here"] spNought := by
  refine ⟨f, fd, g, ?_, F.bindsN (fun _ _ _ _ _ _ us hl => match us, hl with | [_], _ => rfl), F.kp⟩
  refine F.ok sc_law_is_nought (fun vs H Q E h => ?_) (fun cdv A outer s H vs Q E hr h => ?_)
  · obtain ⟨p, m, rfl, hp, nd, ml, q⟩ := h
    rfl
  · obtain ⟨p, m, rfl, hp, nd, ml, q⟩ := h
    have hu := hu_of hr
    refine ⟨_, PSs.nox (pss_one (ps_ret (pe_callB (cr_all rfl) (by rfl) T.all (by decide +kernel) (pa_cons (pe_lock (pe_lc (own := [("_law_powers", 1)]) (tt := tYes) (te := tOp rEq (tDGet (tVar 0) (tVar 1)) (tC (.int 0))) (wi := iKeys (tVar 0)) (by rfl) sc_law_is_nought.nd (pi_keys (pv 0)) (blkOk_by (own := [("_law_powers", 1)]) (N := ["_law_parts_here", "_law_powers"]) (sc := (defScope s_law_is_nought)) (by decide +kernel)) (fun _ _ _ _ _ => (pg_name (i := 1) sc_law_is_nought.nd rfl (Or.inl rfl))) (fun _ _ _ _ _ => pts_nil) (fun _ _ _ _ _ => (pe_cmpR op_eq (pe_dget hu (pv 0) (pv 1) (fun _ _ => rfl)) pe_int (nomark _))))) pa_nil)))), ?_⟩
    try dsimp only [cxOf, Cx.nox, Cx.wish]
    have hp : H p = some (.dT (kvI m)) := hp
    walk_at "f"
    refine My.lockE hp True.intro fun od => ?_
    have hl := upd_same (H := H) (a := p) (o := HO.frz od (.dT (kvI m)))
    have lk := fun {H' : Hp} (s : Same (upd H p (.frz od (.dT (kvI m)))) H') => same_lock hp s
    generalize upd H p (.frz od (.dT (kvI m))) = Hl at hl lk ⊢
    refine My.lcK1 ⟨_, rfl, My.ckT hl ?_⟩
    refine My.lcM walk_keysT Same (by rw [kvI_len]; omega) (fun D hD => same_new hD) fun D nD => ⟨fun j y H => ∃ p, m[j]? = some p ∧ y = .bl (decide (p.2 = 0)), fun j y H ys o _ h => h, fun H o s => same_at s nD, fun H2 _ s _ => s _ _ hl, ?_, ?_⟩
    · rintro i x H2 H3 ys N hi r e l p' ⟨rfl, kk, v, q1, ek, rfl, hq⟩ hN
      obtain ⟨li, c, em, rfl, rfl⟩ := kvI_get ek
      have gv := getP_at nd em
      walk_at "f"
      refine ⟨rfl, ?_⟩
      walk_at "f"
      refine ⟨p, .int c, rfl, .inr ⟨kvI m, ik li, q1, .inr ⟨od, r _ _ hl⟩, rfl, hq, by rw [valV_kvI, gv]; rfl⟩, ?_⟩
      walk_at "f"
      exact hN _ _ r e p' ⟨_, em, rfl⟩
    · intro H2 ys hD hl2 s2 hy
      rw [kvI_len] at hl2
      have ey : ys = (m.map fun p => decide (p.2 = 0)).map V.bl := by
        refine List.ext_getElem? fun j => ?_
        rw [List.getElem?_map, List.getElem?_map]
        by_cases hj : j < ys.length
        · obtain ⟨g, e1, e2⟩ := hy j _ (List.getElem?_eq_getElem hj)
          rw [List.getElem?_eq_getElem hj, e1, e2]; rfl
        · rw [List.getElem?_eq_none (by omega), List.getElem?_eq_none (by omega)]; rfl
      refine ⟨s2 _ _ hl, ?_⟩
      have Dp : D ≠ p := fun z => by rw [z, hl] at nD; cases nD
      have s3 := lk s2
      have hD3 : upd H2 p (.dT (kvI m)) D = some (.lst ((m.map fun p => decide (p.2 = 0)).map V.bl)) := by rw [upd_ne Dp, hD, ey]
      generalize upd H2 p (HO.dT (kvI m)) = H3 at s3 hD3 ⊢
      walk_at "f"
      refine My.allL (SqL.of hD3) ?_
      have ea : (m.map fun p => decide (p.2 = 0)).all id = (nzP m).isEmpty := by
        rw [Bool.eq_iff_iff, List.all_eq_true, List.isEmpty_iff]
        unfold nzP
        rw [List.filter_eq_nil_iff]
        constructor
        · intro h p hp z
          have := h _ (List.mem_map.mpr ⟨p, hp, rfl⟩)
          simp only [id] at this
          rw [this] at z; cases z
        · intro h z hz
          obtain ⟨p, hp, rfl⟩ := List.mem_map.mp hz
          have := h p hp
          simp only [id]
          cases g : decide (p.2 = 0) with
          | true => rfl
          | false => rw [g] at this; exact absurd rfl this
      rw [ea]
      exact q _ s3
theorem sc_law_put_in : FnScope ["_law_parts_here", "_law_k", "_law_bound", "_law_sign_here", "_law_power_here", "_law_found", "_law_powers", "_law_many", "_law_rest", "_law_i", "_law_count", "_law_row"] ["_law_parts_here", "_law_k", "_law_bound", "_law_sign_here"] (defScope s_law_put_in) := ⟨rfl, rfl, rfl, by decide +kernel, rfl, by decide +kernel, by decide +kernel⟩
theorem cal_law_put_in {f : Addr} {fd : FuncData} (F : FnP K "_law_put_in" "_law_put_in" s_law_put_in f fd) (g : mg "_law_put_in" = some (.ref f)) (T : Txt0 mg) (C_law_degrees : Cal P w K mg base "_law_degrees" 3 ["_law_parts_here", "_law_many"] spDegs) (C_law_power : Cal P w K mg base "_law_power" 1 ["_law_number", "_law_many"] spPow) (C_law_binomial : Cal P w K mg base "_law_binomial" 1 ["_law_many", "_law_some"] spBin) : Cal P w K mg base "_law_put_in" 4 ["_law_parts_here", "_law_k", "_law_bound", "_law_sign_here"] spPutIn := by
  obtain ⟨f_law_degrees, fd_law_degrees, g_law_degrees, G_law_degrees, b_law_degrees, k_law_degrees⟩ := C_law_degrees
  obtain ⟨f_law_power, fd_law_power, g_law_power, G_law_power, b_law_power, k_law_power⟩ := C_law_power
  obtain ⟨f_law_binomial, fd_law_binomial, g_law_binomial, G_law_binomial, b_law_binomial, k_law_binomial⟩ := C_law_binomial
  refine ⟨f, fd, g, ?_, F.bindsN (fun _ _ _ _ _ _ us hl => match us, hl with | [_, _, _, _], _ => rfl), F.kp⟩
  refine F.ok sc_law_put_in (fun vs H Q E h => ?_) (fun cdv A outer s H vs Q E hr h => ?_)
  · obtain ⟨p, m, k, b, sg, rfl, hp, lp, mv, hk, hb0, hb, hs, q⟩ := h
    rfl
  · obtain ⟨p, m, k, b, sg, rfl, hp, lp, mv, hk, hb0, hb, hs, q⟩ := h
    have hu := hu_of hr
    refine ⟨_, PSs.nox (pss_cons (ps_setLc (i := 5) (own := [("_law_power_here", 4)]) (tt := tYes) (by rfl) sc_law_put_in.nd rfl rfl (sw_true rfl rfl rfl (by decide +kernel)) (pi_range1 (by rfl) T.range (pa_cons (pe_op op_add (pe_ix ix_list (pe_call G_law_degrees (hr.mono (by decide)) (by rfl) g_law_degrees k_law_degrees b_law_degrees .nil pass0 (pa_cons (pv 0) (pa_cons (pe_op op_add (pv 1) pe_int) pa_nil))) (pv 1) (fun _ _ => rfl)) pe_int) pa_nil)) (blkOk_by (own := [("_law_power_here", 4)]) (N := ["_law_parts_here", "_law_k", "_law_bound", "_law_sign_here", "_law_power_here", "_law_found", "_law_powers", "_law_many", "_law_rest", "_law_i", "_law_count", "_law_row"]) (sc := (defScope s_law_put_in)) (by decide +kernel)) (fun _ _ _ _ _ => (pg_name (i := 4) sc_law_put_in.nd rfl (Or.inl rfl))) (fun _ _ _ _ _ => pts_nil) (fun _ _ _ _ _ => pe_dnewT))
      (pss_cons (ps_for PassesOwn.never rfl (pi_list (pe_lock (pe_lc (own := [("_law_powers", 6)]) (by rfl) sc_law_put_in.nd (pi_keys (pv 0)) (blkOk_by (own := [("_law_powers", 6)]) (N := ["_law_parts_here", "_law_k", "_law_bound", "_law_sign_here", "_law_power_here", "_law_found", "_law_powers", "_law_many", "_law_rest", "_law_i", "_law_count", "_law_row"]) (sc := (defScope s_law_put_in)) (by decide +kernel)) (fun _ _ _ _ _ => (pg_name (i := 6) sc_law_put_in.nd rfl (Or.inl rfl))) (fun _ _ _ _ _ => (pts_one (pt_cmpR op_ne (pe_dget hu (pv 0) (pv 6) (fun _ _ => rfl)) pe_int (nomark _)))) (fun _ _ _ _ _ => (pv 6))))) (pg_name (i := 6) sc_law_put_in.nd rfl (Or.inl rfl))
       (pss_cons (ps_par (i := 7) (j := 8) (by rfl) sc_law_put_in.nd rfl rfl (by decide) rfl rfl (pa_cons (pe_ix ix_tup (pv 6) (pv 1) (fun _ _ => rfl)) (pa_cons (pe_op op_catA (pe_op op_catA (pe_slice sl_tupA (pv 6) po_none (po_some (pv 1))) (pe_tup (pa_cons pe_int pa_nil))) (pe_slice sl_tupA (pv 6) (po_some (pe_op op_add (pv 1) pe_int)) po_none)) pa_nil)) (by rfl))
      (pss_one (ps_for PassesOwn.never rfl (pi_range1 (by rfl) T.range (pa_cons (pe_op op_add (pv 7) pe_int) pa_nil)) (pg_name (i := 9) sc_law_put_in.nd rfl (Or.inl rfl))
       (pss_cons (ps_set (i := 10) sc_law_put_in.nd rfl (Or.inl rfl) (pe_op op_mulW (pe_op op_mulW (pe_op op_mulW (pe_dget hu (pv 0) (pv 6) (fun _ _ => rfl)) (pe_call G_law_power (hr.mono (by decide)) (by rfl) g_law_power k_law_power b_law_power .nil pass0 (pa_cons (pv 3) (pa_cons (pv 7) pa_nil)))) (pe_call G_law_binomial (hr.mono (by decide)) (by rfl) g_law_binomial k_law_binomial b_law_binomial .nil pass0 (pa_cons (pv 7) (pa_cons (pv 9) pa_nil)))) (pe_call G_law_power (hr.mono (by decide)) (by rfl) g_law_power k_law_power b_law_power .nil pass0 (pa_cons (pv 2) (pa_cons (pe_op op_sub (pv 7) (pv 9)) pa_nil)))))
      (pss_cons (ps_set (i := 11) sc_law_put_in.nd rfl (Or.inl rfl) (pe_ix ix_list (pv 5) (pv 9) (fun _ _ => rfl)))
      (pss_one (ps_dput hu (pv 11) (pv 8) (pe_op op_add (pe_dget2 hu (pv 11) (pv 8) pe_int ⟨rfl, rfl, rfl, rfl⟩) (pv 10)) rfl))))))))
      (pss_one (ps_ret (pv 5))))), ?_⟩
    try dsimp only [cxOf, Cx.nox, Cx.wish]
    have hp : H p = some (.dT (kvI m)) := hp
    walk_at "f"
    refine ⟨p, m, k + 1, rfl, hp, lp, by omega, fun gl H1 s1 hg => ?_⟩
    walk_at "f"
    refine My.ixL (v := .int (mx 0 (colP (nzP m) k))) (SqL.of hg) (atI_nat (by rw [List.getElem?_map, List.getElem?_range (by omega)]; rfl)) ?_
    walk_at "f"
    have mx3 : 0 ≤ mx 0 (colP (nzP m) k) ∧ mx 0 (colP (nzP m) k) ≤ 3 := ⟨DX.mx_le (fun x hx => by
      obtain ⟨q', hq', rfl⟩ := List.mem_map.mp hx
      exact mv.k0 hq') (Int.le_refl 0), mx_up (by decide) fun x hx => by
      obtain ⟨q', hq', rfl⟩ := List.mem_map.mp hx
      exact mv.k3 q' hq'⟩
    have eD : (mx 0 (colP (nzP m) k) + 1).toNat = dgN m k + 1 := by unfold dgN; omega
    refine My.lcRI (by omega) (by omega) fun L nL => ⟨fun i H' => ∃ ds : List Addr, ds.length = i ∧ H' L = some (.lst (ds.map V.ref)) ∧ ds.Nodup ∧ (∀ d ∈ ds, H' d = some (.dT []) ∧ H1 d = none) ∧ But L H1 H', ⟨[], rfl, upd_same, List.nodup_nil, (fun d hd => nomatch hd), Same.but (same_new nL)⟩, ?_, ?_⟩
    · rintro i H2 hi ⟨ds, hl, hL, nd, hds, bt⟩
      walk_at "f"
      refine ⟨rfl, ?_⟩
      walk_at "f"
      refine My.dnewT fun d nd0 => ?_
      have sd := same_new (o := HO.dT []) nd0
      have n1 : H1 d = none := by
        cases e : H1 d with
        | none => rfl
        | some o =>
          by_cases z : d = L
          · rw [z, hL] at nd0; cases nd0
          · rw [bt _ _ z e] at nd0; cases nd0
      have dL : d ≠ L := fun z => by rw [z, hL] at nd0; cases nd0
      refine ⟨_, sd _ _ hL, by rw [List.length_map, sizeLine_eq]; omega, ds ++ [d], by rw [List.length_append, hl]; rfl, by rw [upd_same, List.map_append]; rfl, ?_, fun d' hd' => ?_, fun b o nb e => by rw [upd_ne nb]; exact sd _ _ (bt _ _ nb e)⟩
      · exact List.nodup_append.mpr ⟨nd, List.nodup_cons.mpr ⟨by simp, List.nodup_nil⟩, fun x hx y hy e => by
          rw [List.mem_singleton.mp hy] at e
          have := (hds x hx).1
          rw [e, nd0] at this; cases this⟩
      · rcases List.mem_append.mp hd' with g | g
        · have nL' : d' ≠ L := fun z => by have := (hds d' g).1; rw [z, hL] at this; cases this
          exact ⟨by rw [upd_ne nL']; exact sd _ _ (hds d' g).1, (hds d' g).2⟩
        · rw [List.mem_singleton.mp g]
          exact ⟨by rw [upd_ne dL]; exact upd_same, n1⟩
    rintro H2 ⟨ds, hl, hL, nd, hds, bt⟩
    rw [eD] at hl
    have s2 : Same H1 H2 := fun b o e => bt _ _ (ne_of_none e nL) e
    have dl0 : DL H1 H2 L ds (fun _ => []) := ⟨hL, nd, fun d hd => (hds d hd).2, nL, fun i d h => (hds d (List.mem_iff_getElem?.mpr ⟨i, h⟩)).1, s2⟩
    have hp2 := s2 _ _ (s1 _ _ hp)
    walk_at "f"
    refine My.lockE hp2 True.intro fun od => ?_
    have hlk := upd_same (H := H2) (a := p) (o := HO.frz od (.dT (kvI m)))
    have lk := fun {H' : Hp} (s : Same (upd H2 p (.frz od (.dT (kvI m)))) H') => same_lock hp2 s
    generalize upd H2 p (.frz od (.dT (kvI m))) = Hl at hlk lk ⊢
    refine My.lcK1 ⟨_, rfl, My.ckT hlk fun A nA => ?_⟩
    have bA : p ≠ A := ne_of_none hlk nA
    refine lc_it walk_keysT (fun j H' => ∃ qs : List Addr, H' A = some (.lst (qs.map V.ref)) ∧ But A Hl H' ∧ Paired (fun q p => KAt H' q p.1) qs (nzP (m.take j))) ⟨[], upd_same, Same.but (same_new nA), .nil⟩ (fun j H' _ ⟨_, _, b', _⟩ => b' _ _ bA hlk) ?_ ?_
    · rintro j x H6 H7 hj ⟨qs, hA, b6, hq6⟩ ⟨rfl, kk, v, q1, ek, rfl, hq⟩
      obtain ⟨li, c, em, rfl, rfl⟩ := kvI_get ek
      have gv := getP_at lp.nd em
      have hb7 := b6 _ _ bA hlk
      have ql := My.plen hq6
      have jm := (List.getElem?_eq_some_iff.mp em).1
      have few := lp.few
      walk_at "f"
      refine ⟨rfl, ?_⟩
      walk_at "f"
      refine ⟨p, .int c, rfl, .inr ⟨kvI m, ik li, q1, .inr ⟨od, hb7⟩, rfl, hq, by rw [valV_kvI, gv]; rfl⟩, ?_⟩
      walk_at "f"
      rw [nz_snoc em]
      by_cases z : c = 0
      · rw [if_neg (by simp [z]), if_pos z, List.append_nil]
        exact ⟨qs, hA, b6, hq6⟩
      · rw [if_pos (by simp [z]), if_neg z]
        walk_at "f"
        have tn : ∀ c xs, H7 c = some (.tup xs) → c ≠ A := fun c xs e z => by rw [z, hA] at e; cases e
        refine ⟨_, hA, by have := nz_len m j; rw [List.length_map, sizeLine_eq]; omega, qs ++ [q1], by rw [upd_same, List.map_append]; rfl, fun b' o nb e => by rw [upd_ne nb]; exact b6 _ _ nb e, ?_⟩
        refine papp (Paired.mapP hq6 fun q' p' (z' : KAt H7 q' p'.1) => by show upd H7 A _ q' = _; rw [upd_ne (tn _ _ z')]; exact z') (.cons ?_ .nil)
        show upd H7 A _ q1 = _
        rw [upd_ne (tn _ _ hq), hq, ik_kV]
    · rintro H6 ⟨qs, hA, b6, hq6⟩
      rw [kvI_len, List.take_length] at hq6
      have s6 : Same Hl H6 := fun b' o e => b6 _ _ (ne_of_none e nA) e
      refine ⟨s6 _ _ hlk, ?_⟩
      have s7 := lk s6
      have hA7 : upd H6 p (.dT (kvI m)) A = some (.lst (qs.map V.ref)) := by rw [upd_ne bA.symm]; exact hA
      have tb : ∀ c xs, H6 c = some (.tup xs) → c ≠ p := fun c xs e z => by rw [z, s6 _ _ hlk] at e; cases e
      have hq7 := Paired.mapP hq6 fun q' p' (z' : KAt H6 q' p'.1) => (show upd H6 p (.dT (kvI m)) q' = some (.tup (p'.1.map V.int)) by rw [upd_ne (tb _ _ z')]; exact z')
      have dl7 := dl0.mono s7
      have hp7 := s7 _ _ hp2
      generalize upd H6 p (HO.dT (kvI m)) = H7 at s7 hA7 hq7 dl7 hp7 ⊢
      have nzl := mv.few
      have dOf : ∀ d ∈ ds, H7 d = some (.dT (kvI [])) := fun d hd => by
        obtain ⟨i, hi⟩ := List.mem_iff_getElem?.mp hd
        exact dl7.at_ i d hi
      have Ads : A ∉ ds := fun z => by have := dOf _ z; rw [hA7] at this; cases this
      have pds : p ∉ ds := fun z => by have := dl7.nw _ z; rw [s1 _ _ hp] at this; cases this
      have ql := My.plen hq7
      refine My.lstI (SqL.of hA7) (fun j σ' H' => ∃ (u1 u2 u3 u4 u5 u6 u7 : Option V), σ' = [some (.ref p), some (.int (k : Int)), some (.int b), some (.int sg), u1, some (.ref L), u2, u3, u4, u5, u6, u7] ∧ DL H1 H' L ds (rowL k b sg ((nzP m).take j)) ∧ (∀ b' o, H7 b' = some o → b' ∉ ds → H' b' = some o)) ⟨_, _, _, _, _, _, _, rfl, dl7.congr (fun i => rfl), fun _ _ e _ => e⟩ (fun j σ' H' _ ⟨_, _, _, _, _, _, _, _, _, kp⟩ => SqL.of (kp _ _ hA7 Ads)) ?_ ?_
      · rintro j x σ' H8 ex ⟨u1, u2, u3, u4, u5, u6, u7, rfl, dl8, kp8⟩
        rw [List.getElem?_map] at ex
        cases eq1 : qs[j]? with
        | none => rw [eq1] at ex; cases ex
        | some q1 =>
          rw [eq1] at ex
          cases Option.some.inj ex
          obtain ⟨⟨kk, c⟩, ep, hq1⟩ := My.pget hq7 eq1
          have hmem := List.mem_iff_getElem?.mpr ⟨j, ep⟩
          have hq1 : H7 q1 = some (.tup (kk.map V.int)) := hq1
          have qds : q1 ∉ ds := fun z => by have := dOf _ z; rw [hq1] at this; cases this
          have hq8 := kp8 _ _ hq1 qds
          have hp8 := kp8 _ _ hp7 pds
          have gv : getP m kk = some c := by
            obtain ⟨jj, hjj⟩ := List.mem_iff_getElem?.mp (List.mem_filter.mp hmem).1
            exact getP_at lp.nd hjj
          have l4 : kk.length = 4 := mv.len _ hmem
          have k0 := mv.k0 hmem
          have k3 := mv.k3 _ hmem
          have cb := mv.bd _ hmem
          simp only at k0 k3 cb
          have kmx : kk.getD k 0 ≤ mx 0 (colP (nzP m) k) := mx_ge (List.mem_map.mpr ⟨_, hmem, rfl⟩)
          have jm : j < (nzP m).length := (List.getElem?_eq_some_iff.mp ep).1
          have hik : (kk.map V.int)[k]? = some (V.int (kk.getD k 0)) := by
            rw [List.getElem?_map, List.getElem?_eq_getElem (show k < kk.length by omega), List.getD_eq_getElem?_getD, List.getElem?_eq_getElem (show k < kk.length by omega)]
            rfl
          have ee : kk.getD k 0 = (((kk.getD k 0).toNat : Nat) : Int) := (Int.toNat_of_nonneg k0).symm
          have et : ∀ i, rowL k b sg ((nzP m).take (j + 1)) i = addP (rowL k b sg ((nzP m).take j) i) (if i ≤ (kk.getD k 0).toNat then [(kk.set k 0, lwC k b sg (kk, c) i)] else []) 1 := fun i => by
            unfold rowL
            rw [List.take_succ, ep]
            show addP [] (mvR k b sg ((nzP m).take j ++ [(kk, c)]) i) 1 = _
            rw [mvR_snoc, addP_app]
          have rlen : ∀ i, (rowL k b sg ((nzP m).take j) i).length ≤ 7 := fun i => by
            have h1 := len_add (by_ := 1) (mvR k b sg ((nzP m).take j) i) []
            have h2 : (mvR k b sg ((nzP m).take j) i).length ≤ j := by
              unfold mvR
              rw [List.length_map]
              refine Nat.le_trans (List.length_filter_le _ _) ?_
              rw [List.length_take]; omega
            unfold rowL
            rw [List.length_nil] at h1
            omega
          generalize rowL k b sg ((nzP m).take j) = F0 at dl8 et rlen
          walk_at "f"
          refine My.ixT (SqT.of hq8) (atI_nat hik) ?_
          have es : kk.set k 0 = kk.take k ++ [(0 : Int)] ++ kk.drop (k + 1) := by
            rw [List.set_eq_take_append_cons_drop, if_pos (by omega)]; simp
          walk_at "f"
          refine My.slA hq8 fun t1 H9 s9 h9 => ?_
          rw [cut_take (by rw [List.length_map]; omega), ← List.map_take] at h9
          walk_at "f"
          refine My.new (My.sz (by simp)) fun t2 nt2 => ?_
          have s10 := same_new (o := HO.tup [V.int 0]) nt2
          refine My.catA (s10 _ _ h9) upd_same (by rw [List.length_map, List.length_take]; simp; omega) fun t3 H11 s11 h11 => ?_
          have s12 := (s9.trans s10).trans s11
          walk_at "f"
          refine My.slA (s12 _ _ hq8) fun t4 H12 s13 h13 => ?_
          rw [show ((k : Int) + 1) = ((k + 1 : Nat) : Int) by omega, cut_drop (by rw [List.length_map]; omega), ← List.map_drop] at h13
          refine My.catA (s13 _ _ h11) h13 (by rw [List.length_append, List.length_map, List.length_map, List.length_take, List.length_drop]; simp; omega) fun t5 H13 s14 h14 => ?_
          have s15 := (s12.trans s13).trans s14
          have hr5 : H13 t5 = some (.tup ((kk.set k 0).map V.int)) := by rw [es, h14, List.map_append, List.map_append]; rfl
          have dl13 := dl8.mono s15
          have kp13 : ∀ b' o, H7 b' = some o → b' ∉ ds → H13 b' = some o := fun b' o e n => s15 _ _ (kp8 _ _ e n)
          have dO13 : ∀ d ∈ ds, ∃ kv, H13 d = some (.dT kv) := fun d hd => by
            obtain ⟨i, hi⟩ := List.mem_iff_getElem?.mp hd
            exact ⟨_, dl13.at_ i d hi⟩
          have t5ds : t5 ∉ ds := fun z => by obtain ⟨_, h⟩ := dO13 _ z; rw [hr5] at h; cases h
          walk_at "f"
          refine My.rngI (by omega) (by omega) (fun i σ' H' => ∃ (v0 v1 v2 : Option V), σ' = [some (.ref p), some (.int (k : Int)), some (.int b), some (.int sg), u1, some (.ref L), some (.ref q1), some (.int (kk.getD k 0)), some (.ref t5), v0, v1, v2] ∧ DL H1 H' L ds (fun i' => addP (F0 i') (if i' < i then [(kk.set k 0, lwC k b sg (kk, c) i')] else []) 1) ∧ (∀ b' o, H13 b' = some o → b' ∉ ds → H' b' = some o)) ⟨_, _, _, rfl, dl13.congr (fun i => rfl), fun _ _ e _ => e⟩ ?_ ?_
          · rintro i σ' H14 hi ⟨v0, v1, v2, rfl, dl14, kp14⟩
            have il : i ≤ (kk.getD k 0).toNat := by omega
            have hp14 := kp14 _ _ (kp13 _ _ hp7 pds) pds
            have hq14 := kp14 _ _ (kp13 _ _ hq1 qds) qds
            have ht14 : H14 t5 = some (.tup ((ik (kk.set k 0)).map kV)) := by rw [ik_kV]; exact kp14 _ _ hr5 t5ds
            rw [show (0 : Int) + (i : Int) = (i : Int) from Int.zero_add _]
            walk_at "f"
            refine ⟨p, .int c, rfl, .inr ⟨kvI m, ik kk, q1, .inl hp14, rfl, by rw [ik_kV]; exact hq14, by rw [valV_kvI, gv]; rfl⟩, ?_⟩
            walk_at "f"
            have sB : My.Bd 1 sg := by
              rcases hs with z | z
              · rw [z]; exact (show (1 : Int).natAbs < 2 ^ 1 by decide)
              · rw [z]; exact (show (-1 : Int).natAbs < 2 ^ 1 by decide)
            refine ⟨sg, (kk.getD k 0).toNat, 1, by rw [← ee]; rfl, sB, by omega, by omega, ?_⟩
            have p1 := (pow_bd sB (kk.getD k 0).toNat).mono (show (kk.getD k 0).toNat * 1 + 1 ≤ 4 by omega)
            refine My.mulW cb p1 (by decide) ?_
            walk_at "f"
            refine ⟨(kk.getD k 0).toNat, i, by rw [← ee]; rfl, by omega, by omega, ?_⟩
            have cB : My.Bd 64 (BM.ch (kk.getD k 0).toNat i) := ch_bd (by omega)
            refine My.mulW (cb.mul p1) cB (by decide) ?_
            walk_at "f"
            refine ⟨b, (kk.getD k 0).toNat - i, 100, by rw [show kk.getD k 0 - (i : Int) = (((kk.getD k 0).toNat - i : Nat) : Int) by omega]; rfl, hb, by omega, by omega, ?_⟩
            have pB := (pow_bd hb ((kk.getD k 0).toNat - i)).mono (show ((kk.getD k 0).toNat - i) * 100 + 1 ≤ 301 by omega)
            refine My.mulW ((cb.mul p1).mul cB) pB (by decide) ?_
            obtain ⟨d, hd⟩ : ∃ d, ds[i]? = some d := ⟨_, List.getElem?_eq_getElem (by rw [hl]; unfold dgN; omega)⟩
            have hd14 : H14 d = some (.dT (kvI (addP (F0 i) (if i < i then [(kk.set k 0, lwC k b sg (kk, c) i)] else []) 1))) := dl14.at_ i d hd
            rw [if_neg (Nat.lt_irrefl i)] at hd14
            have hd14 : H14 d = some (.dT (kvI (F0 i))) := hd14
            walk_at "f"
            refine My.ixL (v := .ref d) (SqL.of dl14.l) (atI_nat (by rw [List.getElem?_map, hd]; rfl)) ?_
            walk_at "f"
            refine ⟨d, rfl, .inr ⟨_, .inl hd14⟩, ?_⟩
            walk_at "f"
            refine ⟨_, DGet.t hd14 ht14, ?_⟩
            have eg : (valV (kvI (F0 i)) (ik (kk.set k 0))).getD (.int 0) = .int ((getP (F0 i) (kk.set k 0)).getD 0) := by
              rw [valV_kvI]
              cases getP (F0 i) (kk.set k 0) <;> rfl
            rw [eg]
            walk_at "f"
            have rl := rlen i
            refine ⟨d, _, rfl, DPut.t hd14 ht14 (by rw [kvI_len, sizeLine_eq]; omega), ?_⟩
            rw [kvI_put]
            have pt := dl14.put (g := fun i' => addP (F0 i') (if i' < i + 1 then [(kk.set k 0, lwC k b sg (kk, c) i')] else []) 1) hd (fun j' hj' => by
              by_cases z : j' < i
              · simp only [if_pos z, if_pos (show j' < i + 1 by omega)]
              · simp only [if_neg z, if_neg (show ¬ j' < i + 1 by omega)])
            have ev : addP (F0 i) (if i < i + 1 then [(kk.set k 0, lwC k b sg (kk, c) i)] else []) 1 = putP (F0 i) (kk.set k 0) ((getP (F0 i) (kk.set k 0)).getD 0 + c * sg ^ (kk.getD k 0).toNat * BM.ch (kk.getD k 0).toNat i * b ^ ((kk.getD k 0).toNat - i)) := by
              rw [if_pos (Nat.lt_succ_self i)]
              show putP (F0 i) (kk.set k 0) ((getP (F0 i) (kk.set k 0)).getD 0 + 1 * lwC k b sg (kk, c) i) = _
              rw [Int.one_mul]; rfl
            simp only [ev] at pt
            exact ⟨_, _, _, rfl, pt, fun b' o e n => by rw [upd_ne (fun z => n (by rw [z]; exact List.mem_iff_getElem?.mpr ⟨i, hd⟩))]; exact kp14 _ _ e n⟩
          · rintro σ' H14 ⟨v0, v1, v2, rfl, dl14, kp14⟩
            refine ⟨_, _, _, _, _, _, _, rfl, dl14.congr (fun i => ?_), fun b' o e n => kp14 _ _ (kp13 _ _ e n) n⟩
            rw [et i]
            congr 1
            by_cases z : i ≤ (kk.getD k 0).toNat
            · rw [if_pos z, if_pos (by omega)]
            · rw [if_neg z, if_neg (by omega)]
      · rintro σ' H8 ⟨u1, u2, u3, u4, u5, u6, u7, rfl, dl8, kp8⟩
        rw [List.length_map, ql, List.take_length] at dl8
        walk_at "f"
        exact q L H8 ds (s1.trans dl8.same) dl8.l hl dl8.at_
end
end K25

set_option Elab.async false
set_option linter.all false
set_option maxRecDepth 100000
set_option maxHeartbeats 4000000
namespace K25
open PySem PySem.Spec PyProof.Rows L2 XV DX
def lhB (m : Pol) (k : Nat) (b sg : Int) (sts : List Str2) : Bool := (!decide (sgP (nzP (rowL k b sg (nzP m) 0)) sts = 0)) && (List.range (dgN m k + 1)).all fun i => (nzP (rowL k b sg (nzP m) i)).isEmpty || decide (sgP (nzP (rowL k b sg (nzP m) i)) sts = sgP (nzP (rowL k b sg (nzP m) 0)) sts)
structure Lh (m : Pol) (k : Nat) (b : Int) (sts : List Str2) : Prop where
  lp : Lp m
  mv : Mv (nzP m) k
  k4 : k < 4
  b0 : 0 < b
  bb : My.Bd 100 b
  row : ∀ sg i, (sg = 1 ∨ sg = -1) → Lp (rowL k b sg (nzP m) i) ∧ ∃ W, Lc (nzP (rowL k b sg (nzP m) i)) sts W
def spHoldsL : Sp := fun vs H Q _ => ∃ (p x : Addr) (m : Pol) (k : Nat) (b : Int) (sts : List Str2), vs = [.ref p, .int (k : Int), .ref x, .int b] ∧ PolD H p m ∧ BoxAt H x sts ∧ Lh m k b sts ∧
  ∀ H', Same H H' → Q (.bl (lhB m k b 1 sts && lhB m k b (-1) sts)) H'
theorem sg_nil (sts : List Str2) : sgP [] sts = 0 := by
  unfold sgP rowSg
  exact if_pos rfl
section
variable {P : Program} {w : World} {K : PySem.W.Frag} {mg : Str → Option Value} {base : Heap}
theorem sc_law_holds : FnScope ["_law_parts_here", "_law_k", "_law_box_here", "_law_bound", "_law_sign_here", "_law_rows", "_law_first", "_law_row"] ["_law_parts_here", "_law_k", "_law_box_here", "_law_bound"] (defScope s_law_holds) := ⟨rfl, rfl, rfl, by decide +kernel, rfl, by decide +kernel, by decide +kernel⟩
theorem cal_law_holds {f : Addr} {fd : FuncData} (F : FnP K "_law_holds" "_law_holds" s_law_holds f fd) (g : mg "_law_holds" = some (.ref f)) (T : Txt0 mg) (C_law_put_in : Cal P w K mg base "_law_put_in" 4 ["_law_parts_here", "_law_k", "_law_bound", "_law_sign_here"] spPutIn) (C_law_is_nought : Cal P w K mg base "_law_is_nought" 1 ["_law_parts_here"] spNought) (C_law_sign : Cal P w K mg base "_law_sign" 5 ["_law_parts_here", "_law_box_here"] spSign) : Cal P w K mg base "_law_holds" 6 ["_law_parts_here", "_law_k", "_law_box_here", "_law_bound"] spHoldsL := by
  obtain ⟨f_law_put_in, fd_law_put_in, g_law_put_in, G_law_put_in, b_law_put_in, k_law_put_in⟩ := C_law_put_in
  obtain ⟨f_law_is_nought, fd_law_is_nought, g_law_is_nought, G_law_is_nought, b_law_is_nought, k_law_is_nought⟩ := C_law_is_nought
  obtain ⟨f_law_sign, fd_law_sign, g_law_sign, G_law_sign, b_law_sign, k_law_sign⟩ := C_law_sign
  refine ⟨f, fd, g, ?_, F.bindsN (fun _ _ _ _ _ _ us hl => match us, hl with | [_, _, _, _], _ => rfl), F.kp⟩
  refine F.ok sc_law_holds (fun vs H Q E h => ?_) (fun cdv A outer s H vs Q E hr h => ?_)
  · obtain ⟨p, x, m, k, b, sts, rfl, hp, hx, lh, q⟩ := h
    rfl
  · obtain ⟨p, x, m, k, b, sts, rfl, hp, hx, lh, q⟩ := h
    have hu := hu_of hr
    refine ⟨_, PSs.nox (pss_cons (ps_for PassesOwn.never rfl (pi_list (pe_lst (pa_cons pe_int (pa_cons (pe_un un_neg pe_int) pa_nil)))) (pg_name (i := 4) sc_law_holds.nd rfl (Or.inl rfl))
       (pss_cons (ps_set (i := 5) sc_law_holds.nd rfl (Or.inl rfl) (pe_call G_law_put_in (hr.mono (by decide)) (by rfl) g_law_put_in k_law_put_in b_law_put_in .nil pass0 (pa_cons (pv 0) (pa_cons (pv 1) (pa_cons (pv 3) (pa_cons (pv 4) pa_nil))))))
      (pss_cons (ps_set (i := 6) sc_law_holds.nd rfl (Or.inr rfl) (pe_ifExp (pt_val (pe_call G_law_is_nought (hr.mono (by decide)) (by rfl) g_law_is_nought k_law_is_nought b_law_is_nought .nil pass0 (pa_cons (pe_ix ix_list (pv 5) pe_int (fun _ _ => rfl)) pa_nil))) pe_int (pe_call G_law_sign (hr.mono (by decide)) (by rfl) g_law_sign k_law_sign b_law_sign .nil pass0 (pa_cons (pe_ix ix_list (pv 5) pe_int (fun _ _ => rfl)) (pa_cons (pv 2) pa_nil)))))
      (pss_one (ps_if (PW.pt (pw_or (pt_cmpR op_eq (pv 6) pe_int (nomark _)) (pw_or1 (pt_not (pt_val (pe_callB (cr_all rfl) (by rfl) T.all (by decide +kernel) (pa_cons (pe_lc (own := [("_law_row", 7)]) (tt := tYes) (by rfl) sc_law_holds.nd (pi_list (pv 5)) (blkOk_by (own := [("_law_row", 7)]) (N := ["_law_parts_here", "_law_k", "_law_box_here", "_law_bound", "_law_sign_here", "_law_rows", "_law_first", "_law_row"]) (sc := (defScope s_law_holds)) (by decide +kernel)) (fun _ _ _ _ _ => (pg_name (i := 7) sc_law_holds.nd rfl (Or.inl rfl))) (fun _ _ _ _ _ => pts_nil) (fun _ _ _ _ _ => (pe_or (pe_call G_law_is_nought (hr.mono (by decide)) (by rfl) g_law_is_nought k_law_is_nought b_law_is_nought .nil pass0 (pa_cons (pv 7) pa_nil)) (pe_one (pe_cmpR op_eq (pe_call G_law_sign (hr.mono (by decide)) (by rfl) g_law_sign k_law_sign b_law_sign .nil pass0 (pa_cons (pv 7) (pa_cons (pv 2) pa_nil))) (pv 6) (nomark _)))))) pa_nil)))))))
       (pss_one (ps_ret pe_bl))
       pss_nil)))))
      (pss_one (ps_ret pe_bl))), ?_⟩
    try dsimp only [cxOf, Cx.nox, Cx.wish]
    walk_at "f"
    refine My.new (My.sz (by simp)) fun l0 nl0 => ?_
    have s0 := same_new (o := HO.lst [V.int 1, V.int (-1)]) nl0
    have e0 := upd_same (H := H) (a := l0) (o := HO.lst [V.int 1, V.int (-1)])
    generalize upd H l0 _ = H0 at s0 e0 ⊢
    refine My.lstI (SqL.of e0) (fun j σ' H' => ∃ (u1 u2 u3 u4 : Option V), σ' = [some (.ref p), some (.int (k : Int)), some (.ref x), some (.int b), u1, u2, u3, u4] ∧ Same H0 H' ∧ (0 < j → lhB m k b 1 sts = true) ∧ (1 < j → lhB m k b (-1) sts = true)) ⟨_, _, _, _, rfl, .refl _, (fun z => absurd z (by decide)), (fun z => absurd z (by decide))⟩ (fun j σ' H' _ ⟨_, _, _, _, _, s', _⟩ => SqL.of (s' _ _ e0)) ?_ ?_
    · rintro j x1 σ' H1 ex ⟨u1, u2, u3, u4, rfl, s1, g1, g2⟩
      obtain ⟨sg, rfl, esg, j2⟩ : ∃ sg : Int, x1 = .int sg ∧ sg = (if j = 0 then 1 else -1) ∧ j < 2 := by
        match j, ex with
        | 0, ex => exact ⟨1, (Option.some.inj ex).symm, rfl, by decide⟩
        | 1, ex => exact ⟨-1, (Option.some.inj ex).symm, rfl, by decide⟩
      have hs : sg = 1 ∨ sg = -1 := by
        rw [esg]; split
        · exact .inl rfl
        · exact .inr rfl
      have s01 := s0.trans s1
      walk_at "f"
      refine ⟨p, m, k, b, sg, rfl, s01 _ _ hp, lh.lp, lh.mv, lh.k4, lh.b0, lh.bb, hs, fun L H2 ds s2 hL dl hd => ?_⟩
      have s02 := s01.trans s2
      obtain ⟨d0, e00⟩ : ∃ d, ds[0]? = some d := ⟨_, List.getElem?_eq_getElem (by omega)⟩
      have h00 := hd 0 d0 e00
      have ix0 : atI (ds.map V.ref) 0 = some (.ref d0) := by
        have z : (ds.map V.ref)[0]? = some (.ref d0) := by rw [List.getElem?_map, e00]; rfl
        exact atI_nat z
      have rk := fun i => lh.row sg i hs
      generalize hR : rowL k b sg (nzP m) = R at hd h00 rk
      have elh : lhB m k b sg sts = ((!decide (sgP (nzP (R 0)) sts = 0)) && (List.range (dgN m k + 1)).all fun i => (nzP (R i)).isEmpty || decide (sgP (nzP (R i)) sts = sgP (nzP (R 0)) sts)) := by rw [← hR]; rfl
      have fin : lhB m k b sg sts = false → (lhB m k b 1 sts && lhB m k b (-1) sts) = false := fun z => by
        rw [esg] at z
        split at z
        · rw [z]; rfl
        · rw [z, Bool.and_false]
      refine My.name rfl (My.seq (My.asg (My.cutV (fun v H3 => v = .int (sgP (nzP (R 0)) sts) ∧ Same H2 H3) (fun Q' hQ => ?_) ?_)))
      · walk_at "f"
        refine My.ixL (SqL.of hL) ix0 ?_
        walk_at "f"
        refine ⟨d0, R 0, rfl, h00, (rk 0).1.nd, Nat.le_trans (rk 0).1.few (by decide), fun H3 s3 => ?_⟩
        refine ⟨_, rfl, ?_⟩
        cases ez : (nzP (R 0)).isEmpty with
        | true =>
          walk_at "f"
          refine hQ _ _ ⟨?_, s3⟩
          rw [List.isEmpty_iff.mp ez, sg_nil]
        | false =>
          walk_at "f"
          refine My.ixL (SqL.of (s3 _ _ hL)) ix0 ?_
          walk_at "f"
          obtain ⟨lpr, W, lc⟩ := rk 0
          exact ⟨d0, x, R 0, sts, W, rfl, s3 _ _ h00, lpr, hx.same (s02.trans s3), lc, fun H4 s4 => hQ _ _ ⟨rfl, s3.trans s4⟩⟩
      rintro v3 H3 ⟨rfl, s3⟩
      have s03 := s02.trans s3
      have s13 := s2.trans s3
      have hL3 := s3 _ _ hL
      have hd3 : ∀ i d, ds[i]? = some d → PolD H3 d (R i) := fun i d h => s3 _ _ (hd i d h)
      walk_at "f"
      · rename_i z
        rw [decide_eq_true z] at elh
        have e1 : lhB m k b sg sts = false := elh
        have qq := q _ s03
        rw [fin e1] at qq
        exact qq
      rename_i z
      rw [decide_eq_false z, Bool.not_false, Bool.true_and] at elh
      have dl2 : ds.length ≤ 1000 := by
        have k3 : mx 0 (colP (nzP m) k) ≤ 3 := mx_up (by decide) fun x hx => by
          obtain ⟨q', hq', rfl⟩ := List.mem_map.mp hx
          exact lh.mv.k3 q' hq'
        unfold dgN at dl
        omega
      refine ⟨L, rfl, ⟨_, SqL.of hL3⟩, My.lcM (walk_list (xs := ds.map V.ref)) Same (by rw [List.length_map]; exact dl2) (fun D hD => same_new hD) fun D nD => ⟨fun j y H => y = .bl ((nzP (R j)).isEmpty || decide (sgP (nzP (R j)) sts = sgP (nzP (R 0)) sts)), fun j y H ys o _ h => h, fun H o s => same_at s nD, fun H2 _ s _ => SqL.of (s _ _ hL3), ?_, ?_⟩⟩
      · rintro i x2 H4 H5 ys N hi r e l p' ⟨rfl, ex2⟩ hN
        rw [List.getElem?_map] at ex2
        cases ed : ds[i]? with
        | none => rw [ed] at ex2; cases ex2
        | some d =>
          rw [ed] at ex2
          cases Option.some.inj ex2
          have hdi := hd3 i d ed
          walk_at "f"
          refine ⟨rfl, ?_⟩
          walk_at "f"
          refine ⟨d, R i, rfl, r _ _ hdi, (rk i).1.nd, Nat.le_trans (rk i).1.few (by decide), fun H6 s6 => ?_⟩
          refine ⟨_, rfl, ?_⟩
          cases ez : (nzP (R i)).isEmpty with
          | true =>
            walk_at "f"
            exact hN _ _ (r.trans s6) (s6 _ _ e) p' (by show V.bl true = V.bl ((nzP (R i)).isEmpty || _); rw [ez]; rfl)
          | false =>
            walk_at "f"
            obtain ⟨lpr, W, lc⟩ := rk i
            refine ⟨d, x, R i, sts, W, rfl, s6 _ _ (r _ _ hdi), lpr, hx.same ((s03.trans r).trans s6), lc, fun H7 s7 => ?_⟩
            walk_at "f"
            exact hN _ _ ((r.trans s6).trans s7) (s7 _ _ (s6 _ _ e)) p' (by show V.bl _ = V.bl ((nzP (R i)).isEmpty || _); rw [ez]; rfl)
      · intro H4 ys hD hl2 s4 hy
        rw [List.length_map, dl] at hl2
        have ey := map_of hl2 hy
        have ey2 : ys = ((List.range (dgN m k + 1)).map fun i => (nzP (R i)).isEmpty || decide (sgP (nzP (R i)) sts = sgP (nzP (R 0)) sts)).map V.bl := by rw [ey, List.map_map]; rfl
        rw [ey2] at hD
        walk_at "f"
        refine My.allL (SqL.of hD) ?_
        have ea : ((List.range (dgN m k + 1)).map fun i => (nzP (R i)).isEmpty || decide (sgP (nzP (R i)) sts = sgP (nzP (R 0)) sts)).all id = lhB m k b sg sts := by
          rw [elh, List.all_map]; rfl
        rw [ea]
        refine ⟨_, rfl, ?_⟩
        cases el : lhB m k b sg sts with
        | false =>
          walk_at "f"
          have qq := q _ (s03.trans s4)
          rw [fin el] at qq
          exact qq
        | true =>
          walk_at "f"
          refine ⟨_, _, _, _, rfl, (s1.trans s13).trans s4, fun _ => ?_, fun z => ?_⟩
          · by_cases jz : j = 0
            · rw [if_pos jz] at esg
              rw [← esg]; exact el
            · exact g1 (by omega)
          · rw [if_neg (by omega)] at esg
            rw [← esg]; exact el
    · rintro σ' H1 ⟨u1, u2, u3, u4, rfl, s1, g1, g2⟩
      walk_at "f"
      have qq := q _ (s0.trans s1)
      rw [g1 (by decide), g2 (by decide)] at qq
      exact qq
end
end K25

set_option Elab.async false
set_option linter.all false
set_option maxRecDepth 100000
set_option maxHeartbeats 4000000
/-! the law's parts: sizes of all that comes of them; both signs agree -/
namespace K25
open PySem PySem.Spec PyProof.Rows L2 XV DX
/-- the law's parts with the top k -/
structure Pq (k : Nat) (m : Pol) : Prop where
  nd : (keysP m).Nodup
  len : ∀ p ∈ m, p.1.length = 4
  wi : ∀ p ∈ m, ∀ e ∈ p.1, 0 ≤ e ∧ e ≤ 3
  off : ∀ p ∈ m, ∀ j : Nat, k < j → p.1.getD j 0 = 0
  few : m.length ≤ 7
  bd : ∀ p ∈ m, My.Bd 95 p.2
theorem Pq.lp {k : Nat} {m : Pol} (h : Pq k m) : Lp m := ⟨h.nd, h.len, fun p hp e he => by have := h.wi p hp e he; omega, h.few, fun p hp => (h.bd p hp).mono (by decide)⟩
theorem getD_wi {l : List Int} {most : Int} (m0 : 0 ≤ most) (h : ∀ e ∈ l, 0 ≤ e ∧ e ≤ most) (j : Nat) : 0 ≤ l.getD j 0 ∧ l.getD j 0 ≤ most := by
  rw [List.getD_eq_getElem?_getD]
  cases e : l[j]? with
  | none => exact ⟨Int.le_refl 0, m0⟩
  | some y => exact h y (List.mem_iff_getElem?.mpr ⟨j, e⟩)
theorem Pq.mv {k : Nat} {m : Pol} (h : Pq k m) : Mv (nzP m) k := by
  have sub : ∀ p ∈ nzP m, p ∈ m := fun p hp => (List.mem_filter.mp hp).1
  exact ⟨List.Nodup.sublist (List.Sublist.map _ List.filter_sublist) h.nd, fun p hp => h.len p (sub p hp), fun p hp e he => by have := h.wi p (sub p hp) e he; omega, fun p hp => (getD_wi (by decide) (h.wi p (sub p hp)) k).2, Nat.le_trans (List.length_filter_le _ _) h.few, fun p hp => (h.bd p (sub p hp)).mono (by decide)⟩
theorem Mv.perm {a b : Pol} {k : Nat} (h : a.Perm b) (m : Mv b k) : Mv a k :=
  ⟨(h.map _).symm.nodup m.nd, fun p hp => m.len p (h.mem_iff.mp hp), fun p hp => m.wi p (h.mem_iff.mp hp), fun p hp => m.k3 p (h.mem_iff.mp hp), by rw [h.length_eq]; exact m.few, fun p hp => m.bd p (h.mem_iff.mp hp)⟩
/-! ### sizes of the rows -/
theorem sumAt_bd {B : Nat} {l : List Int} : ∀ {cs : Pol}, (∀ p ∈ cs, My.Bd B p.2) → My.Bd (B + cs.length) (sumAt cs l)
  | [], _ => My.Bd.zero
  | p :: cs, h => by
    have ih := sumAt_bd (l := l) (cs := cs) fun q hq => h q (List.mem_cons_of_mem _ hq)
    have hp := h p List.mem_cons_self
    show My.Bd (B + (cs.length + 1)) ((if p.1 = l then p.2 else 0) + sumAt cs l)
    have : My.Bd (B + cs.length) (if p.1 = l then p.2 else 0) := by
      split
      · exact hp.mono (by omega)
      · exact .zero
    rw [Int.add_comm]
    exact (ih.add this).mono (by omega)
theorem mvR_mem {k : Nat} {b sg : Int} {ts : Pol} {i : Nat} {q : List Int × Int} (h : q ∈ mvR k b sg ts i) : ∃ p ∈ ts, q = (p.1.set k 0, lwC k b sg p i) := by
  obtain ⟨p, hp, rfl⟩ := List.mem_map.mp h
  exact ⟨p, (List.mem_filter.mp hp).1, rfl⟩
theorem rowL_key {k : Nat} {b sg : Int} {ts : Pol} {i : Nat} {q : List Int × Int} (h : q ∈ rowL k b sg ts i) : ∃ p ∈ ts, q.1 = p.1.set k 0 := by
  rcases mem_add (List.mem_map.mpr ⟨q, h, rfl⟩) with y | y
  · cases y
  · obtain ⟨r, hr, e⟩ := List.mem_map.mp y
    obtain ⟨p, hp, rfl⟩ := mvR_mem hr
    exact ⟨p, hp, e.symm⟩
theorem rowL_nd {k : Nat} {b sg : Int} {ts : Pol} {i : Nat} : (keysP (rowL k b sg ts i)).Nodup := nodup_add List.nodup_nil
theorem rowL_len {k : Nat} {b sg : Int} {ts : Pol} {i : Nat} : (rowL k b sg ts i).length ≤ ts.length := by
  have h1 := len_add (by_ := 1) (mvR k b sg ts i) []
  have h2 : (mvR k b sg ts i).length ≤ ts.length := by
    unfold mvR
    rw [List.length_map]
    exact List.length_filter_le _ _
  rw [List.length_nil] at h1
  unfold rowL
  omega
theorem lwC_bd {k : Nat} {b sg : Int} {p : List Int × Int} {i : Nat} (hs : sg = 1 ∨ sg = -1) (h3 : p.1.getD k 0 ≤ 3) (hb : My.Bd 100 b) (hc : My.Bd 200 p.2) : My.Bd 600 (lwC k b sg p i) := by
  have sB : My.Bd 1 sg := by
    rcases hs with z | z
    · rw [z]; exact (show (1 : Int).natAbs < 2 ^ 1 by decide)
    · rw [z]; exact (show (-1 : Int).natAbs < 2 ^ 1 by decide)
  have p1 := (pow_bd sB (p.1.getD k 0).toNat).mono (show (p.1.getD k 0).toNat * 1 + 1 ≤ 4 by omega)
  have cB : My.Bd 64 (BM.ch (p.1.getD k 0).toNat i) := ch_bd (by omega)
  have pB := (pow_bd hb ((p.1.getD k 0).toNat - i)).mono (show ((p.1.getD k 0).toNat - i) * 100 + 1 ≤ 301 by omega)
  exact (((hc.mul p1).mul cB).mul pB).mono (by decide)
theorem rowL_bd {k : Nat} {b sg : Int} {ts : Pol} {i : Nat} (mv : Mv ts k) (hs : sg = 1 ∨ sg = -1) (hb : My.Bd 100 b) : ∀ q ∈ rowL k b sg ts i, My.Bd 650 q.2 := fun q hq => by
  have e := val_of rowL_nd hq
  unfold rowL at e
  rw [val_add] at e
  have e2 : q.2 = sumAt (mvR k b sg ts i) q.1 := by
    rw [← e]
    exact Int.zero_add _
  rw [e2]
  have h2 : (mvR k b sg ts i).length ≤ 7 := by
    unfold mvR
    rw [List.length_map]
    exact Nat.le_trans (List.length_filter_le _ _) mv.few
  refine (sumAt_bd (B := 600) fun p hp => ?_).mono (by omega)
  obtain ⟨p', hp', rfl⟩ := mvR_mem hp
  exact lwC_bd hs (mv.k3 p' hp') hb (mv.bd p' hp')
theorem cnt_small {ds : List BM.Dm} (h : ∀ d ∈ ds, d.D ≤ 3) (l : ds.length ≤ 3) : cntP ds ≤ 64 := by
  have key : ∀ ds : List BM.Dm, (∀ d ∈ ds, d.D ≤ 3) → cntP ds ≤ 4 ^ ds.length := by
    intro ds
    induction ds with
    | nil => exact fun _ => Nat.le_refl 1
    | cons d ds ih =>
      intro h
      have := h d List.mem_cons_self
      show (d.D + 1) * cntP ds ≤ 4 ^ (ds.length + 1)
      rw [Nat.pow_succ, Nat.mul_comm]
      exact Nat.mul_le_mul (ih fun e he => h e (List.mem_cons_of_mem _ he)) (by omega)
  exact Nat.le_trans (key ds h) (Nat.pow_le_pow_right (by decide) l)
theorem strN_bt {s : Str2} (h : StrN (10 ^ 6) s) : Bt s := by
  have o : StrOk s := StrN.ok ⟨h.lo.mono (by decide), h.hi.mono (by decide), h.lt⟩
  have h1 := h.lo.pos; have h2 := h.lo.top; have h3 := h.hi.pos; have h4 := h.hi.top
  exact ⟨o, My.Bd.lit (k := 1000001) (by omega) (by decide), My.Bd.lit (k := 1000001) (by omega) (by decide)⟩
theorem tot_bd {J : List Nat} {most : Nat} (h : ∀ j, J.getD j 0 ≤ most) : ∀ k, totN J k ≤ k * most
  | 0 => by unfold totN; simp
  | k + 1 => by
    have ih := tot_bd h k
    have := h k
    rw [totN_succ, Nat.succ_mul]
    omega
theorem row_sizes {k : Nat} {m : Pol} {b sg : Int} {sts : List Str2} (pq : Pq k m) (hk : k ≤ 3) (hs : sg = 1 ∨ sg = -1) (hb : My.Bd 100 b) (hl : sts.length = k) (hst : ∀ s ∈ sts, StrN (10 ^ 6) s) (i : Nat) :
    Lp (rowL k b sg (nzP m) i) ∧ Lc (nzP (rowL k b sg (nzP m) i)) sts 560 := by
  have mv := pq.mv
  have rb := rowL_bd (i := i) mv hs hb
  have key : ∀ q ∈ rowL k b sg (nzP m) i, q.1.length = 4 ∧ (∀ e ∈ q.1, 0 ≤ e ∧ e ≤ 3) ∧ ∀ j, k ≤ j → q.1.getD j 0 = 0 := fun q hq => by
    obtain ⟨p, hp, e⟩ := rowL_key hq
    have hm := (List.mem_filter.mp hp).1
    have h4 := pq.len p hm
    rw [e]
    refine ⟨by rw [List.length_set]; exact h4, fun x hx => ?_, fun j hj => ?_⟩
    · rcases List.mem_or_eq_of_mem_set hx with z | z
      · exact pq.wi p hm x z
      · rw [z]; decide
    · rw [getD_set (by omega)]
      by_cases z : j = k
      · rw [if_pos z]
      · rw [if_neg z]; exact pq.off p hm j (by omega)
  have few : (rowL k b sg (nzP m) i).length ≤ 7 := Nat.le_trans rowL_len mv.few
  have sub : ∀ p ∈ nzP (rowL k b sg (nzP m) i), p ∈ rowL k b sg (nzP m) i := fun p hp => (List.mem_filter.mp hp).1
  have w3 : ∀ p ∈ nzP (rowL k b sg (nzP m) i), ∀ j, 0 ≤ p.1.getD j 0 ∧ p.1.getD j 0 ≤ 3 := fun p hp j => getD_wi (by decide) (key p (sub p hp)).2.1 j
  have fewN : (nzP (rowL k b sg (nzP m) i)).length ≤ 7 := Nat.le_trans (List.length_filter_le _ _) few
  have l3 : sts.length ≤ 3 := by omega
  refine ⟨⟨rowL_nd, fun p hp => (key p hp).1, fun p hp e he => by have := (key p hp).2.1 e he; omega, few, fun p hp => (rb p hp).mono (by decide)⟩, ⟨⟨List.Nodup.sublist (List.Sublist.map _ List.filter_sublist) rowL_nd, fun p hp => (key p (sub p hp)).1, fun p hp j => by have := w3 p hp j; omega, fun p hp j hj => (key p (sub p hp)).2.2 j (by omega), fewN, fun p hp => (rb p (sub p hp)).mono (by decide), fun s hs => (strN_bt (hst s hs)).ok, l3, ?_⟩, fun s hs => strN_bt (hst s hs), fun p hp => ?_, by omega⟩⟩
  · refine cnt_small (fun d hd => ?_) (by rw [dms_len l3]; exact l3)
    obtain ⟨j, hj⟩ := List.mem_iff_getElem?.mp hd
    rw [(dms_of l3 hj).2]
    have : mx 0 (colP (nzP (rowL k b sg (nzP m) i)) j) ≤ 3 := mx_up (by decide) fun x hx => by
      obtain ⟨q, hq, rfl⟩ := List.mem_map.mp hx
      exact (w3 q hq j).2
    omega
  · have t := tot_bd (J := p.1.map Int.toNat) (most := 3) (fun j => by rw [getD_toNat]; have := w3 p hp j; omega) sts.length
    omega
/-! ### both agree -/
theorem mvL_perm {a c : Pol} (h : a.Perm c) (k : Nat) (b sg : Int) : (mvL k b sg a).Perm (mvL k b sg c) := List.Perm.flatMap_right _ h
theorem mvN_perm {a c : Pol} (h : a.Perm c) (k : Nat) (b sg : Int) : (nzP (addP [] (mvL k b sg a) 1)).Perm (nzP (addP [] (mvL k b sg c) 1)) := by
  have n1 : (keysP (addP [] (mvL k b sg a) 1)).Nodup := nodup_add List.nodup_nil
  have n2 : (keysP (addP [] (mvL k b sg c) 1)).Nodup := nodup_add List.nodup_nil
  refine perm_of_val (List.Nodup.sublist (List.Sublist.map _ List.filter_sublist) n1) (List.Nodup.sublist (List.Sublist.map _ List.filter_sublist) n2) (fun p hp => by simpa using (List.mem_filter.mp hp).2) (fun p hp => by simpa using (List.mem_filter.mp hp).2) fun l => ?_
  rw [nz_val n1, nz_val n2, val_add, val_add, sumAt_perm (mvL_perm h k b sg)]
theorem kb_eq {m : Pol} {k : Nat} {b sg : Int} {sts : List Str2} (hs : sg = 1 ∨ sg = -1) (mv : Mv (nzP m) k) (hk : k < 4) : kbB (nzP m) k b sg sts = lhB m k b sg sts := by
  unfold kbB lhB kpB
  have br := row_bridge (b := b) hs mv hk
  have e0 : sgP (rowP (nzP (addP [] (mvL k b sg (nzP m)) 1)) k 0) sts = sgP (nzP (rowL k b sg (nzP m) 0)) sts := sg_perm (br 0)
  rw [e0]
  congr 1
  have gp := mv_gp (b := b) (sg := sg) mv
  generalize hU : nzP (addP [] (mvL k b sg (nzP m)) 1) = us at br
  have uk : ∀ p ∈ us, ∃ i : Nat, p.1.getD k 0 = (i : Int) ∧ i ≤ dgN m k := fun p hp => by
    rw [← hU] at hp
    have hp := (List.mem_filter.mp hp).1
    rcases mem_add (List.mem_map.mpr ⟨p, hp, rfl⟩) with y | y
    · cases y
    · obtain ⟨r, hr, e⟩ := List.mem_map.mp y
      obtain ⟨q, hq, hr'⟩ := List.mem_flatMap.mp hr
      obtain ⟨low, hl, rfl⟩ := List.mem_map.mp hr'
      have hl := List.mem_range.mp hl
      have e : q.1.set k (low : Int) = p.1 := e
      have hm : q.1.getD k 0 ≤ mx 0 (colP (nzP m) k) := mx_ge (List.mem_map.mpr ⟨q, hq, rfl⟩)
      refine ⟨low, by rw [← e, getD_set (by rw [mv.len q hq]; exact hk), if_pos rfl], ?_⟩
      unfold dgN
      omega
  rw [Bool.eq_iff_iff, List.all_eq_true, List.all_eq_true]
  constructor
  · intro h i hi
    cases ez : (nzP (rowL k b sg (nzP m) i)).isEmpty with
    | true => rfl
    | false =>
      rw [Bool.false_or]
      have ne : rowP us k (i : Int) ≠ [] := fun z => by
        have := (br i).length_eq
        rw [z] at this
        rw [List.isEmpty_iff.mpr (List.eq_nil_of_length_eq_zero this.symm)] at ez
        cases ez
      obtain ⟨r, hr⟩ := List.exists_mem_of_ne_nil _ ne
      obtain ⟨p, hp, rfl⟩ := List.mem_map.mp hr
      obtain ⟨p1, p2⟩ := List.mem_filter.mp hp
      have z := h p p1
      rw [of_decide_eq_true p2, sg_perm (br i)] at z
      exact z
  · intro h p hp
    obtain ⟨i, ei, il⟩ := uk p hp
    have z := h i (List.mem_range.mpr (by omega))
    have mem : (p.1.set k 0, p.2) ∈ rowP us k (i : Int) := List.mem_map.mpr ⟨p, List.mem_filter.mpr ⟨hp, decide_eq_true ei⟩, rfl⟩
    have ez : (nzP (rowL k b sg (nzP m) i)).isEmpty = false := by
      cases e : (nzP (rowL k b sg (nzP m) i)).isEmpty with
      | false => rfl
      | true =>
        have := (br i).mem_iff.mp mem
        rw [List.isEmpty_iff.mp e] at this
        cases this
    rw [ez, Bool.false_or] at z
    rw [ei, sg_perm (br i)]
    exact z
theorem kb_eq' {ts m : Pol} {k : Nat} {b sg : Int} {sts : List Str2} (h : ts.Perm (nzP m)) (hs : sg = 1 ∨ sg = -1) (mv : Mv (nzP m) k) (hk : k < 4) : kbB ts k b sg sts = lhB m k b sg sts := by
  rw [← kb_eq hs mv hk]
  unfold kbB
  exact kpB_perm (mvN_perm h k b sg) k sts
theorem mb_of {ts m : Pol} {k : Nat} {b : Int} {sts : List Str2} (h : ts.Perm (nzP m)) (pq : Pq k m) (hk : k ≤ 3) (b0 : 0 < b) (hb : My.Bd 100 b) (hl : sts.length = k) (hst : ∀ s ∈ sts, StrN (10 ^ 6) s) : ∀ sg e, (sg = 1 ∨ sg = -1) → Spr (rowP (nzP (addP [] (mvL k b sg ts) 1)) k e) sts := by
  intro sg e hs
  refine spr_perm (rowP_perm (mvN_perm h k b sg) k e) ?_
  by_cases z : 0 ≤ e
  · obtain ⟨i, rfl⟩ : ∃ i : Nat, e = (i : Int) := ⟨e.toNat, by omega⟩
    exact spr_perm (row_bridge hs pq.mv (by omega) i) (row_sizes pq hk hs hb hl hst i).2.spr
  · have em : rowP (nzP (addP [] (mvL k b sg (nzP m)) 1)) k e = [] := by
      unfold rowP
      rw [List.map_eq_nil_iff, List.filter_eq_nil_iff]
      intro p hp y
      have gp := mv_gp (b := b) (sg := sg) pq.mv
      have := getD_wi (by decide) (gp.wi p (List.mem_filter.mp hp).1) k
      have := of_decide_eq_true y
      omega
    have l3 : sts.length ≤ 3 := by omega
    rw [em]
    refine ⟨List.nodup_nil, (fun p h => nomatch h), (fun p h => nomatch h), (fun p h => nomatch h), Nat.zero_le _, (fun p h => nomatch h), fun s hs => (strN_bt (hst s hs)).ok, l3, cnt_small (fun d hd => ?_) (by rw [dms_len l3]; exact l3)⟩
    obtain ⟨j, hj⟩ := List.mem_iff_getElem?.mp hd
    rw [(dms_of l3 hj).2]
    exact Nat.zero_le _
end K25

set_option Elab.async false
set_option linter.all false
set_option maxRecDepth 100000
set_option maxHeartbeats 4000000
namespace K25
open PySem PySem.Spec PyProof.Rows L2 XV DX
/-- the key of a power of the unknown k alone -/
def keyK (k : Nat) (p : Int) : List Int := List.replicate k 0 ++ [p] ++ List.replicate (3 - k) 0
theorem keyK_len {k : Nat} {p : Int} (h : k ≤ 3) : (keyK k p).length = 4 := by
  unfold keyK
  rw [List.length_append, List.length_append, List.length_replicate, List.length_replicate, List.length_singleton]; omega
theorem keyK_get {k : Nat} {p : Int} (h : k ≤ 3) {j : Nat} {e : Int} (he : (keyK k p)[j]? = some e) : e = if j = k then p else 0 := by
  unfold keyK at he
  rw [List.append_assoc, List.getElem?_append, List.length_replicate] at he
  split at he
  · rename_i z
    rw [List.getElem?_replicate, if_pos z] at he
    rw [if_neg (by omega)]; exact (Option.some.inj he).symm
  · rename_i z
    by_cases y : j = k
    · subst y
      rw [Nat.sub_self] at he
      rw [if_pos rfl]; exact (Option.some.inj he).symm
    · obtain ⟨n, e1⟩ : ∃ n, j - k = n + 1 := ⟨j - k - 1, by omega⟩
      rw [e1] at he
      have he : (List.replicate (3 - k) (0 : Int))[n]? = some e := he
      rw [List.getElem?_replicate] at he
      split at he
      · rw [if_neg y]; exact (Option.some.inj he).symm
      · cases he
theorem flat_one (k : Nat) (x : V) : (List.replicate k [x]).flatten = List.replicate k x := by
  induction k with
  | zero => rfl
  | succ k ih => rw [List.replicate_succ, List.flatten_cons, ih, List.replicate_succ]; rfl
theorem keyK_V (k : Nat) (p : Int) : (keyK k p).map V.int = (List.replicate (((k : Nat) : Int)).toNat [V.int 0]).flatten ++ [V.int p] ++ (List.replicate ((3 : Int) - (k : Int)).toNat [V.int 0]).flatten := by
  unfold keyK
  rw [flat_one, flat_one, List.map_append, List.map_append, List.map_replicate, List.map_replicate, Int.toNat_natCast, show ((3 : Int) - (k : Int)).toNat = 3 - k by omega]; rfl
def spLines (K : PySem.W.Frag) : Sp := fun vs H Q _ => ∃ (d c rl : Addr) (k : Nat) (rts : List Int), vs = [.ref d, .int (k : Int), .ref rl] ∧ Hand K H d c ∧ k ≤ 3 ∧ H rl = some (.lst (rts.map V.int)) ∧ rts.length ≤ 3 ∧ (∀ r ∈ rts, -4 ≤ r ∧ r ≤ 4) ∧
  ∀ p H' m, H p = none → Hand K H' d c → But d H H' → PolD H' p m → Lq ((k : Int) + 1) 3 m → m.length ≤ 6 → Q (.ref p) H'
theorem set_at {xs : List Int} {i j : Nat} {v : Int} (h : i < xs.length) : (xs.set i v)[j]? = if j = i then some v else xs[j]? := by
  rw [List.getElem?_set]
  by_cases e : i = j
  · subst e; rw [if_pos rfl, if_pos h, if_pos rfl]
  · rw [if_neg e, if_neg fun z => e z.symm]
theorem put_mem {m : Pol} {k : List Int} {v : Int} {p : List Int × Int} (h : p ∈ putP m k v) : p ∈ m ∨ p = (k, v) := by
  unfold putP at h
  split at h
  · obtain ⟨q, hq, rfl⟩ := List.mem_map.mp h
    by_cases z : q.1 = k
    · rw [if_pos z]; exact .inr (by rw [z])
    · rw [if_neg z]; exact .inl hq
  · rcases List.mem_append.mp h with g | g
    · exact .inl g
    · exact .inr (List.mem_singleton.mp g)
section
variable {P : Program} {w : World} {K : PySem.W.Frag} {mg : Str → Option Value} {base : Heap}
theorem sc_law_lines : FnScope ["_law_hand_here", "_law_k", "_law_roots", "_law_found", "_law_root", "_law_at", "_law_parts_here", "_law_power_here", "_law_turn", "_law_u", "_law_powers"] ["_law_hand_here", "_law_k", "_law_roots"] (defScope s_law_lines) := ⟨rfl, rfl, rfl, by decide +kernel, rfl, by decide +kernel, by decide +kernel⟩
theorem cal_law_lines {f : Addr} {fd : FuncData} (F : FnP K "_law_lines" "_law_lines" s_law_lines f fd) (g : mg "_law_lines" = some (.ref f)) (T : Txt0 mg) (C_law_draw : Cal P w K mg base "_law_draw" 1 ["_law_hand_here", "_law_many"] (spDraw K)) (C_law_any : Cal P w K mg base "_law_any" 2 ["_law_hand_here", "_law_things"] (spAny K)) : Cal P w K mg base "_law_lines" 3 ["_law_hand_here", "_law_k", "_law_roots"] (spLines K) := by
  obtain ⟨f_law_draw, fd_law_draw, g_law_draw, G_law_draw, b_law_draw, k_law_draw⟩ := C_law_draw
  obtain ⟨f_law_any, fd_law_any, g_law_any, G_law_any, b_law_any, k_law_any⟩ := C_law_any
  refine ⟨f, fd, g, ?_, F.bindsN (fun _ _ _ _ _ _ us hl => match us, hl with | [_, _, _], _ => rfl), F.kp⟩
  refine F.ok sc_law_lines (fun vs H Q E h => ?_) (fun cdv A outer s H vs Q E hr h => ?_)
  · obtain ⟨d, c, rl, k, rts, rfl, hh, hk, hrl, r3, rb, q⟩ := h
    rfl
  · obtain ⟨d, c, rl, k, rts, rfl, hh, hk, hrl, r3, rb, q⟩ := h
    have hu := hu_of hr
    refine ⟨_, PSs.nox (pss_cons (ps_set (i := 3) sc_law_lines.nd rfl (Or.inl rfl) (pe_lst (pa_cons (pe_call G_law_any (hr.mono (by decide)) (by rfl) g_law_any k_law_any b_law_any .nil pass0 (pa_cons (pv 0) (pa_cons (pe_lst (pa_cons pe_int (pa_cons pe_int (pa_cons pe_int (pa_cons (pe_un un_neg pe_int) (pa_cons pe_int pa_nil)))))) pa_nil))) pa_nil)))
      (pss_cons (ps_for PassesOwn.never rfl (pi_list (pv 2)) (pg_name (i := 4) sc_law_lines.nd rfl (Or.inl rfl))
       (pss_cons (ps_set (i := 3) sc_law_lines.nd rfl (Or.inl rfl) (pe_op op_cat (pe_lst (pa_cons pe_int pa_nil)) (pv 3)))
      (pss_one (ps_for PassesOwn.never rfl (pi_range1 (by rfl) T.range (pa_cons (pe_op op_sub (pe_callB My.c_len (by rfl) T.len PySem.boot_len (pa_cons (pv 3) pa_nil)) pe_int) pa_nil)) (pg_name (i := 5) sc_law_lines.nd rfl (Or.inl rfl))
       (pss_one (ps_asg (pe_op op_sub (pe_ix ix_list (pv 3) (pv 5) (fun _ _ => rfl)) (pe_op op_mulW (pv 4) (pe_ix ix_list (pv 3) (pe_op op_add (pv 5) pe_int) (fun _ _ => rfl)))) (pg_sub (pv 3) (pv 5) set_list)))))))
      (pss_cons (ps_set (i := 6) sc_law_lines.nd rfl (Or.inl rfl) pe_dnewT)
      (pss_cons (ps_for PassesOwn.never rfl (pi_range1 (by rfl) T.range (pa_cons (pe_callB My.c_len (by rfl) T.len PySem.boot_len (pa_cons (pv 3) pa_nil)) pa_nil)) (pg_name (i := 7) sc_law_lines.nd rfl (Or.inl rfl))
       (pss_one (ps_dput hu (pv 6) (pe_op op_catA (pe_op op_catA (pe_op DX.op_repA (pe_tup (pa_cons pe_int pa_nil)) (pv 1)) (pe_tup (pa_cons (pv 7) pa_nil))) (pe_op DX.op_repA (pe_tup (pa_cons pe_int pa_nil)) (pe_op op_sub pe_int (pv 1)))) (pe_ix ix_list (pv 3) (pv 7) (fun _ _ => rfl)) rfl)))
      (pss_cons (ps_for PassesOwn.never rfl (pi_range1 (by rfl) T.range (pa_cons (pe_ifExp (pt_cmpR op_gt (pv 1) pe_int (nomark _)) (pe_call G_law_draw (hr.mono (by decide)) (by rfl) g_law_draw k_law_draw b_law_draw .nil pass0 (pa_cons (pv 0) (pa_cons pe_int pa_nil))) pe_int) pa_nil)) (pg_name (i := 8) sc_law_lines.nd rfl (Or.inl rfl))
       (pss_cons (ps_set (i := 10) sc_law_lines.nd rfl (Or.inl rfl) (pe_tupleOf (by rfl) T.tuple (pe_lc (own := [("_law_u", 9)]) (tt := tYes) (by rfl) sc_law_lines.nd (pi_range1 (by rfl) T.range (pa_cons pe_int pa_nil)) (blkOk_by (own := [("_law_u", 9)]) (N := ["_law_hand_here", "_law_k", "_law_roots", "_law_found", "_law_root", "_law_at", "_law_parts_here", "_law_power_here", "_law_turn", "_law_u", "_law_powers"]) (sc := (defScope s_law_lines)) (by decide +kernel)) (fun _ _ _ _ _ => (pg_name (i := 9) sc_law_lines.nd rfl (Or.inl rfl))) (fun _ _ _ _ _ => pts_nil) (fun _ _ _ _ _ => (pe_ifExp (pt_cmpR op_le (pv 9) (pv 1) (nomark _)) (pe_call G_law_draw (hr.mono (by decide)) (by rfl) g_law_draw k_law_draw b_law_draw .nil pass0 (pa_cons (pv 0) (pa_cons (pe_op op_add pe_int (pe_callTy My.c_int1 (by rfl) T.int boot_int (pa_cons (pe_cmpR op_eq (pv 9) (pv 1) (nomark _)) pa_nil))) pa_nil))) pe_int)))))
      (pss_one (ps_dput hu (pv 6) (pv 10) (pe_op op_sub (pe_op op_add (pe_dget2 hu (pv 6) (pv 10) pe_int ⟨rfl, rfl, rfl, rfl⟩) (pe_call G_law_draw (hr.mono (by decide)) (by rfl) g_law_draw k_law_draw b_law_draw .nil pass0 (pa_cons (pv 0) (pa_cons pe_int pa_nil)))) pe_int) rfl))))
      (pss_one (ps_ret (pv 6)))))))), ?_⟩
    try dsimp only [cxOf, Cx.nox, Cx.wish]
    walk_at "f"
    refine My.new (My.sz (by simp)) fun pl nl => ?_
    have sl := same_new (o := HO.lst [V.int 1, V.int 1, V.int 2, V.int (-1), V.int 7]) nl
    walk_at "f"
    refine ⟨d, c, pl, _, rfl, hh.same sl, SqL.of upd_same, by simp, by simp, fun v H1 hv hh1 b1 _ => ?_⟩
    obtain ⟨g, rfl, gB⟩ : ∃ g : Int, v = .int g ∧ My.Bd 3 g := by
      simp only [List.mem_cons, List.not_mem_nil, or_false] at hv
      rcases hv with rfl | rfl | rfl | rfl | rfl
      · exact ⟨1, rfl, show (1 : Int).natAbs < 2 ^ 3 by decide⟩
      · exact ⟨1, rfl, show (1 : Int).natAbs < 2 ^ 3 by decide⟩
      · exact ⟨2, rfl, show (2 : Int).natAbs < 2 ^ 3 by decide⟩
      · exact ⟨-1, rfl, show (-1 : Int).natAbs < 2 ^ 3 by decide⟩
      · exact ⟨7, rfl, show (7 : Int).natAbs < 2 ^ 3 by decide⟩
    have b1 := (Same.but sl).trans b1
    have dn : ∀ {b o}, H b = some o → (∀ ks, o ≠ .dK ks) → ∀ {H'}, But d H H' → H' b = some o := by
      intro b o e n H' bb
      exact bb.obj hh e n
    walk_at "f"
    refine My.new (My.sz (by simp)) fun f0 nf0 => ?_
    have sf := same_new (o := HO.lst [V.int g]) nf0
    have ef := upd_same (H := H1) (a := f0) (o := HO.lst [V.int g])
    have hh2 := hh1.same sf
    have b2 := b1.trans (Same.but sf)
    have nf00 := fresh_of hh hh1 b1 nf0
    generalize upd H1 f0 _ = H2 at ef hh2 b2 ⊢
    walk_at "f"
    have hrl2 : H2 rl = some (.lst (rts.map V.int)) := dn hrl (fun ks z => by cases z) b2
    refine My.lstI (SqL.of hrl2) (fun i σ' H' => ∃ (fp : Addr) (fs : List Int) (u1 u2 u3 u4 u5 u6 u7 : Option V), σ' = [some (.ref d), some (.int (k : Int)), some (.ref rl), some (.ref fp), u1, u2, u3, u4, u5, u6, u7] ∧ Hand K H' d c ∧ But d H H' ∧ H fp = none ∧ H' fp = some (.lst (fs.map V.int)) ∧ fs.length = i + 1 ∧ (∀ (j : Nat) (e : Int), fs[j]? = some e → My.Bd (3 + 6 * i) e)) ⟨f0, [g], _, _, _, _, _, _, _, rfl, hh2, b2, nf00, ef, rfl, fun j e h => by
      cases j with
      | zero => cases Option.some.inj h; exact gB
      | succ j => simp at h⟩ (fun i σ' H' _ ⟨_, _, _, _, _, _, _, _, _, _, _, bb, _⟩ => SqL.of (dn hrl (fun ks z => by cases z) bb)) ?_ ?_
    · rintro i x σ' H3 ex ⟨fp, fs, u1, u2, u3, u4, u5, u6, u7, rfl, hh3, b3, nfp, hfp, fl, fB⟩
      rw [List.getElem?_map] at ex
      cases er : rts[i]? with
      | none => rw [er] at ex; cases ex
      | some r =>
        rw [er] at ex
        cases Option.some.inj ex
        have ri := rb r (List.mem_iff_getElem?.mpr ⟨i, er⟩)
        have il := (List.getElem?_eq_some_iff.mp er).1
        have rB : My.Bd 3 r := My.Bd.lit (k := 5) (by omega) (by decide)
        walk_at "f"
        refine My.new (My.sz (by simp)) fun z0 nz0 => ?_
        have sz := same_new (o := HO.lst [V.int 0]) nz0
        walk_at "f"
        refine My.cat upd_same (sz _ _ hfp) (by rw [List.length_map]; simp; omega) fun f1 nf1 => ?_
        have hh4 := hh3.same sz
        have b4 := b3.trans (Same.but sz)
        generalize upd H3 z0 (HO.lst [V.int 0]) = H4 at nf1 hh4 b4 ⊢
        have nf10 := fresh_of hh hh4 b4 nf1
        rw [show [V.int 0] ++ fs.map V.int = (0 :: fs).map V.int from rfl]
        walk_at "f"
        refine My.lenL (SqL.of upd_same) ?_
        walk_at "f"
        refine My.rngI (by rw [List.length_map, List.length_cons]; omega) (by rw [List.length_map, List.length_cons]; omega) (fun at_ σ' H' => ∃ (gs : List Int) (u : Option V), σ' = [some (.ref d), some (.int (k : Int)), some (.ref rl), some (.ref f1), some (.int r), u, u3, u4, u5, u6, u7] ∧ H' = upd H4 f1 (.lst (gs.map V.int)) ∧ gs.length = i + 2 ∧ (∀ (j : Nat) (e : Int), gs[j]? = some e → My.Bd (3 + 6 * (i + 1)) e) ∧ (∀ (j : Nat) (e : Int), at_ ≤ j → gs[j]? = some e → My.Bd (3 + 6 * i) e)) ⟨0 :: fs, _, rfl, rfl, by rw [List.length_cons]; omega, fun j e he => ?_, fun j e _ he => ?_⟩ ?_ ?_
        · cases j with
          | zero => cases Option.some.inj he; exact .zero
          | succ j => exact (fB j e he).mono (by omega)
        · cases j with
          | zero => cases Option.some.inj he; exact .zero
          | succ j => exact fB j e he
        · rintro at_ σ' H5 hat ⟨gs, u, rfl, rfl, gl, g1, g2⟩
          rw [List.length_map, List.length_cons] at hat
          have a1 : at_ + 1 < gs.length := by omega
          obtain ⟨y, ey⟩ : ∃ y, gs[at_ + 1]? = some y := ⟨_, List.getElem?_eq_getElem a1⟩
          obtain ⟨z, ez⟩ : ∃ z, gs[at_]? = some z := ⟨_, List.getElem?_eq_getElem (by omega)⟩
          have yB := g2 _ _ (by omega) ey
          have zB := g2 _ _ (Nat.le_refl _) ez
          rw [show (0 : Int) + (at_ : Int) = (at_ : Int) from Int.zero_add _]
          walk_at "f"
          refine My.ixL (v := .int z) (SqL.of upd_same) (atI_nat (by rw [List.getElem?_map, ez]; rfl)) ?_
          walk_at "f"
          rw [show ((at_ : Int) + 1) = ((at_ + 1 : Nat) : Int) by omega]
          refine My.ixL (v := .int y) (SqL.of upd_same) (atI_nat (by rw [List.getElem?_map, ey]; rfl)) ?_
          refine My.mulW rB yB (by omega) ?_
          walk_at "f"
          refine My.setL upd_same (by rw [List.length_map]; omega) ?_
          rw [upd_upd, ← List.map_set]
          have nB : My.Bd (3 + 6 * (i + 1)) (z - r * y) := ((zB.mono (show 3 + 6 * i ≤ 3 + (3 + 6 * i) by omega)).sub (rB.mul yB)).mono (by omega)
          refine ⟨gs.set at_ (z - r * y), _, rfl, rfl, by rw [List.length_set]; exact gl, fun j e he => ?_, fun j e hj he => ?_⟩
          · rw [set_at (by omega)] at he
            split at he
            · cases Option.some.inj he; exact nB
            · exact g1 j e he
          · rw [set_at (by omega), if_neg (by omega)] at he
            exact g2 j e (by omega) he
        · rintro σ' H5 ⟨gs, u, rfl, rfl, gl, g1, g2⟩
          have s5 := same_new (o := HO.lst (gs.map V.int)) nf1
          exact ⟨f1, gs, _, _, _, _, _, _, _, rfl, hh4.same s5, b4.trans (Same.but s5), nf10, upd_same, gl, g1⟩
    · rintro σ' H3 ⟨fp, fs, u1, u2, u3, u4, u5, u6, u7, rfl, hh3, b3, nfp, hfp, fl, fB⟩
      rw [List.length_map] at fl fB
      walk_at "f"
      refine My.dnewT fun pd npd => ?_
      have npd0 := fresh_of hh hh3 b3 npd
      have sd := same_new (o := HO.dT []) npd
      have ed := upd_same (H := H3) (a := pd) (o := HO.dT [])
      have hh4 := hh3.same sd
      have b4 := b3.trans (Same.but sd)
      have hfp4 := sd _ _ hfp
      have fpd : fp ≠ pd := ne_of_none hfp npd
      have dpd : pd ≠ d := fun z => by obtain ⟨ks, e⟩ := hh.dk; rw [← z, npd0] at e; cases e
      generalize upd H3 pd (HO.dT []) = H4 at ed hh4 b4 hfp4 ⊢
      walk_at "f"
      refine My.lenL (SqL.of hfp4) ?_
      rw [List.length_map, fl]
      walk_at "f"
      refine My.rngI (by omega) (by omega) (fun i σ' H' => ∃ (m : Pol) (w1 w2 w3 w4 : Option V), σ' = [some (.ref d), some (.int (k : Int)), some (.ref rl), some (.ref fp), u1, u2, some (.ref pd), w1, w2, w3, w4] ∧ Hand K H' d c ∧ But d H H' ∧ H' fp = some (.lst (fs.map V.int)) ∧ PolD H' pd m ∧ Lq ((k : Int) + 1) 3 m ∧ m.length ≤ i ∧ ∀ p ∈ m, My.Bd 30 p.2) ⟨[], _, _, _, _, rfl, hh4, b4, hfp4, ed, ⟨List.nodup_nil, (fun p hp => nomatch hp), (fun p hp => nomatch hp), (fun p hp => nomatch hp), (fun p hp => nomatch hp)⟩, Nat.le_refl _, (fun p hp => nomatch hp)⟩ ?_ ?_
      · rintro i σ' H5 hi ⟨m, w1, w2, w3, w4, rfl, hh5, b5, hfp5, hpd5, lq, ml, bd⟩
        have il : i < rts.length + 1 := by omega
        obtain ⟨y, ey⟩ : ∃ y, fs[i]? = some y := ⟨_, List.getElem?_eq_getElem (by omega)⟩
        have yB := fB i y ey
        rw [show (0 : Int) + (i : Int) = (i : Int) from Int.zero_add _]
        walk_at "f"
        refine My.ixL (v := .int y) (SqL.of hfp5) (atI_nat (by rw [List.getElem?_map, ey]; rfl)) ?_
        walk_at "f"
        refine My.new (My.sz (by simp)) fun t1 nt1 => ?_
        have s1 := same_new (o := HO.tup [V.int 0]) nt1
        walk_at "f"
        refine My.repA upd_same (by omega) (by omega) (by simp) fun t2 H6 s2 h2 => ?_
        walk_at "f"
        refine My.new (My.sz (by simp)) fun t3 nt3 => ?_
        have s3 := same_new (o := HO.tup [V.int (i : Int)]) nt3
        refine My.catA (s3 _ _ h2) upd_same (by rw [flat_one, List.length_replicate]; simp; omega) fun t4 H7 s4 h4 => ?_
        have s14 := ((s1.trans s2).trans s3).trans s4
        walk_at "f"
        refine My.new (My.sz (by simp)) fun t5 nt5 => ?_
        have s5 := same_new (o := HO.tup [V.int 0]) nt5
        walk_at "f"
        refine My.repA upd_same (by omega) (by omega) (by simp) fun t6 H8 s6 h6 => ?_
        refine My.catA (s6 _ _ (s5 _ _ h4)) h6 (by rw [flat_one, flat_one, List.length_append, List.length_replicate, List.length_replicate]; simp; omega) fun t7 H9 s7 h7 => ?_
        have s9 := ((s14.trans s5).trans s6).trans s7
        have h7' : H9 t7 = some (.tup ((ik (keyK k (i : Int))).map kV)) := by rw [ik_kV, keyK_V]; exact h7
        have hpd9 : H9 pd = some (.dT (kvI m)) := s9 _ _ hpd5
        have hh9 := hh5.same s9
        have b9 := b5.trans (Same.but s9)
        refine ⟨pd, _, rfl, DPut.t hpd9 h7' (by rw [kvI_len, sizeLine_eq]; omega), ?_⟩
        have yB30 := yB.mono (show 3 + 6 * rts.length ≤ 30 by omega)
        refine ⟨putP m (keyK k (i : Int)) y, _, _, _, _, rfl, Hand.put hh9 hpd9 dpd, fun b o nb e => by rw [upd_ne (ne_of_none e npd0)]; exact b9 _ _ nb e, by rw [upd_ne fpd]; exact s9 _ _ hfp5, by rw [PolD, upd_same, kvI_put], lq_put lq (keyK_len hk) (fun j e he => ?_) (yB.mono (by omega)), Nat.le_trans (len_put m _ _) (by omega), fun p hp => ?_⟩
        · rw [keyK_get hk he]
          split
          · exact ⟨by omega, fun g => by omega⟩
          · exact ⟨by omega, fun _ => rfl⟩
        · rcases put_mem hp with g | g
          · exact bd p g
          · rw [g]; exact yB30
      · rintro σ' H5 ⟨m, w1, w2, w3, w4, rfl, hh5, b5, hfp5, hpd5, lq, ml, bd⟩
        have ml : m.length ≤ 4 := by omega
        dsimp only
        refine My.seq (My.forR1 (My.cons (My.cutV (fun v H6 => ∃ n : Int, v = .int n ∧ 0 ≤ n ∧ n ≤ 2 ∧ Hand K H6 d c ∧ But d H5 H6) (fun Q' hQ => ?_) ?_)))
        · walk_at "f"
          · exact ⟨d, c, 3, rfl, by decide, by decide, hh5, fun n H6 n0 n1 hh6 b6 _ => hQ _ _ ⟨n, rfl, n0, by omega, hh6, b6⟩⟩
          · exact hQ _ _ ⟨0, rfl, by decide, by decide, hh5, .refl _ _⟩
        rintro v H6 ⟨n, rfl, n0, n2, hh6, b56⟩
        have nd5 : ∀ {b o}, H5 b = some o → (∀ ks, o ≠ .dK ks) → H6 b = some o := by
          intro b o e n
          exact b56.obj hh5 e n
        have hpd6 : H6 pd = some (.dT (kvI m)) := nd5 hpd5 (fun ks z => by cases z)
        have b6 := b5.trans b56
        walk_at "f"
        refine My.rngI (by omega) (by omega) (fun i σ' H' => ∃ (m : Pol) (w1 w2 w3 w4 : Option V), σ' = [some (.ref d), some (.int (k : Int)), some (.ref rl), some (.ref fp), u1, u2, some (.ref pd), w1, w2, w3, w4] ∧ Hand K H' d c ∧ But d H H' ∧ PolD H' pd m ∧ Lq ((k : Int) + 1) 3 m ∧ m.length ≤ 4 + i ∧ ∀ p ∈ m, My.Bd (30 + 5 * i) p.2) ⟨m, _, _, _, _, rfl, hh6, b6, hpd6, lq, ml, bd⟩ ?_ ?_
        · rintro i σ' H7 hi ⟨m, w1, w2, w3, w4, rfl, hh7, b7, hpd7, lq, ml, bd⟩
          have hpd7 : H7 pd = some (.dT (kvI m)) := hpd7
          have i2 : i < 2 := by omega
          walk_at "f"
          refine ⟨4, rfl, by decide, by decide, My.lcM walk_range (fun H1 H' => But d H1 H' ∧ Hand K H' d c) (by decide) (fun D hD => ⟨Same.but (same_new hD), hh7.same (same_new hD)⟩) fun D nD => ⟨fun j y H => ∃ e : Int, y = .int e ∧ (0 ≤ e ∧ e ≤ 3) ∧ ((k : Int) + 1 ≤ (j : Int) → e = 0), fun j y H ys o _ h => h, fun H o s => ⟨but_at s.1 nD, Hand.at hh7 s.1 s.2 nD⟩, fun _ _ _ _ => trivial, ?_, ?_⟩⟩
          · rintro i x H8 H9 ys N hi r e l p' ⟨rfl, rfl⟩ hN
            walk_at "f"
            refine ⟨rfl, ?_⟩
            walk_at "f"
            · rename_i hik
              refine My.int1b ?_
              walk_at "f"
              have cs : ∀ b : Bool, (0 : Int) < 2 + (if b = true then 1 else 0) ∧ 2 + (if b = true then (1 : Int) else 0) ≤ 3 := fun b => by cases b <;> decide
              obtain ⟨c0, c1⟩ := cs (decide ((0 : Int) + (i : Int) = (k : Int)))
              refine ⟨d, c, _, rfl, c0, by omega, r.2, fun q' H9 q0 q1 hh9 b9 _ => ?_⟩
              refine hN _ _ ⟨r.1.trans b9, hh9⟩ (b9.obj r.2 e (fun _ z => by cases z)) (fun j v hv => p' j v hv) ⟨q', rfl, ⟨q0, by omega⟩, fun g => by omega⟩
            · exact hN _ _ r e (fun j v hv => p' j v hv) ⟨0, rfl, ⟨Int.le_refl _, by decide⟩, fun _ => rfl⟩
          · intro H8 ys hD hl8 r8 hy
            obtain ⟨ks, rfl, hks⟩ := ints_of hy
            rw [List.length_map] at hl8
            refine My.tupL (SqL.of hD) fun t nt => ?_
            have st := same_new (o := HO.tup (ks.map V.int)) nt
            have ot := upd_same (H := H8) (a := t) (o := HO.tup (ks.map V.int))
            have h9 := r8.2.same st
            have b9 := (b7.trans r8.1).trans (Same.but st)
            have hp9 := st _ _ (r8.1 _ _ dpd hpd7)
            generalize upd H8 t _ = H9 at ot h9 b9 hp9 ⊢
            have ntd : t ≠ d := fun z => by obtain ⟨kk, e⟩ := h9.dk; rw [z, e] at ot; cases ot
            walk_at "f"
            have ht9 : H9 t = some (.tup ((ik ks).map kV)) := by rw [ik_kV]; exact ot
            refine ⟨pd, rfl, .inr ⟨_, .inl hp9⟩, ?_⟩
            walk_at "f"
            refine ⟨_, DGet.t hp9 ht9, ?_⟩
            have eg : (valV (kvI m) (ik ks)).getD (.int 0) = .int ((getP m ks).getD 0) := by
              rw [valV_kvI]
              cases getP m ks <;> rfl
            rw [eg]
            walk_at "f"
            refine ⟨d, c, 5, rfl, by decide, by decide, h9, fun x5 H10 x50 x51 h10 b10 _ => ?_⟩
            have hp10 := b10 _ _ dpd hp9
            have ht10 := b10 _ _ ntd ht9
            have b010 := b9.trans b10
            have vB : My.Bd (30 + 5 * (i + 1)) ((getP m ks).getD 0 + x5 - 2) := by
              have v0 : My.Bd (30 + 5 * i) ((getP m ks).getD 0) := by
                cases e : getP m ks with
                | none => exact .zero
                | some v =>
                  have hm : ks ∈ keysP m := Classical.byContradiction fun z => by rw [getP_none z] at e; cases e
                  obtain ⟨p, hp, rfl⟩ := List.mem_map.mp hm
                  have := val_of lq.nd hp
                  unfold val at this
                  rw [e] at this
                  rw [show v = p.2 from this]
                  exact bd p hp
              have v1 : My.Bd (30 + 5 * i) x5 := My.Bd.lit (n := 30 + 5 * i) (k := 6) (by omega) (Nat.le_trans (show 6 ≤ 2 ^ 30 by decide) (Nat.pow_le_pow_right (by decide) (by omega)))
              have v2 : My.Bd (30 + 5 * i + 1) 2 := My.Bd.lit (n := 30 + 5 * i + 1) (k := 6) (by decide) (Nat.le_trans (show 6 ≤ 2 ^ 30 by decide) (Nat.pow_le_pow_right (by decide) (by omega)))
              exact ((v0.add v1).sub v2).mono (by omega)
            walk_at "f"
            refine ⟨pd, _, rfl, DPut.t hp10 ht10 (by rw [kvI_len, sizeLine_eq]; omega), ?_⟩
            refine ⟨putP m ks ((getP m ks).getD 0 + x5 - 2), _, _, _, _, rfl, Hand.put h10 hp10 dpd, fun b o nb e => by rw [upd_ne (ne_of_none e npd0)]; exact b010 _ _ nb e, by rw [PolD, upd_same, kvI_put], lq_put lq hl8 (fun j e he => hks j e he) (vB.mono (by omega)), Nat.le_trans (len_put m _ _) (by omega), fun p hp => ?_⟩
            rcases put_mem hp with g | g
            · exact (bd p g).mono (by omega)
            · rw [g]; exact vB
        · rintro σ' H7 ⟨m, w1, w2, w3, w4, rfl, hh7, b7, hpd7, lq, ml, bd⟩
          walk_at "f"
          exact q pd H7 m npd0 hh7 b7 hpd7 lq (by omega)
end
end K25

set_option Elab.async false
set_option linter.all false
set_option maxRecDepth 100000
set_option maxHeartbeats 4000000
/-! the worth of a polynomial at a place of the box -/
namespace K25
open PySem PySem.Spec PyProof.Rows L2 XV DX
theorem wn_snoc (p : BM.Pt) : ∀ (ps : List BM.Pt) (J : List Nat), BM.wn (ps ++ [p]) J = BM.wn ps J * p.n ^ (J.getD ps.length 0) ∧ BM.wb (ps ++ [p]) J = BM.wb ps J * p.b ^ (J.getD ps.length 0)
  | [], J => by
    have e : J.headD 0 = J.getD 0 0 := by cases J <;> rfl
    constructor
    · show p.n ^ (J.headD 0) * 1 = 1 * _
      rw [e, Int.mul_one, Int.one_mul]; rfl
    · show p.b ^ (J.headD 0) * 1 = 1 * _
      rw [e, Int.mul_one, Int.one_mul]; rfl
  | q :: ps, J => by
    have e : J.tail.getD ps.length 0 = J.getD (ps.length + 1) 0 := by cases J <;> rfl
    obtain ⟨h1, h2⟩ := wn_snoc p ps J.tail
    rw [e] at h1 h2
    constructor
    · show _ * BM.wn (ps ++ [p]) J.tail = _ * BM.wn ps J.tail * _
      rw [h1, Int.mul_assoc]; rfl
    · show _ * BM.wb (ps ++ [p]) J.tail = _ * BM.wb ps J.tail * _
      rw [h2, Int.mul_assoc]; rfl
theorem wnK_low {ps : List BM.Pt} {pts : List Fra} {J : List Int} (e : ps.map (fun p => (p.n, p.b)) = pts) : ∀ k, k ≤ ps.length →
    wnK pts J k = BM.wn (ps.take k) ((J.take pts.length).map Int.toNat) ∧ wbK pts J k = BM.wb (ps.take k) ((J.take pts.length).map Int.toNat)
  | 0, _ => ⟨rfl, rfl⟩
  | k + 1, h => by
    obtain ⟨h1, h2⟩ := wnK_low e k (by omega)
    have pl : pts.length = ps.length := by rw [← e, List.length_map]
    have et : ps.take (k + 1) = ps.take k ++ [ps[k]] := by rw [List.take_succ, List.getElem?_eq_getElem (by omega)]; rfl
    obtain ⟨g1, g2⟩ := wn_snoc ps[k] (ps.take k) ((J.take pts.length).map Int.toNat)
    have lt : (ps.take k).length = k := by rw [List.length_take]; omega
    have ej : ((J.take pts.length).map Int.toNat).getD k 0 = (J.getD k 0).toNat := by
      rw [getD_toNat, List.getD_eq_getElem?_getD, List.getElem?_take_of_lt (by omega), ← List.getD_eq_getElem?_getD]
    have ep : plc pts k = (ps[k].n, ps[k].b) := by
      unfold plc
      rw [← e, List.getD_eq_getElem?_getD, List.getElem?_map, List.getElem?_eq_getElem (by omega)]; rfl
    rw [lt, ej] at g1 g2
    rw [et]
    constructor
    · rw [g1, ← h1]
      show _ * (plc pts k).1 ^ _ = _
      rw [ep]
    · rw [g2, ← h2]
      show _ * (plc pts k).2 ^ _ = _
      rw [ep]
theorem wnK_up {pts : List Fra} {J : List Int} {n : Nat} (off : ∀ j, n ≤ j → J.getD j 0 = 0) : ∀ k, n ≤ k → wnK pts J k = wnK pts J n ∧ wbK pts J k = wbK pts J n
  | 0, h => by rw [show n = 0 by omega]; exact ⟨rfl, rfl⟩
  | k + 1, h => by
    by_cases e : n = k + 1
    · rw [e]; exact ⟨rfl, rfl⟩
    · obtain ⟨h1, h2⟩ := wnK_up (pts := pts) off k (by omega)
      have z : (J.getD k 0).toNat = 0 := by rw [off k (by omega)]; rfl
      constructor
      · show wnK pts J k * (plc pts k).1 ^ (J.getD k 0).toNat = _
        rw [z, Int.pow_zero, Int.mul_one, h1]
      · show wbK pts J k * (plc pts k).2 ^ (J.getD k 0).toNat = _
        rw [z, Int.pow_zero, Int.mul_one, h2]
theorem pts_of : ∀ {gs : List Int} {sts : List Str2} {pts : List Fra}, sts.length ≤ gs.length → Paired (fun s f => InS s f ∧ 0 < f.2) sts pts →
    ∃ ps : List BM.Pt, ps.map (fun p => (p.n, p.b)) = pts ∧ ps.length = (List.zipWith (fun (D : Int) s => mkDm D.toNat s) gs sts).length ∧ ∀ x ∈ (List.zipWith (fun (D : Int) s => mkDm D.toNat s) gs sts).zip ps, x.2.Ok x.1
  | gs, [], [], _, .nil => ⟨[], rfl, by simp, fun x h => by simp at h⟩
  | [], _ :: _, _, l, _ => by simp at l
  | g :: gs, s :: sts, f :: pts, l, .cons ⟨⟨t, m, t0, t1, m0, e⟩, b⟩ h => by
    obtain ⟨ps, h1, h2, h3⟩ := pts_of (gs := gs) (by simpa using l) h
    refine ⟨⟨t, m, f.1, f.2⟩ :: ps, by rw [List.map_cons, h1], by rw [List.length_cons, h2]; rfl, fun x hx => ?_⟩
    rw [List.zipWith_cons_cons, List.zip_cons_cons] at hx
    rcases List.mem_cons.mp hx with z | z
    · rw [z]
      exact ⟨t0, t1, m0, b, e⟩
    · exact h3 x z
theorem nz_sum {F : List Int → Int} : ∀ m : Pol, (m.map fun p => p.2 * F p.1).sum = ((nzP m).map fun p => p.2 * F p.1).sum
  | [] => rfl
  | p :: m => by
    have ih := nz_sum (F := F) m
    unfold nzP at ih ⊢
    rw [List.map_cons, List.sum_cons, ih]
    by_cases z : p.2 = 0
    · rw [List.filter_cons_of_neg (by simp [z]), z, Int.zero_mul, Int.zero_add]
    · rw [List.filter_cons_of_pos (by simp [z]), List.map_cons, List.sum_cons]
theorem sg_one {m : Pol} {sts : List Str2} (h : sgP m sts = 1) : ∀ I ∈ BM.idx (dmsP m sts), 0 < BM.rowV (dmsP m sts) (natP (cutP sts.length m)) I := fun I hI => by
  unfold sgP rowSg at h
  split at h
  · cases h
  · split at h
    · rename_i z
      exact of_decide_eq_true (List.all_eq_true.mp z I hI)
    · split at h <;> cases h
theorem sg_neg {m : Pol} {sts : List Str2} (h : sgP m sts = -1) : ∀ I ∈ BM.idx (dmsP m sts), BM.rowV (dmsP m sts) (natP (cutP sts.length m)) I < 0 := fun I hI => by
  unfold sgP rowSg at h
  split at h
  · cases h
  · split at h
    · cases h
    · split at h
      · rename_i z
        exact of_decide_eq_true (List.all_eq_true.mp z I hI)
      · cases h
theorem sg_vals (m : Pol) (sts : List Str2) : sgP m sts = 0 ∨ sgP m sts = 1 ∨ sgP m sts = -1 := by
  unfold sgP rowSg
  split
  · exact .inl rfl
  · split
    · exact .inr (.inl rfl)
    · split
      · exact .inr (.inr rfl)
      · exact .inl rfl
theorem wth_sign {m : Pol} {sts : List Str2} {pts : List Fra} (lp : Lp m) (o : Spr (nzP m) sts) (off : ∀ p ∈ m, ∀ j, sts.length ≤ j → p.1.getD j 0 = 0) (hp : Paired (fun s f => InS s f ∧ 0 < f.2) sts pts) :
    (sgP (nzP m) sts = 1 → 0 < (wthF m pts).1) ∧ (sgP (nzP m) sts = -1 → (wthF m pts).1 < 0) := by
  have ok : ∀ d ∈ dmsP (nzP m) sts, d.Ok := fun d hd => by
    obtain ⟨j, hj⟩ := List.mem_iff_getElem?.mp hd
    obtain ⟨jl, _⟩ := dms_of o.b3 hj
    rw [dms_get o.b3 (List.getElem?_eq_getElem jl)] at hj
    cases hj
    exact mkDm_ok (o.ok _ (List.getElem_mem jl))
  have gl : (greatP (nzP m)).length = 4 := by unfold greatP; rw [List.length_map, List.length_range]
  obtain ⟨ps, e1, e2, e3⟩ := pts_of (gs := greatP (nzP m)) (by rw [gl]; have := o.b3; omega) hp
  have e2 : ps.length = (dmsP (nzP m) sts).length := e2
  have e3 : ∀ x ∈ (dmsP (nzP m) sts).zip ps, x.2.Ok x.1 := e3
  have pl := My.plen hp
  have pl2 : pts.length = ps.length := by rw [← e1, List.length_map]
  have to := spr_ok o
  have wm : ∀ p ∈ natP (cutP sts.length (nzP m)), BM.Wi (dmsP (nzP m) sts) p.1 := fun p hp => by
    obtain ⟨q, hq, rfl⟩ := List.mem_map.mp hp
    refine wi_iff.mpr fun j d hd => ?_
    have := to.wi q hq j d hd
    rw [getD_toNat]; omega
  -- the full sum
  have rel := BM.fr_rel (BM.yA (dmsP (nzP m) sts) ps) (fun p : List Int × Int => p.2 * BM.evA (dmsP (nzP m) sts) ps ((p.1.take sts.length).map Int.toNat)) (wrt pts) m 0 (0, 1) (by simp) (by decide) fun p hpm => by
    have w4 := wnK_up (pts := pts) (J := p.1) (n := sts.length) (off p hpm) 4 (by have := o.b3; omega)
    have wl := wnK_low (J := p.1) e1 ps.length (Nat.le_refl _)
    rw [List.take_length, ← pl2, ← pl] at wl
    have bp := BM.wb_pos (J := (p.1.take sts.length).map Int.toNat) e2 e3
    show p.2 * BM.evA _ ps _ * wbK pts p.1 4 = BM.yA _ ps * (p.2 * wnK pts p.1 4) ∧ 0 < wbK pts p.1 4
    rw [w4.1, w4.2, wl.1, wl.2]
    refine ⟨?_, bp⟩
    by_cases z : p.2 = 0
    · rw [z, Int.zero_mul, Int.zero_mul, Int.zero_mul, Int.mul_zero]
    · have hn : p ∈ nzP m := List.mem_filter.mpr ⟨hpm, by simp [z]⟩
      have ev := BM.ev_wn ok e2 e3 (wm _ (List.mem_map.mpr ⟨(p.1.take sts.length, p.2), List.mem_map.mpr ⟨p, hn, rfl⟩, rfl⟩))
      have ev : BM.evA (dmsP (nzP m) sts) ps ((p.1.take sts.length).map Int.toNat) * BM.wb ps ((p.1.take sts.length).map Int.toNat) = BM.yA (dmsP (nzP m) sts) ps * BM.wn ps ((p.1.take sts.length).map Int.toNat) := ev
      calc p.2 * BM.evA (dmsP (nzP m) sts) ps ((p.1.take sts.length).map Int.toNat) * BM.wb ps ((p.1.take sts.length).map Int.toNat) = p.2 * (BM.evA (dmsP (nzP m) sts) ps ((p.1.take sts.length).map Int.toNat) * BM.wb ps ((p.1.take sts.length).map Int.toNat)) := Int.mul_assoc _ _ _
        _ = _ := by rw [ev]; grind
  rw [Int.zero_add] at rel
  obtain ⟨rel, B0⟩ := rel
  have rel : (m.map fun p => p.2 * BM.evA (dmsP (nzP m) sts) ps ((p.1.take sts.length).map Int.toNat)).sum * (wthF m pts).2 = BM.yA (dmsP (nzP m) sts) ps * (wthF m pts).1 := rel
  have B0 : 0 < (wthF m pts).2 := B0
  have es : (m.map fun p => p.2 * BM.evA (dmsP (nzP m) sts) ps ((p.1.take sts.length).map Int.toNat)).sum = ((natP (cutP sts.length (nzP m))).map fun p => p.2 * BM.evA (dmsP (nzP m) sts) ps p.1).sum := by
    rw [nz_sum (F := fun l => BM.evA (dmsP (nzP m) sts) ps ((l.take sts.length).map Int.toNat))]
    unfold natP cutP
    rw [List.map_map, List.map_map]; rfl
  rw [es] at rel
  have sg := BM.pos_of rel B0 (BM.yA_pos ok e3)
  constructor
  · intro h
    refine sg.1.mp (BM.ev_pos e2 e3 wm (sg_one h))
  · intro h
    have w := BM.worth_row ok e2 e3 wm
    exact sg.2.mp ((BM.pos_of w.1 w.2 (BM.yA_pos ok e3)).2.mpr (BM.worth_neg ok e2 e3 wm (sg_neg h)))
end K25

set_option Elab.async false
set_option linter.all false
set_option maxRecDepth 100000
set_option maxHeartbeats 4000000
/-! beyond a bound that holds it is nowhere 0 -/
namespace K25
open PySem PySem.Spec PyProof.Rows L2 XV DX
def hvK (pts : List Fra) (J : List Int) : Nat → Int
  | 0 => 1
  | k + 1 => hvK pts J k * ((plc pts k).1 ^ (J.getD k 0).toNat * (plc pts k).2 ^ (3 - (J.getD k 0).toNat))
def b3K (pts : List Fra) : Nat → Int
  | 0 => 1
  | k + 1 => b3K pts k * (plc pts k).2 ^ 3
theorem hv_wn {pts : List Fra} {J : List Int} (h3 : ∀ j, (J.getD j 0).toNat ≤ 3) : ∀ k, hvK pts J k * wbK pts J k = b3K pts k * wnK pts J k
  | 0 => rfl
  | k + 1 => by
    have ih := hv_wn (pts := pts) h3 k
    have e : (plc pts k).2 ^ 3 = (plc pts k).2 ^ (3 - (J.getD k 0).toNat) * (plc pts k).2 ^ (J.getD k 0).toNat := by
      rw [← Int.pow_add]; congr 1; have := h3 k; omega
    show hvK pts J k * ((plc pts k).1 ^ (J.getD k 0).toNat * (plc pts k).2 ^ (3 - (J.getD k 0).toNat)) * (wbK pts J k * (plc pts k).2 ^ (J.getD k 0).toNat) = b3K pts k * (plc pts k).2 ^ 3 * (wnK pts J k * (plc pts k).1 ^ (J.getD k 0).toNat)
    rw [e]
    calc _ = (hvK pts J k * wbK pts J k) * ((plc pts k).1 ^ (J.getD k 0).toNat * (plc pts k).2 ^ (3 - (J.getD k 0).toNat) * (plc pts k).2 ^ (J.getD k 0).toNat) := by grind
      _ = _ := by rw [ih]; grind
theorem b3_pos {pts : List Fra} (h : ∀ j, 0 < (plc pts j).2) : ∀ k, 0 < b3K pts k
  | 0 => show (0 : Int) < 1 by decide
  | k + 1 => Int.mul_pos (b3_pos h k) (BM.pow_pos (h k) 3)
theorem wbK_pos {pts : List Fra} (h : ∀ j, 0 < (plc pts j).2) (J : List Int) : ∀ k, 0 < wbK pts J k
  | 0 => show (0 : Int) < 1 by decide
  | k + 1 => Int.mul_pos (wbK_pos h J k) (BM.pow_pos (h k) _)
theorem hv_set {pts : List Fra} {J : List Int} {k : Nat} (hk : k < J.length) : ∀ i, i ≤ k → hvK pts (J.set k 0) i = hvK pts J i
  | 0, _ => rfl
  | i + 1, h => by
    show hvK pts (J.set k 0) i * _ = hvK pts J i * _
    rw [hv_set hk i (by omega), getD_set hk, if_neg (by omega)]
theorem plc_pos {pts : List Fra} (h : ∀ f ∈ pts, 0 < f.2) (j : Nat) : 0 < (plc pts j).2 := by
  unfold plc
  rw [List.getD_eq_getElem?_getD]
  cases e : pts[j]? with
  | none => exact (by decide : (0 : Int) < 1)
  | some f => exact h f (List.mem_iff_getElem?.mpr ⟨j, e⟩)
theorem plc_app {pts : List Fra} {y : Fra} {j : Nat} : plc (pts ++ [y]) j = if j = pts.length then y else plc pts j := by
  unfold plc
  rw [List.getD_eq_getElem?_getD, List.getD_eq_getElem?_getD, List.getElem?_append]
  split
  · rw [if_neg (by omega)]
  · by_cases e : j = pts.length
    · rw [if_pos e, e, Nat.sub_self]; rfl
    · rw [if_neg e]
      obtain ⟨n, hn⟩ : ∃ n, j - pts.length = n + 1 := ⟨j - pts.length - 1, by omega⟩
      rw [hn, List.getElem?_eq_none (show pts.length ≤ j by omega)]
      rfl
theorem wn_app {pts : List Fra} {y : Fra} {J : List Int} : ∀ k, k ≤ pts.length → wnK (pts ++ [y]) J k = wnK pts J k ∧ wbK (pts ++ [y]) J k = wbK pts J k
  | 0, _ => ⟨rfl, rfl⟩
  | k + 1, h => by
    obtain ⟨h1, h2⟩ := wn_app (pts := pts) (y := y) (J := J) k (by omega)
    constructor
    · show wnK _ J k * (plc _ k).1 ^ _ = wnK _ J k * (plc _ k).1 ^ _
      rw [h1, plc_app, if_neg (by omega)]
    · show wbK _ J k * (plc _ k).2 ^ _ = wbK _ J k * (plc _ k).2 ^ _
      rw [h2, plc_app, if_neg (by omega)]
/-- all together at the place with x behind it -/
theorem wth_top {k : Nat} {m : Pol} {pts : List Fra} {x : Int} (pq : Pq k m) (hk : k ≤ 3) (pl : pts.length = k) (pp : ∀ f ∈ pts, 0 < f.2) :
    (m.map fun p => p.2 * (hvK pts p.1 k * x ^ (p.1.getD k 0).toNat)).sum * (wthF m (pts ++ [(x, 1)])).2 = b3K pts k * (wthF m (pts ++ [(x, 1)])).1 ∧ 0 < (wthF m (pts ++ [(x, 1)])).2 := by
  have z := BM.fr_rel (b3K pts k) (fun p : List Int × Int => p.2 * (hvK pts p.1 k * x ^ (p.1.getD k 0).toNat)) (wrt (pts ++ [(x, 1)])) m 0 (0, 1) (by simp) (by decide) fun p hp => by
    have h3 : ∀ j, (p.1.getD j 0).toNat ≤ 3 := fun j => by have := getD_wi (by decide) (pq.wi p hp) j; omega
    have up := wnK_up (pts := pts ++ [(x, 1)]) (J := p.1) (n := k + 1) (fun j hj => pq.off p hp j (by omega)) 4 (by omega)
    obtain ⟨a1, a2⟩ := wn_app (pts := pts) (y := (x, 1)) (J := p.1) k (by omega)
    have e1 : wnK (pts ++ [(x, 1)]) p.1 4 = wnK pts p.1 k * x ^ (p.1.getD k 0).toNat := by
      rw [up.1]
      show wnK _ p.1 k * (plc _ k).1 ^ _ = _
      rw [a1, plc_app, if_pos pl.symm]
    have e2 : wbK (pts ++ [(x, 1)]) p.1 4 = wbK pts p.1 k := by
      rw [up.2]
      show wbK _ p.1 k * (plc _ k).2 ^ _ = _
      rw [a2, plc_app, if_pos pl.symm, Int.one_pow, Int.mul_one]
    have hw := hv_wn (pts := pts) h3 k
    have bp := wbK_pos (plc_pos pp) p.1 k
    show p.2 * (hvK pts p.1 k * x ^ (p.1.getD k 0).toNat) * wbK (pts ++ [(x, 1)]) p.1 4 = b3K pts k * (p.2 * wnK (pts ++ [(x, 1)]) p.1 4) ∧ 0 < wbK (pts ++ [(x, 1)]) p.1 4
    rw [e1, e2]
    refine ⟨?_, bp⟩
    calc p.2 * (hvK pts p.1 k * x ^ (p.1.getD k 0).toNat) * wbK pts p.1 k = p.2 * x ^ (p.1.getD k 0).toNat * (hvK pts p.1 k * wbK pts p.1 k) := by grind
      _ = _ := by rw [hw]; grind
  rw [Int.zero_add] at z
  exact z
/-- a row's sum at the place -/
def rowS (pts : List Fra) (k : Nat) (R : Pol) : Int := (R.map fun q => q.2 * hvK pts q.1 k).sum
theorem row_top {k : Nat} {R : Pol} {pts : List Fra} (h3 : ∀ q ∈ R, ∀ j, (q.1.getD j 0).toNat ≤ 3) (off : ∀ q ∈ R, ∀ j, k ≤ j → q.1.getD j 0 = 0) (hk : k ≤ 3) (pp : ∀ f ∈ pts, 0 < f.2) :
    rowS pts k R * (wthF R pts).2 = b3K pts k * (wthF R pts).1 ∧ 0 < (wthF R pts).2 := by
  have z := BM.fr_rel (b3K pts k) (fun p : List Int × Int => p.2 * hvK pts p.1 k) (wrt pts) R 0 (0, 1) (by simp) (by decide) fun p hp => by
    have up := wnK_up (pts := pts) (J := p.1) (n := k) (fun j hj => off p hp j hj) 4 (by omega)
    have hw := hv_wn (pts := pts) (h3 p hp) k
    have bp := wbK_pos (plc_pos pp) p.1 k
    show p.2 * hvK pts p.1 k * wbK pts p.1 4 = b3K pts k * (p.2 * wnK pts p.1 4) ∧ 0 < wbK pts p.1 4
    rw [up.1, up.2]
    refine ⟨?_, bp⟩
    calc p.2 * hvK pts p.1 k * wbK pts p.1 k = p.2 * (hvK pts p.1 k * wbK pts p.1 k) := by grind
      _ = _ := by rw [hw]; grind
  rw [Int.zero_add] at z
  exact z
theorem one_term {b t sg c h : Int} {n : Nat} (hn : n ≤ 3) : c * (h * (sg * (b + t)) ^ n) =
    BM.sm 4 (fun i => t ^ i * (if i ≤ n then (c * sg ^ n * BM.ch n i * b ^ (n - i)) * h else 0)) := by
  have : n = 0 ∨ n = 1 ∨ n = 2 ∨ n = 3 := by omega
  rcases this with rfl | rfl | rfl | rfl <;> simp [BM.sm, BM.ch] <;> grind
theorem sum_split (t : Int) (f : Nat → List Int × Int → Int) : ∀ l : Pol, (l.map fun p => BM.sm 4 fun i => t ^ i * f i p).sum = BM.sm 4 fun i => t ^ i * (l.map (f i)).sum
  | [] => by simp [BM.sm]
  | p :: l => by
    rw [List.map_cons, List.sum_cons, sum_split t f l, ← BM.sm_add]
    refine BM.sm_congr fun i _ => ?_
    rw [List.map_cons, List.sum_cons, Int.mul_add]
theorem S_rows {k : Nat} {m : Pol} {pts : List Fra} {b t sg : Int} (pq : Pq k m) (hk : k ≤ 3) :
    (m.map fun p => p.2 * (hvK pts p.1 k * (sg * (b + t)) ^ (p.1.getD k 0).toNat)).sum = BM.sm 4 fun i => t ^ i * rowS pts k (rowL k b sg (nzP m) i) := by
  rw [nz_sum (F := fun l => hvK pts l k * (sg * (b + t)) ^ (l.getD k 0).toNat)]
  have e : ((nzP m).map fun p => p.2 * (hvK pts p.1 k * (sg * (b + t)) ^ (p.1.getD k 0).toNat)) = (nzP m).map fun p => BM.sm 4 fun i => t ^ i * (if i ≤ (p.1.getD k 0).toNat then lwC k b sg p i * hvK pts p.1 k else 0) := by
    refine List.map_congr_left fun p hp => ?_
    have := pq.mv.k3 p hp
    exact one_term (by omega)
  rw [e, sum_split t (fun i p => if i ≤ (p.1.getD k 0).toNat then lwC k b sg p i * hvK pts p.1 k else 0)]
  refine BM.sm_congr fun i _ => ?_
  congr 1
  unfold rowS rowL
  rw [sum_addP (fun l => hvK pts l k) (mvR k b sg (nzP m) i) (m := []) List.nodup_nil]
  show _ = 0 + _
  rw [Int.zero_add]
  have len : ∀ p ∈ nzP m, k < p.1.length := fun p hp => by rw [pq.mv.len p hp]; omega
  unfold mvR
  rw [List.map_map]
  generalize nzP m = N at len
  induction N with
  | nil => rfl
  | cons p N ih =>
    have ih := ih fun q hq => len q (List.mem_cons_of_mem _ hq)
    rw [List.map_cons, List.sum_cons, ih]
    by_cases z : i ≤ (p.1.getD k 0).toNat
    · rw [List.filter_cons_of_pos (p := fun p : List Int × Int => decide (i ≤ (p.1.getD k 0).toNat)) (decide_eq_true z), List.map_cons, List.sum_cons, if_pos z]
      congr 1
      show _ = lwC k b sg p i * hvK pts (p.1.set k 0) k
      rw [hv_set (len p List.mem_cons_self) k (Nat.le_refl _)]
    · rw [List.filter_cons_of_neg (p := fun p : List Int × Int => decide (i ≤ (p.1.getD k 0).toNat)) (by rw [decide_eq_false z]; exact Bool.false_ne_true), if_neg z, Int.zero_add]
theorem sum_nz {k : Nat} {pts : List Fra} {R : Pol} (h : nzP R = []) : rowS pts k R = 0 := by
  unfold rowS
  rw [nz_sum (F := fun l => hvK pts l k), h]; rfl
/-- beyond the bound -/
theorem beyond_ne {k : Nat} {m : Pol} {pts : List Fra} {sts : List Str2} {b t sg : Int} (pq : Pq k m) (hk : k ≤ 3) (hs : sg = 1 ∨ sg = -1) (hb : My.Bd 100 b) (hl : sts.length = k) (hst : ∀ s ∈ sts, StrN (10 ^ 6) s)
    (hp : Paired (fun s f => InS s f ∧ 0 < f.2) sts pts) (t0 : 0 ≤ t) (h : lhB m k b sg sts = true) : (wthF m (pts ++ [(sg * (b + t), 1)])).1 ≠ 0 := by
  have pl : pts.length = k := by rw [← hl]; exact (My.plen hp).symm
  have pp : ∀ f ∈ pts, 0 < f.2 := fun f hf => by
    obtain ⟨i, hi⟩ := List.mem_iff_getElem?.mp hf
    obtain ⟨s, es⟩ : ∃ s, sts[i]? = some s := ⟨_, List.getElem?_eq_getElem (by have := (List.getElem?_eq_some_iff.mp hi).1; omega)⟩
    obtain ⟨f', ef, h2⟩ := My.pget hp es
    rw [hi] at ef
    cases Option.some.inj ef
    exact h2.2
  have bp := b3_pos (plc_pos pp) k
  obtain ⟨T1, T2⟩ := wth_top (x := sg * (b + t)) pq hk pl pp
  rw [S_rows pq hk] at T1
  have rs := fun i => row_sizes (b := b) pq hk hs hb hl hst i
  have rkey : ∀ i, ∀ q ∈ rowL k b sg (nzP m) i, (∀ j, (q.1.getD j 0).toNat ≤ 3) ∧ ∀ j, k ≤ j → q.1.getD j 0 = 0 := fun i q hq => by
    obtain ⟨p, hp, e⟩ := rowL_key hq
    have hm := (List.mem_filter.mp hp).1
    have h4 := pq.len p hm
    rw [e]
    refine ⟨fun j => ?_, fun j hj => ?_⟩
    · rw [getD_set (by omega)]
      by_cases z : j = k
      · rw [if_pos z]; decide
      · rw [if_neg z]
        have := getD_wi (by decide) (pq.wi p hm) j
        omega
    · rw [getD_set (by omega)]
      by_cases z : j = k
      · rw [if_pos z]
      · rw [if_neg z]; exact pq.off p hm j (by omega)
  have sgn : ∀ i, (sgP (nzP (rowL k b sg (nzP m) i)) sts = 1 → 0 < rowS pts k (rowL k b sg (nzP m) i)) ∧ (sgP (nzP (rowL k b sg (nzP m) i)) sts = -1 → rowS pts k (rowL k b sg (nzP m) i) < 0) := fun i => by
    obtain ⟨lpr, lc⟩ := rs i
    obtain ⟨w1, w2⟩ := wth_sign lpr lc.spr (fun q hq j hj => (rkey i q hq).2 j (by omega)) hp
    obtain ⟨e1, e2⟩ := row_top (pts := pts) (k := k) (fun q hq => (rkey i q hq).1) (fun q hq => (rkey i q hq).2) hk pp
    have ps := BM.pos_of e1 e2 bp
    exact ⟨fun z => ps.1.mpr (w1 z), fun z => ps.2.mpr (w2 z)⟩
  have h' := h
  unfold lhB at h'
  rw [Bool.and_eq_true] at h'
  obtain ⟨g1, g2⟩ := h'
  have g1 : sgP (nzP (rowL k b sg (nzP m) 0)) sts ≠ 0 := by simpa using g1
  have g3 : ∀ i, nzP (rowL k b sg (nzP m) i) = [] ∨ sgP (nzP (rowL k b sg (nzP m) i)) sts = sgP (nzP (rowL k b sg (nzP m) 0)) sts := fun i => by
    by_cases hi : i < dgN m k + 1
    · have z := List.all_eq_true.mp g2 i (List.mem_range.mpr hi)
      rw [Bool.or_eq_true] at z
      rcases z with z | z
      · exact .inl (List.isEmpty_iff.mp z)
      · exact .inr (of_decide_eq_true z)
    · refine .inl ?_
      have e : mvR k b sg (nzP m) i = [] := by
        unfold mvR
        rw [List.map_eq_nil_iff, List.filter_eq_nil_iff]
        intro p hp z
        have hm : p.1.getD k 0 ≤ mx 0 (colP (nzP m) k) := mx_ge (List.mem_map.mpr ⟨p, hp, rfl⟩)
        have := of_decide_eq_true z
        unfold dgN at hi
        omega
      unfold rowL
      rw [e]; rfl
  have tp := fun i => BM.pow_nonneg t0 i
  intro z
  rw [z, Int.mul_zero] at T1
  have S0 : BM.sm 4 (fun i => t ^ i * rowS pts k (rowL k b sg (nzP m) i)) = 0 := by
    rcases Int.mul_eq_zero.mp T1 with y | y
    · exact y
    · omega
  have S0 : 0 + t ^ 0 * rowS pts k (rowL k b sg (nzP m) 0) + t ^ 1 * rowS pts k (rowL k b sg (nzP m) 1) + t ^ 2 * rowS pts k (rowL k b sg (nzP m) 2) + t ^ 3 * rowS pts k (rowL k b sg (nzP m) 3) = 0 := S0
  rw [Int.pow_zero, Int.one_mul, Int.zero_add] at S0
  rcases sg_vals (nzP (rowL k b sg (nzP m) 0)) sts with y | y | y
  · exact g1 y
  · have P : ∀ i, 0 ≤ rowS pts k (rowL k b sg (nzP m) i) := fun i => by
      rcases g3 i with w | w
      · rw [sum_nz w]; decide
      · exact Int.le_of_lt ((sgn i).1 (by rw [w, y]))
    have p0 := (sgn 0).1 y
    have p1 := Int.mul_nonneg (tp 1) (P 1)
    have p2 := Int.mul_nonneg (tp 2) (P 2)
    have p3 := Int.mul_nonneg (tp 3) (P 3)
    omega
  · have P : ∀ i, 0 ≤ -rowS pts k (rowL k b sg (nzP m) i) := fun i => by
      rcases g3 i with w | w
      · rw [sum_nz w]; decide
      · have := (sgn i).2 (by rw [w, y]); omega
    have p0 := (sgn 0).2 y
    have p1 := Int.mul_nonneg (tp 1) (P 1)
    have p2 := Int.mul_nonneg (tp 2) (P 2)
    have p3 := Int.mul_nonneg (tp 3) (P 3)
    rw [Int.mul_neg] at p1 p2 p3
    omega
end K25

set_option Elab.async false
set_option linter.all false
set_option maxRecDepth 100000
set_option maxHeartbeats 4000000
namespace My
open PySem PySem.Spec PyProof.Rows L2 DX
/-- what stands behind a statement, as R tells it -/
theorem cutS {t u : TS} {D : Ends} {σ : L2.St} {H : Hp} (R : L2.St → Hp → Prop) (h2 : ∀ N : L2.St → Hp → Prop, (∀ σ' H', R σ' H' → N σ' H') → t { D with nx := N } σ H) (h1 : ∀ σ' H', R σ' H' → u D σ' H') : tSeq t u D σ H := h2 _ h1
theorem rNeB {b c : Bool} {A : Hp} {Q : VK} (q : Q (.bl (!decide (b = c))) A) : rNe (.bl b) (.bl c) A Q := ⟨rfl, by
  have e : decide (V.bl b = V.bl c) = decide (b = c) := by cases b <;> cases c <;> rfl
  rw [e]; exact q⟩
end My
namespace K25
open PySem PySem.Spec PyProof.Rows L2 XV DX
def spLaw (K : PySem.W.Frag) : Sp := fun vs H Q _ => ∃ (a : Addr) (ns : List Int), vs = [.ref a] ∧ SqL K H a (ns.map V.int) ∧ ns.length ≤ 63 ∧ ∀ H', Q (.bl true) H'
theorem str_refs {K : PySem.W.Frag} {H H' : Hp} {d c : Addr} {f : Fra} {t : Addr} (b : But d H H') (h : Hand K H d c) (e : FraAt H t f) : FraAt H' t f := b.obj h e (fun _ z => by cases z)
theorem but_poly {K : PySem.W.Frag} {H H' : Hp} {d c a C : Addr} {ts : Pol} (b : But d H H') (h : Hand K H d c) (e : PolyAt C H a ts) : PolyAt C H' a ts := by
  obtain ⟨dx, t, h1, rs, h2, h3⟩ := e
  exact ⟨dx, t, b.obj h h1 (fun _ z => by cases z), rs, b.obj h h2 (fun _ z => by cases z), Paired.mapP h3 fun r p ⟨q, g1, g2⟩ => ⟨q, b.obj h g1 (fun _ z => by cases z), b.obj h g2 (fun _ z => by cases z)⟩⟩
theorem but_pol {K : PySem.W.Frag} {H H' : Hp} {d c a : Addr} {m : Pol} (b : But d H H') (h : Hand K H d c) (e : PolD H a m) : PolD H' a m := b.obj h e (fun _ z => by cases z)
theorem fra_put {H : Hp} {D t : Addr} {ys zs : List V} {f : Fra} (e : H D = some (.lst ys)) (h : FraAt H t f) : FraAt (upd H D (.lst zs)) t f := by
  have z : H t = _ := h
  show upd H D _ t = _
  rw [upd_ne (fun g => by rw [g, e] at z; cases z)]
  exact z
theorem fras_of {H : Hp} {R : Str2 → Fra → Prop} : ∀ {ys : List V} {sts : List Str2}, ys.length = sts.length → (∀ (j : Nat) y, ys[j]? = some y → ∃ t f s, y = V.ref t ∧ FraAt H t f ∧ sts[j]? = some s ∧ R s f) → ∃ fs pts, ys = fs.map V.ref ∧ Paired (FraAt H) fs pts ∧ Paired R sts pts
  | [], [], _, _ => ⟨[], [], rfl, .nil, .nil⟩
  | y :: ys, s :: sts, l, h => by
    obtain ⟨t, f, s', rfl, h1, h2, h3⟩ := h 0 y rfl
    cases Option.some.inj h2
    obtain ⟨fs, pts, rfl, g1, g2⟩ := fras_of (ys := ys) (sts := sts) (Nat.succ.inj l) fun j y e => h (j + 1) y e
    exact ⟨t :: fs, f :: pts, rfl, .cons h1 g1, .cons h3 g2⟩
  | [], _ :: _, l, _ => by cases l
  | _ :: _, [], l, _ => by cases l
theorem pair_nr {sts : List Str2} {pts : List Fra} (h : Paired (fun s f => InS s f ∧ Nr (10 ^ 15) f) sts pts) : ∀ f ∈ pts, Nr (10 ^ 15) f := fun f hf => by
  induction h with
  | nil => cases hf
  | cons x t ih =>
    rcases List.mem_cons.mp hf with e | e
    · rw [e]; exact x.2
    · exact ih e
theorem pair_in {sts : List Str2} {pts : List Fra} (h : Paired (fun s f => InS s f ∧ Nr (10 ^ 15) f) sts pts) : Paired (fun s f => InS s f ∧ 0 < f.2) sts pts := Paired.mapP h fun _ _ z => ⟨z.1, z.2.pos⟩
theorem key_ev {K : PySem.W.Frag} {n k : Nat} {e : Int} {tv : TE} {σ : L2.St} {H : Hp} {Q : VK} (hσ : σ[n]? = some (some (.int (k : Int)))) (hk : k ≤ 3) (hv : ∀ (H : Hp) (Q : VK), Q (.int e) H → tv σ H Q) (q : ∀ t H', Same H H' → H' t = some (.tup ((ik (keyK k e)).map kV)) → Q (.ref t) H') :
    tOp (rCatA K) (tOp (rCatA K) (tOp (rRepA K) (tTup (tCons (tC (V.int 0)) tNil)) (tVar n)) (tTup (tCons tv tNil))) (tOp (rRepA K) (tTup (tCons (tC (V.int 0)) tNil)) (tOp (rI0 fun i j => V.int (i - j)) (tC (V.int 3)) (tVar n))) σ H Q := by
  refine My.op (My.op (My.op (My.tup_ (My.cons (My.cst (My.nil (My.new (My.sz (by simp)) fun t1 nt1 => ?_)))))))
  have s1 := same_new (o := HO.tup [V.int 0]) nt1
  refine My.var hσ ?_
  refine My.repA upd_same (by omega) (by omega) (by simp) fun t2 H6 s2 h2 => ?_
  refine My.tup_ (My.cons (hv _ _ (My.nil (My.new (My.sz (by simp)) fun t3 nt3 => ?_))))
  have s3 := same_new (o := HO.tup [V.int e]) nt3
  refine My.catA (s3 _ _ h2) upd_same (by rw [flat_one, List.length_replicate]; simp; omega) fun t4 H7 s4 h4 => ?_
  have s14 := ((s1.trans s2).trans s3).trans s4
  refine My.op (My.tup_ (My.cons (My.cst (My.nil (My.new (My.sz (by simp)) fun t5 nt5 => ?_)))))
  have s5 := same_new (o := HO.tup [V.int 0]) nt5
  refine My.op (My.cst (My.var hσ (My.rI0_ ?_)))
  refine My.repA upd_same (by omega) (by omega) (by simp) fun t6 H8 s6 h6 => ?_
  refine My.catA (s6 _ _ (s5 _ _ h4)) h6 (by rw [flat_one, flat_one, List.length_append, List.length_replicate, List.length_replicate]; simp; omega) fun t7 H9 s7 h7 => ?_
  exact q t7 H9 (((s14.trans s5).trans s6).trans s7) (by rw [ik_kV, keyK_V]; exact h7)
theorem top_is {ts : Pol} {k : Nat} (hk : k ≤ 3) (h : 0 < mx 0 (colP ts k)) (g : ∀ j, k < j → mx 0 (colP ts j) = 0) : topP ts = some k := by
  have e : topP ts = (let f := fun (acc : Option Nat) (j : Nat) => if 0 < mx 0 (colP ts j) then some j else acc; f (f (f (f none 0) 1) 2) 3) := rfl
  rw [e]
  have : k = 0 ∨ k = 1 ∨ k = 2 ∨ k = 3 := by omega
  rcases this with rfl | rfl | rfl | rfl
  · simp only [g 1 (by decide), g 2 (by decide), g 3 (by decide), h, if_true, Int.lt_irrefl, if_false]
  · simp only [g 2 (by decide), g 3 (by decide), h, if_true, Int.lt_irrefl, if_false]
  · simp only [g 3 (by decide), h, if_true, Int.lt_irrefl, if_false]
  · simp only [h, if_true]
theorem lq_mono {many most most' : Int} {m : Pol} (h : Lq many most m) (l : most ≤ most') : Lq many most' m := ⟨h.nd, h.len, fun p hp e he => by have := h.wi p hp e he; omega, h.off, h.bd⟩
theorem lq_pq {k : Nat} {m : Pol} (h : Lq ((k : Int) + 1) 3 m) (few : m.length ≤ 7) : Pq k m := ⟨h.nd, h.len, h.wi, fun p hp j hj => h.off p hp j (by omega), few, fun p hp => (h.bd p hp).mono (by decide)⟩
theorem lq_key {k : Nat} {m : Pol} {e v : Int} (h : Lq ((k : Int) + 1) 3 m) (hk : k ≤ 3) (e0 : 0 ≤ e) (e3 : e ≤ 3) (hv : My.Bd 90 v) : Lq ((k : Int) + 1) 3 (putP m (keyK k e) v) := by
  refine lq_put h (keyK_len hk) (fun j x hx => ?_) hv
  rw [keyK_get hk hx]
  split
  · exact ⟨⟨e0, e3⟩, fun g => by omega⟩
  · exact ⟨by omega, fun _ => rfl⟩
theorem keyK_at {k : Nat} {e : Int} (hk : k ≤ 3) : (keyK k e).getD k 0 = e := by
  have l := keyK_len (p := e) hk
  have h : (keyK k e)[k]? = some (keyK k e)[k] := List.getElem?_eq_getElem (by omega)
  have g := keyK_get hk h
  rw [if_pos rfl] at g
  rw [List.getD_eq_getElem?_getD, h, g]; rfl
theorem putP_in (m : Pol) (k : List Int) (v : Int) : (k, v) ∈ putP m k v := by
  unfold putP
  by_cases z : (m.any fun p => decide (p.1 = k)) = true
  · rw [if_pos z]
    obtain ⟨p, hp, e⟩ := List.any_eq_true.mp z
    have e := of_decide_eq_true e
    exact List.mem_map.mpr ⟨p, hp, by rw [if_pos e, e]⟩
  · rw [if_neg z]; exact List.mem_append_right _ List.mem_cons_self
/-- what the sums of the worth take -/
theorem wl_of {k : Nat} {m : Pol} {pts : List Fra} {x : Int} (pq : Pq k m) (hn : ∀ f ∈ pts, Nr (10 ^ 15) f) (hx : My.Bd 100 x) : Wl m (pts ++ [(x, 1)]) 708 := by
  have nb : ∀ f ∈ pts ++ [(x, 1)], PtB f ∧ My.Bd 50 f.2 := fun f hf => by
    rcases List.mem_append.mp hf with g | g
    · have n := hn f g
      have h1 := n.pos; have h2 := n.lo; have h3 := n.hi; have h4 := n.top
      exact ⟨⟨h1, My.Bd.lit (n := 100) (k := 18000000000000001) (by omega) (by decide), My.Bd.lit (n := 60) (k := 1000000000000001) (by omega) (by decide)⟩, My.Bd.lit (n := 50) (k := 1000000000000001) (by omega) (by decide)⟩
    · rw [List.mem_singleton.mp g]
      exact ⟨⟨(by decide : (0 : Int) < 1), hx, show (1 : Int).natAbs < 2 ^ 60 by decide⟩, show (1 : Int).natAbs < 2 ^ 50 by decide⟩
  refine ⟨fun f hf => (nb f hf).1, ⟨50, fun f hf => (nb f hf).2, fun p hp => ?_⟩, by have := pq.few; omega⟩
  have t := tot_bd (J := p.1.map Int.toNat) (most := 3) (fun j => by rw [getD_toNat]; have := getD_wi (by decide) (pq.wi p hp) j; omega) 4
  omega
section
variable {P : Program} {w : World} {K : PySem.W.Frag} {mg : Str → Option Value} {base : Heap}
theorem sc_law : FnScope ["_law_script", "_law_hand_here", "_law_turn", "_law_k", "_law_root", "_law_roots", "_law_parts_here", "_law_poly_here", "_law_box_here", "_law_bound", "_law_due", "_law_told", "_law_again", "_law_stretch_here", "_law_place_here", "_law_beyond"] ["_law_script"] (defScope s_law) := ⟨rfl, rfl, rfl, by decide +kernel, rfl, by decide +kernel, by decide +kernel⟩
theorem ok_law {f : Addr} {fd : FuncData} {C : Addr} (F : FnP K "law" "law" s_law f fd) (C_law_hand : Cal P w K mg base "_law_hand" 1 ["_law_script"] (spHand K)) (C_law_any : Cal P w K mg base "_law_any" 2 ["_law_hand_here", "_law_things"] (spAny K)) (C_law_draw : Cal P w K mg base "_law_draw" 1 ["_law_hand_here", "_law_many"] (spDraw K)) (C_law_lines : Cal P w K mg base "_law_lines" 3 ["_law_hand_here", "_law_k", "_law_roots"] (spLines K)) (C_law_parts : Cal P w K mg base "_law_parts" 3 ["_law_hand_here", "_law_many", "_law_most", "_law_terms"] (spParts K)) (C_law_degrees : Cal P w K mg base "_law_degrees" 3 ["_law_parts_here", "_law_many"] spDegs) (C_law_poly : Cal P w K mg base "_law_poly" 7 ["_law_parts_here"] (spLPoly C)) (C_law_box : Cal P w K mg base "_law_box" 4 ["_law_hand_here", "_law_many"] (spLBox K)) (C_law_holds : Cal P w K mg base "_law_holds" 6 ["_law_parts_here", "_law_k", "_law_box_here", "_law_bound"] spHoldsL) (C_holds_in : Cal P w K mg base "holds_in" 14 ["poly", "k", "box", "bound"] (spHolds C)) (C_law_place : Cal P w K mg base "_law_place" 3 ["_law_hand_here", "_law_stretch_here"] (spPlace K)) (C_law_worth : Cal P w K mg base "_law_worth" 3 ["_law_parts_here", "_law_point"] spWorth) (T : Txt0 mg) : FnOk P w K mg base CX0 16 f fd ["_law_script"] (spLaw K) := by
  obtain ⟨f_law_hand, fd_law_hand, g_law_hand, G_law_hand, b_law_hand, k_law_hand⟩ := C_law_hand
  obtain ⟨f_law_any, fd_law_any, g_law_any, G_law_any, b_law_any, k_law_any⟩ := C_law_any
  obtain ⟨f_law_draw, fd_law_draw, g_law_draw, G_law_draw, b_law_draw, k_law_draw⟩ := C_law_draw
  obtain ⟨f_law_lines, fd_law_lines, g_law_lines, G_law_lines, b_law_lines, k_law_lines⟩ := C_law_lines
  obtain ⟨f_law_parts, fd_law_parts, g_law_parts, G_law_parts, b_law_parts, k_law_parts⟩ := C_law_parts
  obtain ⟨f_law_degrees, fd_law_degrees, g_law_degrees, G_law_degrees, b_law_degrees, k_law_degrees⟩ := C_law_degrees
  obtain ⟨f_law_poly, fd_law_poly, g_law_poly, G_law_poly, b_law_poly, k_law_poly⟩ := C_law_poly
  obtain ⟨f_law_box, fd_law_box, g_law_box, G_law_box, b_law_box, k_law_box⟩ := C_law_box
  obtain ⟨f_law_holds, fd_law_holds, g_law_holds, G_law_holds, b_law_holds, k_law_holds⟩ := C_law_holds
  obtain ⟨f_holds_in, fd_holds_in, g_holds_in, G_holds_in, b_holds_in, k_holds_in⟩ := C_holds_in
  obtain ⟨f_law_place, fd_law_place, g_law_place, G_law_place, b_law_place, k_law_place⟩ := C_law_place
  obtain ⟨f_law_worth, fd_law_worth, g_law_worth, G_law_worth, b_law_worth, k_law_worth⟩ := C_law_worth
  refine F.ok sc_law (fun vs H Q E h => ?_) (fun cdv A outer s H vs Q E hr h => ?_)
  · obtain ⟨a, ns, rfl, ha, nl, k⟩ := h
    rfl
  · obtain ⟨a, ns, rfl, ha, nl, k⟩ := h
    have hu := hu_of hr
    refine ⟨_, PSs.nox (pss_cons (ps_set (i := 1) sc_law.nd rfl (Or.inr rfl) (pe_call G_law_hand (hr.mono (by decide)) (by rfl) g_law_hand k_law_hand b_law_hand .nil pass0 (pa_cons (pv 0) pa_nil)))
      (pss_cons (ps_for PassesOwn.never rfl (pi_range1 (by rfl) T.range (pa_cons pe_int pa_nil)) (pg_name (i := 2) sc_law.nd rfl (Or.inl rfl))
       (pss_cons (ps_set (i := 3) sc_law.nd rfl (Or.inl rfl) (pe_call G_law_any (hr.mono (by decide)) (by rfl) g_law_any k_law_any b_law_any .nil pass0 (pa_cons (pv 1) (pa_cons (pe_lst (pa_cons pe_int (pa_cons pe_int (pa_cons pe_int (pa_cons pe_int (pa_cons pe_int (pa_cons pe_int (pa_cons pe_int pa_nil)))))))) pa_nil))))
      (pss_cons (ps_setLc (i := 5) (own := [("_law_root", 4)]) (tt := tYes) (by rfl) sc_law.nd rfl rfl (sw_true rfl rfl rfl (by decide +kernel)) (pi_range1 (by rfl) T.range (pa_cons (pe_op op_add pe_int (pe_call G_law_draw (hr.mono (by decide)) (by rfl) g_law_draw k_law_draw b_law_draw .nil pass0 (pa_cons (pv 1) (pa_cons pe_int pa_nil)))) pa_nil)) (blkOk_by (own := [("_law_root", 4)]) (N := ["_law_script", "_law_hand_here", "_law_turn", "_law_k", "_law_root", "_law_roots", "_law_parts_here", "_law_poly_here", "_law_box_here", "_law_bound", "_law_due", "_law_told", "_law_again", "_law_stretch_here", "_law_place_here", "_law_beyond"]) (sc := (defScope s_law)) (by decide +kernel)) (fun _ _ _ _ _ => (pg_name (i := 4) sc_law.nd rfl (Or.inl rfl))) (fun _ _ _ _ _ => pts_nil) (fun _ _ _ _ _ => (pe_op op_sub (pe_call G_law_draw (hr.mono (by decide)) (by rfl) g_law_draw k_law_draw b_law_draw .nil pass0 (pa_cons (pv 1) (pa_cons pe_int pa_nil))) pe_int)))
      (pss_cons (ps_set (i := 6) sc_law.nd rfl (Or.inl rfl) (pe_call G_law_lines (hr.mono (by decide)) (by rfl) g_law_lines k_law_lines b_law_lines .nil pass0 (pa_cons (pv 1) (pa_cons (pv 3) (pa_cons (pv 5) pa_nil)))))
      (pss_cons (ps_if (pt_cmpR op_eq (pe_call G_law_draw (hr.mono (by decide)) (by rfl) g_law_draw k_law_draw b_law_draw .nil pass0 (pa_cons (pv 1) (pa_cons pe_int pa_nil))) pe_int (nomark _))
       (pss_cons (ps_set (i := 6) sc_law.nd rfl (Or.inl rfl) (pe_call G_law_parts (hr.mono (by decide)) (by rfl) g_law_parts k_law_parts b_law_parts .nil pass0 (pa_cons (pv 1) (pa_cons (pe_op op_add (pv 3) pe_int) (pa_cons pe_int (pa_cons pe_int pa_nil))))))
      (pss_one (ps_dput hu (pv 6) (pe_op op_catA (pe_op op_catA (pe_op DX.op_repA (pe_tup (pa_cons pe_int pa_nil)) (pv 3)) (pe_tup (pa_cons pe_int pa_nil))) (pe_op DX.op_repA (pe_tup (pa_cons pe_int pa_nil)) (pe_op op_sub pe_int (pv 3)))) (pe_op op_add pe_int (pe_call G_law_draw (hr.mono (by decide)) (by rfl) g_law_draw k_law_draw b_law_draw .nil pass0 (pa_cons (pv 1) (pa_cons pe_int pa_nil)))) rfl)))
       pss_nil)
      (pss_cons (ps_if (pt_cmpR op_eq (pe_ix ix_list (pe_call G_law_degrees (hr.mono (by decide)) (by rfl) g_law_degrees k_law_degrees b_law_degrees .nil pass0 (pa_cons (pv 6) (pa_cons (pe_op op_add (pv 3) pe_int) pa_nil))) (pv 3) (fun _ _ => rfl)) pe_int (nomark _))
       (pss_one (ps_dput hu (pv 6) (pe_op op_catA (pe_op op_catA (pe_op DX.op_repA (pe_tup (pa_cons pe_int pa_nil)) (pv 3)) (pe_tup (pa_cons pe_int pa_nil))) (pe_op DX.op_repA (pe_tup (pa_cons pe_int pa_nil)) (pe_op op_sub pe_int (pv 3)))) pe_int rfl))
       pss_nil)
      (pss_cons (ps_par (i := 7) (j := 8) (by rfl) sc_law.nd rfl rfl (by decide) rfl rfl (pa_cons (pe_call G_law_poly (hr.mono (by decide)) (by rfl) g_law_poly k_law_poly b_law_poly .nil pass0 (pa_cons (pv 6) pa_nil)) (pa_cons (pe_call G_law_box (hr.mono (by decide)) (by rfl) g_law_box k_law_box b_law_box .nil pass0 (pa_cons (pv 1) (pa_cons (pv 3) pa_nil))) pa_nil)) (by rfl))
      (pss_one (ps_for PassesOwn.never rfl (pi_list (pe_lst (pa_cons (pe_op op_add pe_int (pe_call G_law_draw (hr.mono (by decide)) (by rfl) g_law_draw k_law_draw b_law_draw .nil pass0 (pa_cons (pv 1) (pa_cons pe_int pa_nil)))) (pa_cons (pe_call G_law_any (hr.mono (by decide)) (by rfl) g_law_any k_law_any b_law_any .nil pass0 (pa_cons (pv 1) (pa_cons (pe_lst (pa_cons pe_int (pa_cons pe_int (pa_cons pe_int (pa_cons pe_int (pa_cons pe_int (pa_cons (pe_op op_pow pe_int pe_int) (pa_cons (pe_op op_pow pe_int pe_int) pa_nil)))))))) pa_nil))) pa_nil)))) (pg_name (i := 9) sc_law.nd rfl (Or.inl rfl))
       (pss_cons (ps_par (i := 10) (j := 11) (by rfl) sc_law.nd rfl rfl (by decide) rfl rfl (pa_cons (pe_call G_law_holds (hr.mono (by decide)) (by rfl) g_law_holds k_law_holds b_law_holds .nil pass0 (pa_cons (pv 6) (pa_cons (pv 3) (pa_cons (pv 8) (pa_cons (pv 9) pa_nil))))) (pa_cons (pe_call G_holds_in (hr.mono (by decide)) (by rfl) g_holds_in k_holds_in b_holds_in .nil pass0 (pa_cons (pv 7) (pa_cons (pv 3) (pa_cons (pv 8) (pa_cons (pv 9) pa_nil))))) pa_nil)) (by rfl))
      (pss_cons (ps_if (PW.pt (pw_or (pt_not (pt_val (pe_callB call_isi (by rfl) T.isi (by decide +kernel) (pa_cons (pv 11) (pa_cons (pe_bltn (v := .ty "bool") (u := .type "bool") (by rfl) T.bool (by decide +kernel) rfl) pa_nil))))) (pw_or1 (pt_cmpR op_ne (pv 11) (pv 10) (nomark _)))))
       (pss_one (ps_ret pe_bl))
       pss_nil)
      (pss_one (ps_for PassesOwn.never rfl (pi_range1 (by rfl) T.range (pa_cons (pe_ifExp (pt_val (pv 10)) pe_int pe_int) pa_nil)) (pg_name (i := 12) sc_law.nd rfl (Or.inl rfl))
       (pss_cons (ps_setLc (i := 14) (own := [("_law_stretch_here", 13)]) (tt := tYes) (by rfl) sc_law.nd rfl rfl (sw_true rfl rfl rfl (by decide +kernel)) (pi_tup (pv 8)) (blkOk_by (own := [("_law_stretch_here", 13)]) (N := ["_law_script", "_law_hand_here", "_law_turn", "_law_k", "_law_root", "_law_roots", "_law_parts_here", "_law_poly_here", "_law_box_here", "_law_bound", "_law_due", "_law_told", "_law_again", "_law_stretch_here", "_law_place_here", "_law_beyond"]) (sc := (defScope s_law)) (by decide +kernel)) (fun _ _ _ _ _ => (pg_name (i := 13) sc_law.nd rfl (Or.inl rfl))) (fun _ _ _ _ _ => pts_nil) (fun _ _ _ _ _ => (pe_call G_law_place (hr.mono (by decide)) (by rfl) g_law_place k_law_place b_law_place .nil pass0 (pa_cons (pv 1) (pa_cons (pv 13) pa_nil)))))
      (pss_cons (ps_set (i := 15) sc_law.nd rfl (Or.inl rfl) (pe_op op_mulW (pe_op op_add (pe_op op_add (pv 9) (pe_call G_law_any (hr.mono (by decide)) (by rfl) g_law_any k_law_any b_law_any .nil pass0 (pa_cons (pv 1) (pa_cons (pe_lst (pa_cons pe_int (pa_cons pe_int (pa_cons pe_int (pa_cons pe_int pa_nil))))) pa_nil)))) (pe_call G_law_draw (hr.mono (by decide)) (by rfl) g_law_draw k_law_draw b_law_draw .nil pass0 (pa_cons (pv 1) (pa_cons pe_int pa_nil)))) (pe_op op_sub pe_int (pe_op op_mulW pe_int (pe_call G_law_draw (hr.mono (by decide)) (by rfl) g_law_draw k_law_draw b_law_draw .nil pass0 (pa_cons (pv 1) (pa_cons pe_int pa_nil)))))))
      (pss_one (ps_if (pt_cmpR op_eq (pe_ix ix_tup (pe_call G_law_worth (hr.mono (by decide)) (by rfl) g_law_worth k_law_worth b_law_worth .nil pass0 (pa_cons (pv 6) (pa_cons (pe_op op_cat (pv 14) (pe_lst (pa_cons (pe_tup (pa_cons (pv 15) (pa_cons pe_int pa_nil))) pa_nil))) pa_nil))) pe_int (fun _ _ => rfl)) pe_int (nomark _))
       (pss_one (ps_ret pe_bl))
       pss_nil)))))))))))))))))
      (pss_one (ps_ret pe_bl)))), ?_⟩
    try dsimp only [cxOf, Cx.nox, Cx.wish]
    walk_at "F"
    refine ⟨a, ns, rfl, ha, nl, fun d c H1 nd s1 hh1 => ?_⟩
    walk_at "F"
    refine My.rngI (by omega) (by omega) (fun _ σ' H' => ∃ u2 u3 u4 u5 u6 u7 u8 u9 u10 u11 u12 u13 u14 u15 : Option V, σ' = [some (.ref a), some (.ref d), u2, u3, u4, u5, u6, u7, u8, u9, u10, u11, u12, u13, u14, u15] ∧ Hand K H' d c) ⟨_, _, _, _, _, _, _, _, _, _, _, _, _, _, rfl, hh1⟩ ?_ ?_
    · rintro i0 σ' H2 hi0 ⟨u2, u3, u4, u5, u6, u7, u8, u9, u10, u11, u12, u13, u14, u15, rfl, hh2⟩
      walk_at "F"
      refine My.new (My.sz (by simp)) fun pl npl => ?_
      have sl := same_new (o := HO.lst [V.int 0, V.int 0, V.int 1, V.int 1, V.int 2, V.int 2, V.int 3]) npl
      walk_at "F"
      refine ⟨d, c, pl, _, rfl, hh2.same sl, SqL.of upd_same, by simp, by simp, fun v H3 hv hh3 b3 _ => ?_⟩
      obtain ⟨kk, rfl, kk3⟩ : ∃ kk : Nat, v = .int (kk : Int) ∧ kk ≤ 3 := by
        simp only [List.mem_cons, List.not_mem_nil, or_false] at hv
        rcases hv with rfl | rfl | rfl | rfl | rfl | rfl | rfl <;> first | exact ⟨0, rfl, by decide⟩ | exact ⟨1, rfl, by decide⟩ | exact ⟨2, rfl, by decide⟩ | exact ⟨3, rfl, by decide⟩
      walk_at "F"
      refine ⟨d, c, 3, rfl, by decide, by decide, hh3, fun r H4 r0 r1 hh4 b4 _ => ?_⟩
      walk_at "F"
      refine ⟨1 + r, rfl, by omega, by omega, My.lcM walk_range (fun H1 H' => But d H1 H' ∧ Hand K H' d c) (by omega) (fun D hD => ⟨Same.but (same_new hD), hh4.same (same_new hD)⟩) fun D nD => ⟨fun j y H => ∃ e : Int, y = .int e ∧ -4 ≤ e ∧ e ≤ 4, fun j y H ys o _ h => h, fun H o s => ⟨but_at s.1 nD, Hand.at hh4 s.1 s.2 nD⟩, fun _ _ _ _ => trivial, ?_, ?_⟩⟩
      · rintro i x H5 H6 ys N hi r' e l p' ⟨rfl, rfl⟩ hN
        walk_at "F"
        refine ⟨rfl, ?_⟩
        walk_at "F"
        refine ⟨d, c, 9, rfl, by decide, by decide, r'.2, fun q' H6 q0 q1 hh6 b6 _ => ?_⟩
        walk_at "F"
        exact hN _ _ ⟨r'.1.trans b6, hh6⟩ (b6.obj r'.2 e (fun _ z => by cases z)) (fun j v hv => p' j v hv) ⟨_, rfl, by omega, by omega⟩
      intro H5 ys hD hl5 r5 hy
      obtain ⟨rts, rfl, hrts⟩ := ints_of (P := fun _ e => -4 ≤ e ∧ e ≤ 4) (fun j y e => by obtain ⟨x, h1, h2⟩ := hy j y e; exact ⟨x, h1, h2⟩)
      rw [List.length_map] at hl5
      have hh5 := r5.2
      walk_at "F"
      refine ⟨d, c, D, kk, rts, rfl, hh5, kk3, hD, by omega, fun x hx => by obtain ⟨j, hj⟩ := List.mem_iff_getElem?.mp hx; exact hrts j x hj, fun p H6 m np hh6 b6 hp6 lq ml => ?_⟩
      refine My.name rfl (My.cutS (fun σ' H' => ∃ (p' : Addr) (m' : Pol) (w4 w5 : Option V), σ' = [some (.ref a), some (.ref d), some (.int (0 + (i0 : Int))), some (.int (kk : Int)), w4, w5, some (.ref p'), u7, u8, u9, u10, u11, u12, u13, u14, u15] ∧ Hand K H' d c ∧ PolD H' p' m' ∧ p' ≠ d ∧ Lq ((kk : Int) + 1) 3 m' ∧ m'.length ≤ 6) (fun N hN => ?_) ?_)
      · have pd : p ≠ d := fun z => by obtain ⟨ks, e⟩ := hh6.dk; have e2 : H6 p = some (.dT (kvI m)) := hp6; rw [z, e] at e2; cases e2
        walk_at "F"
        refine ⟨d, c, 4, rfl, by decide, by decide, hh6, fun r H7 r0 r1 hh7 b7 _ => ?_⟩
        walk_at "F"
        · refine ⟨d, c, (kk : Int) + 1, 2, rfl, by decide, by decide, hh7, fun p2 H8 m2 np2 hh8 b8 hp8 lq2 ml2 => ?_⟩
          have pd2 : p2 ≠ d := fun z => by obtain ⟨ks, e⟩ := hh8.dk; have e2 : H8 p2 = some (.dT (kvI m2)) := hp8; rw [z, e] at e2; cases e2
          walk_at "F"
          refine ⟨d, c, 3, rfl, by decide, by decide, hh8, fun r2 H9 r20 r21 hh9 b9 _ => ?_⟩
          have hp9 : H9 p2 = some (.dT (kvI m2)) := b9 _ _ pd2 hp8
          refine My.rI0_ ?_
          refine My.var rfl ?_
          refine key_ev rfl kk3 (fun _ _ q => My.cst q) fun t H10 s10 ht => ?_
          have hp10 := s10 _ _ hp9
          refine ⟨p2, _, rfl, DPut.t hp10 ht (by rw [kvI_len, sizeLine_eq]; omega), ?_⟩
          refine hN _ _ ⟨p2, putP m2 (keyK kk 2) (1 + r2), _, _, rfl, Hand.put (hh9.same s10) hp10 pd2, by rw [PolD, upd_same, kvI_put], pd2, lq_key (lq_mono lq2 (by decide)) kk3 (by decide) (by decide) (My.Bd.lit (n := 90) (k := 5) (by omega) (by decide)), Nat.le_trans (len_put m2 _ _) (by omega)⟩
        · exact hN _ _ ⟨p, m, _, _, rfl, hh7, b7 _ _ pd hp6, pd, lq, ml⟩
      rintro σ' H7 ⟨p1, m1, w4, w5, rfl, hh7, hp7, pd1, lq1, ml1⟩
      have hp7 : H7 p1 = some (.dT (kvI m1)) := hp7
      have lp1 : Lp m1 := ⟨lq1.nd, lq1.len, fun q hq e he => by have := lq1.wi q hq e he; omega, by omega, fun q hq => (lq1.bd q hq).mono (by decide)⟩
      refine My.cutS (fun σ' H' => ∃ (m' : Pol), σ' = [some (.ref a), some (.ref d), some (.int (0 + (i0 : Int))), some (.int (kk : Int)), w4, w5, some (.ref p1), u7, u8, u9, u10, u11, u12, u13, u14, u15] ∧ Hand K H' d c ∧ PolD H' p1 m' ∧ Pq kk m' ∧ 0 < mx 0 (colP (nzP m') kk)) (fun N hN => ?_) ?_
      · have nn : ∀ (m : Pol), Lq ((kk : Int) + 1) 3 m → 0 ≤ mx 0 (colP (nzP m) kk) := fun m lq => DX.mx_le (fun x hx => by
          obtain ⟨q, hq, rfl⟩ := List.mem_map.mp hx
          exact (getD_wi (by decide) (lq.wi q (List.mem_filter.mp hq).1) kk).1) (Int.le_refl 0)
        walk_at "F"
        refine ⟨p1, m1, kk + 1, rfl, hp7, lp1, by omega, fun gl H8 s8 hg => ?_⟩
        walk_at "F"
        refine My.ixL (v := .int (mx 0 (colP (nzP m1) kk))) (SqL.of hg) (atI_nat (by rw [List.getElem?_map, List.getElem?_range (by omega)]; rfl)) ?_
        have hp8 := s8 _ _ hp7
        walk_at "F"
        · refine key_ev rfl kk3 (fun _ _ q => My.cst q) fun t H10 s10 ht => ?_
          have hp10 := s10 _ _ hp8
          refine ⟨p1, _, rfl, DPut.t hp10 ht (by rw [kvI_len, sizeLine_eq]; omega), ?_⟩
          have lq2 : Lq ((kk : Int) + 1) 3 (putP m1 (keyK kk 1) 1) := lq_key lq1 kk3 (by decide) (by decide) (My.Bd.lit (n := 90) (k := 5) (by decide) (by decide))
          refine hN _ _ ⟨putP m1 (keyK kk 1) 1, rfl, Hand.put ((hh7.same s8).same s10) hp10 pd1, by rw [PolD, upd_same, kvI_put], lq_pq lq2 (Nat.le_trans (len_put m1 _ _) (by omega)), ?_⟩
          have hin : (keyK kk 1, (1 : Int)) ∈ nzP (putP m1 (keyK kk 1) 1) := List.mem_filter.mpr ⟨putP_in _ _ _, rfl⟩
          have := mx_ge (x := 1) (l := colP (nzP (putP m1 (keyK kk 1) 1)) kk) (List.mem_map.mpr ⟨_, hin, keyK_at kk3⟩)
          omega
        · rename_i z
          have := nn m1 lq1
          exact hN _ _ ⟨m1, rfl, hh7.same s8, hp8, lq_pq lq1 (by omega), by omega⟩
      rintro σ' H8 ⟨m, rfl, hh8, hp8, pq, mpos⟩
      have hp8 : H8 p1 = some (.dT (kvI m)) := hp8
      walk_at "F"
      refine ⟨p1, m, rfl, hp8, pq.lp, fun ap H9 ts s9 hap pm => ?_⟩
      walk_at "F"
      refine ⟨d, c, kk, rfl, kk3, hh8.same s9, fun xb H10 sts hh10 b10 hbx hsl sn => ?_⟩
      have hh9 := hh8.same s9
      have hp10 : PolD H10 p1 m := but_pol b10 hh9 (s9 _ _ hp8)
      have hap10 := but_poly b10 hh9 hap
      walk_at "F"
      refine ⟨d, c, 8, rfl, by decide, by decide, hh10, fun r H11 r0 r1 hh11 b11 _ => ?_⟩
      walk_at "F"
      refine My.new (My.sz (by simp)) fun q0 nq0 => ?_
      have s12 := same_new (o := HO.lst [V.int 5, V.int 6, V.int 12, V.int 40, V.int 1000, V.int (10 ^ Int.toNat 9), V.int (10 ^ Int.toNat 29)]) nq0
      walk_at "F"
      refine ⟨d, c, q0, _, rfl, hh11.same s12, SqL.of upd_same, by simp, by simp, fun v H13 hv hh13 b13 _ => ?_⟩
      obtain ⟨g, rfl, g0, g1⟩ : ∃ g : Int, v = .int g ∧ 0 < g ∧ g ≤ 10 ^ 29 := by
        simp only [List.mem_cons, List.not_mem_nil, or_false] at hv
        rcases hv with rfl | rfl | rfl | rfl | rfl | rfl | rfl <;> exact ⟨_, rfl, by decide, by decide⟩
      have b1013 := (b11.trans (Same.but s12)).trans b13
      have hp13 := but_pol b1013 hh10 hp10
      have hap13 := but_poly b1013 hh10 hap10
      have hbx13 := but_box b1013 hh10 hbx
      walk_at "F"
      refine My.new (My.sz (by simp)) fun bl nbl => ?_
      have s14 := same_new (o := HO.lst [V.int (1 + r), V.int g]) nbl
      have ebl := upd_same (H := H13) (a := bl) (o := HO.lst [V.int (1 + r), V.int g])
      have hh14 := hh13.same s14
      have hp14 : PolD (upd H13 bl (HO.lst [V.int (1 + r), V.int g])) p1 m := s14 _ _ hp13
      have hap14 := hap13.same s14
      have hbx14 := hbx13.same s14
      generalize upd H13 bl _ = H14 at ebl hh14 hp14 hap14 hbx14 ⊢
      refine My.lstI (SqL.of ebl) (fun _ σ' H' => ∃ w9 w10 w11 w12 w13 w14 w15 : Option V, σ' = [some (.ref a), some (.ref d), some (.int (0 + (i0 : Int))), some (.int (kk : Int)), w4, w5, some (.ref p1), some (.ref ap), some (.ref xb), w9, w10, w11, w12, w13, w14, w15] ∧ Hand K H' d c ∧ But d H14 H') ⟨_, _, _, _, _, _, _, rfl, hh14, .refl _ _⟩ (fun _ σ' H' _ ⟨_, _, _, _, _, _, _, _, _, bb⟩ => SqL.of (bb.obj hh14 ebl (fun _ z => by cases z))) ?_ ?_
      · rintro jb x σ' H15 ex ⟨w9, w10, w11, w12, w13, w14, w15, rfl, hh15, b15⟩
        obtain ⟨bd, rfl, bd0, bd1⟩ : ∃ bd : Int, x = .int bd ∧ 0 < bd ∧ bd ≤ 10 ^ 29 := by
          match jb, ex with
          | 0, ex => exact ⟨1 + r, (Option.some.inj ex).symm, by omega, by omega⟩
          | 1, ex => exact ⟨g, (Option.some.inj ex).symm, g0, g1⟩
        have bB : My.Bd 100 bd := My.Bd.lit (n := 100) (k := 10 ^ 29 + 1) (by omega) (by decide)
        have hp15 := but_pol b15 hh14 hp14
        have hap15 := but_poly b15 hh14 hap14
        have hbx15 := but_box b15 hh14 hbx14
        walk_at "F"
        refine ⟨p1, xb, m, kk, bd, sts, rfl, hp15, hbx15, ⟨pq.lp, pq.mv, by omega, bd0, bB, fun sg i hs => by obtain ⟨z1, z2⟩ := row_sizes pq kk3 hs bB hsl sn i; exact ⟨z1, _, z2⟩⟩, fun H16 s16 => ?_⟩
        walk_at "F"
        have mvt : Mv ts kk := pq.mv.perm pm
        have cols : ∀ j, mx 0 (colP ts j) = mx 0 (colP (nzP m) j) := fun j => mx_mem fun x => by unfold colP; exact (pm.map _).mem_iff
        have tp : topP ts = some kk := top_is kk3 (by rw [cols]; exact mpos) fun j hj => by
          rw [cols]
          refine (DX.mx_zero fun x hx => ?_).mpr fun x hx => ?_
          · obtain ⟨q, hq, rfl⟩ := List.mem_map.mp hx
            exact (getD_wi (by decide) (pq.wi q (List.mem_filter.mp hq).1) j).1
          · obtain ⟨q, hq, rfl⟩ := List.mem_map.mp hx
            exact pq.off q (List.mem_filter.mp hq).1 j hj
        refine ⟨ap, xb, ts, kk, bd, sts, rfl, hap15.same s16, hbx15.same s16, ⟨mvt, by omega, bd0, bB, mb_of pm pq kk3 bd0 bB hsl sn⟩, tp, hsl, fun s hs => (strN_bt (sn s hs)).ok, fun H17 s17 => ?_⟩
        rw [kb_eq' pm (.inl rfl) pq.mv (by omega), kb_eq' pm (.inr rfl) pq.mv (by omega)]
        have hh17 := hh15.same (s16.trans s17)
        have hp17 : PolD H17 p1 m := (s16.trans s17) _ _ hp15
        have hbx17 := hbx15.same (s16.trans s17)
        have b17 := b15.trans (Same.but (s16.trans s17))
        generalize hX : (lhB m kk bd 1 sts && lhB m kk bd (-1) sts) = X
        walk_at "F"
        refine (TgV.bl X).isT mem6 ?_
        walk_at "F"
        refine My.rNeB ?_
        rw [decide_eq_true rfl]
        walk_at "F"
        cases X with
        | false =>
          rw [if_neg Bool.false_ne_true]
          walk_at "F"
          refine My.rngI (by omega) (by omega) (fun _ σ' H' => ∃ w9 w10 w11 w12 w13 w14 w15 : Option V, σ' = [some (.ref a), some (.ref d), some (.int (0 + (i0 : Int))), some (.int (kk : Int)), w4, w5, some (.ref p1), some (.ref ap), some (.ref xb), w9, w10, w11, w12, w13, w14, w15] ∧ Hand K H' d c ∧ But d H14 H') ⟨_, _, _, _, _, _, _, rfl, hh17, b17⟩ ?_ ?_
          · rintro i σ' H' hi _
            exact absurd hi (Nat.not_lt_zero i)
          · rintro σ' H' ⟨v9, v10, v11, v12, v13, v14, v15, rfl, hh, bb⟩
            exact ⟨_, _, _, _, _, _, _, rfl, hh, bb⟩
        | true =>
          rw [if_pos rfl]
          rw [Bool.and_eq_true] at hX
          obtain ⟨X1, X2⟩ := hX
          walk_at "F"
          refine My.rngI (by omega) (by omega) (fun _ σ' H' => ∃ w10 w11 w12 w13 w14 w15 : Option V, σ' = [some (.ref a), some (.ref d), some (.int (0 + (i0 : Int))), some (.int (kk : Int)), w4, w5, some (.ref p1), some (.ref ap), some (.ref xb), some (.int bd), w10, w11, w12, w13, w14, w15] ∧ Hand K H' d c ∧ But d H17 H') ⟨_, _, _, _, _, _, rfl, hh17, .refl _ _⟩ ?_ ?_
          · rintro i σ' H18 hi ⟨v10, v11, v12, v13, v14, v15, rfl, hh18, b18⟩
            have hp18 := but_pol b18 hh17 hp17
            have hbx18 := but_box b18 hh17 hbx17
            obtain ⟨bs, hb1, hb2⟩ := id hbx18
            have bl := My.plen hb2
            walk_at "F"
            refine My.lcT rfl (SqT.of hb1) (My.lcM2 (walk_tup (xs := bs.map V.ref)) (fun H1 H' => But d H1 H' ∧ Hand K H' d c) (by rw [List.length_map]; omega) (fun D hD => ⟨Same.but (same_new hD), hh18.same (same_new hD)⟩) fun D2 nD2 => ⟨fun j y H => ∃ t f s, y = .ref t ∧ FraAt H t f ∧ sts[j]? = some s ∧ InS s f ∧ Nr (10 ^ 15) f, fun j y H ys zs e ⟨t, f, s, h1, h2, h3⟩ => ⟨t, f, s, h1, fra_put e h2, h3⟩, fun H o s => ⟨but_at s.1 nD2, Hand.at hh18 s.1 s.2 nD2⟩, fun H' _ s _ => SqT.of (s.1.obj hh18 hb1 (fun _ z => by cases z)), ?_, ?_⟩)
            · rintro j x2 H19 H20 ys N2 hj r2 e2 l2 p2 ⟨rfl, ex⟩ hN2
              rw [List.getElem?_map] at ex
              cases eb : bs[j]? with
              | none => rw [eb] at ex; cases ex
              | some sa =>
                rw [eb] at ex
                cases Option.some.inj ex
                obtain ⟨s0, es0, hs0⟩ := My.pget hb2 eb
                walk_at "F"
                refine ⟨rfl, ?_⟩
                walk_at "F"
                refine ⟨d, c, sa, s0, rfl, r2.2, but_str r2.1 hh18 hs0, sn s0 (List.mem_iff_getElem?.mpr ⟨j, es0⟩), fun pt H21 f t mm hh21 b21 hf nrf t0 t1 m0 eq => ?_⟩
                refine hN2 _ _ ⟨r2.1.trans b21, hh21⟩ (b21.obj r2.2 e2 (fun _ z => by cases z)) (fun j v hv => ?_) ⟨pt, f, s0, rfl, hf, es0, ⟨t, mm, t0, t1, m0, eq⟩, nrf⟩
                obtain ⟨t', f', s', h1, h2, h3⟩ := p2 j v hv
                exact ⟨t', f', s', h1, str_refs b21 r2.2 h2, h3⟩
            intro H19 zs hD2 hl2 r2 hz
            rw [List.length_map] at hl2
            obtain ⟨fs, pts, rfl, g1, g2⟩ := fras_of (R := fun s f => InS s f ∧ Nr (10 ^ 15) f) (by omega) hz
            have hh19 := r2.2
            have b19 := b18.trans r2.1
            have hp19 := but_pol r2.1 hh18 hp18
            walk_at "F"
            refine My.new (My.sz (by simp)) fun q1 nq1 => ?_
            have s20 := same_new (o := HO.lst [V.int 0, V.int 0, V.int 1, V.int 100]) nq1
            walk_at "F"
            refine ⟨d, c, q1, _, rfl, hh19.same s20, SqL.of upd_same, by simp, by simp, fun v H21 hv hh21 b21 _ => ?_⟩
            obtain ⟨e1, rfl, e10, e11⟩ : ∃ e1 : Int, v = .int e1 ∧ 0 ≤ e1 ∧ e1 ≤ 100 := by
              simp only [List.mem_cons, List.not_mem_nil, or_false] at hv
              rcases hv with rfl | rfl | rfl | rfl <;> exact ⟨_, rfl, by decide, by decide⟩
            have b1921 := (Same.but s20).trans b21
            walk_at "F"
            refine ⟨d, c, 3, rfl, by decide, by decide, hh21, fun e2 H22 e20 e21 hh22 b22 _ => ?_⟩
            walk_at "F"
            refine ⟨d, c, 2, rfl, by decide, by decide, hh22, fun e3 H23 e30 e31 hh23 b23 _ => ?_⟩
            walk_at "F"
            have B3 : My.Bd 2 e3 := My.Bd.lit (k := 2) (by omega) (by decide)
            refine My.mulW (n := 2) (m := 2) (My.Bd.lit (k := 3) (by decide) (by decide)) B3 (by decide) ?_
            walk_at "F"
            have sB : My.Bd 98 (bd + e1 + e2) := My.Bd.lit (n := 98) (k := 10 ^ 29 + 200) (by omega) (by decide)
            have gB : My.Bd 2 (1 - 2 * e3) := My.Bd.lit (k := 3) (by omega) (by decide)
            refine My.mulW sB gB (by decide) ?_
            have b1923 := (b1921.trans b22).trans b23
            have hp23 := but_pol b1923 hh19 hp19
            have hD23 : H23 D2 = some (.lst (fs.map V.ref)) := b1923.obj hh19 hD2 (fun _ z => by cases z)
            have g23 := Paired.mapP g1 fun t f (z : FraAt H19 t f) => (str_refs b1923 hh19 z : FraAt H23 t f)
            obtain ⟨sg, hsg, ebe⟩ : ∃ sg : Int, (sg = 1 ∨ sg = -1) ∧ (bd + e1 + e2) * (1 - 2 * e3) = sg * (bd + (e1 + e2)) := by
              refine ⟨1 - 2 * e3, by omega, ?_⟩
              rw [Int.mul_comm, Int.add_assoc]
            have xB : My.Bd 100 ((bd + e1 + e2) * (1 - 2 * e3)) := sB.mul gB
            rw [ebe] at xB ⊢
            walk_at "F"
            refine My.new (My.sz (by simp)) fun t1 nt1 => ?_
            have st1 := same_new (o := HO.tup [V.int (sg * (bd + (e1 + e2))), V.int 1]) nt1
            walk_at "F"
            refine My.new (My.sz (by simp)) fun l1 nl1 => ?_
            have sl1 := same_new (o := HO.lst [V.ref t1]) nl1
            have s23 := st1.trans sl1
            have fl : fs.length = kk := by
              have e1 := My.plen g1
              have e2 := My.plen g2
              omega
            refine My.cat (s23 _ _ hD23) upd_same (by rw [List.length_map]; simp; omega) fun l2 nl2 => ?_
            have sl2 := same_new (o := HO.lst (fs.map V.ref ++ [V.ref t1])) nl2
            have s24 := s23.trans sl2
            have t1at : FraAt (upd (upd (upd H23 t1 (HO.tup [V.int (sg * (bd + (e1 + e2))), V.int 1])) l1 (HO.lst [V.ref t1])) l2 (HO.lst (fs.map V.ref ++ [V.ref t1]))) t1 (sg * (bd + (e1 + e2)), 1) := sl2 _ _ (sl1 _ _ upd_same)
            have l2at := upd_same (H := upd (upd H23 t1 (HO.tup [V.int (sg * (bd + (e1 + e2))), V.int 1])) l1 (HO.lst [V.ref t1])) (a := l2) (o := HO.lst (fs.map V.ref ++ [V.ref t1]))
            have hh24 := hh23.same s24
            have hp24 : PolD (upd (upd (upd H23 t1 (HO.tup [V.int (sg * (bd + (e1 + e2))), V.int 1])) l1 (HO.lst [V.ref t1])) l2 (HO.lst (fs.map V.ref ++ [V.ref t1]))) p1 m := s24 _ _ hp23
            have g24 := Paired.mapP g23 fun t f (z : FraAt H23 t f) => z.same s24
            have b24 := (b19.trans b1923).trans (Same.but s24)
            generalize upd (upd (upd H23 t1 _) l1 _) l2 _ = H24 at t1at l2at hh24 hp24 g24 b24 ⊢
            walk_at "F"
            have nrs := pair_nr g2
            refine ⟨p1, l2, m, fs ++ [t1], pts ++ [(sg * (bd + (e1 + e2)), 1)], 708, rfl, hp24, pq.lp, by rw [l2at, List.map_append]; rfl, papp g24 (.cons t1at .nil), wl_of pq nrs xB, by rw [List.length_append, ← My.plen g1]; simp; omega, fun wp H25 s25 hw w0 _ => ?_⟩
            have ne := beyond_ne (t := e1 + e2) pq kk3 hsg bB hsl sn (pair_in g2) (by omega) (by rcases hsg with z | z <;> rw [z] <;> assumption)
            have lowne : (low (wthF m (pts ++ [(sg * (bd + (e1 + e2)), 1)])).1 (wthF m (pts ++ [(sg * (bd + (e1 + e2)), 1)])).2).1 ≠ 0 := by
              obtain ⟨gg, gg0, q1, _, _⟩ := low_div (t := (wthF m (pts ++ [(sg * (bd + (e1 + e2)), 1)])).1) w0
              intro z
              rw [z, Int.zero_mul] at q1
              exact ne q1
            walk_at "F"
            refine My.ixT (SqT.of hw) (by rfl) ?_
            walk_at "F"
            · rename_i z
              exact absurd z lowne
            · exact ⟨_, _, _, _, _, _, rfl, hh24.same s25, b24.trans (Same.but s25)⟩
          · rintro σ' H18 ⟨v10, v11, v12, v13, v14, v15, rfl, hh18, b18⟩
            exact ⟨_, _, _, _, _, _, _, rfl, hh18, b17.trans b18⟩
      · rintro σ' H15 ⟨w9, w10, w11, w12, w13, w14, w15, rfl, hh15, b15⟩
        exact ⟨_, _, _, _, _, _, _, _, _, _, _, _, _, _, rfl, hh15⟩
    · rintro σ' H2 ⟨u2, u3, u4, u5, u6, u7, u8, u9, u10, u11, u12, u13, u14, u15, rfl, hh2⟩
      walk_at "F"
      exact k _
end
end K25

set_option Elab.async false
set_option linter.all false
set_option maxRecDepth 100000
set_option maxHeartbeats 0
namespace K25
open PySem PySem.Spec PyProof.Rows L2 XV DX XF He
theorem own_ok {K : PySem.W.Frag} {x : Str} (cl : Cls K (ga K x)) (h : ownB K x = true) (hn : PySem.W.specialIn K (.builtin "object.__class__") "__get__" = some (some (.builtin "getset_descriptor.__get__"))) (ht : PySem.W.takesIn K (.builtin "object.__class__") = some true) : InsT K (ga K x) ∧ ClsN K (ga K x) := by
  obtain ⟨c1, h⟩ := ba h
  obtain ⟨c2, h⟩ := ba h
  obtain ⟨c3, h⟩ := ba h
  obtain ⟨c4, c5⟩ := ba h
  exact ⟨⟨cl, eqO_ok c1, hn, ht, of_decide_eq_true c2, fun T hT => of_decide_eq_true (List.all_eq_true.mp c3 T hT)⟩, ⟨of_decide_eq_true c4, fun T hT => of_decide_eq_true (List.all_eq_true.mp c5 T hT)⟩⟩
theorem facts {P : Program} {w : World} {K : PySem.W.Frag} {h : Heap} {mg : Str → Option Value} {f : Addr} (X : K.In h) (G : h.Ns mainGlobals mg) (hfa : mg ("law" : Str) = some (.ref f)) (c : He.SaysD fa fnH K) (c2 : ex K = true) :
    ∃ fd : FuncData, (∀ (s : Shared) (v : Value), BindsTo s fd ⟨[v], []⟩ [("_law_script", v)]) ∧ ∀ base : Heap, K.In base → base.Ns mainGlobals mg → FnOk P w K mg base CX0 16 f fd ["_law_script"] (spLaw K) := by
  obtain ⟨fd_is_integer, F_is_integer⟩ := c.def_ 0 (d := d_is_integer) rfl
  obtain ⟨fd_is_number_to, F_is_number_to⟩ := c.def_ 1 (d := d_is_number_to) rfl
  obtain ⟨fd_is_bound, F_is_bound⟩ := c.def_ 2 (d := d_is_bound) rfl
  obtain ⟨fd_is_unknown, F_is_unknown⟩ := c.def_ 3 (d := d_is_unknown) rfl
  obtain ⟨fd_is_fraction, F_is_fraction⟩ := c.def_ 4 (d := d_is_fraction) rfl
  obtain ⟨fd_greatest_powers, F_greatest_powers⟩ := c.def_ 5 (d := d_greatest_powers) rfl
  obtain ⟨fd_Poly_init, F_Poly_init⟩ := c.def_ 6 (d := d_Poly_init) rfl
  obtain ⟨fd_is_term, F_is_term⟩ := c.def_ 7 (d := d_is_term) rfl
  obtain ⟨fd_is_powers, F_is_powers⟩ := c.def_ 8 (d := d_is_powers) rfl
  obtain ⟨fd_poly_with, F_poly_with⟩ := c.def_ 9 (d := d_poly_with) rfl
  obtain ⟨fd_gathered, F_gathered⟩ := c.def_ 10 (d := d_gathered) rfl
  obtain ⟨fd_with_power, F_with_power⟩ := c.def_ 11 (d := d_with_power) rfl
  obtain ⟨fd_number_raised, F_number_raised⟩ := c.def_ 12 (d := d_number_raised) rfl
  obtain ⟨fd_top, F_top⟩ := c.def_ 13 (d := d_top) rfl
  obtain ⟨fd_degree, F_degree⟩ := c.def_ 14 (d := d_degree) rfl
  obtain ⟨fd_rows_of, F_rows_of⟩ := c.def_ 15 (d := d_rows_of) rfl
  obtain ⟨fd_is_less, F_is_less⟩ := c.def_ 16 (d := d_is_less) rfl
  obtain ⟨fd_is_stretch, F_is_stretch⟩ := c.def_ 17 (d := d_is_stretch) rfl
  obtain ⟨fd_is_box, F_is_box⟩ := c.def_ 18 (d := d_is_box) rfl
  obtain ⟨fd_spread, F_spread⟩ := c.def_ 19 (d := d_spread) rfl
  obtain ⟨fd_shared_bottom, F_shared_bottom⟩ := c.def_ 20 (d := d_shared_bottom) rfl
  obtain ⟨fd_spread_by, F_spread_by⟩ := c.def_ 21 (d := d_spread_by) rfl
  obtain ⟨fd_times_line, F_times_line⟩ := c.def_ 22 (d := d_times_line) rfl
  obtain ⟨fd_turned, F_turned⟩ := c.def_ 23 (d := d_turned) rfl
  obtain ⟨fd_sign_in, F_sign_in⟩ := c.def_ 24 (d := d_sign_in) rfl
  obtain ⟨fd_holds_in, F_holds_in⟩ := c.def_ 25 (d := d_holds_in) rfl
  obtain ⟨fd_bounds, F_bounds⟩ := c.def_ 26 (d := d_bounds) rfl
  obtain ⟨fd_moved, F_moved⟩ := c.def_ 27 (d := d_moved) rfl
  obtain ⟨fd_keeps_sign, F_keeps_sign⟩ := c.def_ 28 (d := d_keeps_sign) rfl
  obtain ⟨fd_law_hand, F_law_hand⟩ := c.def_ 29 (d := d_law_hand) rfl
  obtain ⟨fd_law_draw, F_law_draw⟩ := c.def_ 30 (d := d_law_draw) rfl
  obtain ⟨fd_law_any, F_law_any⟩ := c.def_ 31 (d := d_law_any) rfl
  obtain ⟨fd_law_low, F_law_low⟩ := c.def_ 32 (d := d_law_low) rfl
  obtain ⟨fd_law_power, F_law_power⟩ := c.def_ 33 (d := d_law_power) rfl
  obtain ⟨fd_law_binomial, F_law_binomial⟩ := c.def_ 34 (d := d_law_binomial) rfl
  obtain ⟨fd_law_poly, F_law_poly⟩ := c.def_ 35 (d := d_law_poly) rfl
  obtain ⟨fd_law_parts, F_law_parts⟩ := c.def_ 36 (d := d_law_parts) rfl
  obtain ⟨fd_law_degrees, F_law_degrees⟩ := c.def_ 37 (d := d_law_degrees) rfl
  obtain ⟨fd_law_stretch, F_law_stretch⟩ := c.def_ 38 (d := d_law_stretch) rfl
  obtain ⟨fd_law_box, F_law_box⟩ := c.def_ 39 (d := d_law_box) rfl
  obtain ⟨fd_law_polar, F_law_polar⟩ := c.def_ 40 (d := d_law_polar) rfl
  obtain ⟨fd_law_indexes, F_law_indexes⟩ := c.def_ 41 (d := d_law_indexes) rfl
  obtain ⟨fd_law_counts, F_law_counts⟩ := c.def_ 42 (d := d_law_counts) rfl
  obtain ⟨fd_law_sign, F_law_sign⟩ := c.def_ 43 (d := d_law_sign) rfl
  obtain ⟨fd_law_worth, F_law_worth⟩ := c.def_ 44 (d := d_law_worth) rfl
  obtain ⟨fd_law_place, F_law_place⟩ := c.def_ 45 (d := d_law_place) rfl
  obtain ⟨fd_law_put_in, F_law_put_in⟩ := c.def_ 46 (d := d_law_put_in) rfl
  obtain ⟨fd_law_is_nought, F_law_is_nought⟩ := c.def_ 47 (d := d_law_is_nought) rfl
  obtain ⟨fd_law_holds, F_law_holds⟩ := c.def_ 48 (d := d_law_holds) rfl
  obtain ⟨fd_law_lines, F_law_lines⟩ := c.def_ 49 (d := d_law_lines) rfl
  obtain ⟨fd_law, F_law⟩ := c.def_ 50 (d := d_law) rfl
  have e := hfa.symm.trans (He.glo_ok X G (c.fact 49 (f := .glo "law") rfl))
  cases e
  obtain ⟨x1, c2⟩ := ba c2
  obtain ⟨x2, c2⟩ := ba c2
  obtain ⟨x3, c2⟩ := ba c2
  obtain ⟨x4, c2⟩ := ba c2
  obtain ⟨x5, c2⟩ := ba c2
  have T : Txt0 mg := { len := He.free_ok X G (c.fact 51 (f := .free "len") rfl), int := He.free_ok X G (c.fact 52 (f := .free "int") rfl), abs := He.free_ok X G (c.fact 53 (f := .free "abs") rfl), range := He.free_ok X G (c.fact 54 (f := .free "range") rfl), isi := He.free_ok X G (c.fact 55 (f := .free "isinstance") rfl), bool := He.free_ok X G (c.fact 56 (f := .free "bool") rfl), tuple := He.free_ok X G (c.fact 57 (f := .free "tuple") rfl), enum := He.free_ok X G (c.fact 58 (f := .free "enumerate") rfl), verr := He.free_ok X G (c.fact 59 (f := .free "ValueError") rfl), list := He.free_ok X G (c.fact 60 (f := .free "list") rfl), sorted := He.free_ok X G (c.fact 61 (f := .free "sorted") rfl), max := He.free_ok X G (c.fact 62 (f := .free "max") rfl), min := He.free_ok X G (c.fact 63 (f := .free "min") rfl), sum := He.free_ok X G (c.fact 64 (f := .free "sum") rfl), zip := He.free_ok X G (c.fact 65 (f := .free "zip") rfl), all := He.free_ok X G (c.fact 66 (f := .free "all") rfl), str := He.free_ok X G (c.fact 67 (f := .free "str") rfl), gcd := PySem.W.mg_of X G (eqO_ok x2), lcm := PySem.W.mg_of X G (eqO_ok x3) }
  have gComb := PySem.W.mg_of X G (eqO_ok x1)
  have hn := eqO_ok x4
  have ht := of_decide_eq_true x5
  obtain ⟨iP, nP⟩ := own_ok (He.cls_ok (c.fact 68 (f := .cls "Poly") rfl)) c2 hn ht
  have PT : PolF K mg (ga K "Poly") (ma K (ga K "Poly") "__init__") (ma K (ga K "Poly") "__eq__") := ⟨(He.glo_ok X G (c.fact 50 (f := .glo "Poly") rfl)), iP, nP, He.noat_ok (c.fact 71 (f := .noat "Poly" "terms") rfl), He.mkr_ok (c.fact 69 (f := .mkr "Poly") rfl), He.meth_ok (c.fact 70 (f := .meth "Poly" "__eq__") rfl)⟩
  have ins := iP
  have na := PT.na
  obtain ⟨tUNK, gUNK⟩ := He.int_ok X G (c.fact 72 (f := .int "UNKNOWNS" 4) rfl)
  obtain ⟨tPOW, gPOW⟩ := He.int_ok X G (c.fact 73 (f := .int "MOST_POWER" 60) rfl)
  obtain ⟨tTRM, gTRM⟩ := He.int_ok X G (c.fact 74 (f := .int "MOST_TERMS" 300) rfl)
  obtain ⟨tSTR, gSTR⟩ := He.int_ok X G (c.fact 75 (f := .int "MOST_STRETCHES" 3) rfl)
  have b := FunD.bindsA (ps := ["_law_script"]) F_law fun _ _ _ _ _ _ us hl => match us, hl with | [_], _ => rfl
  refine ⟨fd_law, fun s v => b s [v] rfl, fun base _ _ => ?_⟩
  have C_law_hand := cal_law_hand (P := P) (w := w) (base := base) F_law_hand (He.glo_ok X G (c.fact 28 (f := .glo "_law_hand") rfl)) T
  have C_law_draw := cal_law_draw (P := P) (w := w) (base := base) F_law_draw (He.glo_ok X G (c.fact 29 (f := .glo "_law_draw") rfl)) T
  have C_law_any := cal_law_any (P := P) (w := w) (base := base) F_law_any (He.glo_ok X G (c.fact 30 (f := .glo "_law_any") rfl)) T C_law_draw
  have C_is_integer := cal_is_integer (P := P) (w := w) (base := base) F_is_integer (He.glo_ok X G (c.fact 0 (f := .glo "is_integer") rfl)) T
  have C_is_number_to := cal_is_number_to (P := P) (w := w) (base := base) F_is_number_to (He.glo_ok X G (c.fact 1 (f := .glo "is_number_to") rfl)) T C_is_integer
  have C_is_fraction := cal_is_fraction (P := P) (w := w) (base := base) F_is_fraction (He.glo_ok X G (c.fact 4 (f := .glo "is_fraction") rfl)) T C_is_integer
  have C_is_powers := cal_is_powers (P := P) (w := w) (base := base) F_is_powers (He.glo_ok X G (c.fact 7 (f := .glo "is_powers") rfl)) T C_is_number_to gUNK gPOW
  have C_is_term := cal_is_term (P := P) (w := w) (base := base) F_is_term (He.glo_ok X G (c.fact 6 (f := .glo "is_term") rfl)) T C_is_powers C_is_integer
  have G_Poly := ok_Poly_init (P := P) (w := w) (base := base) F_Poly_init C_is_term T ins na gTRM
  have b_Poly : L2.Binds K fd_Poly_init ["self", "terms"] [] := F_Poly_init.bindsN (fun _ _ _ _ _ _ us hl => match us, hl with | [_, _], _ => rfl)
  have C_greatest_powers := cal_greatest_powers (P := P) (w := w) (base := base) F_greatest_powers (He.glo_ok X G (c.fact 5 (f := .glo "greatest_powers") rfl)) T gUNK
  have C_top := cal_top (P := P) (w := w) (base := base) F_top (He.glo_ok X G (c.fact 12 (f := .glo "top") rfl)) T C_greatest_powers PT
  have C_is_less := cal_is_less (P := P) (w := w) (base := base) F_is_less (He.glo_ok X G (c.fact 15 (f := .glo "is_less") rfl)) T
  have C_is_stretch := cal_is_stretch (P := P) (w := w) (base := base) F_is_stretch (He.glo_ok X G (c.fact 16 (f := .glo "is_stretch") rfl)) T C_is_fraction C_is_less
  have C_is_box := cal_is_box (P := P) (w := w) (base := base) F_is_box (He.glo_ok X G (c.fact 17 (f := .glo "is_box") rfl)) T C_is_stretch gSTR
  have C_law_low := cal_law_low (P := P) (w := w) (base := base) F_law_low (He.glo_ok X G (c.fact 31 (f := .glo "_law_low") rfl)) T
  have C_law_power := cal_law_power (P := P) (w := w) (base := base) F_law_power (He.glo_ok X G (c.fact 32 (f := .glo "_law_power") rfl)) T
  have C_law_binomial := cal_law_binomial (P := P) (w := w) (base := base) F_law_binomial (He.glo_ok X G (c.fact 33 (f := .glo "_law_binomial") rfl)) T
  have C_shared_bottom := cal_shared_bottom (P := P) (w := w) (base := base) F_shared_bottom (He.glo_ok X G (c.fact 19 (f := .glo "shared_bottom") rfl)) T
  have C_times_line := cal_times_line (P := P) (w := w) (base := base) F_times_line (He.glo_ok X G (c.fact 21 (f := .glo "times_line") rfl)) T
  have C_turned := cal_turned (P := P) (w := w) (base := base) F_turned (He.glo_ok X G (c.fact 22 (f := .glo "turned") rfl)) T C_times_line
  have C_spread_by := cal_spread_by (P := P) (w := w) (base := base) F_spread_by (He.glo_ok X G (c.fact 20 (f := .glo "spread_by") rfl)) T C_shared_bottom C_times_line C_turned
  have C_spread := cal_spread (P := P) (w := w) (base := base) F_spread (He.glo_ok X G (c.fact 18 (f := .glo "spread") rfl)) T C_greatest_powers C_spread_by PT
  have C_sign_in := cal_sign_in (P := P) (w := w) (base := base) F_sign_in (He.glo_ok X G (c.fact 23 (f := .glo "sign_in") rfl)) T C_spread
  have C_law_poly := cal_law_poly (P := P) (w := w) (base := base) F_law_poly (He.glo_ok X G (c.fact 34 (f := .glo "_law_poly") rfl)) T PT G_Poly b_Poly
  have C_law_parts := cal_law_parts (P := P) (w := w) (base := base) F_law_parts (He.glo_ok X G (c.fact 35 (f := .glo "_law_parts") rfl)) T C_law_draw C_law_any
  have C_law_stretch := cal_law_stretch (P := P) (w := w) (base := base) F_law_stretch (He.glo_ok X G (c.fact 37 (f := .glo "_law_stretch") rfl)) T C_law_any C_law_draw C_law_low
  have C_law_place := cal_law_place (P := P) (w := w) (base := base) F_law_place (He.glo_ok X G (c.fact 44 (f := .glo "_law_place") rfl)) T C_law_any C_law_draw C_law_low
  have C_law_box := cal_law_box (P := P) (w := w) (base := base) F_law_box (He.glo_ok X G (c.fact 38 (f := .glo "_law_box") rfl)) T C_law_stretch
  have C_law_polar := cal_law_polar (P := P) (w := w) (base := base) F_law_polar (He.glo_ok X G (c.fact 39 (f := .glo "_law_polar") rfl)) T C_law_binomial C_law_power
  have C_law_indexes := cal_law_indexes (P := P) (w := w) (base := base) F_law_indexes (He.glo_ok X G (c.fact 40 (f := .glo "_law_indexes") rfl)) T
  have C_law_degrees := cal_law_degrees (P := P) (w := w) (base := base) F_law_degrees (He.glo_ok X G (c.fact 36 (f := .glo "_law_degrees") rfl)) T
  have C_law_counts := cal_law_counts (P := P) (w := w) (base := base) F_law_counts (He.glo_ok X G (c.fact 41 (f := .glo "_law_counts") rfl)) T C_law_degrees C_law_indexes C_law_polar C_law_low
  have C_law_sign := cal_law_sign (P := P) (w := w) (base := base) F_law_sign (He.glo_ok X G (c.fact 42 (f := .glo "_law_sign") rfl)) T C_law_counts
  have C_law_worth := cal_law_worth (P := P) (w := w) (base := base) F_law_worth (He.glo_ok X G (c.fact 43 (f := .glo "_law_worth") rfl)) T C_law_power C_law_low
  have C_number_raised := cal_number_raised (P := P) (w := w) (base := base) F_number_raised (He.glo_ok X G (c.fact 11 (f := .glo "number_raised") rfl)) T
  have C_is_unknown := cal_is_unknown (P := P) (w := w) (base := base) F_is_unknown (He.glo_ok X G (c.fact 3 (f := .glo "is_unknown") rfl)) T C_is_number_to gUNK
  have C_is_bound := cal_is_bound (P := P) (w := w) (base := base) F_is_bound (He.glo_ok X G (c.fact 2 (f := .glo "is_bound") rfl)) T C_is_integer
  have C_degree := cal_degree (P := P) (w := w) (base := base) F_degree (He.glo_ok X G (c.fact 13 (f := .glo "degree") rfl)) T C_is_unknown PT
  have C_with_power := cal_with_power (P := P) (w := w) (base := base) F_with_power (He.glo_ok X G (c.fact 10 (f := .glo "with_power") rfl)) T
  have C_poly_with := cal_poly_with (P := P) (w := w) (base := base) F_poly_with (He.glo_ok X G (c.fact 8 (f := .glo "poly_with") rfl)) T PT G_Poly b_Poly
  have C_gathered := cal_gathered (P := P) (w := w) (base := base) F_gathered (He.glo_ok X G (c.fact 9 (f := .glo "gathered") rfl)) T C_poly_with
  have C_rows_of := cal_rows_of (P := P) (w := w) (base := base) F_rows_of (He.glo_ok X G (c.fact 14 (f := .glo "rows_of") rfl)) T C_with_power C_poly_with PT
  have C_moved := cal_moved (P := P) (w := w) (base := base) F_moved (He.glo_ok X G (c.fact 26 (f := .glo "moved") rfl)) T C_degree C_number_raised C_with_power C_gathered PT gComb
  have C_keeps_sign := cal_keeps_sign (P := P) (w := w) (base := base) F_keeps_sign (He.glo_ok X G (c.fact 27 (f := .glo "keeps_sign") rfl)) T C_rows_of C_sign_in PT G_Poly b_Poly
  have C_bounds := cal_bounds (P := P) (w := w) (base := base) F_bounds (He.glo_ok X G (c.fact 25 (f := .glo "bounds") rfl)) T C_keeps_sign C_moved
  have C_holds_in := cal_holds_in (P := P) (w := w) (base := base) F_holds_in (He.glo_ok X G (c.fact 24 (f := .glo "holds_in") rfl)) T C_bounds C_is_unknown C_top C_is_box C_is_bound
  have C_law_put_in := cal_law_put_in (P := P) (w := w) (base := base) F_law_put_in (He.glo_ok X G (c.fact 45 (f := .glo "_law_put_in") rfl)) T C_law_degrees C_law_power C_law_binomial
  have C_law_is_nought := cal_law_is_nought (P := P) (w := w) (base := base) F_law_is_nought (He.glo_ok X G (c.fact 46 (f := .glo "_law_is_nought") rfl)) T
  have C_law_holds := cal_law_holds (P := P) (w := w) (base := base) F_law_holds (He.glo_ok X G (c.fact 47 (f := .glo "_law_holds") rfl)) T C_law_put_in C_law_is_nought C_law_sign
  have C_law_lines := cal_law_lines (P := P) (w := w) (base := base) F_law_lines (He.glo_ok X G (c.fact 48 (f := .glo "_law_lines") rfl)) T C_law_draw C_law_any
  exact ok_law (P := P) (w := w) (base := base) F_law C_law_hand C_law_any C_law_draw C_law_lines C_law_parts C_law_degrees C_law_poly C_law_box C_law_holds C_holds_in C_law_place C_law_worth T
end K25

set_option Elab.async false
set_option linter.all false
set_option maxRecDepth 100000
set_option maxHeartbeats 0
open PySem PySem.W PySem.Calls PyProof.Rows
theorem PySem.Challenge.cw_boxedroots_k25_whole_bounds_that_hold_holds : PySem.Challenge.rw_boxedroots_k25_whole_bounds_that_hold.Holds := by
  w_on; o_law
  refine HandSHeadRun.head_imp (r := OpenLaw.row PySem.Challenge.rw_boxedroots_k25_whole_bounds_that_hold) (q := view (OpenLaw.row PySem.Challenge.rw_boxedroots_k25_whole_bounds_that_hold).prog [0, 69]) (H := K25.hz) (ob := K25.ob) (M := 60000) (loose := K25.names) (d := HandSHeadRun.topDef (OpenLaw.row PySem.Challenge.rw_boxedroots_k25_whole_bounds_that_hold).prog 69) (kwd := []) K25.ob_eq K25.run
    (by kernel_rfl) (by kernel_rfl) (by kernel_rfl) (by rfl) (by first | assumption | decide +kernel) (by decide +kernel) ⟨rfl, rfl, rfl, rfl, rfl, by decide +kernel⟩ ?hw ?hc
  case hw => w_witness2
  case hc =>
    refine L2.walk_ofE (l := PySem.Challenge.rw_boxedroots_k25_whole_bounds_that_hold) (n := 63) (k := 16) (x := "_law_script") (CX := L2.CX0) rfl (by decide) (by kernel_rfl) ⟨rfl, by decide, by decide⟩ ?F (fun _ _ _ _ z => z)
    intro w mg fa h Y G hmg0
    obtain ⟨K, KX, c, c2⟩ := Y
    have hmg : mg ("law" : PySem.Str) = some (.ref fa) := by
      have e : (HandSHeadRun.topDef (OpenLaw.row PySem.Challenge.rw_boxedroots_k25_whole_bounds_that_hold).prog 69).name = ("law" : PySem.Str) := by kernel_rfl
      rw [← e]
      exact hmg0
    obtain ⟨fd, hb, hF⟩ := K25.facts (P := (PySem.Challenge.rw_boxedroots_k25_whole_bounds_that_hold).prog) (w := w) KX G hmg c c2
    exact ⟨K, fd, K25.spLaw K, KX, hb, fun H a ns hl _ hS => ⟨a, ns, rfl, hS, hl, fun _ => rfl⟩, hF⟩
