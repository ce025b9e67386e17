import PyProof.Rows.All
import Wide.All
import OpenK.AllK
import Wide.FinOn
import HandS.ForMost
import HandS.ForExc
import HandS.Conv
import HandS.TupSets
import HandS.DictTup
import HandS.DeepEq
import HandS.OwnEq
import KE.KDictPairs
import KE.KDictDisplayH
import KE.KDictItemsList
import HandS.ListItems
import HandS.DictEq
import HandS.ListEq
import KE.DataMinMax
import HandS.SortKw
import KE.KStateDown
import Lean
import HandS.Defaults
import HandS.IsInst
import HandS.Wide
import HandS.Walk
import HandS.Head0
import HandS.Head1
import HandS.Head2
import HandS.HeadEnd
import HandS.HeadHook1
import HandS.HeadHook2
import HandS.ExcInit
import HandS.ExcValue
import HandS.ExcIs
import HandS.TupLe
import HandS.TupMul
import HandS.TupAny
import HandS.TupLen
import HandS.Gcd
import HandS.Flow
import KE.KExcIs
import KE.GoesMore
import KE.GoesEnum
import KE.KDictCopyH
import HandS.DictComp
import HandS.FStr
import KE.KxField
import HandS.Strs
import HandS.SetBool
import HandS.RepeatKit
import HandS.Zip
import KE.GoesZip
import HandS.Finally
import PySem.Challenge.RW_boxedroots_k23_whole_counts_over_boxes
import HandS.Head3
import HandS.Style
import KE.KMathGC
import KE.BitLaws
import HandS.SetKeys
set_option Elab.async false
set_option linter.all false
set_option maxRecDepth 100000
set_option maxHeartbeats 4000000
/-! dicts whose keys are tuples of ints: sorted(d) -/
namespace DX
open PySem PySem.Spec PyProof.Rows L2
/-- a key of ints -/
abbrev ik (k : List Int) : List L2.Key := k.map Sum.inl
theorem ik_kV (k : List Int) : (ik k).map kV = k.map V.int := by
  rw [List.map_map]; rfl
theorem ik_inj {k l : List Int} (h : ik k = ik l) : k = l := by
  induction k generalizing l with
  | nil => cases l with
    | nil => rfl
    | cons => cases h
  | cons a k ih => cases l with
    | nil => cases h
    | cons b l =>
      rw [ik, ik, List.map_cons, List.map_cons] at h
      injection h with h1 h2
      injection h1 with h1
      rw [h1, ih h2]
theorem perm_lift {α β : Type} {f : α → β} {m n : List β} (h : m.Perm n) : ∀ l : List α, l.map f = n → ∃ l' : List α, l'.map f = m ∧ l'.Perm l := by
  induction h with
  | nil => intro l e; exact ⟨l, e, .refl l⟩
  | @cons x m n _ ih =>
    intro l e
    cases l with
    | nil => cases e
    | cons a l =>
      rw [List.map_cons] at e
      injection e with e1 e2
      obtain ⟨l', g1, g2⟩ := ih l e2
      exact ⟨a :: l', by rw [List.map_cons, e1, g1], g2.cons a⟩
  | swap x y m =>
    intro l e
    match l, e with
    | a :: b :: l, e =>
      rw [List.map_cons, List.map_cons] at e
      injection e with e1 e2
      injection e2 with e2 e3
      exact ⟨b :: a :: l, by rw [List.map_cons, List.map_cons, e1, e2, e3], .swap a b l⟩
  | trans _ _ ih1 ih2 =>
    intro l e
    obtain ⟨l1, g1, g2⟩ := ih2 l e
    obtain ⟨l2, g3, g4⟩ := ih1 l1 g1
    exact ⟨l2, g3, g4.trans g2⟩
/-- the tuple of the ints k stands at b -/
abbrev KAt (H : Hp) (b : Addr) (k : List Int) : Prop := H b = some (.tup (k.map V.int))
def rSortDT (d : Nat) (B : Int) : List V → Hp → VK → Prop := fun vs H Q => ∃ (a : Addr) (kvs : List (List L2.Key × V)) (ks : List (List Int)), vs = [.ref a] ∧ Rd H a (.dT kvs) ∧ kvs.map (·.1) = ks.map ik ∧ ks.length < 64 ∧ (∀ k ∈ ks, k.length = d ∧ TS.Bd B k) ∧
  ∀ (bs : List Addr) (ks' : List (List Int)) (p : Addr), ks'.Perm ks → ks'.Pairwise (fun m n => TS.code B m ≤ TS.code B n) → Paired (KAt H) bs ks' → H p = none → Q (.ref p) (upd H p (.lst (bs.map V.ref)))
/-- the pairs (address, key) of a dict -/
theorem keys_at {H : Hp} : ∀ {kvs : List (List L2.Key × V)} {xs : List (List L2.Key × Addr × Value)} {ks : List (List Int)}, KT H kvs xs → kvs.map (·.1) = ks.map ik → ∃ L : List (Addr × List Int), L.map (·.2) = ks ∧ L.map (·.1) = xs.map (fun x => x.2.1) ∧ ∀ q ∈ L, KAt H q.1 q.2
  | [], _, ks, .nil, e => by
    cases ks with
    | nil => exact ⟨[], rfl, rfl, fun q hq => by cases hq⟩
    | cons => cases e
  | p :: kvs, x :: xs, ks, .cons h t, e => by
    cases ks with
    | nil => cases e
    | cons k ks =>
      rw [List.map_cons, List.map_cons] at e
      injection e with e1 e2
      obtain ⟨L, g1, g2, g3⟩ := keys_at t e2
      refine ⟨(x.2.1, k) :: L, by rw [List.map_cons, g1], by rw [List.map_cons, List.map_cons, g2], fun q hq => ?_⟩
      rcases List.mem_cons.mp hq with z | z
      · rw [z]
        have := h.2.1
        rw [e1, ik_kV] at this
        exact this
      · exact g3 q z
section
variable {X : Cx}
theorem tup_raw {pins : List (Addr × Obj)} {σ : L2.St} {H : Hp} {s : Shared} (I : Inv X pins σ H s) {t : Addr} {ns : List Int} (h : KAt H t ns) : TS.TupInts s.heap (.ref t) ns := tupI_raw I (SqT.of h)
theorem cr_sortDT (hc : X.calm = true) {d : Nat} {B : Int} (hd : 1 ≤ d) : CallR X (.builtin "sorted") (rSortDT d B) := by
  intro pins s σ H vs us Q I r q
  obtain ⟨a, kvs, ks, rfl, rd, hks, h64, hB, q⟩ := q
  obtain ⟨u, rfl, ru⟩ := r.one
  cases ru
  obtain ⟨z, lo, xs, rel, o, es, ep, ho, hx, hdt, he, hn⟩ := (show ObjOk X.prog X.w H s.heap a (.dT kvs) from rd.ok I.hok)
  obtain ⟨L, g1, g2, g3⟩ := keys_at rel hks
  have lx : xs.length = ks.length := by
    have e := congrArg List.length hks
    rw [List.length_map, List.length_map] at e
    rw [← Paired.length rel, e]
  have le : es.size = xs.length := size_of_entries he
  refine Calls.call_function_entry kind_sorted plain_sorted entry_sorted (args_sorted1 _) ?_
  unfold Builtin.«sorted»
  refine wpAny_bind (m := checkCount "sorted" 1 1 _) (wpAny_pure ?_)
  refine wpAny_bind (PySem.W.kdu_collect (A := X.A.in1) (kdl_raw lo hx hdt) (I.ok.hd hc) ho (by rw [le, lx, sizeLine_eq]; omega) fun h' tk acc hk hacc => ?_)
  have hal : acc.toList.length = ks.length := by rw [Array.length_toList, hacc.1, le, lx]
  have hL : L.length = ks.length := by rw [← g1, List.length_map]
  have ev : L.map (fun q => Value.ref q.1) = acc.toList := by
    refine List.ext_getElem? fun j => ?_
    cases hj : acc.toList[j]? with
    | none =>
      have := List.getElem?_eq_none_iff.mp hj
      rw [List.getElem?_eq_none_iff, List.length_map]
      omega
    | some v =>
      obtain ⟨en, hen, hv⟩ := hacc.2 j v (by rw [← Array.getElem?_toList]; exact hj)
      have qe := entry_at he j
      rw [hen] at qe
      have hx1 : (xs.map fun x => x.2.1)[j]? = (L.map (·.1))[j]? := by rw [g2]
      rw [List.getElem?_map, List.getElem?_map] at hx1
      cases hb : xs[j]? with
      | none => rw [hb] at qe; cases qe
      | some b =>
        rw [hb] at qe hx1
        have e2 : en = entryOfKey (tupleKind (mixKind X.prog X.w)) b := Option.some.inj qe
        cases hq : L[j]? with
        | none => rw [hq] at hx1; cases hx1
        | some p =>
          rw [hq] at hx1
          have e3 : b.2.1 = p.1 := Option.some.inj hx1
          rw [List.getElem?_map, hq, hv, e2]
          show some (Value.ref p.1) = some (Value.ref b.2.1)
          rw [e3]
  have I1 : Inv X pins σ H { s with heap := h', toks := tk } := I.kept hk
  refine wpAny_bind (wpAny_newList ?_ (by rw [hal, sizeLine_eq]; omega))
  have ho2 : (h'.push (seqObj "list" acc.toList.toArray 0)).get? h'.objs.size = some (seqObj "list" acc.toList.toArray 0) := Heap.get?_push_size _ rfl
  have I2 : Inv X pins σ H { s with heap := h'.push (seqObj "list" acc.toList.toArray 0), toks := tk } := I1.kept (t' := tk) fun b ob e => Heap.get?_push_of_some _ e
  have ok : TS.TupsOk (h'.push (seqObj "list" acc.toList.toArray 0)) d B acc.toList := fun v hv => by
    rw [← ev] at hv
    obtain ⟨p, hp, rfl⟩ := List.mem_map.mp hv
    have hm : p.2 ∈ ks := by rw [← g1]; exact List.mem_map.mpr ⟨p, hp, rfl⟩
    exact ⟨p.2, tup_raw I2 (g3 p hp), (hB _ hm).1, (hB _ hm).2⟩
  show wpAny _ _ _ _ _ { s with heap := h'.push (seqObj "list" acc.toList.toArray 0), toks := tk }
  refine wpAny_bind (wpAny_holding (TS.call_sort_tups (s := { s with heap := h'.push (seqObj "list" acc.toList.toArray 0), toks := tk }) ho2 (by rw [hal]; exact h64) hd ok fun out a1 a2 => ?_))
  obtain ⟨c, hc2⟩ := PyProof.Rows.sortedHeap_at (vs := acc.toList) (out := out) ho2
  obtain ⟨L', e1, e2⟩ := perm_lift a1 L ev
  have hz : (L'.map fun p => V.ref p.1).length ≤ sizeLine := by rw [List.length_map, e2.length_eq, hL, sizeLine_eq]; omega
  have pr : Paired (KAt H) (L'.map (·.1)) (L'.map (·.2)) := by
    have key : ∀ M : List (Addr × List Int), (∀ p ∈ M, p ∈ L) → Paired (KAt H) (M.map (·.1)) (M.map (·.2)) := by
      intro M
      induction M with
      | nil => intro _; exact .nil
      | cons p M ih => exact fun hM => .cons (g3 p (hM p List.mem_cons_self)) (ih fun x hx => hM x (List.mem_cons_of_mem _ hx))
    exact key L' fun p hp => e2.mem_iff.mp hp
  have q1 := q (L'.map (·.1)) (L'.map (·.2)) h'.objs.size (by rw [← g1]; exact e2.map _) (by
    rw [List.pairwise_map]
    rw [← e1] at a2
    refine List.Pairwise.imp_of_mem (fun {u v} hu hv h => ?_) (List.pairwise_map.mp a2)
    have f1 := (tup_raw I2 (g3 u (e2.mem_iff.mp hu))).ints
    have f2 := (tup_raw I2 (g3 v (e2.mem_iff.mp hv))).ints
    rw [← f1, ← f2]
    exact h) pr (I1.hok.fresh (Nat.le_refl _))
  rw [List.map_map] at q1
  have q2 : Q (.ref h'.objs.size) (upd H h'.objs.size (.lst (L'.map fun p => V.ref p.1))) := q1
  refine wpAny_pure ⟨_, rfl, .ref h'.objs.size, upd H h'.objs.size (.lst (L'.map fun p => V.ref p.1)), I1.laid (t' := tk) (fun b ob e => ?_) (Nat.le_refl _) ⟨hz, out.toList, c, ?_, by rw [Array.toArray_toList]; exact hc2⟩, rfl, q2⟩
  · have hb : b < h'.objs.size := Heap.lt_size e
    rw [PyProof.Rows.sortedHeap_old (Nat.ne_of_lt hb) (by rw [size_push']; exact Nat.lt_succ_of_lt hb)]
    exact Heap.get?_push_of_some _ e
  · rw [← e1]
    have key : ∀ M : List (Addr × List Int), Vals (M.map fun p => V.ref p.1) (M.map fun p => Value.ref p.1) := by
      intro M
      induction M with
      | nil => exact .nil
      | cons p M ih => exact .cons rfl ih
    exact key L'
end
end DX

set_option Elab.async false
set_option linter.all false
set_option maxRecDepth 100000
set_option maxHeartbeats 4000000
/-! dicts whose keys are tuples: dict(pairs), {k: v}, list(d.items()) -/
namespace DX
open PySem PySem.Spec PyProof.Rows L2
/-- a key, its tuple's place, what stands at it -/
abbrev Ent := List L2.Key × Addr × V
abbrev entK (es : List Ent) : List (List L2.Key × V) := es.map fun e => (e.1, e.2.2)
/-- pairs put one behind the other -/
def mT (kvs : List (List L2.Key × V)) (more : List (List L2.Key × V)) : List (List L2.Key × V) := more.foldl (fun acc kv => putK acc kv.1 kv.2) kvs
theorem length_mT : ∀ (more kvs : List (List L2.Key × V)), (mT kvs more).length ≤ kvs.length + more.length
  | [], kvs => Nat.le_refl _
  | p :: r, kvs => by
    have h1 := length_mT r (putK kvs p.1 p.2)
    have h2 := length_putK kvs p.1 p.2
    have e : mT kvs (p :: r) = mT (putK kvs p.1 p.2) r := rfl
    rw [e, List.length_cons]
    omega
/-- the key's tuple stands -/
abbrev KeyAt (H : Hp) (e : Ent) : Prop := H e.2.1 = some (.tup (e.1.map kV))
theorem kt_all {H : Hp} : ∀ {es : List Ent} {rs : List (List L2.Key × Addr × Value)} {kvs : List (List L2.Key × V)} {xs : List (List L2.Key × Addr × Value)}, Paired (fun (e : Ent) (r : List L2.Key × Addr × Value) => e.1 = r.1 ∧ e.2.1 = r.2.1 ∧ KeyAt H e ∧ RelV e.2.2 r.2.2) es rs → KT H kvs xs →
    KT H (mT kvs (entK es)) (storedAllH xs rs)
  | _, _, _, _, .nil, k => k
  | e :: es, r :: rs, kvs, xs, .cons h t, k => by
    obtain ⟨h1, h2, h3, h4⟩ := h
    have k1 : KT H (putK kvs e.1 e.2.2) (storedH xs r.1 r.2.1 r.2.2) := by
      have z := k.put e.1 h3 h4
      rw [h2] at z
      rw [← h1]
      exact z
    have z := kt_all t k1
    exact z
section
variable {X : Cx}
/-- what the pairs of the list are, by the heap -/
theorem raw_pairs {pins : List (Addr × Obj)} {σ : L2.St} {H : Hp} {s : Shared} (I : Inv X pins σ H s) : ∀ {ps : List Addr} {es : List Ent}, Paired (fun p (e : Ent) => SqT X.K H p [.ref e.2.1, e.2.2] ∧ KeyAt H e) ps es →
    ∃ rs : List (List L2.Key × Addr × Value), Paired (fun (e : Ent) (r : List L2.Key × Addr × Value) => e.1 = r.1 ∧ e.2.1 = r.2.1 ∧ KeyAt H e ∧ RelV e.2.2 r.2.2) es rs ∧ rs.length = ps.length ∧
      (∀ (j : Nat) (r : List L2.Key × Addr × Value), rs[j]? = some r → ∃ b, ps[j]? = some b ∧ s.heap.IsTuple b #[.ref r.2.1, r.2.2]) ∧ ∀ r ∈ rs, (tupleKind (mixKind X.prog X.w)).is s.heap r.1 r.2.1
  | _, _, .nil => ⟨[], .nil, rfl, (fun j r e => by cases e), (fun r hr => by cases hr)⟩
  | p :: ps, e :: es, .cons h t => by
    obtain ⟨rs, g1, g2, g3, g4⟩ := raw_pairs I t
    obtain ⟨its, rv, ht, _⟩ := I.tuple h.1
    obtain ⟨u, y, ei, ru, ry⟩ := vals2 rv
    subst ei
    cases ru
    refine ⟨(e.1, e.2.1, y) :: rs, .cons ⟨rfl, rfl, h.2, ry⟩ g1, by rw [List.length_cons, List.length_cons, g2], fun j r q => ?_, fun r hr => ?_⟩
    · cases j with
      | zero =>
        cases Option.some.inj q
        exact ⟨p, rfl, ht⟩
      | succ j => exact g3 j r q
    · rcases List.mem_cons.mp hr with z | z
      · rw [z]
        exact key_of I.hok h.2
      · exact g4 r z
def rDictT (K : PySem.W.Frag) : List V → Hp → VK → Prop := fun xs H Q => ∃ (a : Addr) (ps : List Addr) (es : List Ent), xs = [.ref a] ∧ SqL K H a (ps.map V.ref) ∧ Paired (fun p (e : Ent) => SqT K H p [.ref e.2.1, e.2.2] ∧ KeyAt H e) ps es ∧
  ∀ p, H p = none → Q (.ref p) (upd H p (.dT (mT [] (entK es))))
theorem call_dictPT (hc : X.calm = true) (hu : X.A.units + 2 < cLine) : CallR X (.type "dict") (rDictT X.K) := by
  intro pins s σ H xs us Q I r q
  obtain ⟨a, ps, es, rfl, hl, hp, q⟩ := q
  obtain ⟨u, rfl, ru⟩ := r.one
  cases ru
  obtain ⟨its, rv, pl, hz⟩ := I.list hl
  have ei := refs_at rv
  subst ei
  rw [List.length_map] at hz
  obtain ⟨rs, g1, g2, g3, g4⟩ := raw_pairs I hp
  obtain ⟨o, n, ho, hco, hdo, hdat⟩ := pl
  have pi : PairItems s.heap (ps.map Value.ref).toArray (fun j => ps.getD j 0) (rs.map fun r => (Value.ref r.2.1, r.2.2)) := by
    refine ⟨by simp [g2], fun j k v e => ?_⟩
    rw [List.getElem?_map] at e
    cases e1 : rs[j]? with
    | none => rw [e1] at e; cases e
    | some r =>
      rw [e1] at e
      cases Option.some.inj e
      obtain ⟨b, f1, f2⟩ := g3 j r e1
      have f3 : ps.getD j 0 = b := by rw [List.getD_eq_getElem?_getD, f1]; rfl
      show _ ∧ PairAt s.heap (ps.getD j 0) _ _
      rw [f3]
      exact ⟨by simp [f1, f3], .inl f2⟩
  have big : ∀ b ob, s.heap.get? b = some ob → b ≠ s.heap.objs.size := fun b ob e => Nat.ne_of_lt (Heap.lt_size e)
  refine call_dict_pairsH (knd := tupleKind (mixKind X.prog X.w)) (ps := rs) (PairArg.list a (ps.map Value.ref).toArray (fun j => ps.getD j 0) (rs.map fun r => (Value.ref r.2.1, r.2.2))) (I.ok.hd hc) (by show X.A.units + 1 + 1 < cLine; omega) ⟨⟨o, n, ho, hco, hdo, hdat⟩, pi⟩ ⟨by rw [List.length_map], fun i key v e => ?_⟩ (fun h' hk x hx => ?_) (by rw [List.length_map, g2]; exact hz) fun h' tk hd' hk => ?_
  · have e' : (rs.map fun r => (Value.ref r.2.1, r.2.2))[i]? = some (key, v) := e
    rw [List.getElem?_map] at e'
    cases e1 : rs[i]? with
    | none => rw [e1] at e'; cases e'
    | some r =>
      rw [e1] at e'
      cases Option.some.inj e'
      exact ⟨r.1, r.2.1, rfl, rfl⟩
  · exact PySem.tupleKind_stays.stays (h := s.heap) (fun b ob vs m e _ => hk b ob (big b ob e) (fun z => nomatch z) e) (g4 x hx)
  · have kt : KT H (mT [] (entK es)) (storedAllH [] rs) := kt_all g1 .nil
    have hm : (s.heap.objs.size == sysModules) = false := beq_eq_false_iff_ne.mpr (Nat.ne_of_gt I.big)
    have hlen : (mT [] (entK es)).length ≤ sizeLine := by
      have z := length_mT (entK es) []
      rw [List.length_nil, Nat.zero_add, List.length_map] at z
      have z2 : es.length = rs.length := Paired.length g1
      omega
    have hn := I.hok.fresh (Nat.le_refl s.heap.objs.size)
    obtain ⟨od, eds, ep, f1, f2, f3, f4, f5, f6⟩ := hd'
    refine ⟨.ref s.heap.objs.size, upd H s.heap.objs.size (.dT (mT [] (entK es))), I.laid (t' := tk) (fun b ob e => hk b ob (fun z => nomatch z) e) (Nat.le_refl _) ⟨hlen, hm, _, kt.keeps fun b ys e => ?_, od, eds, ep, f1, f2, f3, f4, f6⟩, rfl, q _ hn⟩
    rw [upd_ne (ne_of_none e hn)]
    exact e
/-- {t: v}, t a tuple -/
def tDispT (trs : List (TE × TE)) : TE := fun σ H Q => ∀ p, H p = none → tPairs trs σ (upd H p (.dT [])) fun ps H2 => H2 p = some (.dT []) ∧ ∃ es : List Ent, ps = es.map (fun e => (V.ref e.2.1, e.2.2)) ∧ es.length ≤ 15 ∧ (∀ e ∈ es, KeyAt H2 e) ∧ Q (.ref p) (upd H2 p (.dT (mT [] (entK es))))
theorem carriesT {P : Program} {w : World} {H : Hp} {h : Heap} (ok : HOk P w H h) : ∀ {es : List Ent} {ws : List (Value × Value)}, VV (es.map fun e => (V.ref e.2.1, e.2.2)) ws → (∀ e ∈ es, KeyAt H e) →
    ∃ rs, CarriesH (tupleKind (mixKind P w)) h ws rs ∧ Paired (fun (e : Ent) (r : List L2.Key × Addr × Value) => e.1 = r.1 ∧ e.2.1 = r.2.1 ∧ KeyAt H e ∧ RelV e.2.2 r.2.2) es rs
  | [], _, r, _ => by
    rw [List.map_nil] at r
    cases r
    exact ⟨[], True.intro, .nil⟩
  | e :: es, _, r, hk => by
    rw [List.map_cons] at r
    cases r with
    | @cons a b as bs h t =>
      obtain ⟨rs, c, q⟩ := carriesT ok t fun x hx => hk x (List.mem_cons_of_mem _ hx)
      obtain ⟨b1, b2⟩ := b
      obtain ⟨h1, h2⟩ := h
      cases (show b1 = Value.ref e.2.1 from h1)
      have ke := hk e List.mem_cons_self
      exact ⟨(e.1, e.2.1, b2) :: rs, ⟨rfl, rfl, key_of ok ke, c⟩, .cons ⟨rfl, rfl, ke, h2⟩ q⟩
theorem pe_dispT {pos : Pos} {keys : List (Option Expr)} {values : List Expr} {trs : List (TE × TE)} (hu : X.A.units < cLine) (h : PPs X pos keys values trs) (hall : keys.all (·.isSome) = true) (hl : keys.length = values.length) (h0 : keys ≠ [])
    (h15 : keys.length ≤ 15) : PE X (.Dict keys values pos) (tDispT trs) := by
  refine ⟨fun pins s σ H Q I q => ?_⟩
  have hn := I.hok.fresh (Nat.le_refl s.heap.objs.size)
  have I1 := I.laid (a := s.heap.objs.size) (o := .dT []) (h' := s.heap.push { cls := .type "dict", data := .dict #[] }) (t' := s.toks) (fun _ _ q => Heap.get?_push_of_some _ q) (Nat.le_refl _) (dt_empty s.heap I.big)
  have hln := pairTrees_length keys values X.env pos hall hl
  have hne : pairTrees keys values X.env pos ≠ [] := fun e => h0 (List.length_eq_zero_iff.mp (by rw [← hln, e]; rfl))
  rw [arm_eval_Dict, zip_pairTrees keys values X.env pos hall hl, dictDisplay_pairs _ hne (by omega)]
  refine wpAny_bind (wpAny_standAt (wpAny_bind ?_))
  refine wpAny_subDictH (knd := tupleKind (mixKind X.prog X.w)) hu (by rw [hln]; exact h15) (thn (h.run pins _ σ _ _ I1 (q _ hn)) fun ws s2 ⟨ps, H2, I2, rel, e, es, ep, lk, ka, q2⟩ => ?_)
  subst ep
  obtain ⟨rs, c, rk⟩ := carriesT I2.hok rel ka
  obtain ⟨z, hd, xs0, r0, dd⟩ := dt_of I2.hok e
  cases r0
  refine ⟨rs, c, dd, fun h' tk dd' hs => wpAny_pure ⟨.ref s.heap.objs.size, _, ?_, rfl, q2⟩⟩
  have kt : KT H2 (mT [] (entK es)) (storedAllH [] rs) := kt_all rk .nil
  have hz : (mT [] (entK es)).length ≤ sizeLine := by
    have z := length_mT (entK es) []
    rw [List.length_nil, Nat.zero_add, List.length_map] at z
    rw [sizeLine_eq]
    omega
  obtain ⟨od, eds, ep, f1, f2, f3, f4, f5, f6⟩ := dd'
  refine d_write I2 (by rw [e]; exact True.intro) hs ⟨od, f1⟩ ⟨hz, hd, _, kt.keeps fun b ys eb => ?_, od, eds, ep, f1, f2, f3, f4, f6⟩
  rw [upd_ne (ne_of eb e (fun z => nomatch z))]
  exact eb
/-! list(d.items()) -/
/-- tuples put at their places -/
def putA : Hp → List (Addr × List V) → Hp
  | H, [] => H
  | H, p :: r => putA (upd H p.1 (.tup p.2)) r
theorem putA_off {b : Addr} : ∀ (ps : List (Addr × List V)) (H : Hp), b ∉ ps.map (·.1) → putA H ps b = H b
  | [], _, _ => rfl
  | p :: r, H, h => by
    rw [List.map_cons, List.mem_cons, not_or] at h
    show putA (upd H p.1 (.tup p.2)) r b = H b
    rw [putA_off r _ h.2, upd_ne h.1]
theorem putA_at : ∀ (ps : List (Addr × List V)) (H : Hp), (ps.map (·.1)).Nodup → ∀ p ∈ ps, putA H ps p.1 = some (.tup p.2)
  | [], _, _, p, hp => by cases hp
  | q :: r, H, nd, p, hp => by
    rw [List.map_cons, List.nodup_cons] at nd
    show putA (upd H q.1 (.tup q.2)) r p.1 = _
    rcases List.mem_cons.mp hp with e | hp
    · rw [e, putA_off r _ nd.1, upd_same]
    · exact putA_at r _ nd.2 p hp
/-- the entries by their places -/
theorem ents_of {H : Hp} : ∀ {kvs : List (List L2.Key × V)} {xs : List (List L2.Key × Addr × Value)}, KT H kvs xs → ∃ es : List Ent, entK es = kvs ∧ (∀ e ∈ es, KeyAt H e) ∧ Paired (fun (e : Ent) (x : List L2.Key × Addr × Value) => e.2.1 = x.2.1 ∧ RelV e.2.2 x.2.2) es xs
  | _, _, .nil => ⟨[], rfl, (fun e he => by cases he), .nil⟩
  | p :: kvs, x :: xs, .cons h t => by
    obtain ⟨es, g1, g2, g3⟩ := ents_of t
    refine ⟨(p.1, x.2.1, p.2) :: es, by rw [entK, List.map_cons]; exact congrArg _ g1, fun e he => ?_, .cons ⟨rfl, h.2.2⟩ g3⟩
    rcases List.mem_cons.mp he with z | z
    · rw [z]
      exact h.2.1
    · exact g2 e z
def rItemsT : V → Hp → VK → Prop := fun x H Q => ∃ (d : Addr) (kvs : List (List L2.Key × V)), x = .ref d ∧ Rd H d (.dT kvs) ∧
  ∀ (H' : Hp) (p : Addr) (ts : List Addr) (es : List Ent), Same H H' → H p = none → H' p = some (.lst (ts.map V.ref)) → entK es = kvs → (∀ e ∈ es, KeyAt H e) → Paired (fun t (e : Ent) => H' t = some (.tup [.ref e.2.1, e.2.2])) ts es → Q (.ref p) H'
def tListItemsT (te : TE) : TE := fun σ H Q => te σ H fun x H1 => rItemsT x H1 Q
theorem laidT {pins : List (Addr × Obj)} {σ : L2.St} {H : Hp} {s : Shared} {h' : Heap} {tk : Nat} {kvs : List (List L2.Key × V)} {xs : List (List L2.Key × Addr × Value)} {eds : Array DictEntry} {acc : Array Value} {c : Nat} {as : List Addr} (I : Inv X pins σ H s) (hz : kvs.length ≤ sizeLine) (kt : KT H kvs xs)
    (he : eds.toList = xs.map (entryOfKey (tupleKind (mixKind X.prog X.w)))) (hk : ∀ b o, s.heap.get? b = some o → h'.get? b = some o) (hS : h'.get? s.heap.objs.size = some { cls := .type "list", dict := none, data := .seq acc c, slots := #[] }) (hl : as.length = eds.size) (hG : PySem.W.DilG eds s.heap.objs.size h' as) (hacc : acc.toList = as.map Value.ref) :
    ∃ (H' : Hp) (es : List Ent), Same H H' ∧ H s.heap.objs.size = none ∧ H' s.heap.objs.size = some (.lst (as.map V.ref)) ∧ entK es = kvs ∧ (∀ e ∈ es, KeyAt H e) ∧ Paired (fun t (e : Ent) => H' t = some (.tup [.ref e.2.1, e.2.2])) as es ∧ Inv X pins σ H' { s with heap := h', toks := tk } := by
  obtain ⟨es, g1, g2, g3⟩ := ents_of kt
  have lx : eds.size = xs.length := size_of_entries he
  have le : es.length = xs.length := Paired.length g3
  have la : as.length = es.length := by omega
  have lk : kvs.length = es.length := by rw [← g1, List.length_map]
  have n0 : H s.heap.objs.size = none := I.hok.fresh (Nat.le_refl _)
  have nn : ∀ t ∈ as, H t = none := fun t ht => I.hok.fresh (Nat.le_of_lt (hG.above t ht))
  have ns : s.heap.objs.size ∉ as := fun z => Nat.lt_irrefl _ (hG.above _ z)
  have nd : as.Nodup := List.Pairwise.imp (fun {a b} (h : a < b) => Nat.ne_of_lt h) hG.rise
  let ps : List (Addr × List V) := as.zip (es.map fun e => [V.ref e.2.1, e.2.2])
  have p1 : ps.map (·.1) = as := List.map_fst_zip (by rw [List.length_map]; omega)
  let H1 := upd H s.heap.objs.size (.lst (as.map V.ref))
  let H' := putA H1 ps
  have off : ∀ b, b ∉ as → H' b = H1 b := fun b hb => putA_off ps H1 (by rw [p1]; exact hb)
  have at' : ∀ p ∈ ps, H' p.1 = some (.tup p.2) := putA_at ps H1 (by rw [p1]; exact nd)
  have sm : Same H H' := fun b o e => by
    rw [off b (fun z => by rw [nn b z] at e; cases e)]
    show upd H s.heap.objs.size _ b = _
    rw [upd_ne (ne_of_none e n0)]
    exact e
  have eS : H' s.heap.objs.size = some (.lst (as.map V.ref)) := by rw [off _ ns]; exact upd_same
  have pr : Paired (fun t (e : Ent) => H' t = some (.tup [.ref e.2.1, e.2.2])) as es := by
    have key : ∀ (as : List Addr) (es : List Ent), as.length = es.length → (∀ p ∈ as.zip (es.map fun e => [V.ref e.2.1, e.2.2]), H' p.1 = some (.tup p.2)) → Paired (fun t (e : Ent) => H' t = some (.tup [.ref e.2.1, e.2.2])) as es := by
      intro as
      induction as with
      | nil =>
        intro es h _
        cases es with
        | nil => exact .nil
        | cons => cases h
      | cons a as ih =>
        intro es h hp
        cases es with
        | nil => cases h
        | cons e es => exact .cons (hp (a, [V.ref e.2.1, e.2.2]) List.mem_cons_self) (ih es (Nat.succ.inj h) fun p hm => hp p (List.mem_cons_of_mem _ hm))
    exact key as es la at'
  have low : ∀ b o, s.heap.get? b = some o → b ∉ as ∧ b ≠ s.heap.objs.size := fun b o e => ⟨fun z => absurd (Heap.lt_size e) (Nat.not_lt.mpr (Nat.le_of_lt (hG.above b z))), Nat.ne_of_lt (Heap.lt_size e)⟩
  refine ⟨H', es, sm, n0, eS, g1, g2, pr, ?_⟩
  refine I.call' (ch := []) rfl ⟨fun b o q _ _ _ => hk b o q, fun b o q _ _ _ => ⟨o.slots, hk b o q⟩, fun b o q n _ => ?_, fun b o q _ => ⟨o, hk b o q⟩, fun b xs q => sm b _ q, fun b o u q => sm b _ q, fun b ps q => ⟨#[], by rw [sm b _ q]; simp⟩⟩ (fun b u q => ?_) I.bare fun b z => by simp at z
  · obtain ⟨z1, z2⟩ := low b o q
    rw [off b z1]
    show upd H s.heap.objs.size _ b = _
    rw [upd_ne z2]
    exact n
  · by_cases hb : b ∈ as
    · obtain ⟨j, hj⟩ := List.mem_iff_getElem?.mp hb
      obtain ⟨e, hej, he2⟩ := LiI.paired_get pr hj
      rw [he2] at q
      cases q
      obtain ⟨x, hxj, hx1, hx2⟩ := LiI.paired_get g3 hej
      obtain ⟨hjl, ho⟩ := hG.pairs j b hj
      have ee := entry_at he j
      rw [Array.getElem?_eq_getElem hjl, hxj] at ee
      have ee := Option.some.inj ee
      rw [ee] at ho
      refine ⟨by show 2 ≤ sizeLine; decide, [.ref x.2.1, x.2.2], .cons (by rw [hx1]; rfl) (.cons hx2 .nil), ⟨_, ho, rfl, _, rfl⟩⟩
    · by_cases hb2 : b = s.heap.objs.size
      · rw [hb2] at q ⊢
        rw [eS] at q
        cases q
        refine ⟨by rw [List.length_map]; omega, acc.toList, c, by rw [hacc]; exact LiI.vals_refs as, ?_⟩
        rw [Array.toArray_toList]
        exact hS
      · have e1 : H' b = H b := by
          rw [off b hb]
          exact upd_ne hb2
        rw [e1] at q
        exact (I.hok b u q).stay (fun d v _ y => hk d v y) (fun d y => sm d _ y) fun d xs y => sm d _ y
variable {e : Expr} {te : TE} {p apos cpos pos : Pos}
theorem pe_listItemsT (hc : X.calm = true) (he : PE X e te) (hg : Gl X "list") (hm : X.mg "list" = none) (hv : bootBuiltins "list" = some (.type "list")) (hbase : attributeBase e "items" X.env (eval e X.env) = eval e X.env := by rfl) (hline : (apos.endLine == cpos.line) = true := by rfl)
    (hs : starEach [.Call (.Attribute e "items" apos) [] [] cpos] X.env = (false, eval (.Call (.Attribute e "items" apos) [] [] cpos) X.env) :: starEach [] X.env := by rfl) :
    PE X (.Call (.Name "list" p) [.Call (.Attribute e "items" apos) [] [] cpos] [] pos) (tListItemsT te) := by
  refine ⟨fun pins s σ H Q I hq => ?_⟩
  refine wpAny_Call_Name_kw (ld_blt I hg hm hv (callWith_type1 ?_ hs rfl))
  rw [hs]
  refine Calls.spliced_cons (wpAny_Call_method (T := "dict") (id := "dict.items") hbase rfl hline F.plainAttrs_dict F.slot_dict_items F.type_dict_items (thn (he.run pins s σ H _ I hq) fun u s1 ⟨x, H1, I1, rx, d, kvs, ex, hd, q⟩ => ?_))
  subst ex
  obtain rfl : u = Value.ref d := rx
  obtain ⟨hz, lo, xs, kt, o, eds, ep, ho, hx, hdt, hen, hnd⟩ := (show ObjOk X.prog X.w H1 s1.heap d (.dT kvs) from hd.ok I1.hok)
  have raw : s1.heap.DictRaw d eds ep := ⟨o, ho, hx, hdt⟩
  have I2 : Inv X pins σ H1 { s1 with heap := s1.heap.push { cls := .type "dict_items", data := .fields #[.ref d] } } := I1.kept (t' := s1.toks) fun b ob q => Heap.get?_push_of_some _ q
  have lx : eds.size = xs.length := size_of_entries hen
  have lk : kvs.length = xs.length := Paired.length kt
  refine ⟨raw.typeIs, fun b q => by cases q; exact ⟨o, ho, hx.2.1⟩, ?_⟩
  show wpAny _ _ (callWith cpos (.builtin "dict.items") [.ref d] [] []) _ X.xe s1
  refine method_meetsIn F.slot_dict_items F.entry_dict_items rfl (PySem.evalArgs_none ⟨rfl, raw.typeIs, F.args_dict_items_1 _, _, DT.meetsItems (es := eds) (ep := ep) lo, ⟨⟨o, ho, hx, hdt⟩, ?_⟩⟩)
  refine Calls.spliced_nil ?_
  refine PySem.W.dil_call (es := eds) (ep := ep) (I1.ok.hd hc) ⟨_, Heap.get?_push_size _ rfl, rfl, rfl⟩ (raw.at fun ob e => Heap.get?_push_of_some _ e) (by omega) fun h' tk acc c as hk hS hl hG hacc => ?_
  obtain ⟨H', es, k1, k2, k3, k4, k5, k6, J⟩ := laidT (tk := tk) I2 hz kt hen hk hS hl hG hacc
  exact ⟨.ref _, H', J, rfl, q H' _ as es k1 k2 k3 k4 k5 k6⟩
end
end DX

set_option Elab.async false
set_option linter.all false
set_option maxRecDepth 100000
set_option maxHeartbeats 4000000
/-! == with either answer: lists, tuples, dicts with tuple keys -/
namespace DX
open PySem PySem.Spec PyProof.Rows L2
section
variable {P : Program} {w : World} {κ : Type} [DecidableEq κ] {knd : HeapKind P w κ} {A : Around} {E : Value → Shared → Prop} {s : Shared}
theorem same_run {nm : String} {a b : Addr} {xs ys : List (κ × Addr × Value)} {e : κ × Addr × Value → Bool} {Q : Bool → Shared → Prop} (ha : (a == sysModules) = false) (hb : (b == sysModules) = false) (hu : knd.room A)
    (da : s.heap.DictOfH knd a xs) (db : s.heap.DictOfH knd b ys) (he : ∀ x ∈ xs, (atKey ys x.1 = none ∧ e x = false) ∨ ∃ p, atKey ys x.1 = some p ∧ SeqAt.EqP P w A s x.2.2 p.2 (e x))
    (h : Q (xs.length == ys.length && xs.all e) s) : wpAny (model P w) A (Builtin.Dict.samePairs nm a b) Q E s := by
  obtain ⟨oa, es, ep, ga, _, va, ea, ia, na⟩ := da
  obtain ⟨ob, fs, ep', gb, _, vb, eb, ib, nb⟩ := db
  have la : es.size = xs.length := size_of_entries ea
  have lb : fs.size = ys.length := size_of_entries eb
  unfold Builtin.Dict.samePairs Builtin.Dict.showsAll
  rw [if_neg (by rw [ha]; decide), if_neg (by rw [hb]; decide)]
  refine wpAny_bind (wpAny_pure (wpAny_bind (wpAny_pure (wpAny_bind (wpAny_dictEntries ga va ?_)))))
  dsimp only
  refine wpAny_bind (wpAny_dictEntries gb vb ?_)
  by_cases z : es.size = fs.size
  · have h1 : Q (xs.all e) s := by
      have z2 : xs.length = ys.length := by omega
      rw [z2] at h
      simpa using h
    rw [if_neg (by rw [z]; simp)]
    refine wpAny_bind (wpAny_dictEpoch ga va (wpAny_bind ?_))
    rw [Std.Legacy.Range.forIn_eq_forIn_range']; simp only [Std.Legacy.Range.size, Nat.sub_zero, Nat.add_sub_cancel, Nat.div_one]
    refine wpAny_forIn_list _ (fun rest q t => t = s ∧ q = (none, ()) ∧ ∃ i, rest = List.range' i (es.size - i) ∧ i ≤ es.size ∧ (xs.take i).all e = true) _ (fun j rest q t hq => ?_) (fun q t hq => ?_) _ _ ⟨rfl, rfl, 0, by simp, Nat.zero_le _, rfl⟩
    · obtain ⟨rfl, rfl, i, hr, hi, hpre⟩ := hq
      have hlt : i < es.size := Nat.lt_of_not_le fun g => by rw [Nat.sub_eq_zero_of_le g] at hr; simp at hr
      have e1 : es.size - i = (es.size - (i + 1)) + 1 := by omega
      rw [e1, List.range'_succ] at hr
      obtain ⟨rfl, hrest⟩ : j = i ∧ rest = List.range' (i + 1) (es.size - (i + 1)) := by
        injection hr with g1 g2; exact ⟨g1, g2⟩
      have hx : xs[j]? = some xs[j] := List.getElem?_eq_getElem (by omega)
      have hm : xs[j] ∈ xs := List.getElem_mem (by omega)
      generalize xs[j] = x at hx hm
      refine wpAny_bind (wpAny_dictEntries ga va ?_)
      rw [entry_at ea j, hx]
      show wpAny _ _ (holding [Value.ref x.2.1, x.2.2] _ >>= _) _ _ _
      have nx : e x = true → (xs.take (j + 1)).all e = true := fun g => by
        rw [List.take_add_one, hx, List.all_append, hpre]; simp [g]
      have no : e x = false → xs.all e = false := fun g => List.all_eq_false.mpr ⟨x, hm, by rw [g]; decide⟩
      refine wpAny_bind (wpAny_holding (wpAny_bind (wpAny_dictFind_heap hu (ia x hm) gb vb eb ib nb (fun g => ?_) fun k p g => ?_)))
      · rcases he x hm with ⟨_, g2⟩ | ⟨p, g1, _⟩
        · refine wpAny_pure ?_
          show wpAny _ _ (if (!false) = true then _ else _) _ _ _
          rw [if_pos (by decide)]
          rw [no g2] at h1
          exact wpAny_pure (wpAny_pure h1)
        · rw [atKey_none_of_get g] at g1; cases g1
      · rcases he x hm with ⟨g1, _⟩ | ⟨p', g1, g2⟩
        · rw [atKey_of_get nb g] at g1; cases g1
        · rw [atKey_of_get nb g] at g1
          cases Option.some.inj g1
          refine wpAny_bind (wpAny_dictEntries gb vb ?_)
          rw [entry_at eb k, g]
          refine wpAny_holding (g2 _ _ ?_)
          cases ec : e x with
          | false =>
            rw [no ec] at h1
            show wpAny _ _ (if (!false) = true then _ else _) _ _ _
            rw [if_pos (by decide)]; exact wpAny_pure (wpAny_pure h1)
          | true =>
            show wpAny _ _ (if (!true) = true then _ else _) _ _ _
            rw [if_neg (by decide)]
            refine wpAny_bind (wpAny_dictEpoch ga va ?_)
            rw [if_neg (by simp)]; exact wpAny_pure ⟨rfl, rfl, j + 1, hrest, hlt, nx ec⟩
    · obtain ⟨rfl, rfl, i, hr, hi, hpre⟩ := hq
      have hin : i = es.size := Nat.le_antisymm hi (Nat.le_of_not_lt fun g => by
        have e1 : es.size - i = (es.size - (i + 1)) + 1 := by omega
        rw [e1, List.range'_succ] at hr; cases hr)
      rw [hin, la, List.take_length] at hpre
      rw [hpre] at h1
      exact wpAny_pure h1
  · rw [if_pos (by simpa using z)]
    have z2 : (xs.length == ys.length) = false := by
      rw [beq_eq_false_iff_ne]; omega
    rw [z2, Bool.false_and] at h
    exact wpAny_bind (wpAny_rule (wpAny_pure h))
theorem rc_dT {a b : Addr} {xs ys : List (κ × Addr × Value)} {e : κ × Addr × Value → Bool} (ha : (a == sysModules) = false) (hb : (b == sysModules) = false) (hr : knd.room A.in1) (hu : A.units < cLine)
    (da : s.heap.DictOfH knd a xs) (db : s.heap.DictOfH knd b ys) (he : ∀ x ∈ xs, (atKey ys x.1 = none ∧ e x = false) ∨ ∃ p, atKey ys x.1 = some p ∧ SeqAt.EqP P w A.in1 s x.2.2 p.2 (e x))
    (E Q : Value → Shared → Prop) (h : Q (.bool (xs.length == ys.length && xs.all e)) s) : wpAny (model P w) A (richCompare .Eq (.ref a) (.ref b)) Q E s := by
  refine wpAny_richCompare_same_room (op := .Eq) da.typeIs db.typeIs F.slot_dict_eq (wpAny_call_entry F.slot_dict_eq da.typeIs F.entry_dict_eq ?_ (F.args_dict_eq_2 _ _)) hu
  show wpAny _ _ (Builtin.Dict.dictSlotArgs "__eq__" ⟨[.ref a, .ref b], []⟩ >>= _) _ _ s
  refine wpAny_bind ?_
  unfold Builtin.Dict.dictSlotArgs
  refine wpAny_bind (wpAny_notOrdered_dict da.typeIs (wpAny_pure (wpAny_bind (wpAny_isInstance (T := "dict") db.typeIs F.sub_dict_dict ?_))))
  simp only [Bool.not_true, Bool.false_eq_true, if_false]
  refine wpAny_bind (wpAny_pure (wpAny_bind (wpAny_pure (wpAny_bind (same_run ha hb hr da db he (wpAny_pure ⟨_, rfl, (fun x => nomatch x), ?_⟩))))))
  simpa using h
end
end DX

set_option Elab.async false
set_option linter.all false
set_option maxRecDepth 100000
set_option maxHeartbeats 4000000
/-! the loops of == of lists and of tuples, with either answer, an invariant kept -/
namespace DX
open PySem PySem.Spec PyProof.Rows L2
open AutoSeq1 (wpAny_loadPart')
open MeetsSeq MeetsSeq2 MeetsSeq3 SeqRoads2
section
variable {P : Program} {w : World} {A : Around} {R : Result → Shared → Prop}
/-- N items in each of the lists, the i-th two comparing as e tells -/
def Lsts (P : Program) (w : World) (A : Around) (E : Value → Shared → Prop) (l b : Addr) (N : Nat) (I : Shared → Prop) (e : Nat → Bool) : Prop :=
  ∀ s, I s → ∃ (xs ys : Array Value) (n m : Nat), s.heap.get? l = some { cls := .type "list", data := .seq xs n } ∧ s.heap.get? b = some { cls := .type "list", data := .seq ys m } ∧ xs.size = N ∧ ys.size = N ∧
    ∀ i (h1 : i < xs.size) (h2 : i < ys.size), wpAny (model P w) A.in1 (eqBool xs[i] ys[i]) (fun r t => r = e i ∧ I t) E s
theorem all_no {N i : Nat} {e : Nat → Bool} (h : i < N) (g : e i = false) : (List.range N).all e = false := List.all_eq_false.mpr ⟨i, List.mem_range.mpr h, by rw [g]; decide⟩
theorem all_next {i : Nat} {e : Nat → Bool} (h : (List.range i).all e = true) (g : e i = true) : (List.range (i + 1)).all e = true := by
  rw [List.range_succ, List.all_append, h]; simp [g]
theorem lst_loop (l b : Addr) (N : Nat) (I : Shared → Prop) (e : Nat → Bool) (hl : Lsts P w A (fun x t => R (.error x) t) l b N I e)
    (fin : ∀ t, I t → R (.ok (.ret (.bool ((List.range N).all e)))) t) (k : Nat) :
    ∀ i : Nat, N - i = k → i ≤ N → (List.range i).all e = true → ∀ s, I s →
      wpAny (model P w) A.in1 (Builtin.«list.__eq__.loop» ⟨[.ref l, .ref b, rawInt i, rawInt 2], []⟩) (GQ.FinOf P w A R) (fun x t => R (.error x) t) s := by
  induction k with
  | zero =>
    intro i hk hi pre s h
    obtain ⟨xs, ys, n, m, g1, g2, z1, z2, _⟩ := hl s h
    obtain rfl : i = N := by omega
    have hR := fin s h
    rw [pre] at hR
    obtain ⟨hp, g, d, tk, os⟩ := s
    have o1 : xs[((i : Nat) : Int).toNat]? = none := by simp; omega
    have o2 : ys[((i : Nat) : Int).toNat]? = none := by simp; omega
    wp_walk using wpAny_loadPart' g1, wpAny_loadPart' g2
    rw [o1, o2]
    wp_walk using wpAny_loadPart' g1, wpAny_loadPart' g2
    show R (.ok (.ret (.bool (xs.size == ys.size)))) _
    rw [z1, z2, beq_self_eq_true]; exact hR
  | succ k ih =>
    intro i hk hi pre s h
    obtain ⟨xs, ys, n, m, g1, g2, z1, z2, turn⟩ := hl s h
    have l1 : i < xs.size := by omega
    have l2 : i < ys.size := by omega
    have ht := turn i l1 l2
    obtain ⟨hp, g, d, tk, os⟩ := s
    have o1 : xs[((i : Nat) : Int).toNat]? = some xs[i] := by simp [l1]
    have o2 : ys[((i : Nat) : Int).toNat]? = some ys[i] := by simp [l2]
    have cast : ((i : Int) + 1) = ((i + 1 : Nat) : Int) := by omega
    wp_walk using wpAny_loadPart' g1, wpAny_loadPart' g2
    rw [o1, o2]
    refine wpAny_bind (wpAny_mono ht (fun r t q => ?_) fun _ _ x => x)
    obtain ⟨rfl, q⟩ := q
    cases ec : e i with
    | true =>
      have rec' := ih (i + 1) (by omega) (by omega) (all_next pre ec) t q
      obtain ⟨hp2, gg2, d2, tk2, os2⟩ := t
      wp_walk
      rw [cast]
      exact ⟨plainId_quiet plain_eq_loop _, codeAny_builtin entry_eq_loop (by rw [Around.under_plainId plain_eq_loop _]; exact rec')⟩
    | false =>
      have hR := fin t q
      rw [all_no (by omega) ec] at hR
      obtain ⟨xs', ys', n', m', g1', g2', z1', z2', _⟩ := hl t q
      have o1' : xs'[((i : Nat) : Int).toNat]? = some (xs'[i]'(by omega)) := by simp [show i < xs'.size by omega]
      have o2' : ys'[((i : Nat) : Int).toNat]? = some (ys'[i]'(by omega)) := by simp [show i < ys'.size by omega]
      obtain ⟨hp2, gg2, d2, tk2, os2⟩ := t
      wp_walk using wpAny_loadPart' g1', wpAny_loadPart' g2'
      rw [o1', o2']
      wp_walk
      simpa using hR
theorem lst_body (l b : Addr) (N : Nat) (I : Shared → Prop) (e : Nat → Bool) (hl : Lsts P w A (fun x t => R (.error x) t) l b N I e)
    (fin : ∀ t, I t → R (.ok (.ret (.bool ((List.range N).all e)))) t) {s : Shared} (h : I s) :
    wpAny (model P w) A.in1 (Builtin.«list.__eq__» ⟨[.ref l, .ref b], []⟩) (GQ.FinOf P w A R) (fun x t => R (.error x) t) s := by
  obtain ⟨xs, ys, n, m, g1, g2, z1, z2, _⟩ := hl s h
  have rec' := lst_loop (A := A) (R := R) l b N I e hl fin N 0 rfl (Nat.zero_le _) rfl s h
  obtain ⟨hp, g, d, tk, os⟩ := s
  have fl := AutoSeq1.sub_list_list
  have ne : ¬ (xs.size != ys.size) = true := by simp [z1, z2]
  wp_walk using wpAny_loadPart' g1, wpAny_loadPart' g2
  exact ⟨plainId_quiet plain_eq_loop _, codeAny_builtin entry_eq_loop (by rw [Around.under_plainId plain_eq_loop _]; exact rec')⟩
theorem tup_body (l b : Addr) (xs ys : Array Value) (n m : Nat) (dd dd2 : Option Addr) (sl sl2 : Array (Option Value)) (I : Shared → Prop) (e : Nat → Bool)
    (turn : ∀ i (h1 : i < xs.size) (h2 : i < ys.size) s, I s → wpAny (model P w) A.in1 (eqBool xs[i] ys[i]) (fun r t => r = e i ∧ I t) (fun x t => R (.error x) t) s)
    (fin : ∀ t, I t → R (.ok (.ret (.bool ((List.range (min xs.size ys.size)).all e && xs.size == ys.size)))) t) {s : Shared} (g1 : s.heap.get? l = some { cls := .type "tuple", dict := dd, data := .seq xs n, slots := sl })
    (g2 : s.heap.get? b = some { cls := .type "tuple", dict := dd2, data := .seq ys m, slots := sl2 }) (h : I s) :
    wpAny (model P w) A.in1 (Builtin.«tuple.__eq__» ⟨[.ref l, .ref b], []⟩) (GQ.FinOf P w A R) (fun x t => R (.error x) t) s := by
  have ft := AutoSeq1.sub_tuple_tuple
  have zl : (xs.toList.zip ys.toList).length = min xs.size ys.size := by simp
  have h0 := h
  obtain ⟨hp, g, d, tk, os⟩ := s
  wp_walk using wpAny_loadPart' g1, wpAny_loadPart' g2, wpAny_forIn_list _ (fun rest q t => q.1 = none ∧ ∃ i, rest = (xs.toList.zip ys.toList).drop i ∧ i ≤ min xs.size ys.size ∧ (List.range i).all e = true ∧ I t) _
  case turn =>
    rintro ⟨y, x⟩ rest q t ⟨hq, i, hz, hi, pre, hI⟩
    have hlt : i < (xs.toList.zip ys.toList).length := Nat.lt_of_not_le fun g => by rw [List.drop_of_length_le g] at hz; cases hz
    have l1 : i < xs.size := by omega
    have l2 : i < ys.size := by omega
    rw [List.drop_eq_getElem_cons hlt] at hz
    injection hz with hyx hrest
    obtain rfl : y = xs[i] := by simpa using congrArg Prod.fst hyx
    obtain rfl : x = ys[i] := by simpa using congrArg Prod.snd hyx
    refine wpAny_bind (wpAny_mono (turn i l1 l2 t hI) (fun r t2 q2 => ?_) fun _ _ x => x)
    obtain ⟨rfl, q2⟩ := q2
    cases ec : e i with
    | true => wp_walk; exact ⟨rfl, i + 1, hrest, by omega, all_next pre ec, q2⟩
    | false =>
      have hR := fin t2 q2
      rw [all_no (by omega) ec, Bool.false_and] at hR
      wp_walk; simpa using hR
  case fin =>
    rintro ⟨b1, b2⟩ t ⟨hq, i, hz, hi, pre, hI⟩
    simp only at hq
    subst hq
    have hge : min xs.size ys.size ≤ i := Nat.le_of_not_lt fun g => by
      rw [List.drop_eq_getElem_cons (by omega)] at hz; cases hz
    have hR := fin t hI
    rw [show min xs.size ys.size = i by omega, pre, Bool.true_and] at hR
    wp_walk
    simpa [Builtin.Tuple.tupleCompareSizes] using hR
  case h => exact ⟨rfl, 0, rfl, Nat.zero_le _, rfl, h0⟩
end
section
variable {P : Program} {w : World} {A : Around} {E : Value → Shared → Prop} {s : Shared}
theorem rc_lsts {l b : Addr} {N : Nat} {Q : Value → Shared → Prop} {e : Nat → Bool} (hu : A.units < cLine) (I : Shared → Prop) (hl : Lsts P w A E l b N I e)
    (fin : ∀ t, I t → Q (.bool ((List.range N).all e)) t) (h : I s) : wpAny (model P w) A (richCompare .Eq (.ref l) (.ref b)) Q E s := by
  obtain ⟨xs, ys, n, m, g1, g2, _⟩ := hl s h
  refine wpAny_richCompare_same_room (op := .Eq) ⟨_, g1, rfl⟩ ⟨_, g2, rfl⟩ F.slot_list_eq (GQ.call_here F.slot_list_eq ⟨_, g1, rfl⟩ F.entry_list_eq (F.args_list_eq_2 _ _) ?_) hu
  exact lst_body (R := wants (fun v t => v ≠ .notImplemented ∧ Q v t) E) l b N I e hl (fun t q => ⟨(fun x => nomatch x), fin t q⟩) h
theorem rc_tups {l b : Addr} {xs ys : Array Value} {Q : Value → Shared → Prop} {e : Nat → Bool} (hu : A.units < cLine) (I : Shared → Prop) (hl : s.heap.IsTuple l xs) (hb : s.heap.IsTuple b ys)
    (turn : ∀ i (h1 : i < xs.size) (h2 : i < ys.size) s, I s → wpAny (model P w) A.in1 (eqBool xs[i] ys[i]) (fun r t => r = e i ∧ I t) E s)
    (fin : ∀ t, I t → Q (.bool ((List.range (min xs.size ys.size)).all e && xs.size == ys.size)) t) (h : I s) : wpAny (model P w) A (richCompare .Eq (.ref l) (.ref b)) Q E s := by
  obtain ⟨⟨c1, d1, v1, s1⟩, o1, e1, n, f1⟩ := id hl
  obtain ⟨⟨c2, d2, v2, s2⟩, o2, e2, m, f2⟩ := id hb
  simp only at e1 f1 e2 f2
  subst e1 f1 e2 f2
  refine wpAny_richCompare_same_room (op := .Eq) ⟨_, o1, rfl⟩ ⟨_, o2, rfl⟩ F.slot_tuple_eq (GQ.call_here F.slot_tuple_eq ⟨_, o1, rfl⟩ F.entry_tuple_eq (F.args_tuple_eq_2 _ _) ?_) hu
  exact tup_body (R := wants (fun v t => v ≠ .notImplemented ∧ Q v t) E) l b xs ys n m d1 d2 s1 s2 I e turn (fun t q => ⟨(fun x => nomatch x), fin t q⟩) o1 o2 h
end
end DX

set_option Elab.async false
set_option linter.all false
set_option maxRecDepth 100000
set_option maxHeartbeats 4000000
/-! == of nested values with either answer -/
namespace DX
open PySem PySem.Spec PyProof.Rows L2
/-- do the two hold the same under the same keys (flat values) -/
def dEq (ks ls : List (List L2.Key × V)) : Bool := ks.length == ls.length && ks.all fun p => match valV ls p.1 with
  | some u => eqV p.2 u
  | none => false
abbrev OwnE := Addr → Addr → Bool → Hp → Prop
/-- one level; E tells of the items -/
def EqS (K : PySem.W.Frag) (H : Hp) (E : V → V → Bool → Prop) (x y : V) (b : Bool) : Prop :=
  (∃ a c xs ys, x = .ref a ∧ y = .ref c ∧ H a = some (.lst xs) ∧ H c = some (.lst ys) ∧ xs.length ≠ ys.length ∧ b = false) ∨
  (∃ a c xs ys, ∃ e : Nat → Bool, x = .ref a ∧ y = .ref c ∧ H a = some (.lst xs) ∧ H c = some (.lst ys) ∧ xs.length = ys.length ∧ (∀ i x y, xs[i]? = some x → ys[i]? = some y → E x y (e i)) ∧ b = (List.range xs.length).all e) ∨
  (∃ a c xs ys, ∃ e : Nat → Bool, x = .ref a ∧ y = .ref c ∧ SqT K H a xs ∧ SqT K H c ys ∧ (∀ i x y, xs[i]? = some x → ys[i]? = some y → E x y (e i)) ∧ b = ((List.range (min xs.length ys.length)).all e && xs.length == ys.length)) ∨
  (∃ a c ks ls, x = .ref a ∧ y = .ref c ∧ Rd H a (.dT ks) ∧ Rd H c (.dT ls) ∧ (∀ p ∈ ks, flatV p.2 = true) ∧ (∀ p ∈ ls, flatV p.2 = true) ∧ b = dEq ks ls)
def EqB (K : PySem.W.Frag) (D : OwnE) (H : Hp) : Nat → V → V → Bool → Prop
  | 0 => fun _ _ _ => False
  | n + 1 => fun x y b => (flatV x = true ∧ flatV y = true ∧ b = eqV x y) ∨ (∃ a, x = .ref a ∧ y = .ref a ∧ b = true) ∨ (∃ a xs z, x = .ref a ∧ H a = some (.lst xs) ∧ y = .str z ∧ b = false) ∨
    ((x = y → b = true) ∧ EqS K H (EqB K D H n) x y b) ∨ ∃ a c, x = .ref a ∧ y = .ref c ∧ (a = c → b = true) ∧ D a c b H
/-- the own == tells what D says, and leaves all as it is -/
def OwnR (X : Cx) (m : Nat) (D : OwnE) : Prop := ∀ (A : Around) (pins : List (Addr × Obj)) (s : Shared) (σ : L2.St) (H : Hp) (a c : Addr) (b : Bool), Sub X m A → Inv X pins σ H s → D a c b H →
  wpAny (model X.prog X.w) A (richCompare .Eq (.ref a) (.ref c)) (fun r t => r = .bool b ∧ Inv X pins σ H t) X.xe s
def noD : OwnE := fun _ _ _ _ => False
theorem ownR_no {X : Cx} : OwnR X 0 noD := fun _ _ _ _ _ _ _ _ _ _ d => d.elim
section
variable {X : Cx} {pins : List (Addr × Obj)} {σ : L2.St} {H : Hp} {s : Shared} {A : Around}
theorem valT {ks : List (List L2.Key × V)} {xs : List (List L2.Key × Addr × Value)} (r : KT H ks xs) (k : List L2.Key) : RelO (valV ks k) ((atKey xs k).map (·.2)) := r.val k
theorem kt_mem : ∀ {ks : List (List L2.Key × V)} {xs : List (List L2.Key × Addr × Value)}, KT H ks xs → ∀ x ∈ xs, ∃ p ∈ ks, p.1 = x.1 ∧ RelV p.2 x.2.2
  | _, _, .nil, x, hx => by cases hx
  | p :: ks, y :: xs, .cons h t, x, hx => by
    rcases List.mem_cons.mp hx with e | hx
    · exact ⟨p, List.mem_cons_self, by rw [e]; exact h.1, by rw [e]; exact h.2.2⟩
    · obtain ⟨q, h1, h2⟩ := kt_mem t x hx
      exact ⟨q, List.mem_cons_of_mem _ h1, h2⟩
theorem kt_all_eq {f : List L2.Key → V → Bool} {g : List L2.Key × Addr × Value → Bool} : ∀ {ks : List (List L2.Key × V)} {xs : List (List L2.Key × Addr × Value)}, KT H ks xs → (∀ p x, p ∈ ks → x ∈ xs → p.1 = x.1 → RelV p.2 x.2.2 → g x = f p.1 p.2) → xs.all g = ks.all fun p => f p.1 p.2
  | _, _, .nil, _ => rfl
  | p :: ks, y :: xs, .cons h t, hh => by
    rw [List.all_cons, List.all_cons, hh p y List.mem_cons_self List.mem_cons_self h.1 h.2.2, kt_all_eq t fun p x hp hx => hh p x (List.mem_cons_of_mem _ hp) (List.mem_cons_of_mem _ hx)]
theorem valV_mem {κ : Type} [DecidableEq κ] {k : κ} {u : V} : ∀ {ls : List (κ × V)}, valV ls k = some u → ∃ p ∈ ls, p.1 = k ∧ p.2 = u
  | [], h => by cases h
  | p :: ls, h => by
    by_cases e : p.1 = k
    · rw [valV_pos e] at h
      exact ⟨p, List.mem_cons_self, e, Option.some.inj h⟩
    · rw [valV_neg e] at h
      obtain ⟨q, h1, h2⟩ := valV_mem h
      exact ⟨q, List.mem_cons_of_mem _ h1, h2⟩
/-- the flag of one entry -/
def fl (ls : List (List L2.Key × V)) (k : List L2.Key) (v : V) : Bool := match valV ls k with
  | some u => eqV v u
  | none => false
theorem dT_run (I : Inv X pins σ H s) {a c : Addr} {ks ls : List (List L2.Key × V)} (ha : Rd H a (.dT ks)) (hc : Rd H c (.dT ls)) (fk : ∀ p ∈ ks, flatV p.2 = true) (fl' : ∀ p ∈ ls, flatV p.2 = true) (hu : A.units + 1 < cLine) (E Q : Value → Shared → Prop)
    (h : Q (.bool (dEq ks ls)) s) : wpAny (model X.prog X.w) A (richCompare .Eq (.ref a) (.ref c)) Q E s := by
  obtain ⟨z1, lo1, xs, r1, d1⟩ := dt_rd I.hok ha
  obtain ⟨z2, lo2, ys, r2, d2⟩ := dt_rd I.hok hc
  -- what the first one holds at a key, as an abstract value
  let e : List L2.Key × Addr × Value → Bool := fun x => match valV ks x.1 with
    | some v => fl ls x.1 v
    | none => false
  have nd : (ks.map (·.1)).Nodup := by
    obtain ⟨_, _, _, _, _, _, _, _, hn⟩ := d1
    have key : ∀ {ks : List (List L2.Key × V)} {xs : List (List L2.Key × Addr × Value)}, KT H ks xs → ks.map (·.1) = xs.map (·.1) := by
      intro ks xs r
      induction r with
      | nil => rfl
      | cons h t ih => rw [List.map_cons, List.map_cons, h.1, ih]
    rw [key r1]
    exact hn
  have ev : ∀ p ∈ ks, valV ks p.1 = some p.2 := fun p hp => by
    have key : ∀ {ks : List (List L2.Key × V)}, (ks.map (·.1)).Nodup → ∀ p ∈ ks, valV ks p.1 = some p.2 := by
      intro ks
      induction ks with
      | nil => intro _ p hp; cases hp
      | cons q ks ih =>
        intro nd p hp
        rw [List.map_cons, List.nodup_cons] at nd
        rcases List.mem_cons.mp hp with z | z
        · rw [z]
          exact valV_pos rfl
        · rw [valV_neg (fun g => nd.1 (by rw [g]; exact List.mem_map.mpr ⟨p, z, rfl⟩))]
          exact ih nd.2 p z
    exact key nd p hp
  refine rc_dT (knd := tupleKind (mixKind X.prog X.w)) (e := e) lo1 lo2 (show A.units + 1 < cLine from hu) (by omega) d1 d2 (fun x hx => ?_) E Q ?_
  · obtain ⟨p, hp, hp1, hp2⟩ := kt_mem r1 x hx
    have e1 : e x = fl ls x.1 p.2 := by
      show (match valV ks x.1 with | some v => fl ls x.1 v | none => false) = _
      rw [← hp1, ev p hp]
    have rv := valT r2 x.1
    cases hv : valV ls x.1 with
    | none =>
      rw [hv] at rv
      refine .inl ⟨?_, by rw [e1]; unfold fl; rw [hv]⟩
      cases ha : atKey ys x.1 with
      | none => rfl
      | some q => rw [ha] at rv; exact rv.elim
    | some u =>
      rw [hv] at rv
      obtain ⟨w', hw, rw'⟩ := RelO.some_of rv
      obtain ⟨q, hq, rfl⟩ := Option.map_eq_some_iff.mp hw
      refine .inr ⟨q, hq, ?_⟩
      obtain ⟨p2, m2, _, m3⟩ := valV_mem hv
      have z := (eqAt_V (A := A.in1) (s := s) hp2 rw' (fk p hp) (by rw [← m3]; exact fl' p2 m2)).eqP (prog := X.prog) (w := X.w)
      rw [e1]
      unfold fl
      rw [hv]
      exact z
  · have a1 : xs.length = ks.length := (Paired.length r1).symm
    have a2 : ys.length = ls.length := (Paired.length r2).symm
    have a3 : xs.all e = ks.all fun p => fl ls p.1 p.2 := kt_all_eq (f := fun k v => fl ls k v) r1 fun p x hp hx h1 h2 => by
      show (match valV ks x.1 with | some v => fl ls x.1 v | none => false) = _
      rw [← h1, ev p hp]
    rw [a1, a2, a3]
    exact h
theorem eqS_run {F : V → V → Bool → Prop} {n : Nat} (sb : Sub X (n + 1) A)
    (ih : ∀ (A' : Around) (s : Shared) (x y : V) (b : Bool) (u v : Value), Sub X n A' → Inv X pins σ H s → RelV x u → RelV y v → F x y b → wpAny (model X.prog X.w) A' (eqBool u v) (fun r t => r = b ∧ Inv X pins σ H t) X.xe s)
    (I : Inv X pins σ H s) {x y : V} {b : Bool} {u v : Value} (rx : RelV x u) (ry : RelV y v) (h : EqS X.K H F x y b) : wpAny (model X.prog X.w) A (richCompare .Eq u v) (fun r t => r = .bool b ∧ Inv X pins σ H t) X.xe s := by
  have hu : A.units + 1 < cLine := by have := sb.room.un; omega
  rcases h with ⟨a, c, xs, ys, rfl, rfl, ha, hc, ne, rfl⟩ | ⟨a, c, xs, ys, e, rfl, rfl, ha, hc, hl, he, rfl⟩ | ⟨a, c, xs, ys, e, rfl, rfl, ha, hc, he, rfl⟩ | ⟨a, c, ks, ls, rfl, rfl, ha, hc, fk, fl, rfl⟩
  · cases rx
    cases ry
    obtain ⟨us, r1, p1, _⟩ := I.list (SqL.of ha)
    obtain ⟨ws, r2, p2, _⟩ := I.list (SqL.of hc)
    refine SeqAt.RcAt.lists_lengths p1.isList p2.isList ?_ (by omega) X.prog X.w X.xe _ ⟨rfl, I⟩
    have z1 := r1.length
    have z2 := r2.length
    simp only [List.size_toArray, bne_iff_ne, ne_eq]
    omega
  · cases rx
    cases ry
    refine rc_lsts (N := xs.length) (e := e) (by omega) (fun t => Inv X pins σ H t) (fun t J => ?_) (fun t J => ⟨rfl, J⟩) I
    obtain ⟨_, us, n1, r1, o1⟩ := J.hok a _ ha
    obtain ⟨_, ws, n2, r2, o2⟩ := J.hok c _ hc
    refine ⟨us.toArray, ws.toArray, n1, n2, o1, o2, by rw [List.size_toArray, ← r1.length], by rw [List.size_toArray, ← r2.length, ← hl], fun i h1 h2 => ?_⟩
    have k1 : i < xs.length := by rw [r1.length]; simpa using h1
    have k2 : i < ys.length := by rw [r2.length]; simpa using h2
    obtain ⟨p, hp, rp⟩ := r1.get (List.getElem?_eq_getElem k1)
    obtain ⟨q, hq, rq⟩ := r2.get (List.getElem?_eq_getElem k2)
    have e1 : us.toArray[i] = p := by
      have : us[i]? = some us.toArray[i] := by simp at h1; simp [h1]
      rw [hp] at this
      exact (Option.some.inj this).symm
    have e2 : ws.toArray[i] = q := by
      have : ws[i]? = some ws.toArray[i] := by simp at h2; simp [h2]
      rw [hq] at this
      exact (Option.some.inj this).symm
    rw [e1, e2]
    exact ih A.in1 t _ _ _ _ _ sb.in1 J rp rq (he i _ _ (List.getElem?_eq_getElem k1) (List.getElem?_eq_getElem k2))
  · cases rx
    cases ry
    obtain ⟨us, r1, o1, _⟩ := I.tuple ha
    obtain ⟨ws, r2, o2, _⟩ := I.tuple hc
    have z1 : us.toArray.size = xs.length := by rw [List.size_toArray, ← r1.length]
    have z2 : ws.toArray.size = ys.length := by rw [List.size_toArray, ← r2.length]
    refine rc_tups (e := e) (by omega) (fun t => Inv X pins σ H t) o1 o2 (fun i h1 h2 t J => ?_) (fun t J => ⟨by rw [z1, z2], J⟩) I
    have k1 : i < xs.length := by omega
    have k2 : i < ys.length := by omega
    obtain ⟨p, hp, rp⟩ := r1.get (List.getElem?_eq_getElem k1)
    obtain ⟨q, hq, rq⟩ := r2.get (List.getElem?_eq_getElem k2)
    have e1 : us.toArray[i] = p := by
      have : us[i]? = some us.toArray[i] := by simp at h1; simp [h1]
      rw [hp] at this
      exact (Option.some.inj this).symm
    have e2 : ws.toArray[i] = q := by
      have : ws[i]? = some ws.toArray[i] := by simp at h2; simp [h2]
      rw [hq] at this
      exact (Option.some.inj this).symm
    rw [e1, e2]
    exact ih A.in1 t _ _ _ _ _ sb.in1 J rp rq (he i _ _ (List.getElem?_eq_getElem k1) (List.getElem?_eq_getElem k2))
  · cases rx
    cases ry
    exact dT_run I ha hc fk fl hu _ _ ⟨rfl, I⟩
theorem refs_run {b : Bool} {a c : Addr} (g : a = c → b = true) (I : Inv X pins σ H s) (h : wpAny (model X.prog X.w) A (richCompare .Eq (.ref a) (.ref c)) (fun r t => r = .bool b ∧ Inv X pins σ H t) X.xe s) :
    wpAny (model X.prog X.w) A (eqBool (.ref a) (.ref c)) (fun r t => r = b ∧ Inv X pins σ H t) X.xe s := by
  by_cases e : a = c
  · subst e
    rw [g rfl]
    exact SeqAt.EqAt.same (A := A) (s := s) (.ref a) X.prog X.w X.xe _ ⟨rfl, I⟩
  · refine GQ.eqBool_refG e (wpAny_mono h (fun r t q => ⟨b, q.1, rfl, q.2⟩) fun _ _ x => x)
theorem eqB_run {D : OwnE} {m : Nat} (own : OwnR X m D) : ∀ (n : Nat) (A : Around) (s : Shared) (x y : V) (b : Bool) (u v : Value), Sub X (n + m) A → Inv X pins σ H s → RelV x u → RelV y v → EqB X.K D H n x y b →
    wpAny (model X.prog X.w) A (eqBool u v) (fun r t => r = b ∧ Inv X pins σ H t) X.xe s
  | 0, _, _, _, _, _, _, _, _, _, _, _, h => h.elim
  | n + 1, A, s, x, y, b, u, v, sb, I, rx, ry, h => by
    have hu : A.units + 1 < cLine := by have := sb.room.un; omega
    rcases h with ⟨fx, fy, rfl⟩ | ⟨a, rfl, rfl, rfl⟩ | ⟨a, xs, z, rfl, ha, rfl, rfl⟩ | ⟨g, h⟩ | ⟨a, c, rfl, rfl, g, d⟩
    · exact eqAt_V (A := A) (s := s) rx ry fx fy X.prog X.w X.xe _ ⟨rfl, I⟩
    · cases rx
      cases ry
      exact SeqAt.EqAt.same (A := A) (s := s) (.ref a) X.prog X.w X.xe _ ⟨rfl, I⟩
    · cases rx
      obtain ⟨t, rfl⟩ := (show ∃ t, v = Value.str z t from ry)
      obtain ⟨us, _, p1, _⟩ := I.list (SqL.of ha)
      exact SeqAt.EqAt.list_str (A := A) (s := s) z t p1.isList (by omega) X.prog X.w X.xe _ ⟨rfl, I⟩
    · have step := eqS_run (n := n + m) (F := EqB X.K D H n) (A := A) (sb.mono (by omega)) (fun A' s' x y b u v sb' J r1 r2 d => eqB_run own n A' s' x y b u v sb' J r1 r2 d) I rx ry h
      obtain ⟨a, c, rfl, rfl⟩ : ∃ a c, x = .ref a ∧ y = .ref c := by
        rcases h with ⟨a, c, _, _, e1, e2, _⟩ | ⟨a, c, _, _, _, e1, e2, _⟩ | ⟨a, c, _, _, _, e1, e2, _⟩ | ⟨a, c, _, _, e1, e2, _⟩ <;> exact ⟨a, c, e1, e2⟩
      cases rx
      cases ry
      exact refs_run (fun e => g (by rw [e])) I step
    · cases rx
      cases ry
      exact refs_run g I (own A pins s σ H a c b (sb.mono (by omega)) I d)
/-- x == y, x != y, lists, tuples, dicts with tuple keys, an own == -/
def rEqB (K : PySem.W.Frag) (D : OwnE) (n : Nat) : R2 := fun x y H Q => ∃ b, ((∃ a c, x = .ref a ∧ y = .ref c ∧ D a c b H) ∨ EqS K H (EqB K D H n) x y b) ∧ Q (.bl b) H
theorem op_eqB {D : OwnE} {n m : Nat} (own : OwnR X m D) (hr : Room (n + m + 1) X.A) : OpR X (compareOp .Eq) (rEqB X.K D n) := by
  intro pins s σ H x y v u Q I rx ry h
  obtain ⟨b, h, q⟩ := h
  show wpAny (model X.prog X.w) X.A (richCompare .Eq v u) (EP X pins σ Q) X.xe s
  have sb : Sub X (n + m + 1) X.A := ⟨hr, rfl⟩
  rcases h with ⟨a, c, rfl, rfl, d⟩ | h
  · cases rx
    cases ry
    refine wpAny_mono (own X.A pins s σ H a c b (sb.mono (by omega)) I d) (fun r t z => ?_) fun _ _ x => x
    obtain ⟨rfl, J⟩ := z
    exact ⟨.bl b, H, J, rfl, q⟩
  · refine wpAny_mono (eqS_run (n := n + m) (F := EqB X.K D H n) sb (fun A' s' x y b u v sb' J r1 r2 d => eqB_run own n A' s' x y b u v sb' J r1 r2 d) I rx ry h) (fun r t z => ?_) fun _ _ x => x
    obtain ⟨rfl, J⟩ := z
    exact ⟨.bl b, H, J, rfl, q⟩
end
end DX

set_option Elab.async false
set_option linter.all false
set_option maxRecDepth 100000
set_option maxHeartbeats 4000000
/-! an own == with either answer; != of tuples; more built-ins -/
namespace DX
open PySem PySem.Spec PyProof.Rows L2
/-- what the own == promises -/
def spEqB (D : OwnE) : Sp := fun vs H Q _ => ∃ a c b, vs = [.ref a, .ref c] ∧ D a c b H ∧ Q (.bl b) H
section
variable {X : Cx} {n : Nat}
theorem ownR_ins {D : OwnE} {CX : CXT} {C f : Addr} {fd : FuncData} {ps : List Str} {E : XK} (F : FnOk X.prog X.w X.K X.mg X.base CX n f fd ps (spEqB D)) (hs : PySem.W.findIn X.K (.ref C) "__eq__" = some (some (.ref f))) (hf : PySem.W.isFn X.K (.ref f) = true) (hb : Binds X.K fd ps []) (hx : Passes CX X E)
    (hD : ∀ a c b H, D a c b H → (∃ dx fs, H a = some (.ins C dx fs)) ∧ ((∃ dy gs, H c = some (.ins C dy gs)) ∨ ((∃ ys, SqT X.K H c ys) ∧ PySem.W.notFirst X.K C (.type "tuple") = true))) : OwnR X n D := by
  intro A pins s σ H a c b sb I d
  obtain ⟨⟨dx, fs, ha⟩, hc⟩ := hD a c b H d
  obtain ⟨mA, J, _⟩ := ins_get I.hok ha
  obtain ⟨od, J, _⟩ := J.look
  obtain ⟨m, hF⟩ := I.fr
  have main : wpAny (model X.prog X.w) A (call (.ref f) [.ref a, .ref c]) (PySem.W.CmpBack fun r t => r = .bool b ∧ Inv X pins σ H t) X.xe s := by
    have hsp : spEqB D [.ref a, .ref c] H (fun v H' => v = .bl b ∧ H' = H) E := ⟨a, c, b, rfl, d, rfl, rfl⟩
    have e0 : Env0 X.prog X.w X.K X.mg X.base A X.stack s H := by
      have e := I.env0
      exact ⟨by rw [sb.fr]; exact e.frames, e.mod, e.bs, e.bsz, e.funs, e.frf, e.hok, e.bare⟩
    have hl := F.len _ _ _ _ hsp
    have r2 : Vals [V.ref a, V.ref c] [Value.ref a, Value.ref c] := .cons rfl (.cons rfl .nil)
    refine wpAny_call (codeAny_mono (F.run A X.stack s H ⟨[.ref a, .ref c], []⟩ [.ref a, .ref c] [.ref a, .ref c] _ E sb.room e0 (by simpa using hb s [.ref a, .ref c] I.kIn (by simpa using hl)) r2 hsp) fun r t hq => ?_)
    cases r with
    | error e => exact hx pins σ H s e t I hq
    | ok fl =>
      cases fl with
      | ret u =>
        obtain ⟨z, H', I', rz, ez, eH⟩ := I.after hq
        subst ez eH
        cases rz
        exact ⟨rfl, I'⟩
      | next => exact False.elim hq
      | brk => exact False.elim hq
      | cont => exact False.elim hq
  rcases hc with ⟨dy, gs, hc⟩ | ⟨⟨ys, hc⟩, hn⟩
  · obtain ⟨mB, J', _⟩ := ins_get I.hok hc
    obtain ⟨od', J', _⟩ := J'.look
    exact PySem.W.cmp_K (op := .Eq) (tb := .ref C) sb.room.units0 hF I.ok.mod.kin J J'.type (by simp [PySem.W.notFirst]) hs hf main
  · obtain ⟨its, _, ⟨o, ho, hcl, _⟩, _⟩ := I.tuple hc
    have tt : PySem.W.Looks (model X.prog X.w) s.heap (typeOf (.ref c)) (.type "tuple") := by
      have tz : PySem.W.Looks (model X.prog X.w) s.heap (typeOf (.ref c)) o.cls := (PySem.W.Looks.ld ho).andThen .now
      rw [hcl] at tz; exact tz
    exact PySem.W.cmp_K (op := .Eq) (tb := .type "tuple") sb.room.units0 hF I.ok.mod.kin J tt hn hs hf main
end
/-! != of tuples -/
section
open AutoSeq1 (wpAny_loadPart')
open MeetsSeq MeetsSeq2 MeetsSeq3 SeqRoads2
variable {P : Program} {w : World} {A : Around} {R : Result → Shared → Prop}
theorem tup_ne_body (l b : Addr) (xs ys : Array Value) (n m : Nat) (dd dd2 : Option Addr) (sl sl2 : Array (Option Value)) (I : Shared → Prop) (e : Nat → Bool)
    (turn : ∀ i (h1 : i < xs.size) (h2 : i < ys.size) s, I s → wpAny (model P w) A.in1 (eqBool xs[i] ys[i]) (fun r t => r = e i ∧ I t) (fun x t => R (.error x) t) s)
    (fin : ∀ t, I t → R (.ok (.ret (.bool (!((List.range (min xs.size ys.size)).all e && xs.size == ys.size))))) t) {s : Shared} (g1 : s.heap.get? l = some { cls := .type "tuple", dict := dd, data := .seq xs n, slots := sl })
    (g2 : s.heap.get? b = some { cls := .type "tuple", dict := dd2, data := .seq ys m, slots := sl2 }) (h : I s) :
    wpAny (model P w) A.in1 (Builtin.«tuple.__ne__» ⟨[.ref l, .ref b], []⟩) (GQ.FinOf P w A R) (fun x t => R (.error x) t) s := by
  have ft := AutoSeq1.sub_tuple_tuple
  have zl : (xs.toList.zip ys.toList).length = min xs.size ys.size := by simp
  have h0 := h
  obtain ⟨hp, g, d, tk, os⟩ := s
  wp_walk using wpAny_loadPart' g1, wpAny_loadPart' g2, wpAny_forIn_list _ (fun rest q t => q.1 = none ∧ ∃ i, rest = (xs.toList.zip ys.toList).drop i ∧ i ≤ min xs.size ys.size ∧ (List.range i).all e = true ∧ I t) _
  case turn =>
    rintro ⟨y, x⟩ rest q t ⟨hq, i, hz, hi, pre, hI⟩
    have hlt : i < (xs.toList.zip ys.toList).length := Nat.lt_of_not_le fun g => by rw [List.drop_of_length_le g] at hz; cases hz
    have l1 : i < xs.size := by omega
    have l2 : i < ys.size := by omega
    rw [List.drop_eq_getElem_cons hlt] at hz
    injection hz with hyx hrest
    obtain rfl : y = xs[i] := by simpa using congrArg Prod.fst hyx
    obtain rfl : x = ys[i] := by simpa using congrArg Prod.snd hyx
    refine wpAny_bind (wpAny_mono (turn i l1 l2 t hI) (fun r t2 q2 => ?_) fun _ _ x => x)
    obtain ⟨rfl, q2⟩ := q2
    cases ec : e i with
    | true => wp_walk; exact ⟨rfl, i + 1, hrest, by omega, all_next pre ec, q2⟩
    | false =>
      have hR := fin t2 q2
      rw [all_no (by omega) ec, Bool.false_and] at hR
      wp_walk; simpa using hR
  case fin =>
    rintro ⟨b1, b2⟩ t ⟨hq, i, hz, hi, pre, hI⟩
    simp only at hq
    subst hq
    have hge : min xs.size ys.size ≤ i := Nat.le_of_not_lt fun g => by
      rw [List.drop_eq_getElem_cons (by omega)] at hz; cases hz
    have hR := fin t hI
    rw [show min xs.size ys.size = i by omega, pre, Bool.true_and] at hR
    have e2 : (xs.size != ys.size) = !(xs.size == ys.size) := rfl
    rw [← e2] at hR
    wp_walk
    simpa [Builtin.Tuple.tupleCompareSizes] using hR
  case h => exact ⟨rfl, 0, rfl, Nat.zero_le _, rfl, h0⟩
end
section
variable {P : Program} {w : World} {A : Around} {E : Value → Shared → Prop} {s : Shared}
theorem rc_tups_ne {l b : Addr} {xs ys : Array Value} {Q : Value → Shared → Prop} {e : Nat → Bool} (hu : A.units < cLine) (I : Shared → Prop) (hl : s.heap.IsTuple l xs) (hb : s.heap.IsTuple b ys)
    (turn : ∀ i (h1 : i < xs.size) (h2 : i < ys.size) s, I s → wpAny (model P w) A.in1 (eqBool xs[i] ys[i]) (fun r t => r = e i ∧ I t) E s)
    (fin : ∀ t, I t → Q (.bool (!((List.range (min xs.size ys.size)).all e && xs.size == ys.size))) t) (h : I s) : wpAny (model P w) A (richCompare .NotEq (.ref l) (.ref b)) Q E s := by
  obtain ⟨⟨c1, d1, v1, s1⟩, o1, e1, n, f1⟩ := id hl
  obtain ⟨⟨c2, d2, v2, s2⟩, o2, e2, m, f2⟩ := id hb
  simp only at e1 f1 e2 f2
  subst e1 f1 e2 f2
  refine wpAny_richCompare_same_room (op := .NotEq) ⟨_, o1, rfl⟩ ⟨_, o2, rfl⟩ F.slot_tuple_ne (GQ.call_here F.slot_tuple_ne ⟨_, o1, rfl⟩ F.entry_tuple_ne (F.args_tuple_ne_2 _ _) ?_) hu
  exact tup_ne_body (R := wants (fun v t => v ≠ .notImplemented ∧ Q v t) E) l b xs ys n m d1 d2 s1 s2 I e turn (fun t q => ⟨(fun x => nomatch x), fin t q⟩) o1 o2 h
end
section
variable {X : Cx}
/-- x != y, tuples -/
def rNeB (K : PySem.W.Frag) (D : OwnE) (n : Nat) : R2 := fun x y H Q => ∃ a c xs ys, ∃ e : Nat → Bool, x = .ref a ∧ y = .ref c ∧ SqT K H a xs ∧ SqT K H c ys ∧ (∀ i x y, xs[i]? = some x → ys[i]? = some y → EqB K D H n x y (e i)) ∧ Q (.bl (!((List.range (min xs.length ys.length)).all e && xs.length == ys.length))) H
theorem op_neB {D : OwnE} {n m : Nat} (own : OwnR X m D) (hr : Room (n + m + 1) X.A) : OpR X (compareOp .NotEq) (rNeB X.K D n) := by
  intro pins s σ H x y v u Q I rx ry h
  obtain ⟨a, c, xs, ys, e, rfl, rfl, ha, hc, he, q⟩ := h
  cases rx
  cases ry
  show wpAny (model X.prog X.w) X.A (richCompare .NotEq (.ref a) (.ref c)) (EP X pins σ Q) X.xe s
  have sb : Sub X (n + m + 1) X.A := ⟨hr, rfl⟩
  obtain ⟨us, r1, o1, _⟩ := I.tuple ha
  obtain ⟨ws, r2, o2, _⟩ := I.tuple hc
  have z1 : us.toArray.size = xs.length := by rw [List.size_toArray, ← r1.length]
  have z2 : ws.toArray.size = ys.length := by rw [List.size_toArray, ← r2.length]
  refine rc_tups_ne (e := e) hr.units0 (fun t => Inv X pins σ H t) o1 o2 (fun i h1 h2 t J => ?_) (fun t J => ⟨.bl _, H, J, by rw [z1, z2]; rfl, q⟩) I
  have k1 : i < xs.length := by omega
  have k2 : i < ys.length := by omega
  obtain ⟨p, hp, rp⟩ := r1.get (List.getElem?_eq_getElem k1)
  obtain ⟨q, hq, rq⟩ := r2.get (List.getElem?_eq_getElem k2)
  have e1 : us.toArray[i] = p := by
    have : us[i]? = some us.toArray[i] := by simp at h1; simp [h1]
    rw [hp] at this
    exact (Option.some.inj this).symm
  have e2 : ws.toArray[i] = q := by
    have : ws[i]? = some ws.toArray[i] := by simp at h2; simp [h2]
    rw [hq] at this
    exact (Option.some.inj this).symm
  rw [e1, e2]
  exact eqB_run own n X.A.in1 t _ _ _ _ _ sb.in1 J rp rq (he i _ _ (List.getElem?_eq_getElem k1) (List.getElem?_eq_getElem k2))
end
end DX

set_option Elab.async false
set_option linter.all false
set_option maxRecDepth 100000
set_option maxHeartbeats 4000000
/-! max(xs, default=d), max(t) -/
namespace DX
open PySem PySem.Spec PyProof.Rows L2
/-- the greatest, d for none -/
def mx (d : Int) : List Int → Int
  | [] => d
  | n :: r => r.foldl max n
theorem reads_of {h : Heap} : ∀ {ns : List Int} {us : List Value}, Vals (ns.map V.int) us → ReadsAll h us (ns.map PyData.int) []
  | [], _, r => by
    rw [List.map_nil] at r; cases r
    exact .nil
  | n :: ns, _, r => by
    rw [List.map_cons] at r
    cases r with
    | cons r t =>
      obtain ⟨k, rfl⟩ := r
      exact .cons (as := []) (bs := []) (.int n k) (reads_of t)
theorem alike_of (ns : List Int) : PySem.W.AlikeAll (ns.map PyData.int) := by
  refine ⟨fun x hx y hy => ?_, fun x hx => ?_⟩
  · obtain ⟨i, _, rfl⟩ := List.mem_map.mp hx
    obtain ⟨j, _, rfl⟩ := List.mem_map.mp hy
    rfl
  · obtain ⟨i, _, rfl⟩ := List.mem_map.mp hx
    intro z; cases z
theorem depth_of : ∀ ns : List Int, PyData.depthAll (ns.map PyData.int) ≤ 1
  | [] => Nat.zero_le _
  | n :: ns => by
    have := depth_of ns
    rw [List.map_cons]
    show max (PyData.depth (.int n)) (PyData.depthAll (ns.map PyData.int)) ≤ 1
    have z : PyData.depth (.int n) ≤ 1 := by simp [PyData.depth]
    omega
theorem reads_int {h : Heap} {v : Value} {n : Int} {bs : List Addr} (r : Reads h v (.int n) bs) : ∃ t, v = .int n t := by
  cases r
  exact ⟨_, rfl⟩
section
variable {X : Cx}
def rMaxDf (K : PySem.W.Frag) : List V → List V → Hp → VK → Prop := fun xs zs H Q => ∃ (a : Addr) (ns : List Int) (d : Int), xs = [.ref a] ∧ zs = [.int d] ∧ SqL K H a (ns.map V.int) ∧ Q (.int (mx d ns)) H
theorem cr_maxDf (hc : X.calm = true) (hu : X.A.units + 8 < cLine) : CallRK X (.builtin "max") ["default"] (rMaxDf X.K) := by
  intro pins s σ H xs zs us ws Q I r r2 q
  obtain ⟨a, ns, d, rfl, rfl, hl, q⟩ := q
  obtain ⟨u, rfl, ru⟩ := r.one
  cases ru
  obtain ⟨v, rfl, rv⟩ := r2.one
  obtain ⟨its, rl, pl, _⟩ := I.list hl
  have dp := depth_of ns
  show wpAny _ _ (call (.builtin "max") [.ref a] [(Str.ofString "default", v)]) _ _ s
  refine PySem.W.max_list_default (I.ok.hd hc) pl.isList (by simpa using reads_of rl) (alike_of ns) (by omega) (fun e h' tk hk => ?_) fun y ys i v' h' tk bs e hi hr hk => ?_
  · have e' : ns = [] := by simpa using e
    subst e'
    exact ⟨.int d, H, I.kept hk, rv, q⟩
  · cases ns with
    | nil => cases e
    | cons n r =>
      rw [List.map_cons] at e
      injection e with e1 e2
      subst e1 e2
      rw [PySem.W.maxD_ints] at hr
      obtain ⟨t, rfl⟩ := reads_int hr
      exact ⟨.int (mx d (n :: r)), H, I.kept hk, ⟨t, rfl⟩, q⟩
def rMaxT (K : PySem.W.Frag) : List V → Hp → VK → Prop := fun xs H Q => ∃ (a : Addr) (ns : List Int), xs = [.ref a] ∧ SqT K H a (ns.map V.int) ∧ ns ≠ [] ∧ Q (.int (mx 0 ns)) H
theorem cr_maxT (hc : X.calm = true) (hu : X.A.units + 8 < cLine) : CallR X (.builtin "max") (rMaxT X.K) := by
  intro pins s σ H xs us Q I r q
  obtain ⟨a, ns, rfl, hl, hne, q⟩ := q
  obtain ⟨u, rfl, ru⟩ := r.one
  cases ru
  obtain ⟨its, rl, pl, _⟩ := I.tuple hl
  have dp := depth_of ns
  cases ns with
  | nil => exact absurd rfl hne
  | cons n r =>
    have rr : ReadsAll s.heap its.toArray.toList (PyData.int n :: r.map PyData.int) [] := by simpa using reads_of (h := s.heap) rl
    refine PySem.W.max_tuple_data (I.ok.hd hc) pl rr (alike_of (n :: r)) (by rw [List.map_cons] at dp; omega) fun i v' h' tk bs hi hr hk => ?_
    rw [PySem.W.maxD_ints] at hr
    obtain ⟨t, rfl⟩ := reads_int hr
    exact ⟨.int (mx 0 (n :: r)), H, I.kept hk, ⟨t, rfl⟩, q⟩
end
theorem mx_le {d : Int} : ∀ {ns : List Int}, (∀ x ∈ ns, 0 ≤ x) → 0 ≤ d → 0 ≤ mx d ns
  | [], _, h => h
  | n :: r, hh, _ => by
    have key : ∀ (r : List Int) (n : Int), 0 ≤ n → 0 ≤ r.foldl max n := by
      intro r
      induction r with
      | nil => exact fun _ h => h
      | cons a r ih => exact fun n h => ih _ (Int.le_trans h (Int.le_max_left ..))
    exact key r n (hh n List.mem_cons_self)
theorem fold_ge : ∀ (r : List Int) (n : Int), n ≤ r.foldl max n ∧ ∀ x ∈ r, x ≤ r.foldl max n
  | [], n => ⟨Int.le_refl _, fun x hx => by cases hx⟩
  | a :: r, n => by
    obtain ⟨h1, h2⟩ := fold_ge r (max n a)
    rw [List.foldl_cons]
    refine ⟨Int.le_trans (Int.le_max_left ..) h1, fun x hx => ?_⟩
    rcases List.mem_cons.mp hx with e | hx
    · rw [e]; exact Int.le_trans (Int.le_max_right ..) h1
    · exact h2 x hx
theorem fold_mem : ∀ (r : List Int) (n : Int), r.foldl max n = n ∨ r.foldl max n ∈ r
  | [], n => .inl rfl
  | a :: r, n => by
    rw [List.foldl_cons]
    rcases fold_mem r (max n a) with h | h
    · rw [h]
      rcases Int.le_total n a with g | g
      · rw [Int.max_eq_right g]; exact .inr List.mem_cons_self
      · rw [Int.max_eq_left g]; exact .inl rfl
    · exact .inr (List.mem_cons_of_mem _ h)
/-- the greatest of numbers from 0 on is 0 just if all are -/
theorem mx_zero {ns : List Int} (h : ∀ x ∈ ns, 0 ≤ x) : mx 0 ns = 0 ↔ ∀ x ∈ ns, x = 0 := by
  cases ns with
  | nil => exact ⟨(fun _ x hx => by cases hx), (fun _ => rfl)⟩
  | cons n r =>
    have g := fold_ge r n
    constructor
    · intro e x hx
      have e' : r.foldl max n = 0 := e
      rw [e'] at g
      have h0 := h x hx
      rcases List.mem_cons.mp hx with z | z
      · rw [z] at h0 ⊢; have := g.1; omega
      · have := g.2 x z; omega
    · intro hh
      show r.foldl max n = 0
      rcases fold_mem r n with z | z
      · rw [z]; exact hh n List.mem_cons_self
      · exact hh _ (List.mem_cons_of_mem _ z)
end DX

set_option Elab.async false
set_option linter.all false
set_option maxRecDepth 100000
set_option maxHeartbeats 4000000
/-! steps of our own: each reading's combinator with what it asks as premises -/
namespace My
open PySem PySem.Spec PyProof.Rows L2
/-- what a for over range(..), over a list asks behind its argument; what a comprehension does -/
def FR (vs : List V) (g : TG) (tb : TS) (D : Ends) (σ : L2.St) (H1 : Hp) : Prop := ∃ j : Int, vs = [.int j] ∧ -(2 ^ 62) ≤ j ∧ j < 2 ^ 62 ∧ ∃ W : Nat → Nat → L2.St → Hp → Prop, (∃ m, W 0 m σ H1) ∧ ∀ i m σ H, W i m σ H →
  ((Itr 0 j.toNat).stop i H ∧ D.nx σ H) ∨ ((Itr 0 j.toNat).go i H ∧ ∃ N : L2.St → Hp → Prop, (∀ σ' H', N σ' H' → ∃ m', m' < m ∧ W (i + 1) m' σ' H') ∧ ∀ x H', (Itr 0 j.toNat).yld i H x H' → g x σ H' fun σ2 H2 => tb { D with nx := N, ct := N, bk := D.nx } σ2 H2)
def FL (K : PySem.W.Frag) (x : V) (g : TG) (tb : TS) (D : Ends) (σ : L2.St) (H1 : Hp) : Prop := ∃ a, x = .ref a ∧ (∃ xs, SqL K H1 a xs) ∧ ∃ W : Nat → Nat → L2.St → Hp → Prop, (∃ m, W 0 m σ H1) ∧ ∀ i m σ H, W i m σ H →
  ((Itl K a).stop i H ∧ D.nx σ H) ∨ ((Itl K a).go i H ∧ ∃ N : L2.St → Hp → Prop, (∀ σ' H', N σ' H' → ∃ m', m' < m ∧ W (i + 1) m' σ' H') ∧ ∀ x H', (Itl K a).yld i H x H' → g x σ H' fun σ2 H2 => tb { D with nx := N, ct := N, bk := D.nx } σ2 H2)
/-- a comprehension over the iterator J -/
def LJ (J : It) (g : TG) (tt : TT) (te : TE) (vs : List Nat) (σ : L2.St) (Q : VK) (H1 : Hp) : Prop := ∀ D, H1 D = none → ∃ W : Nat → Nat → Hp → Prop, (∃ m, W 0 m (upd H1 D (.lst []))) ∧ ∀ i m H, W i m H →
  (J.stop i H ∧ Q (.ref D) H) ∨ (J.go i H ∧ ∃ Nx : Hp → Prop, (∀ H', Nx H' → ∃ m', m' < m ∧ W (i + 1) m' H') ∧ ∀ x H', J.yld i H x H' → g x (wipe σ vs) H' fun σ2 H2 => wipe σ2 vs = wipe σ vs ∧ tt σ2 H2 fun b H3 =>
    if b = true then te σ2 H3 fun y H4 => ∃ acc, H4 D = some (.lst acc) ∧ acc.length < sizeLine ∧ Nx (upd H4 D (.lst (acc ++ [y]))) else Nx H3)
def CR1 (us : List V) (g : TG) (tt : TT) (te : TE) (vs : List Nat) (σ : L2.St) (Q : VK) (H1 : Hp) : Prop := ∃ j : Int, us = [.int j] ∧ -(2 ^ 62) ≤ j ∧ j < 2 ^ 62 ∧ LJ (Itr 0 j.toNat) g tt te vs σ Q H1
def CL1 (K : PySem.W.Frag) (x : V) (g : TG) (tt : TT) (te : TE) (vs : List Nat) (σ : L2.St) (Q : VK) (H1 : Hp) : Prop := ∃ a, x = .ref a ∧ (∃ xs, SqL K H1 a xs) ∧ LJ (Itl K a) g tt te vs σ Q H1
def rInt1 : List V → Hp → VK → Prop := fun xs H Q => (∃ i, xs = [.int i] ∧ Q (.int i) H) ∨ ∃ k, xs = [.bl k] ∧ Q (.int (if k then 1 else 0)) H
theorem c_int1 {X : Cx} : CallR X (.type "int") rInt1 := call_int1
def rAbs1 : List V → Hp → VK → Prop := fun xs H Q => ∃ i, xs = [.int i] ∧ Q (.int (if i < 0 then -i else i)) H
theorem c_abs {X : Cx} : CallR X (.builtin "abs") rAbs1 := call_abs
def rLen1 (K : PySem.W.Frag) : List V → Hp → VK → Prop := fun xs H Q => ∃ x n, xs = [x] ∧ LenV K x H n ∧ Q (.int n) H
theorem c_len {X : Cx} : CallR X (.builtin "len") (rLen1 X.K) := call_len
section
variable {σ : L2.St} {H : Hp} {Q : VK} {QB : Bool → Hp → Prop} {QA : List V → Hp → Prop} {K : PySem.W.Frag} {te td ty tv ta tb tx : TE} {tt tu : TT} {tl tr : TA} {D : Ends} {t u : TS} {x y v z : V} {r : R2} {i j : Int} {n : Nat} {b : Bool}
theorem seq (h : t { D with nx := u D } σ H) : tSeq t u D σ H := h
theorem next (h : D.nx σ H) : tNext D σ H := h
theorem ifs (h : tt σ H fun b H1 => if b = true then t D σ H1 else u D σ H1) : tIfS tt t u D σ H := h
theorem test (h : te σ H fun x H' => ∃ k, x = .bl k ∧ QB k H') : tTest te σ H QB := h
theorem testB (h : te σ H fun x H' => ∃ k, x = .bl k ∧ QB k H') : tB te σ H QB := h
theorem and_ (h : tt σ H fun c H1 => if c = true then tu σ H1 QB else QB false H1) : tAnd tt tu σ H QB := h
theorem or_ (h : tt σ H fun c H1 => if c = true then QB true H1 else tu σ H1 QB) : tOr tt tu σ H QB := h
theorem not_ (h : tt σ H fun c H1 => QB (!c) H1) : tNot tt σ H QB := h
theorem andV (h : ta σ H fun x H1 => ∃ c, x = .bl c ∧ if c = true then tb σ H1 Q else Q (.bl false) H1) : tAndV ta tb σ H Q := h
theorem orV (h : ta σ H fun x H1 => ∃ c, x = .bl c ∧ if c = true then Q (.bl true) H1 else tb σ H1 Q) : tOrV ta tb σ H Q := h
theorem notV (h : ta σ H fun x H1 => ∃ c, x = .bl c ∧ Q (.bl (!c)) H1) : tNotV ta σ H Q := h
theorem ifV (h : tt σ H fun c H1 => if c = true then ta σ H1 Q else tb σ H1 Q) : tIf tt ta tb σ H Q := h
theorem bl {R : Bool → Prop} (q : R b) : ∃ k, V.bl b = .bl k ∧ R k := ⟨b, rfl, q⟩
theorem ite_d {p : Prop} [Decidable p] {A B : Prop} (h1 : p → A) (h2 : ¬ p → B) : if decide p = true then A else B := by
  by_cases h : p
  · rw [if_pos (decide_eq_true h)]; exact h1 h
  · rw [decide_eq_false h, if_neg Bool.false_ne_true]; exact h2 h
theorem ite_nd {p : Prop} [Decidable p] {A B : Prop} (h1 : ¬ p → A) (h2 : p → B) : if (!decide p) = true then A else B := by
  by_cases h : p
  · rw [decide_eq_true h]; exact h2 h
  · rw [decide_eq_false h]; exact h1 h
theorem ite_t {A B : Prop} (h : A) : if true = true then A else B := by rw [if_pos rfl]; exact h
theorem ite_f {A B : Prop} (h : B) : if false = true then A else B := by rw [if_neg Bool.false_ne_true]; exact h
theorem ite_nt {A B : Prop} (h : B) : if (!true) = true then A else B := by simpa using h
theorem ite_nf {A B : Prop} (h : A) : if (!false) = true then A else B := by simpa using h
theorem var (h : σ[n]? = some (some v)) (q : Q v H) : tVar n σ H Q := ⟨v, h, q⟩
theorem cst (q : Q v H) : tC v σ H Q := q
theorem op (h : ta σ H fun x H1 => tb σ H1 fun y H2 => r x y H2 Q) : tOp r ta tb σ H Q := h
theorem un {r : V → Hp → VK → Prop} (h : ta σ H fun x H1 => r x H1 Q) : tUn r ta σ H Q := h
theorem rU_ {g : Int → V} (q : Q (g i) H) : rU g (.int i) H Q := ⟨i, rfl, q⟩
theorem rI0_ {g : Int → Int → V} (q : Q (g i j) H) : rI0 g (.int i) (.int j) H Q := ⟨i, j, rfl, rfl, q⟩
theorem rI_ {C : Int → Int → Prop} {g : Int → Int → V} (c : C i j) (q : Q (g i j) H) : rI C g (.int i) (.int j) H Q := ⟨i, j, rfl, rfl, c, q⟩
theorem modA (c : 0 < j) (q : ∀ k, 0 ≤ k → k < j → Q (.int k) H) : rI (fun _ j => 0 < j) (fun i j => .int (i % j)) (.int i) (.int j) H Q := ⟨i, j, rfl, rfl, c, q _ (Int.emod_nonneg _ (by omega)) (Int.emod_lt_of_pos _ c)⟩
theorem mulR {g : Int → Int → V} (h1 : -18446744073709551616 < j) (h2 : j < 18446744073709551616) (q : Q (g i j) H) : rI CMul g (.int i) (.int j) H Q := ⟨i, j, rfl, rfl, .inr ⟨h1, h2⟩, q⟩
theorem mulL {g : Int → Int → V} (h1 : -18446744073709551616 < i) (h2 : i < 18446744073709551616) (q : Q (g i j) H) : rI CMul g (.int i) (.int j) H Q := ⟨i, j, rfl, rfl, .inl ⟨h1, h2⟩, q⟩
theorem divP {g : Int → Int → V} (h1 : 0 < j) (h2 : j < 1073741824) (q : Q (g i j) H) : rI CDiv g (.int i) (.int j) H Q := ⟨i, j, rfl, rfl, ⟨h1, h2⟩, q⟩
theorem powP {g : Int → Int → V} (c : CPow i j) (q : Q (g i j) H) : rI CPow g (.int i) (.int j) H Q := ⟨i, j, rfl, rfl, c, q⟩
theorem rEqI (q : Q (.bl (decide (i = j))) H) : rEq (.int i) (.int j) H Q := ⟨rfl, by
  have e : decide (V.int i = V.int j) = decide (i = j) := by
    by_cases h : i = j
    · rw [h]; simp
    · simp [h]
  rw [e]; exact q⟩
theorem rNeI (q : Q (.bl (!decide (i = j))) H) : rNe (.int i) (.int j) H Q := ⟨rfl, by
  have e : decide (V.int i = V.int j) = decide (i = j) := by
    by_cases h : i = j
    · rw [h]; simp
    · simp [h]
  rw [e]; exact q⟩
theorem callB {rl : List V → Hp → VK → Prop} (h : tl σ H fun vs H1 => rl vs H1 Q) : tCB rl tl σ H Q := h
theorem cons (h : te σ H fun x H1 => tl σ H1 fun xs H2 => QA (x :: xs) H2) : tCons te tl σ H QA := h
theorem nil (q : QA [] H) : tNil σ H QA := q
theorem int1 (q : Q (.int i) H) : rInt1 [.int i] H Q := .inl ⟨i, rfl, q⟩
theorem int1b (q : Q (.int (if b then 1 else 0)) H) : rInt1 [.bl b] H Q := .inr ⟨b, rfl, q⟩
theorem abs1 (q : Q (.int (if i < 0 then -i else i)) H) : rAbs1 [.int i] H Q := ⟨i, rfl, q⟩
theorem lenL {p : Addr} {xs : List V} (h : SqL K H p xs) (q : Q (.int xs.length) H) : rLen1 K [.ref p] H Q := ⟨_, _, rfl, .inl ⟨xs, h, rfl⟩, q⟩
theorem lenT {p : Addr} {xs : List V} (h : SqT K H p xs) (q : Q (.int xs.length) H) : rLen1 K [.ref p] H Q := ⟨_, _, rfl, .inr ⟨xs, h, rfl⟩, q⟩
theorem dget (h : td σ H fun x H1 => ty σ H1 fun y H2 => ∃ a v, x = .ref a ∧ DGet H2 a y (some v) ∧ Q v H2) : tDGet td ty σ H Q := h
theorem dgetS {a : Addr} {kvs : List (Key × V)} {s : Str} (h : H a = some (.dK kvs)) {R : V → Prop} (hv : valV kvs (.inr s) = some v) (q : R v) : ∃ a' v', V.ref a = .ref a' ∧ DGet H a' (.str s) (some v') ∧ R v' :=
  ⟨a, v, rfl, .inl ⟨kvs, .inr s, .inl h, rfl, hv.symm⟩, q⟩
theorem dput (h : tv σ H fun v H1 => td σ H1 fun x H2 => ty σ H2 fun y H3 => ∃ a H4, x = .ref a ∧ DPut H3 a y v H4 ∧ D.nx σ H4) : sDPut td ty tv D σ H := h
theorem dputS {a : Addr} {kvs kvs' : List (Key × V)} {s : Str} {R : Hp → Prop} (h : H a = some (.dK kvs)) (hl : kvs.length < sizeLine) (e : putK kvs (.inr s) v = kvs') (q : R (upd H a (.dK kvs'))) : ∃ a' H4, V.ref a = .ref a' ∧ DPut H a' (.str s) v H4 ∧ R H4 := by
  subst e
  exact ⟨a, _, rfl, DPut.k (k := Sum.inr s) h hl, q⟩
theorem asg {g : TG} (h : te σ H fun x H1 => g x σ H1 D.nx) : tAsg te g D σ H := h
theorem name {N : L2.St → Hp → Prop} {σ' : L2.St} (e : σ.set n (some v) = σ') (h : N σ' H) : gName n v σ H N := by subst e; exact h
theorem drop (h : te σ H fun _ H1 => D.nx σ H1) : tDrop te D σ H := h
theorem ret (h : te σ H D.rt) : tRet te D σ H := h
theorem retN (h : D.rt .non H) : tRetN D σ H := h
theorem ixL {p : Addr} {xs : List V} (h : SqL K H p xs) (e : atI xs i = some v) (q : Q v H) : rIxL K (.ref p) (.int i) H Q := ⟨p, xs, i, v, rfl, rfl, h, e, q⟩
theorem ixT {p : Addr} {xs : List V} (h : SqT K H p xs) (e : atI xs i = some v) (q : Q v H) : rIxT K (.ref p) (.int i) H Q := ⟨p, xs, i, v, rfl, rfl, h, e, q⟩
theorem call {sp : Sp} {dvs : List V} {E : XK} (h : tl σ H fun vs H1 => sp (vs ++ dvs) H1 Q E) : tCall sp dvs E tl σ H Q := h
theorem lst_ (h : tl σ H fun xs H1 => xs.length ≤ sizeLine ∧ ∀ p, H1 p = none → Q (.ref p) (upd H1 p (.lst xs))) : tLst tl σ H Q := h
theorem tup_ (h : tl σ H fun xs H1 => xs.length ≤ sizeLine ∧ ∀ p, H1 p = none → Q (.ref p) (upd H1 p (.tup xs))) : tTup tl σ H Q := h
theorem new {p : Prop} {R : Addr → Prop} (hl : p) (h : ∀ a, H a = none → R a) : p ∧ ∀ a, H a = none → R a := ⟨hl, h⟩
theorem sz {n : Nat} (h : n ≤ 1000) : n ≤ sizeLine := Nat.le_trans h (by decide)
theorem range1 {R : Int → Prop} {p1 p2 : Int → Prop} (h1 : p1 i) (h2 : p2 i) (q : R i) : ∃ j, [V.int i] = [.int j] ∧ p1 j ∧ p2 j ∧ R j := ⟨i, rfl, h1, h2, q⟩
/-- over range(j): with an invariant -/
theorem rngI {g : TG} {tb : TS} (l1 : -4611686018427387904 ≤ j) (l2 : j < 4611686018427387904) (Pv : Nat → L2.St → Hp → Prop) (h0 : Pv 0 σ H)
    (hs : ∀ i σ H, i < j.toNat → Pv i σ H → g (.int (0 + (i : Int))) σ H fun σ2 H2 => tb { D with nx := Pv (i + 1), ct := Pv (i + 1), bk := D.nx } σ2 H2) (hd : ∀ σ H, Pv j.toNat σ H → D.nx σ H) : FR [.int j] g tb D σ H := ⟨j, rfl, l1, l2, for_range (lo := 0) (n := j.toNat) Pv h0 hs hd⟩
theorem forR1 {g : TG} {tb : TS} (h : tl σ H fun vs H1 => FR vs g tb D σ H1) : tFor (iRng1 tl) g tb D σ H := h
theorem forL1 {g : TG} {tb : TS} (h : te σ H fun x H1 => FL K x g tb D σ H1) : tFor (iList K te) g tb D σ H := h
theorem lstI {g : TG} {tb : TS} {a : Addr} {xs : List V} (hl0 : SqL K H a xs) (Pv : Nat → L2.St → Hp → Prop) (h0 : Pv 0 σ H) (hl : ∀ i σ H, i ≤ xs.length → Pv i σ H → SqL K H a xs)
    (hs : ∀ i x σ H, xs[i]? = some x → Pv i σ H → g x σ H fun σ2 H2 => tb { D with nx := Pv (i + 1), ct := Pv (i + 1), bk := D.nx } σ2 H2) (hd : ∀ σ H, Pv xs.length σ H → D.nx σ H) : FL K (.ref a) g tb D σ H :=
  ⟨a, rfl, ⟨xs, hl0⟩, for_list (xs := xs) Pv h0 hl hs hd⟩
theorem lcR1 {g : TG} {vs : List Nat} (h : tl σ H fun us H1 => CR1 us g tt te vs σ Q H1) : tLc (iRng1 tl) g tt te vs σ H Q := h
theorem lcRI {g : TG} {vs : List Nat} (l1 : -4611686018427387904 ≤ j) (l2 : j < 4611686018427387904) (h : ∀ A, H A = none → ∃ Pv : Nat → Hp → Prop, Pv 0 (upd H A (.lst [])) ∧
    (∀ i H, i < j.toNat → Pv i H → g (.int (0 + (i : Int))) (wipe σ vs) H fun σ2 H2 => wipe σ2 vs = wipe σ vs ∧ tt σ2 H2 fun b H3 =>
      if b = true then te σ2 H3 fun y H4 => ∃ acc, H4 A = some (.lst acc) ∧ acc.length < sizeLine ∧ Pv (i + 1) (upd H4 A (.lst (acc ++ [y]))) else Pv (i + 1) H3) ∧ ∀ H, Pv j.toNat H → Q (.ref A) H) : CR1 [.int j] g tt te vs σ Q H := by
  refine ⟨j, rfl, l1, l2, fun A hA => ?_⟩
  obtain ⟨Pv, h0, hs, hd⟩ := h A hA
  exact lc_range (lo := 0) (n := j.toNat) Pv h0 hs hd
theorem lcL1 {g : TG} {vs : List Nat} (h : ta σ H fun x H1 => CL1 K x g tt te vs σ Q H1) : tLc (iList K ta) g tt te vs σ H Q := h
theorem lcLI {g : TG} {vs : List Nat} {a : Addr} {xs : List V} (hl0 : SqL K H a xs) (h : ∀ A, H A = none → ∃ Pv : Nat → Hp → Prop, Pv 0 (upd H A (.lst [])) ∧ (∀ i H, i ≤ xs.length → Pv i H → SqL K H a xs) ∧
    (∀ i x H, xs[i]? = some x → Pv i H → g x (wipe σ vs) H fun σ2 H2 => wipe σ2 vs = wipe σ vs ∧ tt σ2 H2 fun b H3 =>
      if b = true then te σ2 H3 fun y H4 => ∃ acc, H4 A = some (.lst acc) ∧ acc.length < sizeLine ∧ Pv (i + 1) (upd H4 A (.lst (acc ++ [y]))) else Pv (i + 1) H3) ∧ ∀ H, Pv xs.length H → Q (.ref A) H) : CL1 K (.ref a) g tt te vs σ Q H := by
  refine ⟨a, rfl, ⟨xs, hl0⟩, fun A hA => ?_⟩
  obtain ⟨Pv, h0, hl, hs, hd⟩ := h A hA
  exact lc_list (xs := xs) Pv h0 hl hs hd
theorem disp {trs : List (TE × TE)} (h : ∀ p, H p = none → tPairs trs σ (upd H p (.dK [])) fun ps H2 => H2 p = some (.dK []) ∧ ∃ kvs : List (Key × V), ps = kvs.map (fun kv => (kV kv.1, kv.2)) ∧ kvs.length ≤ 15 ∧ Q (.ref p) (upd H2 p (.dK (mergeK [] kvs)))) : tDisp trs σ H Q := h
theorem pairs {tk tv : TE} {trs : List (TE × TE)} {R : List (V × V) → Hp → Prop} (h : tk σ H fun x H1 => tv σ H1 fun y H2 => tPairs trs σ H2 fun ps H3 => R ((x, y) :: ps) H3) : tPairs ((tk, tv) :: trs) σ H R := h
theorem pairs0 {R : List (V × V) → Hp → Prop} (h : R [] H) : tPairs [] σ H R := h
theorem sl {r : V → Option Int → Option Int → Hp → VK → Prop} {t1 t2 : TO} (h : te σ H fun x H1 => t1 σ H1 fun l H2 => t2 σ H2 fun u H3 => r x l u H3 Q) : tSl r te t1 t2 σ H Q := h
theorem part {QO : Option Int → Hp → Prop} (h : te σ H fun x H1 => ∃ i, x = .int i ∧ QO (some i) H1) : tPart te σ H QO := h
theorem partI {R : Int → Prop} (q : R i) : ∃ i', V.int i = .int i' ∧ R i' := ⟨i, rfl, q⟩
theorem yes (q : QB true H) : tYes σ H QB := q
theorem noPart {QO : Option Int → Hp → Prop} (q : QO none H) : tNoPart σ H QO := q
theorem slL {a : Addr} {xs : List V} {lo hi : Option Int} (h : SqL K H a xs) (q : ∀ p, H p = none → Q (.ref p) (upd H p (.lst (cutV xs lo hi)))) : rSlL K (.ref a) lo hi H Q := ⟨a, xs, rfl, h, q⟩
theorem bm {T : String} {r : V → List V → Hp → VK → Prop} (h : te σ H fun x H1 => tyV K T x H1 ∧ tl σ H1 fun xs H2 => r x xs H2 Q) : tBM K T r te tl σ H Q := h
theorem tyL {p : Addr} {xs : List V} {R : Prop} (h : SqL K H p xs) (q : R) : tyV K "list" (.ref p) H ∧ R := ⟨.inl ⟨rfl, xs, h⟩, q⟩
theorem ext {l a : Addr} {xs zs : List V} (h1 : H l = some (.lst xs)) (h2 : H a = some (.lst zs)) (hz : xs.length + zs.length ≤ 1000) (q : Q .non (upd H l (.lst (xs ++ zs)))) : rExtend (.ref l) [.ref a] H Q := ⟨l, a, xs, zs, rfl, rfl, h1, h2, sz hz, q⟩
theorem app {l : Addr} {xs : List V} (h1 : H l = some (.lst xs)) (hz : xs.length < 1000) (q : Q .non (upd H l (.lst (xs ++ [y])))) : rAppend (.ref l) [y] H Q := ⟨l, xs, y, rfl, rfl, h1, Nat.lt_of_lt_of_le hz (by decide), q⟩
theorem inT {p : Addr} {xs : List V} (h : SqT K H p xs) (hx : flatV x = true) (ha : xs.all flatV = true) (q : Q (.bl (inV x xs)) H) : rIn K false x (.ref p) H Q := ⟨p, xs, rfl, .inr h, hx, ha, q⟩
theorem ite_ct {c : Bool} {A B : Prop} (h : c = true) (q : A) : if c = true then A else B := by rw [h, if_pos rfl]; exact q
theorem ite_cf {c : Bool} {A B : Prop} (h : c = false) (q : B) : if c = true then A else B := by rw [h, if_neg Bool.false_ne_true]; exact q
theorem make {C : Addr} {sp : Sp} {dvs : List V} {E : XK} (h : tl σ H fun vs H1 => ∀ x dx, H1 x = none → H1 dx = none → dx ≠ x → sp (.ref x :: (vs ++ dvs)) (upd (upd H1 dx (.own x)) x (.ins C dx [])) (fun v H2 => v = .non ∧ Q (.ref x) H2) E) : tMake C sp dvs E tl σ H Q := h
theorem cat {l a : Addr} {xs zs : List V} (h1 : H l = some (.lst xs)) (h2 : H a = some (.lst zs)) (hz : xs.length + zs.length ≤ 1000) (q : ∀ p, H p = none → Q (.ref p) (upd H p (.lst (xs ++ zs)))) : rCat (.ref l) (.ref a) H Q := ⟨l, a, xs, zs, rfl, rfl, h1, h2, sz hz, q⟩
theorem atI_of {α : Type} {xs : List α} {i : Int} (h0 : 0 ≤ i) (h1 : i < xs.length) : ∃ v, atI xs i = some v ∧ v ∈ xs := by
  obtain ⟨n, rfl⟩ := Int.eq_ofNat_of_zero_le h0
  have hn : n < xs.length := by omega
  exact ⟨xs[n], atI_nat (by simp [hn]), List.getElem_mem hn⟩
end
end My

set_option Elab.async false
set_option linter.all false
set_option maxRecDepth 100000
set_option maxHeartbeats 4000000
/-! for i, x in enumerate(t), t a tuple -/
namespace PySem
open AutoSeq1 (wpAny_loadPart')
namespace EnT
def itO (t : Addr) : Obj := { cls := .type "tuple_iterator", data := .fields #[.ref t, .int 0 0] }
def enO (it : Addr) : Obj := { cls := .type "enumerate", data := .fields #[.none, .bool false, .ref it, rawInt 0, .none, .none] }
theorem meets_enT (t : Addr) (items : Array Value) :
    Meets (Builtin.«enumerate.__new__» ⟨[.type "enumerate", .ref t], []⟩) (fun _ R s => s.heap.IsTuple t items ∧ R (.ok (.ret (.ref (s.heap.push (itO t)).objs.size))) { s with heap := (s.heap.push (itO t)).push (enO s.heap.objs.size) }) :=
  .of_wp fun prog w A R s h => by
    obtain ⟨hp, g, d, tk, os⟩ := s
    obtain ⟨hl, h⟩ := h
    have hsub := sub_enumerate
    have hL : Heap.IsTuple (Shared.heap ⟨hp, g, d, tk, os⟩) t items := hl
    wp_walk
    refine wpAny_stack_any fun st => wpAny_pure ?_
    split
    · rename_i c _ _ _ _ _
      cases (c == Value.type "enumerate")
      · wp_walk using wpAny_pyIter_tuple hL
        exact ⟨_, rfl, h⟩
      · wp_walk using wpAny_pyIter_tuple hL
        exact ⟨_, rfl, h⟩
    · wp_walk using wpAny_pyIter_tuple hL
      exact ⟨_, rfl, h⟩
theorem call_enT {prog : Program} {w : World} {A : Around} {E : Value → Shared → Prop} {s : Shared} {t : Addr} {items : Array Value} {Q : Value → Shared → Prop} (hl : s.heap.IsTuple t items)
    (k : ∀ h', IsEnum h' (s.heap.objs.size + 1) s.heap.objs.size 0 .none → h'.IsTupleIter s.heap.objs.size t 0 → (∀ b o, s.heap.get? b = some o → h'.get? b = some o) → Q (.ref (s.heap.objs.size + 1)) { s with heap := h' }) :
    wpAny (model prog w) A (call (.type "enumerate") [.ref t]) Q E s := by
  refine callType_new F.called_enumerate (by decide) (F.typeCall_enumerate_1 _) (F.newCall_enumerate_1 _) (fun obj => F.args_object_init_2 obj _) F.entry_enumerate_new (meets_enT t items) ⟨hl, ?_⟩
  have sz : (s.heap.push (itO t)).objs.size = s.heap.objs.size + 1 := Heap.size_push ..
  show _ ∧ _
  rw [sz]
  have e1 : IsEnum ((s.heap.push (itO t)).push (enO s.heap.objs.size)) (s.heap.objs.size + 1) s.heap.objs.size 0 .none := by
    have z := Heap.get?_push_size (s.heap.push (itO t)) (o := enO s.heap.objs.size) rfl
    rw [sz] at z
    exact z
  exact ⟨⟨_, e1, rfl⟩, k _ e1 ⟨_, Heap.get?_push_of_some _ (Heap.get?_push_size _ rfl), rfl, rfl⟩ fun b o x => Heap.get?_push_of_some _ (Heap.get?_push_of_some _ x)⟩
end EnT
end PySem
namespace EnT
open PySem PySem.Spec PyProof.Rows L2
/-- the tuple at a, each item in a new pair -/
def It (K : PySem.W.Frag) (a : Addr) : L2.It :=
  ⟨fun i H => ∃ (xs : List V) (x : V), SqT K H a xs ∧ xs[i]? = some x, fun i H v H' => ∃ T x, v = .ref T ∧ H T = none ∧ H' = upd H T (.tup [.int (i : Nat), x]) ∧ ∀ xs, SqT K H a xs → xs[i]? = some x, fun i H => ∃ xs : List V, SqT K H a xs ∧ xs.length = i⟩
theorem turn {P : Program} {w : World} {K : PySem.W.Frag} {elts : List Expr} {kk : Nat} {tpos : Pos} (a e it : Addr) :
    Turn P w K (.Tuple elts kk tpos) (It K a) [e, it] e (fun i h => (∃ old, IsEnum h e it ((i : Nat) : Int) old) ∧ h.IsTupleIter it a i ∧ e ≠ it) where
  mem := List.mem_cons_self
  obj := fun i h st b hb => by
    obtain ⟨⟨old, he⟩, ⟨o, ho, hc, hd⟩, _⟩ := st
    rcases (show b = e ∨ b = it by simpa using hb) with rfl | rfl
    · exact ⟨_, he, fun v q => nomatch q⟩
    · exact ⟨o, ho, fun v q => by rw [hd] at q; cases q⟩
  keep := fun i h h' st k => by
    obtain ⟨⟨old, he⟩, hi, hne⟩ := st
    exact ⟨⟨old, k e (by simp) _ he⟩, hi.at fun o q => k it (by simp) o q, hne⟩
  item := by
    intro X hP hw hK hc i pins s σ H E I hf st hg
    subst hP hw hK
    obtain ⟨⟨old, he⟩, hit, hne⟩ := st
    obtain ⟨xs, x, hq, hx⟩ := hg
    obtain ⟨its, rv, p, _⟩ := I.tuple hq
    obtain ⟨u, hu, ru⟩ := rv.get hx
    have le : e < s.heap.objs.size := Heap.lt_size he
    have li : it < s.heap.objs.size := by obtain ⟨_, q, _⟩ := hit; exact Heap.lt_size q
    have nai : a ≠ it := fun z => by
      obtain ⟨o1, q1, c1, _⟩ := p
      obtain ⟨o2, q2, c2, _⟩ := hit
      rw [z, q2] at q1
      rw [← Option.some.inj q1, c2] at c1
      simp at c1
    have nae : e ∉ [it, a] := fun z => by
      rcases (show e = it ∨ e = a by simpa using z) with z | z
      · exact hne z
      · obtain ⟨o1, q1, c1, _⟩ := p
        rw [← z, he] at q1
        rw [← Option.some.inj q1] at c1
        simp at c1
    have hi : i < its.toArray.size := by
      have z := (List.getElem?_eq_some_iff.mp hu).1
      simpa using z
    refine wpAny_pyNext_enum_itemD (PySem.Draws.tuple (A := X.A.in1) (show X.A.in1.handled = none from I.ok.hd hc) it a nai its.toArray) he ⟨hit, p⟩ hi hne nae fun y h1 tk py ho st1 hT _ hk => ?_
    have ey : y = u := by
      rw [show its.toArray[i]? = some u by simpa using hu] at py
      exact (Option.some.inj py).symm
    subst ey
    refine ⟨_, rfl, wpAny_letOwnedTupleGo_enum (s := { s with heap := h1, toks := tk + 1 }) ho fun h2 he2 sb => ?_⟩
    have hT2 : h2.get? s.heap.objs.size = some { cls := .type "tuple", data := .seq #[.int i tk, y] } := (sb.2 _ (Nat.ne_of_gt le)).trans hT
    have new : ObjOk X.prog X.w (upd H s.heap.objs.size (.tup [.int (i : Nat), x])) h2 s.heap.objs.size (.tup [.int (i : Nat), x]) :=
      ⟨My.sz (by simp), [.int i tk, y], .cons ⟨_, rfl⟩ (.cons ru .nil), ⟨_, hT2, rfl, _, rfl⟩⟩
    have J : Inv X pins σ (upd H s.heap.objs.size (.tup [.int (i : Nat), x])) { s with heap := h2, toks := tk + 1 } :=
      I.turnedNew (ch := [e, it]) (fun b ob hb q => (sb.2 b (fun z => hb (by simp [z]))).trans (hk b ob (fun z => hb (by simp [z])) (fun z => hb (by simp [z])) q)) hf (Nat.le_refl _) new
    refine ⟨.ref s.heap.objs.size, _, J, rfl, ⟨_, x, rfl, I.hok.fresh (Nat.le_refl _), rfl, fun ys hy => by rw [I.tuple_inj hy hq]; exact hx⟩, ⟨⟨y, ?_⟩, st1.1.at fun o q => (sb.2 it (Ne.symm hne)).trans q, hne⟩, fun b hb => ?_⟩
    · rw [show ((i + 1 : Nat) : Int) = (i : Int) + 1 by omega]
      exact he2
    · have lb : b < s.heap.objs.size := by
        rcases (show b = e ∨ b = it by simpa using hb) with rfl | rfl
        · exact le
        · exact li
      rw [upd_ne (Nat.ne_of_lt lb)]
      exact (hf b hb).1
  done := by
    intro X hP hw hK hc i pins s σ H E I hf st hg
    subst hP hw hK
    obtain ⟨⟨old, he⟩, hit, hne⟩ := st
    obtain ⟨xs, hq, rfl⟩ := hg
    obtain ⟨its, rv, p, _⟩ := I.tuple hq
    obtain ⟨f0, f1, f2, f3, f4, f5⟩ := hf it (by simp)
    have nai : a ≠ it := fun z => by
      obtain ⟨o1, q1, c1, _⟩ := p
      obtain ⟨o2, q2, c2, _⟩ := hit
      rw [z, q2] at q1
      rw [← Option.some.inj q1, c2] at c1
      simp at c1
    have sz : its.toArray.size = xs.length := by rw [List.size_toArray, rv.length]
    have hit' : s.heap.IsTupleIter it a its.toArray.size := by rw [sz]; exact hit
    exact wpAny_pyNext_enum_endD (PySem.Draws.tuple (A := X.A.in1) (show X.A.in1.handled = none from I.ok.hd hc) it a nai its.toArray) he ⟨hit', p⟩ fun h' eb => ⟨rfl, I.turned (t' := s.toks) (fun b o hb q => eb b o hb q) f0 f1 f3 f4 f5⟩
  self := fun A i s Q E st h => let ⟨⟨_, he⟩, _⟩ := st; wpAny_pyIter_enum he h
def iEnT (K : PySem.W.Frag) (ta : TA) : TI := fun σ H R => ta σ H fun vs H1 => ∃ a xs, vs = [.ref a] ∧ SqT K H1 a xs ∧ R (It K a) H1
theorem pi_enumT {X : Cx} {e : Expr} {ta : TA} {p pos tpos : Pos} {elts : List Expr} {kk : Nat} (hg : Gl X "enumerate") (hm : X.mg "enumerate" = none) (ha : PA X [e] ta) (hs : starEach [e] X.env = [(false, eval e X.env)] := by rfl) :
    PI X (.Tuple elts kk tpos) (.Call (.Name "enumerate" p) [e] [] pos) (iEnT X.K ta) := by
  refine ⟨fun pins s σ H R I h => ?_⟩
  refine Call_ (ld_blt I hg hm boot_enumerate (PyProof.Rows.callWith_type1 (thn (ha.run pos pins s σ H _ I h) fun us s1 z => ?_) hs rfl))
  obtain ⟨vs, H1, I1, r1, a, xs, rfl, hq, q⟩ := z
  obtain ⟨u, rfl, ru⟩ := r1.one
  cases ru
  obtain ⟨its, rv, p', _⟩ := I1.tuple hq
  refine PySem.EnT.call_enT p' fun h' he hit hk => wpAny_pyIter_enum he ?_
  have J : Inv X pins σ H1 { s1 with heap := h' } := I1.kept (t' := s1.toks) hk
  refine ⟨s1.heap.objs.size + 1, [s1.heap.objs.size + 1, s1.heap.objs.size], _, _, H1, rfl, J, turn a (s1.heap.objs.size + 1) s1.heap.objs.size, ⟨⟨.none, he⟩, hit, Nat.succ_ne_self _⟩, fun b hb => ?_, q⟩
  have lb : s1.heap.objs.size ≤ b := by
    rcases (show b = s1.heap.objs.size + 1 ∨ b = s1.heap.objs.size by simpa using hb) with rfl | rfl
    · exact Nat.le_succ _
    · exact Nat.le_refl _
  exact I1.fpOk lb (I1.hok.fresh lb)
theorem walk_enT {K : PySem.W.Frag} {a : Addr} {xs : List V} : Walk (It K a) xs.length (fun H => SqT K H a xs) (YPair (fun i => some (.int (i : Nat))) (fun i => xs[i]?)) := by
  refine ⟨fun i _ hi q => ⟨xs, xs[i], q, by simp [hi]⟩, fun _ q => ⟨xs, q, rfl⟩, fun i H v H' _ q y => ?_⟩
  obtain ⟨T, x, h1, h2, h3, h4⟩ := y
  exact ⟨T, .int (i : Nat), x, h1, h2, h3, rfl, h4 xs q⟩
/-- what a for over enumerate(t) asks behind its argument -/
def FT (K : PySem.W.Frag) (vs : List V) (g : TG) (tb : TS) (D : Ends) (σ : L2.St) (H1 : Hp) : Prop := ∃ a xs, vs = [.ref a] ∧ SqT K H1 a xs ∧ ∃ W : Nat → Nat → L2.St → Hp → Prop, (∃ m, W 0 m σ H1) ∧ ∀ i m σ H, W i m σ H →
  ((It K a).stop i H ∧ D.nx σ H) ∨ ((It K a).go i H ∧ ∃ N : L2.St → Hp → Prop, (∀ σ' H', N σ' H' → ∃ m', m' < m ∧ W (i + 1) m' σ' H') ∧ ∀ x H', (It K a).yld i H x H' → g x σ H' fun σ2 H2 => tb { D with nx := N, ct := N, bk := D.nx } σ2 H2)
theorem forT1 {K : PySem.W.Frag} {tl : TA} {g : TG} {tb : TS} {D : Ends} {σ : L2.St} {H : Hp} (h : tl σ H fun vs H1 => FT K vs g tb D σ H1) : tFor (iEnT K tl) g tb D σ H := h
theorem forT {K : PySem.W.Frag} {g : TG} {tb : TS} {D : Ends} {σ : L2.St} {H : Hp} {a : Addr} {xs : List V} (hl : SqT K H a xs) (Pv : Nat → L2.St → Hp → Prop) (h0 : Pv 0 σ H) (hG : ∀ i σ H, i ≤ xs.length → Pv i σ H → SqT K H a xs)
    (hs : ∀ i x T σ H, xs[i]? = some x → Pv i σ H → H T = none → g (.ref T) σ (upd H T (.tup [.int (i : Nat), x])) fun σ2 H2 => tb { D with nx := Pv (i + 1), ct := Pv (i + 1), bk := D.nx } σ2 H2) (hd : ∀ σ H, Pv xs.length σ H → D.nx σ H) : FT K [.ref a] g tb D σ H :=
  ⟨a, xs, rfl, hl, for_it walk_enT Pv h0 hG (fun i v σ H H' hi p y => by
    obtain ⟨T, x, z, rfl, hT, rfl, ex, ez⟩ := y
    cases ex
    exact hs i z T σ H ez p hT) hd⟩
end EnT

set_option Elab.async false
set_option linter.all false
set_option maxRecDepth 100000
set_option maxHeartbeats 4000000
/-! exceptions as values: made, asked for their class, a field read -/
namespace XV
open PySem PySem.Spec PyProof.Rows L2
/-- an exception at a, of the class at C, made by an own __init__, its one field f holding y -/
def ErrF (H : Hp) (a C : Addr) (f : Str) (y : V) : Prop := ∃ d, H a = some (exo a C (some d)) ∧ H d = some (exd d [(f, y)])
/-- an exception at a without fields -/
def ErrN (H : Hp) (a C : Addr) : Prop := H a = some (ExO (.ref C) a)
theorem exo_inst {P : Program} {w : World} {H : Hp} {h : Heap} {a C d : Addr} {f : Str} {y : V} (ok : HOk P w H h) (ha : H a = some (exo a C (some d))) (hd : H d = some (exd d [(f, y)])) :
    ∃ ox od, PySem.W.InstAt h a ox C (some od) ∧ ∃ u, PySem.W.lookIn f od = some (some u) ∧ RelV y u := by
  obtain ⟨t1, ho⟩ := exo_at ok ha
  obtain ⟨mA, hns, rel⟩ := exd_at ok hd
  obtain ⟨od, hod, hl⟩ := lookIn_ns hns
  have l : List.lookup f [(f, y)] = some y := by simp [List.lookup]
  obtain ⟨u, hu, ru⟩ := RelO.some_of (v := y) (o := mA f) (by rw [← l]; exact rel f)
  exact ⟨_, od, ⟨ho, rfl, rfl, hod⟩, u, by rw [hl, hu], ru⟩
section
variable {X : Cx} {e : Expr} {es : List Expr} {te : TE} {ta : TA} {x : Str} {p pos : Pos} {C fI : Addr} {fd : FuncData} {ps : List Str} {sp : Sp} {k : Nat} {CX : CXT}
/-- C(e, ..) -/
def tMkX (C : Addr) (sp : Sp) (ta : TA) : TE := fun σ H Q => ta σ H fun vs H1 => vs.length ≤ 1000 ∧ ∀ a, H1 a = none → sp (.ref a :: vs) (upd H1 a (exo a C none)) (fun v H2 => v = .non ∧ Q (.ref a) H2) (fun _ _ _ => False)
theorem pe_mkX (T : OexC X.K C) (iC : PySem.W.findIn X.K (.ref C) "__init__" = some (some (.ref fI))) (tI : PySem.W.typeIn X.K (.ref fI) = some (.type "function"))
    (F1 : FnOk X.prog X.w X.K X.mg X.base CX k fI fd ps sp) (hr : Room (k + 1) X.A) (hb : Binds X.K fd ps []) (hx : Passes CX X (fun _ _ _ => False)) (hg : Gl X x) (hm : X.mg x = some (.ref C)) (ha : PA X (e :: es) ta)
    (hdb : (x == ("__debug__" : Str)) = false := by decide) (he : starEach (e :: es) X.env = (false, eval e X.env) :: starEach es X.env := by rfl) (hpl : (backTo pos (starEach es X.env)).any (·.1) = false := by rfl) :
    PE X (.Call (.Name x p) (e :: es) [] pos) (tMkX C sp ta) := by
  refine ⟨fun pins s σ H Q I h => ?_⟩
  have TC := T.cls; obtain ⟨_, _, _, _, bm, _, _, _, _, _, _, _, _, _, _, hC, hbm⟩ := TC
  refine wpAny_Call_Name_kw (ld_glob I hg hm ?_ hdb)
  refine PySem.W.callWith_K (h₀ := X.base) I.ok.mod.kin T.kC (thn (ha.run pos pins s σ H _ I h) fun us s1 ⟨vs, H1, I1, r1, hz, q1⟩ => ⟨I1.kIn, ?_⟩) he hpl
  show wpAny _ _ (call (.ref C) us) _ _ _
  obtain ⟨hp, g, dr, tk, os⟩ := s1
  have hsz : hp.objs.size ≤ hp.objs.size + 1 := Nat.le_succ _
  have hn : H1 (hp.objs.size + 1) = none := I1.hok.fresh hsz
  have hq := q1 (hp.objs.size + 1) hn
  have kk : ∀ b o, hp.get? b = some o → ((hp.push (PySem.W.kdv_tup us)).push (PySem.HandSPX.excO C hp.objs.size)).get? b = some o := fun b o e => Heap.get?_push_of_some _ (Heap.get?_push_of_some _ e)
  have hget : ((hp.push (PySem.W.kdv_tup us)).push (PySem.HandSPX.excO C hp.objs.size)).get? (hp.objs.size + 1) = some (PySem.HandSPX.excO C hp.objs.size) := by heap_get
  have I2 : Inv X pins σ (upd H1 (hp.objs.size + 1) (exo (hp.objs.size + 1) C none)) ⟨(hp.push (PySem.W.kdv_tup us)).push (PySem.HandSPX.excO C hp.objs.size), g, dr, tk, os⟩ :=
    I1.laid (t' := tk) (a := hp.objs.size + 1) (o := exo (hp.objs.size + 1) C none) (h' := (hp.push (PySem.W.kdv_tup us)).push (PySem.HandSPX.excO C hp.objs.size)) kk hsz (exo_ok hget)
  have r2 : Vals (V.ref (hp.objs.size + 1) :: vs) (Value.ref (hp.objs.size + 1) :: us) := .cons rfl r1
  have hl : (Value.ref (hp.objs.size + 1) :: us ++ ([] : List Value)).length = ps.length := by
    have e := r2.length
    rw [F1.len _ _ _ _ hq] at e
    simpa using e.symm
  have hus : us.length ≤ sizeLine := by
    rw [← Paired.length r1, sizeLine_eq]
    omega
  have hb2 := hb ⟨(hp.push (PySem.W.kdv_tup us)).push (PySem.HandSPX.excO C hp.objs.size), g, dr, tk, os⟩ (Value.ref (hp.objs.size + 1) :: us) I2.kIn hl
  rw [List.append_nil] at hb2
  refine wpAny_call (PySem.HandSPX.call_own F.excBase_ValueError (fun Y => PySem.HandSPX.refsVE_contains Y bm hbm) (I1.kIn _ _ hC) (PySem.W.looks_findIn I1.kIn iC) (fun self => PySem.W.bind_fn I1.kIn self tI) hus
    (codeAny_mono (F1.run _ X.stack _ _ ⟨Value.ref (hp.objs.size + 1) :: us, []⟩ (Value.ref (hp.objs.size + 1) :: us) _ _ (fun _ _ _ => False) (hr.make C us []) (I2.env0.make C us []) hb2 r2 hq) fun r s' hq' => ?_))
  cases r with
  | error er => exact hx pins σ _ _ er s' I2 hq'
  | ok fl =>
    cases fl with
    | ret u =>
      obtain ⟨v, H', I3, rv, ev, q3⟩ := I2.after hq'
      subst ev
      exact ⟨rv, ⟨V.ref (hp.objs.size + 1), H', I3, rfl, q3⟩⟩
    | next => exact False.elim hq'
    | brk => exact False.elim hq'
    | cont => exact False.elim hq'
/-- C(), C an own exception class without own __init__ -/
def tMk0 (C : Addr) : TE := fun _ H Q => ∀ a, H a = none → Q (.ref a) (upd H a (ExO (.ref C) a))
theorem pe_mk0 {bmB : List Value} {B newId initId : String} (F : ExcBaseFacts B newId initId bmB) (q : PySem.W.excIn X.K C bmB newId = true) (gC : X.mg x = some (.ref C)) (kC : PySem.W.keepIn X.K (.ref C) = true) (hg : Gl X x)
    (hdb : (x == ("__debug__" : Str)) = false := by decide) : PE X (.Call (.Name x p) [] [] pos) (tMk0 C) := by
  refine ⟨fun pins s σ H Q I h => ?_⟩
  refine wpAny_Call_Name_kw (ld_glob I hg gC ?_ hdb)
  refine PySem.W.callWith_K0 I.kIn kC ?_
  show wpAny _ _ (call (.ref C) []) _ _ _
  obtain ⟨bm, N, nm, qn, bs, hdct, sn, sub, ab, col, dd, k0, k1, k2, k3, k5, mN, hC, hN, hni, T⟩ := exc_obj I.kIn q
  refine wpAny_call_exc_subT F T hC hN hni (fun h' a hm => ?_) (Nat.zero_le _)
  have hn : H a = none := I.hok.gone hm.new
  obtain ⟨t, ht, _, _⟩ := hm.there
  exact ⟨.ref a, upd H a (ExO (.ref C) a), I.laidN hm.keeps hm.new hn (exO_ok ht ⟨rfl, rfl⟩ rfl rfl rfl (show 4 < 6 by decide)), rfl, h a hn⟩
/-- isinstance(e, c), e an exception that is held -/
def rIsX (K : PySem.W.Frag) : List V → Hp → VK → Prop := fun xs H Q => ∃ (a C : Addr) (c : V) (cv : Value) (b : Bool), xs = [.ref a, c] ∧ ((∃ f y, ErrF H a C f y) ∨ ErrN H a C) ∧ ExcC K C ∧ (∀ u, RelV c u → u = cv) ∧ PySem.W.kitOne K (.ref C) cv = some b ∧ Q (.bl b) H
theorem call_isX : CallR X (.builtin "isinstance") (rIsX X.K) := by
  intro pins s σ H xs us Q I r h
  obtain ⟨a, C, c, cv, b, rfl, he, G, hcv, e, q⟩ := h
  cases r with
  | cons rx rr =>
    cases rr with
    | cons rt rr =>
      cases rr
      cases rx
      have ec := hcv _ rt
      subst ec
      rcases he with ⟨f, y, d, ha, hd⟩ | ha
      · obtain ⟨ox, od, J, _⟩ := exo_inst I.hok ha hd
        have hcl : (PySem.W.clsIn X.K C).isSome = true := by
          obtain ⟨z, hz, _⟩ := PySem.W.any_some G.hd
          rw [hz]; rfl
        exact PySem.W.kia_one (PySem.W.kitx_exc (ox := ox) (od := some od) hcl G.hg G.hk G.hs G.ha G.hn G.ht G.hm) I.kIn J e (fun z => nomatch z) fun tk => ⟨.bl b, H, I.kept (t' := tk) fun _ _ z => z, rfl, q⟩
      · obtain ⟨⟨oe, vs, ho, hz, hdt, _⟩, _, _⟩ := I.hok a _ ha
        have J : PySem.W.InstAt s.heap a oe C none := by
          obtain ⟨oc, od, oda, osl⟩ := oe
          obtain ⟨h1, h2⟩ := hz
          dsimp only at h1 h2 hdt
          subst h1 h2 hdt
          exact ⟨ho, rfl, rfl, trivial⟩
        exact PySem.W.kia_one (PySem.W.handS_kitx_exc G.hg G.hk G.hs G.hd G.ha G.hn G.ht G.hm) I.kIn J e (fun z => nomatch z) fun tk => ⟨.bl b, H, I.kept (t' := tk) fun _ _ z => z, rfl, q⟩
/-- e.f, e an exception that is held -/
def tFldX (K : PySem.W.Frag) (f : Str) (te : TE) : TE := fun σ H Q => te σ H fun x H1 => ∃ a C y, x = .ref a ∧ ErrF H1 a C f y ∧ ExcC K C ∧ PySem.W.findIn K (.ref C) f = some none ∧ Q y H1
theorem pe_fldX {f : Str} (he : PE X e te) (hb : attributeBase e f X.env (eval e X.env) = eval e X.env := by rfl) : PE X (.Attribute e f pos) (tFldX X.K f te) := by
  refine ⟨fun pins s σ H Q I h => ?_⟩
  refine attr_of hb (thn (he.run pins s σ H _ I h) fun u s1 hh => ?_)
  obtain ⟨x, H1, I1, rx, a, C, y, ex, ⟨d, ha, hd⟩, G, noN, q⟩ := hh
  subst ex
  obtain rfl : u = Value.ref a := rx
  obtain ⟨ox, od, J, v, hl, rv⟩ := exo_inst I1.hok ha hd
  exact HandSPX.exc_get I1.kIn J G.hg G.hk G.hs (PySem.W.findObj_own G.hd noN rfl hl) (handed_of rv) ⟨y, H1, I1.tok _, rv, q⟩

/-! ### == of a value with itself -/
theorem op_or {f : Value → Value → Sem Value} {r r' : R2} (h : OpR X f r) (h' : OpR X f r') : OpR X f (fun x y H Q => r x y H Q ∨ r' x y H Q) := by
  intro pins s σ H a b u v Q I ra rb q
  rcases q with q | q
  · exact h pins s σ H a b u v Q I ra rb q
  · exact h' pins s σ H a b u v Q I ra rb q
def DElem : Eqv := fun x y _ => x = y ∧ (flatB x = true ∨ ∃ a, x = .ref a)
theorem mon_elem : Mon DElem := fun _ _ _ _ _ d => d
theorem eqG_elem {n : Nat} : EqG X n DElem := by
  intro A pins s σ H x y u v sb I rx ry d
  obtain ⟨rfl, d⟩ := d
  rcases d with d | ⟨a, rfl⟩
  · exact eqAt_same (A := A) (s := s) rx ry d X.prog X.w X.xe _ ⟨rfl, H, I, Ext.rfl'⟩
  · cases rx
    cases ry
    exact SeqAt.EqAt.same (A := A) (s := s) (.ref a) X.prog X.w X.xe _ ⟨rfl, H, I, Ext.rfl'⟩
/-- what can be seen to be equal to itself -/
def Own (v : V) : Prop := flatB v = true ∨ ∃ a, v = .ref a
inductive SelfV (K : PySem.W.Frag) (H : Hp) (P : Addr → Hp → Prop) : V → Prop where
  | flat {v : V} (h : scal v v = true) : SelfV K H P v
  | lst {a : Addr} {xs : List V} (h : SqL K H a xs) (o : ∀ v ∈ xs, Own v) : SelfV K H P (.ref a)
  | tup {a : Addr} {xs : List V} (h : SqT K H a xs) (o : ∀ v ∈ xs, Own v) : SelfV K H P (.ref a)
  | dic {a : Addr} {ks : List (Key × V)} (h : H a = some (.dK ks)) (nd : (ks.map (·.1)).Nodup) (o : ∀ p ∈ ks, Own p.2) : SelfV K H P (.ref a)
  | ins {a : Addr} (h : P a H) : SelfV K H P (.ref a)
def rSelf (K : PySem.W.Frag) (D : Eqv) : R2 := fun x y H Q => rEq x y H Q ∨ rEqV K x y H Q ∨ rEqG (DTup K DElem) x y H Q ∨ rEqG D x y H Q
theorem op_self {n : Nat} {D : Eqv} (hr : Room (n + 1) X.A) (h : RcG X n D) : OpR X (compareOp .Eq) (rSelf X.K D) :=
  op_or op_eq (op_or (op_eqV hr.units) (op_or (op_eqG (rcG_tup mon_elem (eqG_elem (n := n))) hr) (op_eqG h (hr.mono (Nat.le_succ n)))))
theorem paired_own {F : V → V → Prop} (h : ∀ v, Own v → F v v) : ∀ {xs : List V}, (∀ v ∈ xs, Own v) → Paired F xs xs
  | [], _ => .nil
  | v :: xs, o => .cons (h v (o v List.mem_cons_self)) (paired_own h fun w hw => o w (List.mem_cons_of_mem _ hw))
theorem eqV_own {K : PySem.W.Frag} {H : Hp} {v : V} (o : Own v) : EqV K H 1 v v := by
  rcases o with o | ⟨a, rfl⟩
  · exact .inl ⟨rfl, o⟩
  · exact .inr (.inl ⟨a, rfl, rfl⟩)
theorem find_nodup {α β : Type} [DecidableEq α] : ∀ {ks : List (α × β)}, (ks.map (·.1)).Nodup → ∀ p ∈ ks, ks.find? (fun q => decide (q.1 = p.1)) = some p
  | [], _, p, hp => by cases hp
  | q :: ks, nd, p, hp => by
    rw [List.map_cons, List.nodup_cons] at nd
    by_cases e : q.1 = p.1
    · rcases List.mem_cons.mp hp with rfl | hm
      · simp
      · exact absurd (List.mem_map.mpr ⟨p, hm, e.symm⟩) nd.1
    · rw [List.find?_cons]
      have d : decide (q.1 = p.1) = false := decide_eq_false e
      rw [d]
      rcases List.mem_cons.mp hp with rfl | hm
      · exact absurd rfl e
      · exact find_nodup nd.2 p hm
theorem self_eq {K : PySem.W.Frag} {H : Hp} {v : V} {D : Eqv} {P : Addr → Hp → Prop} {Q : VK} (s : SelfV K H P v) (hP : ∀ a, P a H → D (.ref a) (.ref a) H) (q : ∀ H', Ext H H' → Q (.bl true) H') : rSelf K D v v H Q := by
  have q0 := q H Ext.rfl'
  cases s with
  | flat h => exact .inl ⟨h, by rw [decide_eq_true rfl]; exact q0⟩
  | @lst a xs h o => exact .inr (.inl ⟨1, by decide, .inl ⟨a, a, xs, xs, rfl, rfl, h, h, paired_own (fun v => eqV_own) o⟩, q0⟩)
  | @tup a xs h o => exact .inr (.inr (.inl ⟨⟨a, a, xs, xs, rfl, rfl, h, h, rfl, fun i x y e1 e2 => by
      rw [e1] at e2
      cases e2
      exact ⟨rfl, o x (List.mem_of_getElem? e1)⟩⟩, q⟩))
  | @dic a ks h nd o => exact .inr (.inl ⟨1, by decide, .inr ⟨a, a, ks, ks, rfl, rfl, h, h, rfl, fun p hp => ⟨p.2, by unfold valV; rw [find_nodup nd p hp]; rfl, eqV_own (o p hp)⟩⟩, q0⟩)
  | @ins a h => exact .inr (.inr (.inr ⟨hP a h, q⟩))

/-! ### within a suite: the exception that is held -/
/-- isinstance(e, c) -/
def rIsS (K : PySem.W.Frag) (a : Addr) (cls : Value) (d : Option Addr) : List V → Hp → VK → Prop := fun xs H Q => ∃ (D dd : Addr) (fs : List (Str × V)) (c : V) (cv : Value) (b : Bool), xs = [.ref a, c] ∧ cls = .ref D ∧ d = some dd ∧ H dd = some (.xd fs) ∧ ExcC K D ∧
  (∀ u, RelV c u → u = cv) ∧ PySem.W.kitOne K (.ref D) cv = some b ∧ Q (.bl b) H
theorem suite_inst {pins pn : List (Addr × Obj)} {σ : L2.St} {H : Hp} {s : Shared} {a D dd : Addr} {oe : Obj} {fs : List (Str × V)} (hz : Zc (.ref D) (some dd) oe) (hf : ∃ vs, oe.data = .fields vs) (I : Inv (X.suite a ((a, oe) :: pn)) pins σ H s) (hx : H dd = some (.xd fs)) :
    ∃ od, PySem.W.InstAt s.heap a oe D (some od) ∧ ∀ f y, fs.lookup f = some y → ∃ u, PySem.W.lookIn f od = some (some u) ∧ RelV y u := by
  obtain ⟨ho, _⟩ := I.pin (a, oe) (List.mem_append_left _ List.mem_cons_self)
  obtain ⟨vs, hv⟩ := hf
  have ox : ObjOk X.prog X.w H s.heap dd (.xd fs) := I.hok dd _ hx
  obtain ⟨mA, hns, rel⟩ := ox
  obtain ⟨od, hod, hl⟩ := lookIn_ns hns
  refine ⟨od, ⟨ho, hz.1, by unfold PySem.W.notCls; rw [hv] <;> rfl, by rw [hz.2]; exact hod⟩, fun f y e => ?_⟩
  obtain ⟨u, hu, ru⟩ := RelO.some_of (v := y) (o := mA f) (by rw [← e]; exact rel f)
  exact ⟨u, by rw [hl, hu], ru⟩
theorem call_isS {a : Addr} {oe : Obj} {cls : Value} {d : Option Addr} {pn : List (Addr × Obj)} (hz : Zc cls d oe) (hf : ∃ vs, oe.data = .fields vs) : CallR (X.suite a ((a, oe) :: pn)) (.builtin "isinstance") (rIsS X.K a cls d) := by
  intro pins s σ H xs us Q I r h
  obtain ⟨D, dd, fs, c, cv, b, rfl, rfl, rfl, hx, G, hcv, e, q⟩ := h
  obtain ⟨u1, u2, rfl, r1, r2⟩ := vals2 r
  cases r1
  obtain rfl := hcv _ r2
  obtain ⟨od, J, _⟩ := suite_inst hz hf I hx
  have hcl : (PySem.W.clsIn X.K D).isSome = true := by
    obtain ⟨z, hz, _⟩ := PySem.W.any_some G.hd
    rw [hz]; rfl
  exact PySem.W.kia_one (PySem.W.kitx_exc (ox := oe) (od := some od) hcl G.hg G.hk G.hs G.ha G.hn G.ht G.hm) I.kIn J e (fun z => nomatch z) fun tk => ⟨.bl b, H, I.kept (t' := tk) fun _ _ z => z, rfl, q⟩
/-- e.f -/
def tFldS (K : PySem.W.Frag) (a : Addr) (cls : Value) (d : Option Addr) (f : Str) (te : TE) : TE := fun σ H Q => te σ H fun x H1 => ∃ (D dd : Addr) (fs : List (Str × V)) (y : V), x = .ref a ∧ cls = .ref D ∧ d = some dd ∧ H1 dd = some (.xd fs) ∧ fs.lookup f = some y ∧ ExcC K D ∧
  PySem.W.findIn K (.ref D) f = some none ∧ Q y H1
theorem pe_fldS {f : Str} {a : Addr} {oe : Obj} {cls : Value} {d : Option Addr} {pn : List (Addr × Obj)} (hz : Zc cls d oe) (hf : ∃ vs, oe.data = .fields vs) (he : PE (X.suite a ((a, oe) :: pn)) e te)
    (hb : attributeBase e f X.env (eval e X.env) = eval e X.env := by rfl) : PE (X.suite a ((a, oe) :: pn)) (.Attribute e f pos) (tFldS X.K a cls d f te) := by
  refine ⟨fun pins s σ H Q I h => ?_⟩
  refine attr_of hb (thn (he.run pins s σ H _ I h) fun u s1 hh => ?_)
  obtain ⟨x, H1, I1, rx, D, dd, fs, y, rfl, rfl, rfl, hx, hy, G, noN, q⟩ := hh
  obtain rfl : u = Value.ref a := rx
  obtain ⟨od, J, hl⟩ := suite_inst hz hf I1 hx
  obtain ⟨v, hv, rv⟩ := hl f y hy
  exact HandSPX.exc_get I1.kIn J G.hg G.hk G.hs (PySem.W.findObj_own G.hd noN rfl hv) (handed_of rv) ⟨y, H1, I1.tok _, rv, q⟩
/-- xs.count(True) -/
def rCntT (K : PySem.W.Frag) : V → List V → Hp → VK → Prop := fun x xs H Q => ∃ (p : Addr) (bs : List Bool) (k : Bool), x = .ref p ∧ xs = [.bl k] ∧ SqL K H p (bs.map V.bl) ∧ Q (.int (bs.count k : Nat)) H
theorem bools_of {bs : List Bool} : ∀ {us : List Value}, Vals (bs.map V.bl) us → us = bs.map Value.bool := by
  induction bs with
  | nil => intro us h; cases h; rfl
  | cons b bs ih =>
    intro us h
    cases h with
    | cons h1 h2 =>
      rw [ih h2, show _ = Value.bool b from h1]
      rfl
theorem countP_bool {k : Bool} {e : Value → Bool} (he : ∀ b, e (Value.bool b) = (b == k)) : ∀ bs : List Bool, (bs.map Value.bool).countP e = bs.count k
  | [] => rfl
  | b :: bs => by
    rw [List.map_cons, List.countP_cons, countP_bool he bs, List.count_cons, he b]
theorem mt_countT : MtR X "list.count" (rCntT X.K) := by
  intro pins s σ H x xs v us Q I rx rs h
  obtain ⟨p, bs, k, rfl, rfl, hs, q⟩ := h
  cases rx
  obtain ⟨u, rfl, ru⟩ := rs.one
  cases ru
  obtain ⟨its, rv, ⟨⟨oc, od, dt, sl⟩, n, ho, h1, h2, h3⟩, hlen⟩ := I.list hs
  simp only at h1 h3
  subst h1 h3
  have hi := bools_of rv
  subst hi
  let e : Value → Bool := fun v => match v with
    | .bool b => b == k
    | _ => false
  have he : ∀ b, e (Value.bool b) = (b == k) := fun _ => rfl
  refine call_meets PySem.F.slot_list_count ⟨_, ho, rfl⟩ PySem.F.entry_list_count (PySem.F.args_list_count_2 _ _) (SeqAt.list_countAt p (bs.map Value.bool).toArray n od sl (.bool k) e) ⟨ho, fun y hy => ?_, ?_⟩
  · obtain ⟨b, _, rfl⟩ := List.mem_map.mp (show y ∈ bs.map Value.bool from List.mem_toArray.mp hy)
    have z := eqAt_V (A := X.A.in1) (s := s) (x := .bl k) (y := .bl b) rfl rfl rfl rfl
    exact z
  · refine ⟨.int (bs.count k : Nat), H, I.tok _, ⟨s.toks, ?_⟩, q⟩
    have ec : (bs.map Value.bool).toArray.toList.countP e = bs.count k := countP_bool he bs
    show Value.int (((bs.map Value.bool).toArray.toList.countP e : Nat) : Int) s.toks = Value.int ((bs.count k : Nat) : Int) s.toks
    rw [ec]
end
end XV

set_option Elab.async false
set_option linter.all false
set_option maxRecDepth 100000
set_option maxHeartbeats 4000000
/-! what the head must say of error classes, as booleans over the written part -/
namespace XF
open PySem PySem.Spec PyProof.Rows L2 He
/-- the class at C is an exception class over ValueError (its line of classes: own ones, then ValueError's) -/
def clsB (K : PySem.W.Frag) (C : Addr) : Bool := match K.lookup C with
  | some ⟨.type "type", _, .cls cd, sl⟩ => (match cd.mro, sl.toList with
    | .ref D :: bm, [_, _, _, _, some (.builtin n), _] => D == C && (n == "ValueError.__new__" && (!cd.hasDel && (cd.hasDict && PySem.HandSPX.refsVE bm)))
    | _, _ => false)
  | _ => false
theorem clsB_ok {K : PySem.W.Frag} {C : Addr} (h : clsB K C = true) : ∃ nm q N bs bm sn sub ab col dd k0 k1 k2 k3 k5, K.lookup C = some (excClassObj nm q C N bs bm true sn sub ab col dd k0 k1 k2 k3 k5 "ValueError.__new__") ∧ PySem.HandSPX.refsVE bm = true := by
  unfold clsB at h
  split at h
  · rename_i dd cd sl lk
    split at h
    · rename_i D bm k0 k1 k2 k3 n k5 hm hs
      simp only [Bool.and_eq_true, beq_iff_eq, Bool.not_eq_true'] at h
      obtain ⟨rfl, rfl, hdel, hdct, hb⟩ := h
      obtain ⟨nm, bs, mro, ns, qn, hd, sn, sub, ab, col, del⟩ := cd
      dsimp only at hm hdel hdct
      subst hm hdel hdct
      obtain ⟨l⟩ := sl
      dsimp only at hs
      subst hs
      exact ⟨nm, qn, ns, bs, bm, sn, sub, ab, col, dd, k0, k1, k2, k3, k5, lk, hb⟩
    · cases h
  · cases h
/-- what is asked of every error class x -/
def errB (K : PySem.W.Frag) (x : Str) : Bool :=
  eqO (PySem.W.nsIn K mainGlobals x) (some (some (.ref (ga K x)))) && (clsB K (ga K x) && (eqO (PySem.W.findIn K (.ref (ga K x)) "__setattr__") (some (some (.builtin "object.__setattr__"))) &&
  (decide (PySem.W.subIn K (.ref (ga K x)) (.type "BaseException") = some true) && (decide (PySem.W.typeIn K (.ref (ga K x)) = some (.type "type")) && (PySem.W.keepIn K (.ref (ga K x)) &&
  (eqO (PySem.W.findIn K (.ref (ga K x)) "__getattribute__") (some (some (.builtin "BaseException.__getattribute__"))) && (eqO (PySem.W.findIn K (.ref (ga K x)) "__getattr__") (some none) && (PySem.W.hasDictIn K (ga K x) &&
  (eqO (PySem.W.findIn K (.ref (ga K x)) "__class__") (some (some (.builtin "object.__class__"))) && (eqO (PySem.W.specialIn K (.builtin "object.__class__") "__get__") (some (some (.builtin "getset_descriptor.__get__"))) &&
  (decide (PySem.W.takesIn K (.builtin "object.__class__") = some true) && decide (PySem.W.mroIn K (ga K x) (.type "object") = some true))))))))))))
structure Err (K : PySem.W.Frag) (mg : Str → Option Value) (x : Str) : Prop where
  g : mg x = some (.ref (ga K x))
  ox : OexC K (ga K x)
  ex : ExcC K (ga K x)
theorem errB_ok {K : PySem.W.Frag} {h : Heap} {mg : Str → Option Value} (X : K.In h) (G : h.Ns mainGlobals mg) {x : Str} (c : errB K x = true) : Err K mg x := by
  obtain ⟨c1, c⟩ := ba c
  obtain ⟨c2, c⟩ := ba c
  obtain ⟨c3, c⟩ := ba c
  obtain ⟨c4, c⟩ := ba c
  obtain ⟨c5, c⟩ := ba c
  obtain ⟨c6, c⟩ := ba c
  obtain ⟨c7, c⟩ := ba c
  obtain ⟨c8, c⟩ := ba c
  obtain ⟨c9, c⟩ := ba c
  obtain ⟨d1, c⟩ := ba c
  obtain ⟨d2, c⟩ := ba c
  obtain ⟨d3, d4⟩ := ba c
  exact ⟨PySem.W.mg_of X G (eqO_ok c1), ⟨clsB_ok c2, eqO_ok c3, of_decide_eq_true c4, of_decide_eq_true c5, c6⟩, ⟨eqO_ok c7, eqO_ok c8, of_decide_eq_true c4, c9, eqO_ok d1, eqO_ok d2, of_decide_eq_true d3, of_decide_eq_true d4⟩⟩
/-- a class with an own __init__ that stores the field f; a class without -/
def fldB (K : PySem.W.Frag) (x f : Str) : Bool := eqO (PySem.W.findIn K (.ref (ga K x)) f) (some none) && (eqO (PySem.W.findIn K (.ref (ga K x)) "__init__") (some (some (.ref (ma K (ga K x) "__init__")))) && decide (PySem.W.typeIn K (.ref (ma K (ga K x) "__init__")) = some (.type "function")))
def plnB (K : PySem.W.Frag) (x : Str) : Bool := PySem.W.excIn K (ga K x) veBase "ValueError.__new__"
structure Fld (K : PySem.W.Frag) (x f : Str) : Prop where
  no : PySem.W.findIn K (.ref (ga K x)) f = some none
  ini : PySem.W.findIn K (.ref (ga K x)) "__init__" = some (some (.ref (ma K (ga K x) "__init__")))
  ty : PySem.W.typeIn K (.ref (ma K (ga K x) "__init__")) = some (.type "function")
theorem fldB_ok {K : PySem.W.Frag} {x f : Str} (c : fldB K x f = true) : Fld K x f := by
  obtain ⟨c1, c⟩ := ba c
  obtain ⟨c2, c3⟩ := ba c
  exact ⟨eqO_ok c1, eqO_ok c2, of_decide_eq_true c3⟩
/-- which class is which: isinstance of an instance of x and the class y -/
def isB (K : PySem.W.Frag) (x y : Str) (b : Bool) : Bool := decide (PySem.W.kitOne K (.ref (ga K x)) (.ref (ga K y)) = some b)
end XF

set_option Elab.async false
set_option linter.all false
set_option maxRecDepth 100000
set_option maxHeartbeats 4000000
/-! more steps: readings of built-ins by name, comprehensions by a relation -/
namespace My
open PySem PySem.Spec PyProof.Rows L2 DX
section
variable {σ : L2.St} {H : Hp} {Q : VK} {QB : Bool → Hp → Prop} {K : PySem.W.Frag} {te td ty tv ta tb tx : TE} {tt tu : TT} {tl tr tk : TA} {D : Ends} {t u : TS} {x y v z : V} {i j : Int} {n : Nat} {b : Bool}
theorem thenK {k : V → Hp → VK → Prop} (h : ta σ H fun x H1 => k x H1 Q) : tThen ta k σ H Q := h
theorem tupL {p : Addr} {xs : List V} (h : SqL K H p xs) (q : ∀ t, H t = none → Q (.ref t) (upd H t (.tup xs))) : kTup K (.ref p) H Q := .inl ⟨p, xs, rfl, h, q⟩
theorem tupT {p : Addr} {xs : List V} (h : SqT K H p xs) (q : Q (.ref p) H) : kTup K (.ref p) H Q := .inr ⟨p, xs, rfl, h, q⟩
theorem lockE {t : TE} {d : Addr} {w : HO} (hd : H d = some w) (m : Mut (some w)) (h : ∀ od, t σ (upd H d (.frz od w)) fun v H' => H' d = some (.frz od w) ∧ Q v (upd H' d w)) : tLockE t σ H Q := ⟨d, w, hd, m, h⟩
theorem chain {r r' : R2} (h : ta σ H fun x H1 => tb σ H1 fun y H2 => r x y H2 fun v H3 => ∃ k, v = .bl k ∧ if k = true then tx σ H3 fun z H4 => r' y z H4 Q else Q (.bl false) H3) : tChain r r' ta tb tx σ H Q := h
theorem dget2 (h : td σ H fun x H1 => ∃ a, x = .ref a ∧ IsD H1 a ∧ ty σ H1 fun y H2 => tx σ H2 fun z H3 => ∃ o, DGet H3 a y o ∧ Q (o.getD z) H3) : tDGet2 td ty tx σ H Q := h
theorem lockS {d : Addr} {w : HO} (hd : H d = some w) (m : Mut (some w)) (h : ∀ od, t ⟨fun σ' H' => H' d = some (.frz od w) ∧ D.nx σ' (upd H' d w), fun v H' => H' d = some (.frz od w) ∧ D.rt v (upd H' d w), fun σ' H' => H' d = some (.frz od w) ∧ D.bk σ' (upd H' d w), fun σ' H' => H' d = some (.frz od w) ∧ D.ct σ' (upd H' d w)⟩ σ (upd H d (.frz od w))) : tLock t D σ H := ⟨d, w, hd, m, h⟩
/-- for k in d, d a dict with tuple keys that is locked -/
theorem forKT {g : TG} {tb : TS} {d : Addr} {od : Obj} {kvs : List (List L2.Key × V)} (hx : td = tVar n) (hσ : σ[n]? = some (some (.ref d))) (hd : H d = some (.frz od (.dT kvs))) (Pv : Nat → L2.St → Hp → Prop) (h0 : Pv 0 σ H) (hG : ∀ i σ H, i ≤ kvs.length → Pv i σ H → H d = some (.frz od (.dT kvs)))
    (hs : ∀ i k v q σ H, kvs[i]? = some (k, v) → H q = some (.tup (k.map kV)) → Pv i σ H → g (.ref q) σ H fun σ2 H2 => tb { D with nx := Pv (i + 1), ct := Pv (i + 1), bk := D.nx } σ2 H2) (he : ∀ σ H, Pv kvs.length σ H → D.nx σ H) : tFor (iKeys td) g tb D σ H := by
  subst hx
  refine ⟨_, hσ, d, od, rfl, .inr ⟨kvs, hd, for_it walk_keysT Pv h0 hG (fun i x σ H H' hi p y => ?_) he⟩⟩
  obtain ⟨rfl, k, v, q, e1, rfl, e2⟩ := y
  exact hs i k v q σ H' e1 e2 p
theorem gtup2 {T : Addr} {i j : Nat} {N : L2.St → Hp → Prop} {σ' : L2.St} (h : SqT K H T [x, y]) (e : (σ.set i (some x)).set j (some y) = σ') (q : N σ' H) : gTup K 2 (gCons (gName i) (gCons (gName j) gNil)) (.ref T) σ H N := by
  subst e
  exact ⟨T, _, rfl, h, rfl, x, [y], rfl, y, [], rfl, rfl, q⟩
theorem gtup3 {T : Addr} {i j k : Nat} {N : L2.St → Hp → Prop} {σ' : L2.St} (h : SqT K H T [x, y, z]) (e : ((σ.set i (some x)).set j (some y)).set k (some z) = σ') (q : N σ' H) : gTup K 3 (gCons (gName i) (gCons (gName j) (gCons (gName k) gNil))) (.ref T) σ H N := by
  subst e
  exact ⟨T, _, rfl, h, rfl, x, [y, z], rfl, y, [z], rfl, z, [], rfl, rfl, q⟩
theorem itemsT (h : te σ H fun x H1 => rItemsT x H1 Q) : tListItemsT te σ H Q := h
theorem callKw {r : List V → List V → Hp → VK → Prop} (h : tl σ H fun vs H1 => tk σ H1 fun zs H2 => r vs zs H2 Q) : tCKw r tl tk σ H Q := h
theorem dispT {trs : List (TE × TE)} (h : ∀ p, H p = none → tPairs trs σ (upd H p (.dT [])) fun ps H2 => H2 p = some (.dT []) ∧ ∃ es : List Ent, ps = es.map (fun e => (V.ref e.2.1, e.2.2)) ∧ es.length ≤ 15 ∧ (∀ e ∈ es, KeyAt H2 e) ∧ Q (.ref p) (upd H2 p (.dT (mT [] (entK es))))) : tDispT trs σ H Q := h
theorem allL {p : Addr} {bs : List Bool} (h : SqL K H p (bs.map V.bl)) (q : Q (.bl (bs.all id)) H) : rAll K [.ref p] H Q := ⟨p, bs, rfl, h, q⟩
theorem isi {x c : V} {t u : Value} {b : Bool} (k : ClsV c u) (hx : TyX K H x t) (e : PySem.W.kitOne K t u = some b) (q : Q (.bl b) H) : rIsi K [x, c] H Q := ⟨x, c, t, u, b, rfl, k, hx, e, q⟩
end
def rListOf (K : PySem.W.Frag) : List V → Hp → VK → Prop := fun xs H Q => ∃ p ys, xs = [.ref p] ∧ (SqL K H p ys ∨ SqT K H p ys) ∧ ∀ l, H l = none → Q (.ref l) (upd H l (.lst ys))
theorem c_listOf {X : Cx} : CallR X (.type "list") (rListOf X.K) := call_list_of
/-- a comprehension without tests: each item as P tells, R what has happened so far -/
theorem lcM {J : It} {n : Nat} {G : Hp → Prop} {Y : Nat → Hp → V → Hp → Prop} (w : Walk J n G Y) {g : TG} {te : TE} {vs : List Nat} {σ : L2.St} {Q : VK} {H1 : Hp} (R : Hp → Hp → Prop) (hn : n ≤ 1000) (h0 : ∀ D, H1 D = none → R H1 (upd H1 D (.lst [])))
    (h : ∀ D, H1 D = none → ∃ P : Nat → V → Hp → Prop, (∀ j y H ys o, H D = some (.lst ys) → P j y H → P j y (upd H D o)) ∧ (∀ H o, R H1 H → R H1 (upd H D o)) ∧ (∀ H ys, R H1 H → H D = some (.lst ys) → G H) ∧
      (∀ i x H H' ys, ∀ N : VK, i < n → R H1 H → H D = some (.lst ys) → ys.length = i → (∀ j v, ys[j]? = some v → P j v H) → Y i H x H' → (∀ y H4, R H1 H4 → H4 D = some (.lst ys) → (∀ j v, ys[j]? = some v → P j v H4) → P i y H4 → N y H4) →
        g x (wipe σ vs) H' fun σ2 H2 => wipe σ2 vs = wipe σ vs ∧ te σ2 H2 N) ∧
      ∀ H ys, H D = some (.lst ys) → ys.length = n → R H1 H → (∀ j y, ys[j]? = some y → P j y H) → Q (.ref D) H) : LJ J g tYes te vs σ Q H1 := by
  intro D hD
  obtain ⟨P, hP, hU, hG, hs, hd⟩ := h D hD
  refine lc_it w (fun i H => ∃ ys, H D = some (.lst ys) ∧ ys.length = i ∧ R H1 H ∧ ∀ j y, ys[j]? = some y → P j y H) ⟨[], upd_same, rfl, h0 D hD, fun j y e => by simp at e⟩ (fun i H _ ⟨ys, e, _, r, _⟩ => hG H ys r e) ?_ (fun H ⟨ys, e, l, r, p⟩ => hd H ys e l r p)
  rintro i x H H' hi ⟨ys, e, l, r, p⟩ y
  refine hs i x H H' ys _ hi r e l p y fun y4 H4 r4 e4 p4 py => ?_
  refine ⟨ys, e4, by rw [l]; exact Nat.lt_of_lt_of_le (show i < 1001 by omega) (by decide), ys ++ [y4], upd_same, by simp [l], hU H4 _ r4, fun j v hv => ?_⟩
  refine hP j v H4 ys _ e4 ?_
  by_cases hj : j < ys.length
  · rw [List.getElem?_append_left hj] at hv
    exact p4 j v hv
  · rw [List.getElem?_append_right (by omega)] at hv
    cases z : j - ys.length with
    | zero =>
      rw [z] at hv
      cases (show y4 = v by simpa using hv)
      rw [show j = i by omega]
      exact py
    | succ k => rw [z] at hv; simp at hv
end My

set_option Elab.async false
set_option linter.all false
set_option maxRecDepth 100000
set_option maxHeartbeats 4000000
/-! isinstance, told by a function of the value -/
namespace DX
open PySem PySem.Spec PyProof.Rows L2
def sixT : List String := ["int", "bool", "tuple", "list", "str", "dict"]
/-- what is asked of an own class -/
structure InsT (K : PySem.W.Frag) (C : Addr) : Prop where
  cl : Cls K C
  ha : PySem.W.findIn K (.ref C) "__class__" = some (some (.builtin "object.__class__"))
  hn : PySem.W.specialIn K (.builtin "object.__class__") "__get__" = some (some (.builtin "getset_descriptor.__get__"))
  ht : PySem.W.takesIn K (.builtin "object.__class__") = some true
  hm : PySem.W.mroIn K C (.type "object") = some true
  ki : ∀ T ∈ sixT, PySem.W.kitOne K (.ref C) (.type T) = some false
/-- of what kind a value is -/
inductive Tg where
  | non | bl | int | str | lst | tup | dic | ins (C : Addr)
  deriving DecidableEq
def Tg.val : Tg → Value
  | .non => .type "NoneType" | .bl => .type "bool" | .int => .type "int" | .str => .type "str" | .lst => .type "list" | .tup => .type "tuple" | .dic => .type "dict" | .ins C => .ref C
inductive TgV (K : PySem.W.Frag) (H : Hp) : V → Tg → Prop
  | non : TgV K H .non .non
  | bl (b : Bool) : TgV K H (.bl b) .bl
  | int (i : Int) : TgV K H (.int i) .int
  | str (z : Str) : TgV K H (.str z) .str
  | lst {a : Addr} {xs : List V} (e : H a = some (.lst xs)) : TgV K H (.ref a) .lst
  | tup {a : Addr} {xs : List V} (e : H a = some (.tup xs)) : TgV K H (.ref a) .tup
  | dK {a : Addr} {ks : List (Key × V)} (e : H a = some (.dK ks)) : TgV K H (.ref a) .dic
  | dT {a : Addr} {ks : List (List Key × V)} (e : H a = some (.dT ks)) : TgV K H (.ref a) .dic
  | ins {a C dx : Addr} {fs : List (Str × V)} (e : H a = some (.ins C dx fs)) (c : InsT K C) : TgV K H (.ref a) (.ins C)
theorem TgV.ty {K : PySem.W.Frag} {H : Hp} {v : V} {t : Tg} (h : TgV K H v t) : TyX K H v t.val := by
  cases h with
  | non => exact .base .non
  | bl b => exact .base (.bl b)
  | int i => exact .base (.int i)
  | str z => exact .base (.str z)
  | lst e => exact .base (.lst e)
  | tup e => exact .base (.tup e)
  | dK e => exact .base (.dK e)
  | dT e => exact .base (.dT e)
  | ins e c => exact .base (.ins e c.cl c.ha c.hn c.ht c.hm)
/-- isinstance(v, T) -/
def Tg.is : Tg → String → Bool
  | .bl, T => T == "bool" || T == "int"
  | .int, T => T == "int"
  | .str, T => T == "str"
  | .lst, T => T == "list"
  | .tup, T => T == "tuple"
  | .dic, T => T == "dict"
  | _, _ => false
theorem TgV.isT {K : PySem.W.Frag} {H : Hp} {v : V} {t : Tg} (h : TgV K H v t) {T : String} (hT : T ∈ sixT) {Q : VK} (q : Q (.bl (t.is T)) H) : rIsi K [v, .ty T] H Q := by
  have ki : PySem.W.kitOne K t.val (.type T) = some (t.is T) := by
    cases h with
    | ins e c =>
      rw [show Tg.is (.ins _) T = false from rfl]
      exact c.ki T hT
    | _ =>
      simp only [sixT, List.mem_cons, List.not_mem_nil, or_false] at hT
      rcases hT with rfl | rfl | rfl | rfl | rfl | rfl <;> exact kit_ty (by decide +kernel)
  exact ⟨v, .ty T, t.val, .type T, t.is T, rfl, .ty T, h.ty, ki, q⟩
/-- isinstance(v, C), C an own class -/
structure ClsN (K : PySem.W.Frag) (C : Addr) : Prop where
  self : PySem.W.kitOne K (.ref C) (.ref C) = some true
  ty : ∀ T ∈ "NoneType" :: sixT, PySem.W.kitOne K (.type T) (.ref C) = some false
def Tg.isC (t : Tg) (C : Addr) : Bool := decide (t = .ins C)
theorem TgV.isOwn {K : PySem.W.Frag} {H : Hp} {v : V} {t : Tg} {C : Addr} (h : TgV K H v t) (n : ClsN K C) (other : ∀ D, t = .ins D → D = C ∨ PySem.W.kitOne K (.ref D) (.ref C) = some false) {Q : VK} (q : Q (.bl (t.isC C)) H) : rIsi K [v, .ref C] H Q := by
  have ki : PySem.W.kitOne K t.val (.ref C) = some (t.isC C) := by
    cases h with
    | @ins a D dx fs e c =>
      rcases other D rfl with rfl | g
      · rw [show Tg.isC (.ins D) D = true from decide_eq_true rfl]
        exact n.self
      · by_cases z : D = C
        · subst z
          rw [n.self] at g
          cases g
        · rw [show Tg.isC (.ins D) C = false from decide_eq_false (fun e => by injection e with e; exact z e)]
          exact g
    | non => exact n.ty "NoneType" (by decide)
    | bl => exact n.ty "bool" (by decide)
    | int => exact n.ty "int" (by decide)
    | str => exact n.ty "str" (by decide)
    | lst => exact n.ty "list" (by decide)
    | tup => exact n.ty "tuple" (by decide)
    | dK => exact n.ty "dict" (by decide)
    | dT => exact n.ty "dict" (by decide)
  exact ⟨v, .ref C, t.val, .ref C, t.isC C, rfl, .own C, h.ty, ki, q⟩
theorem TgV.flat {K : PySem.W.Frag} {H : Hp} : ∀ {v : V}, flatV v = true → ∃ t, TgV K H v t
  | .non, _ => ⟨_, .non⟩
  | .bl b, _ => ⟨_, .bl b⟩
  | .int i, _ => ⟨_, .int i⟩
  | .str z, _ => ⟨_, .str z⟩
  | .ref _, h => by cases h
  | .byt _, h => by cases h
  | .flt _, h => by cases h
  | .ty _, h => by cases h
/-- is it an integer that is no flag -/
def isInt : V → Bool
  | .int _ => true
  | _ => false
theorem TgV.isInt {K : PySem.W.Frag} {H : Hp} {v : V} {t : Tg} (h : TgV K H v t) : (t.is "int" && !t.is "bool") = DX.isInt v := by
  cases h <;> rfl
section
variable {t : Tg} {T : String} {C : Addr} {A B : Prop}
theorem is_t (h : t.is T = true) (q : A) : if t.is T = true then A else B := by rw [if_pos h]; exact q
theorem is_f (h : t.is T = false) (q : B) : if t.is T = true then A else B := by rw [h, if_neg Bool.false_ne_true]; exact q
theorem is_nt (h : t.is T = true) (q : B) : if (!t.is T) = true then A else B := by rw [h]; exact q
theorem is_nf (h : t.is T = false) (q : A) : if (!t.is T) = true then A else B := by rw [h]; exact q
theorem isC_t (h : t.isC C = true) (q : A) : if t.isC C = true then A else B := by rw [if_pos h]; exact q
theorem isC_f (h : t.isC C = false) (q : B) : if t.isC C = true then A else B := by rw [h, if_neg Bool.false_ne_true]; exact q
theorem isC_nt (h : t.isC C = true) (q : B) : if (!t.isC C) = true then A else B := by rw [h]; exact q
theorem isC_nf (h : t.isC C = false) (q : A) : if (!t.isC C) = true then A else B := by rw [h]; exact q
end
/-- a list and a text -/
def rLS : R2 := fun x y H Q => ∃ a xs z, x = .ref a ∧ H a = some (.lst xs) ∧ y = .str z ∧ Q (.bl false) H
theorem op_eqLS {X : Cx} (hu : X.A.units + 1 < cLine) : OpR X (compareOp .Eq) rLS := by
  intro pins s σ H x y v u Q I rx ry h
  obtain ⟨a, xs, z, rfl, ha, rfl, q⟩ := h
  cases rx
  obtain ⟨t, rfl⟩ := (show ∃ t, u = Value.str z t from ry)
  obtain ⟨us, _, p1, _⟩ := I.list (SqL.of ha)
  exact SeqAt.RcAt.list_str (A := X.A) (s := s) z t p1.isList (by omega) X.prog X.w X.xe _ ⟨.bl false, H, I, rfl, q⟩
def rEqS : R2 := fun x y H Q => rEq x y H Q ∨ rLS x y H Q
theorem op_eqS {X : Cx} (hu : X.A.units + 1 < cLine) : OpR X (compareOp .Eq) rEqS := XV.op_or op_eq (op_eqLS hu)
end DX

set_option Elab.async false
set_option linter.all false
set_option maxRecDepth 100000
set_option maxHeartbeats 4000000
/-! more steps: tuples walked, fields of objects, objects made that may refuse -/
namespace My
open PySem PySem.Spec PyProof.Rows L2 DX
theorem same_seqT {K : PySem.W.Frag} {H H' : Hp} {a : Addr} {xs : List V} (e : Same H H') (h : H a = some (.tup xs)) : SqT K H' a xs := .of (e _ _ h)
theorem plen {α β : Type} {F : α → β → Prop} : ∀ {l : List α} {m : List β}, Paired F l m → l.length = m.length
  | _, _, .nil => rfl
  | _, _, .cons _ t => by rw [List.length_cons, List.length_cons, plen t]
theorem pget {α β : Type} {F : α → β → Prop} : ∀ {xs : List α} {ys : List β}, Paired F xs ys → ∀ {i : Nat} {x : α}, xs[i]? = some x → ∃ y, ys[i]? = some y ∧ F x y
  | _, _, .nil, i, x, h => by simp at h
  | _, _, .cons f t, 0, x, h => by
    simp at h
    subst h
    exact ⟨_, rfl, f⟩
  | _, _, .cons _ t, i + 1, x, h => pget t (by simpa using h)
theorem pof {α β : Type} {F : α → β → Prop} : ∀ {xs : List α} {ys : List β}, xs.length = ys.length → (∀ (i : Nat) x y, xs[i]? = some x → ys[i]? = some y → F x y) → Paired F xs ys
  | [], [], _, _ => .nil
  | x :: xs, y :: ys, hl, h => .cons (h 0 x y rfl rfl) (pof (Nat.succ.inj hl) fun i a b ha hb => h (i + 1) a b ha hb)
  | [], _ :: _, hl, _ => by cases hl
  | _ :: _, [], hl, _ => by cases hl
section
variable {σ : L2.St} {H : Hp} {Q : VK} {QB : Bool → Hp → Prop} {K : PySem.W.Frag} {te td ty tv ta tb tx : TE} {tt tu : TT} {tl tr tk : TA} {D : Ends} {t u : TS} {x y v z : V} {i j : Int} {n : Nat} {b : Bool}
/-- a comprehension over a tuple in a variable -/
theorem lcT {g : TG} {vs : List Nat} {a : Addr} {xs : List V} (hσ : σ[n]? = some (some (.ref a))) (ha : SqT K H a xs) (h : LJ (Itt K a) g tt te vs σ Q H) : tLc (iTup K (tVar n)) g tt te vs σ H Q := ⟨_, hσ, a, rfl, ⟨_, ha⟩, h⟩
/-- a comprehension over the keys of a locked dict -/
def CKT (x : V) (g : TG) (tt : TT) (te : TE) (vs : List Nat) (σ : L2.St) (Q : VK) (H1 : Hp) : Prop := ∃ d o, x = .ref d ∧ ((∃ kvs, H1 d = some (.frz o (.dK kvs)) ∧ LJ (Itk d o kvs) g tt te vs σ Q H1) ∨ ∃ kvs, H1 d = some (.frz o (.dT kvs)) ∧ LJ (Itkt d o kvs) g tt te vs σ Q H1)
theorem lcK1 {g : TG} {vs : List Nat} (h : td σ H fun x H1 => CKT x g tt te vs σ Q H1) : tLc (iKeys td) g tt te vs σ H Q := h
theorem ckT {g : TG} {vs : List Nat} {d : Addr} {o : Obj} {kvs : List (List Key × V)} (hd : H d = some (.frz o (.dT kvs))) (h : LJ (Itkt d o kvs) g tt te vs σ Q H) : CKT (.ref d) g tt te vs σ Q H := ⟨d, o, rfl, .inr ⟨kvs, hd, h⟩⟩
/-- for over a tuple in a variable -/
theorem forTv {g : TG} {tb : TS} {a : Addr} {xs : List V} (hσ : σ[n]? = some (some (.ref a))) (ha : SqT K H a xs) (Pv : Nat → L2.St → Hp → Prop) (h0 : Pv 0 σ H) (hG : ∀ i σ H, i ≤ xs.length → Pv i σ H → SqT K H a xs)
    (hs : ∀ i x σ H, xs[i]? = some x → Pv i σ H → g x σ H fun σ2 H2 => tb { D with nx := Pv (i + 1), ct := Pv (i + 1), bk := D.nx } σ2 H2) (he : ∀ σ H, Pv xs.length σ H → D.nx σ H) : tFor (iTup K (tVar n)) g tb D σ H :=
  ⟨_, hσ, a, rfl, ⟨_, ha⟩, for_it walk_tup Pv h0 hG (fun i x σ H H' hi p y => by
    obtain ⟨rfl, e⟩ := y
    exact hs i x σ H' e p) he⟩
def FTp (K : PySem.W.Frag) (x : V) (g : TG) (tb : TS) (D : Ends) (σ : L2.St) (H1 : Hp) : Prop := ∃ a, x = .ref a ∧ (∃ xs, SqT K H1 a xs) ∧ ∃ W : Nat → Nat → L2.St → Hp → Prop, (∃ m, W 0 m σ H1) ∧ ∀ i m σ H, W i m σ H →
  ((Itt K a).stop i H ∧ D.nx σ H) ∨ ((Itt K a).go i H ∧ ∃ N : L2.St → Hp → Prop, (∀ σ' H', N σ' H' → ∃ m', m' < m ∧ W (i + 1) m' σ' H') ∧ ∀ x H', (Itt K a).yld i H x H' → g x σ H' fun σ2 H2 => tb { D with nx := N, ct := N, bk := D.nx } σ2 H2)
theorem forTe1 {g : TG} {tb : TS} (h : td σ H fun x H1 => FTp K x g tb D σ H1) : tFor (iTup K td) g tb D σ H := h
theorem forTe {g : TG} {tb : TS} {a : Addr} {xs : List V} (ha : SqT K H a xs) (Pv : Nat → L2.St → Hp → Prop) (h0 : Pv 0 σ H) (hG : ∀ i σ H, i ≤ xs.length → Pv i σ H → SqT K H a xs)
    (hs : ∀ i x σ H, xs[i]? = some x → Pv i σ H → g x σ H fun σ2 H2 => tb { D with nx := Pv (i + 1), ct := Pv (i + 1), bk := D.nx } σ2 H2) (he : ∀ σ H, Pv xs.length σ H → D.nx σ H) : FTp K (.ref a) g tb D σ H :=
  ⟨a, rfl, ⟨_, ha⟩, for_it walk_tup Pv h0 hG (fun i x σ H H' hi p y => by
    obtain ⟨rfl, e⟩ := y
    exact hs i x σ H' e p) he⟩
theorem fld {f : Str} {a C dx : Addr} {fs : List (Str × V)} (h : H a = some (.ins C dx fs)) (c : Cls K C) (na : NoAttr K C f) (l : fs.lookup f = some v) (hσ : σ[n]? = some (some (.ref a))) (q : Q v H) : tFld K (tVar n) f σ H Q := ⟨_, hσ, a, C, dx, fs, v, rfl, h, c, na, l, q⟩
theorem fldS {f : Str} {a C dx : Addr} {fs : List (Str × V)} {m : Nat} (h : H a = some (.ins C dx fs)) (c : Cls K C) (na : NoAttr K C f) (l : fs.length < 1000) (hσ : σ[n]? = some (some (.ref a))) (hv : σ[m]? = some (some v)) (q : D.nx σ (upd H a (.ins C dx (putF f v fs)))) : sFld K (tVar n) (tVar m) f D σ H :=
  ⟨_, hv, _, hσ, a, C, dx, fs, rfl, h, c, na, l, q⟩
end
def FEn (K : PySem.W.Frag) (vs : List V) (g : TG) (tb : TS) (D : Ends) (σ : L2.St) (H1 : Hp) : Prop := ∃ a xs, vs = [.ref a] ∧ SqL K H1 a xs ∧ ∃ W : Nat → Nat → L2.St → Hp → Prop, (∃ m, W 0 m σ H1) ∧ ∀ i m σ H, W i m σ H →
  ((Ite K a).stop i H ∧ D.nx σ H) ∨ ((Ite K a).go i H ∧ ∃ N : L2.St → Hp → Prop, (∀ σ' H', N σ' H' → ∃ m', m' < m ∧ W (i + 1) m' σ' H') ∧ ∀ x H', (Ite K a).yld i H x H' → g x σ H' fun σ2 H2 => tb { D with nx := N, ct := N, bk := D.nx } σ2 H2)
theorem forEn1 {K : PySem.W.Frag} {tl : TA} {g : TG} {tb : TS} {D : Ends} {σ : L2.St} {H : Hp} (h : tl σ H fun vs H1 => FEn K vs g tb D σ H1) : tFor (iEnum K tl) g tb D σ H := h
theorem forEn {K : PySem.W.Frag} {g : TG} {tb : TS} {D : Ends} {σ : L2.St} {H : Hp} {a : Addr} {xs : List V} (hl : SqL K H a xs) (Pv : Nat → L2.St → Hp → Prop) (h0 : Pv 0 σ H) (hG : ∀ i σ H, i ≤ xs.length → Pv i σ H → SqL K H a xs)
    (hs : ∀ i x T σ H, xs[i]? = some x → Pv i σ H → H T = none → g (.ref T) σ (upd H T (.tup [.int (i : Nat), x])) fun σ2 H2 => tb { D with nx := Pv (i + 1), ct := Pv (i + 1), bk := D.nx } σ2 H2) (hd : ∀ σ H, Pv xs.length σ H → D.nx σ H) : FEn K [.ref a] g tb D σ H :=
  ⟨a, xs, rfl, hl, for_it walk_enum Pv h0 hG (fun i v σ H H' hi p y => by
    obtain ⟨T, x, z, rfl, hT, rfl, ex, ez⟩ := y
    cases ex
    exact hs i z T σ H ez p hT) hd⟩
/-- a comprehension without tests: each item as P tells, R what has happened so far -/
theorem lcM2 {J : It} {n : Nat} {G : Hp → Prop} {Y : Nat → Hp → V → Hp → Prop} (w : Walk J n G Y) {g : TG} {te : TE} {vs : List Nat} {σ : L2.St} {Q : VK} {H1 : Hp} (R : Hp → Hp → Prop) (hn : n ≤ 1000) (h0 : ∀ D, H1 D = none → R H1 (upd H1 D (.lst [])))
    (h : ∀ D, H1 D = none → ∃ P : Nat → V → Hp → Prop, (∀ j y H ys zs, H D = some (.lst ys) → P j y H → P j y (upd H D (.lst zs))) ∧ (∀ H o, R H1 H → R H1 (upd H D o)) ∧ (∀ H ys, R H1 H → H D = some (.lst ys) → G H) ∧
      (∀ i x H H' ys, ∀ N : VK, i < n → R H1 H → H D = some (.lst ys) → ys.length = i → (∀ j v, ys[j]? = some v → P j v H) → Y i H x H' → (∀ y H4, R H1 H4 → H4 D = some (.lst ys) → (∀ j v, ys[j]? = some v → P j v H4) → P i y H4 → N y H4) →
        g x (wipe σ vs) H' fun σ2 H2 => wipe σ2 vs = wipe σ vs ∧ te σ2 H2 N) ∧
      ∀ H ys, H D = some (.lst ys) → ys.length = n → R H1 H → (∀ j y, ys[j]? = some y → P j y H) → Q (.ref D) H) : LJ J g tYes te vs σ Q H1 := by
  intro D hD
  obtain ⟨P, hP, hU, hG, hs, hd⟩ := h D hD
  refine lc_it w (fun i H => ∃ ys, H D = some (.lst ys) ∧ ys.length = i ∧ R H1 H ∧ ∀ j y, ys[j]? = some y → P j y H) ⟨[], upd_same, rfl, h0 D hD, fun j y e => by simp at e⟩ (fun i H _ ⟨ys, e, _, r, _⟩ => hG H ys r e) ?_ (fun H ⟨ys, e, l, r, p⟩ => hd H ys e l r p)
  rintro i x H H' hi ⟨ys, e, l, r, p⟩ y
  refine hs i x H H' ys _ hi r e l p y fun y4 H4 r4 e4 p4 py => ?_
  refine ⟨ys, e4, by rw [l]; exact Nat.lt_of_lt_of_le (show i < 1001 by omega) (by decide), ys ++ [y4], upd_same, by simp [l], hU H4 _ r4, fun j v hv => ?_⟩
  refine hP j v H4 ys _ e4 ?_
  by_cases hj : j < ys.length
  · rw [List.getElem?_append_left hj] at hv
    exact p4 j v hv
  · rw [List.getElem?_append_right (by omega)] at hv
    cases z : j - ys.length with
    | zero =>
      rw [z] at hv
      cases (show y4 = v by simpa using hv)
      rw [show j = i by omega]
      exact py
    | succ k => rw [z] at hv; simp at hv
end My
namespace DX
open PySem PySem.Spec PyProof.Rows L2
theorem tuple_mul1 (l : Addr) (items : Array Value) (n : Nat) (dd : Option Addr) (sl : Array (Option Value)) (x : Int) (u : Tok) (c0 : (decide (x < -(2 ^ 63)) || decide (x ≥ 2 ^ 63)) = false) (c1 : (items.isEmpty || x == 1) = true) :
    Meets (Builtin.«tuple.__mul__» ⟨[.ref l, .int x u], []⟩) (fun _ R s => s.heap.get? l = some { cls := .type "tuple", dict := dd, data := .seq items n, slots := sl } ∧ R (.ok (.ret (Value.ref l))) s) :=
  .of_wp fun prog w A R s h => by
    obtain ⟨hp, g, d, tk, os⟩ := s
    obtain ⟨hl, h⟩ := h
    have f1 := AutoSeq1.idx_int
    wp_walk using wpAny_loadPart' hl
    refine wpAny_ite_false (decide_eq_false (by rw [c0]; exact Bool.false_ne_true)) ?_
    wp_walk using wpAny_loadPart' hl
    exact ⟨_, rfl, h⟩
theorem tuple_mul0 (l : Addr) (items : Array Value) (n : Nat) (dd : Option Addr) (sl : Array (Option Value)) (x : Int) (u : Tok) (c0 : (decide (x < -(2 ^ 63)) || decide (x ≥ 2 ^ 63)) = false) (c1 : (items.isEmpty || x == 1) = false) (c2 : (decide (x ≤ 0) || items.isEmpty) = true) :
    Meets (Builtin.«tuple.__mul__» ⟨[.ref l, .int x u], []⟩) (fun _ R s => s.heap.get? l = some { cls := .type "tuple", dict := dd, data := .seq items n, slots := sl } ∧ R (.ok (.ret (Value.ref s.heap.objs.size))) { s with heap := s.heap.push { cls := Value.type "tuple", data := Data.seq #[] }, toks := s.toks }) :=
  .of_wp fun prog w A R s h => by
    obtain ⟨hp, g, d, tk, os⟩ := s
    obtain ⟨hl, h⟩ := h
    have f1 := AutoSeq1.idx_int
    wp_walk using wpAny_loadPart' hl
    refine wpAny_ite_false (decide_eq_false (by rw [c0]; exact Bool.false_ne_true)) ?_
    wp_walk using wpAny_loadPart' hl
    exact ⟨_, rfl, h⟩
def rRepA (K : PySem.W.Frag) : R2 := fun x y H Q => ∃ l k xs, x = .ref l ∧ y = .int k ∧ SqT K H l xs ∧ -1000 ≤ k ∧ k ≤ 1000 ∧ xs.length ≤ 1000 ∧ (xs = [] ∨ k = 1 → Q (.ref l) H) ∧
  (xs ≠ [] → k ≠ 1 → ∀ p, H p = none → Q (.ref p) (upd H p (.tup (List.replicate k.toNat xs).flatten)))
/-- t * k, any k -/
theorem op_repA {X : Cx} : OpR X (binaryOp .Mult) (rRepA X.K) := by
  intro pins s σ H x y v u Q I rx ry h
  obtain ⟨l, k, xs, rfl, rfl, hT, h1, h2, hz, q1, q2⟩ := h
  by_cases g2 : xs ≠ [] ∧ 2 ≤ k
  · exact op_repT pins s σ H _ _ v u Q I rx ry ⟨l, k, xs, rfl, rfl, hT, g2.1, g2.2, h2, hz, q2 g2.1 (by omega)⟩
  cases rx
  obtain ⟨t, rfl⟩ := ry
  obtain ⟨its, r, ⟨⟨cls, dd, data, sl⟩, ho, hc, n, hd⟩, hs⟩ := I.tuple hT
  simp only at hc hd
  subst hc hd
  have hle : its.length = xs.length := r.length.symm
  have c0 : (decide (k < -(2 ^ 63)) || decide (k ≥ 2 ^ 63)) = false := by
    rw [decide_eq_false (by omega), decide_eq_false (by omega)] <;> rfl
  by_cases g1 : xs = [] ∨ k = 1
  · have c1 : (its.toArray.isEmpty || k == 1) = true := by
      rcases g1 with g | g
      · have : its = [] := List.eq_nil_of_length_eq_zero (by rw [hle, g]; rfl)
        rw [this]; rfl
      · rw [g]; simp
    refine wpAny_binaryOp_repeat_ref (T := "tuple") (U := "int") (by decide) ⟨_, ho, rfl⟩ (fun s' => typeIs_int s' k t) noFill_tuple_mul F.fills_int_mul F.slot_int_rmul repeat_tuple F.slot_int_index.lookup
      (call_meets F.slot_int_rmul (typeIs_int s k t) F.entry_int_rmul (F.args_int_rmul_2 _ _) (int_rmul_tuple k t l its.toArray n dd sl)
        ⟨ho, rfl, ⟨_, ho, rfl⟩, call_meets F.slot_tuple_mul ⟨_, ho, rfl⟩ F.entry_tuple_mul (F.args_tuple_mul_2 _ _) (tuple_mul1 l its.toArray n dd sl k t c0 c1) ⟨ho, ?_⟩⟩)
    exact ⟨.ref l, H, I, rfl, q1 g1⟩
  · have k0 : k ≤ 0 := by
      rcases Int.lt_or_le k 2 with z | z
      · have : k ≠ 1 := fun e => g1 (.inr e)
        omega
      · exact absurd ⟨fun e => g1 (.inl e), z⟩ g2
    have hi : its.toArray.isEmpty = false := by
      cases its with
      | nil => exact absurd (.inl (List.eq_nil_of_length_eq_zero hle.symm)) g1
      | cons a b => rfl
    have c1 : (its.toArray.isEmpty || k == 1) = false := by
      rw [hi, Bool.false_or]
      exact beq_eq_false_iff_ne.mpr (by omega)
    have c2 : (decide (k ≤ 0) || its.toArray.isEmpty) = true := by rw [decide_eq_true k0]; rfl
    refine wpAny_binaryOp_repeat_ref (T := "tuple") (U := "int") (by decide) ⟨_, ho, rfl⟩ (fun s' => typeIs_int s' k t) noFill_tuple_mul F.fills_int_mul F.slot_int_rmul repeat_tuple F.slot_int_index.lookup
      (call_meets F.slot_int_rmul (typeIs_int s k t) F.entry_int_rmul (F.args_int_rmul_2 _ _) (int_rmul_tuple k t l its.toArray n dd sl)
        ⟨ho, rfl, ⟨_, ho, rfl⟩, call_meets F.slot_tuple_mul ⟨_, ho, rfl⟩ F.entry_tuple_mul (F.args_tuple_mul_2 _ _) (tuple_mul0 l its.toArray n dd sl k t c0 c1 c2) ⟨ho, ?_⟩⟩)
    have e0 : (List.replicate k.toNat xs).flatten = [] := by
      rw [show k.toNat = 0 by omega]; rfl
    have q := q2 (fun e => g1 (.inl e)) (fun e => g1 (.inr e)) _ (I.hok.fresh (Nat.le_refl s.heap.objs.size))
    rw [e0] at q
    exact ⟨.ref s.heap.objs.size, _, I.laid (t' := s.toks) (o := .tup []) (fun b ob q => Heap.get?_push_of_some _ q) (Nat.le_refl _) ⟨Nat.zero_le _, [], .nil, IsTup.new _ _⟩, rfl, q⟩
/-- what is never reached -/
def tNevE : TE := fun _ _ _ => False
theorem pe_nev {X : Cx} {e : Expr} : PE X e tNevE := ⟨fun _ _ _ _ _ _ h => h.elim⟩
def tNevT : TT := fun _ _ _ => False
theorem pt_nev {X : Cx} {e : Expr} : PT X e tNevT := ⟨fun _ _ _ _ _ _ h => h.elim⟩
def rIsNn : R2 := fun x y H Q => y = .non ∧ Q (.bl (decide (x = .non))) H
theorem op_isNn {X : Cx} : OpR X (compareOp .Is) rIsNn := op_isN
/-- C(..), an __init__ that may refuse, within a suite -/
def tMakeS (C : Addr) (sp : Sp) (E : L2.St → XK) (t : TA) : TE := fun σ H Q => t σ H fun vs H1 => ∀ x dx, H1 x = none → H1 dx = none → dx ≠ x →
  sp (.ref x :: vs) (upd (upd H1 dx (.own x)) x (.ins C dx [])) (fun v H2 => v = .non ∧ Q (.ref x) H2) (E σ)
section
variable {X : Cx} {k : Nat} {f C : Addr} {fd : FuncData} {ps : List Str} {sp : Sp} {W : WX} {x : Str} {p pos : Pos} {e : Expr} {es : List Expr} {t : TA}
theorem run_makeS {pins : List (Addr × Obj)} {σ : L2.St} {H : Hp} {s : Shared} {Q : VK} {us : List Value} {vs : List V} (M : Mk X.K C f) (F : FnOk X.prog X.w X.K X.mg X.base (L2.CX X.prog X.w) k f fd ps sp) (hr : Room (k + 1) X.A) (hb : Binds X.K fd ps [])
    (tk : Takes X W) (I : Inv X pins σ H s) (r : Vals vs us)
    (h : ∀ x dx, H x = none → H dx = none → dx ≠ x → sp (.ref x :: vs) (upd (upd H dx (.own x)) x (.ins C dx [])) (fun v H2 => v = .non ∧ Q (.ref x) H2) (WE W σ)) :
    wpAny (model X.prog X.w) X.A (call (.ref C) us) (EP X pins σ Q) X.xe s := by
  have hq := h (s.heap.objs.size + 1) s.heap.objs.size (I.hok.fresh (Nat.le_succ _)) (I.hok.fresh (Nat.le_refl _)) (Nat.ne_of_lt (Nat.lt_succ_self _))
  have I2 := Inv.made (C := C) I
  have r2 : Vals (V.ref (s.heap.objs.size + 1) :: vs) (Value.ref (s.heap.objs.size + 1) :: us) := .cons rfl r
  have hl : (Value.ref (s.heap.objs.size + 1) :: us).length = ps.length := by
    have e := r2.length
    rw [F.len _ _ _ _ hq] at e
    exact e.symm
  have hbb := hb
  refine wpAny_call (make_map (f := f) I.kIn M.makes M.init (beq_iff_eq.mp M.fn) (codeAny_mono (F.run _ X.stack _ _ ⟨Value.ref (s.heap.objs.size + 1) :: us, []⟩ (Value.ref (s.heap.objs.size + 1) :: us) _ _ (WE W σ) (hr.make C us [])
    (I2.env0.make C us []) (by
      have z := hb _ (Value.ref (s.heap.objs.size + 1) :: us) I2.kIn (by rw [List.append_nil]; exact hl)
      rw [List.append_nil] at z
      exact z) r2 hq) fun r s' hq' => ?_))
  cases r with
  | error e => exact passAt tk σ pins _ _ e s' I2 hq'
  | ok fl =>
    cases fl with
    | ret u =>
      obtain ⟨v, H', I3, rv, ev, q3⟩ := I2.after hq'
      subst ev
      exact ⟨rv, ⟨V.ref (s.heap.objs.size + 1), H', I3, rfl, q3⟩⟩
    | next => exact False.elim hq'
    | brk => exact False.elim hq'
    | cont => exact False.elim hq'
theorem pe_makeS (M : Mk X.K C f) (F : FnOk X.prog X.w X.K X.mg X.base (L2.CX X.prog X.w) k f fd ps sp) (hr : Room (k + 1) X.A) (hg : Gl X x) (hm : X.mg x = some (.ref C)) (hb : Binds X.K fd ps []) (tk : Takes X W)
    (ha : PA X (e :: es) t) (hdb : (x == ("__debug__" : Str)) = false := by decide) (he : starEach (e :: es) X.env = (false, eval e X.env) :: starEach es X.env := by rfl) (hpl : (backTo pos (starEach es X.env)).any (·.1) = false := by rfl) :
    PE X (.Call (.Name x p) (e :: es) [] pos) (tMakeS C sp (WE W) t) := by
  refine ⟨fun pins s σ H Q I h => ?_⟩
  refine wpAny_Call_Name_kw (ld_glob I hg hm ?_ hdb)
  refine PySem.W.callWith_K (h₀ := X.base) I.ok.mod.kin M.kp (thn (ha.run pos pins s σ H _ I h) fun us s1 ⟨vs, H1, I1, r, q⟩ => ⟨I1.kIn, ?_⟩) he hpl
  exact run_makeS M F hr hb tk I1 r q
end
end DX
namespace My
open PySem PySem.Spec PyProof.Rows L2 DX
section
variable {σ : L2.St} {H : Hp} {Q : VK} {tl : TA}
theorem makeS {C : Addr} {sp : Sp} {E : L2.St → XK} (h : tl σ H fun vs H1 => ∀ x dx, H1 x = none → H1 dx = none → dx ≠ x → sp (.ref x :: vs) (upd (upd H1 dx (.own x)) x (.ins C dx [])) (fun v H2 => v = .non ∧ Q (.ref x) H2) (E σ)) : tMakeS C sp E tl σ H Q := h
end
end My
namespace My
open PySem PySem.Spec PyProof.Rows L2 DX
theorem same_nw {H : Hp} {p : Addr} {o : HO} (h : H p = none) : Same H (upd H p o) := fun b u e => by
  rw [upd_ne (ne_of_none e h)]; exact e
section
variable {H : Hp} {Q : VK} {K : PySem.W.Frag}
theorem slA {t : Addr} {xs : List V} {lo hi : Option Int} (h : H t = some (.tup xs)) (q : ∀ p H', Same H H' → H' p = some (.tup (cutV xs lo hi)) → Q (.ref p) H') : rSlA K (.ref t) lo hi H Q := by
  refine ⟨t, xs, rfl, SqT.of h, fun z => ?_, fun _ p np => q p _ (same_nw np) upd_same⟩
  refine q t H (.refl _) ?_
  have e : cutV xs lo hi = xs := by
    unfold cutV
    rw [z.1, z.2, Nat.sub_zero, List.drop_zero, List.take_length]
  rw [e]; exact h
theorem cut_mem {xs : List V} {lo hi : Option Int} {x : V} (h : x ∈ cutV xs lo hi) : x ∈ xs := List.mem_of_mem_drop (List.mem_of_mem_take h)
theorem catA {a b : Addr} {xs ys : List V} (h1 : H a = some (.tup xs)) (h2 : H b = some (.tup ys)) (hz : xs.length + ys.length ≤ 1000) (q : ∀ p H', Same H H' → H' p = some (.tup (xs ++ ys)) → Q (.ref p) H') : rCatA K (.ref a) (.ref b) H Q := by
  refine ⟨a, b, xs, ys, rfl, rfl, SqT.of h1, SqT.of h2, My.sz hz, fun z => ?_, fun _ z => ?_, fun _ _ p np => q p _ (same_nw np) upd_same⟩
  · subst z
    exact q b H (.refl _) h2
  · subst z
    exact q a H (.refl _) (by rw [List.append_nil]; exact h1)
theorem repA {l : Addr} {k : Int} {xs : List V} (h : H l = some (.tup xs)) (k1 : -1000 ≤ k) (k2 : k ≤ 1000) (hz : xs.length ≤ 1000) (q : ∀ p H', Same H H' → H' p = some (.tup (List.replicate k.toNat xs).flatten) → Q (.ref p) H') : rRepA K (.ref l) (.int k) H Q := by
  refine ⟨l, k, xs, rfl, rfl, SqT.of h, k1, k2, hz, fun z => q l H (.refl _) ?_, fun _ _ p np => q p _ (same_nw np) upd_same⟩
  rcases z with rfl | rfl
  · rw [show (List.replicate k.toNat ([] : List V)).flatten = [] by simp]; exact h
  · rw [show (List.replicate (1 : Int).toNat xs).flatten = xs by simp]; exact h
theorem rep_mem {k : Nat} {xs : List V} {x : V} (h : x ∈ (List.replicate k xs).flatten) : x ∈ xs := by
  obtain ⟨l, h1, h2⟩ := List.mem_flatten.mp h
  rw [(List.mem_replicate.mp h1).2] at h2
  exact h2
theorem rep_len {k : Nat} {xs : List V} : (List.replicate k xs).flatten.length = k * xs.length := by
  induction k with
  | zero => simp
  | succ k ih => rw [List.replicate_succ, List.flatten_cons, List.length_append, ih, Nat.succ_mul]; omega
end
end My

set_option Elab.async false
set_option linter.all false
set_option maxRecDepth 100000
set_option maxHeartbeats 4000000
/-! math.lcm; xs[i] op= e of a list -/
namespace DX
open PySem PySem.Spec PyProof.Rows L2
section
variable {X : Cx}
theorem log_room {n : Nat} (h : n < 2 ^ 13000) : ¬n.log2 / 30 + 1 > 450 := by
  have z := PySem.W.mg_log (k := 12999) h
  omega
def rLcm : List V → Hp → VK → Prop := fun vs H Q => ∃ a b : Int, vs = [.int a, .int b] ∧ a.natAbs < 2 ^ 6000 ∧ b.natAbs < 2 ^ 6000 ∧ Q (.int ((Nat.lcm a.natAbs b.natAbs : Nat) : Int)) H
theorem cr_lcm : CallR X (.builtin "math.lcm") rLcm := by
  intro pins s σ H vs us Q I r h
  obtain ⟨a, b, rfl, ha, hb, q⟩ := h
  obtain ⟨t, u, rfl⟩ := Vals.int2 r
  have e1 : (Nat.lcm 1 a.natAbs) = a.natAbs := by simp [Nat.lcm]
  have up : (2 : Nat) ^ 6000 ≤ 2 ^ 13000 := Nat.pow_le_pow_right (by decide) (by decide)
  have h0 : (1 : Nat) < 2 ^ 13000 := Nat.one_lt_two_pow (by decide)
  have m1 : max 1 a.natAbs < 2 ^ 13000 := Nat.max_lt.mpr ⟨h0, Nat.lt_of_lt_of_le ha up⟩
  have m2 : max a.natAbs b.natAbs < 2 ^ 13000 := Nat.max_lt.mpr ⟨Nat.lt_of_lt_of_le ha up, Nat.lt_of_lt_of_le hb up⟩
  have sz : ((((Nat.lcm 1 a.natAbs).lcm b.natAbs : Nat) : Int)).natAbs.log2 < bitsLine := by
    rw [e1, Int.natAbs_natCast]
    have h1 : a.natAbs.lcm b.natAbs ≤ a.natAbs * b.natAbs := Nat.div_le_self _ _
    have h2 : a.natAbs * b.natAbs < 2 ^ 6000 * 2 ^ 6000 := Nat.mul_lt_mul'' ha hb
    have h3 : a.natAbs.lcm b.natAbs < 2 ^ (11999 + 1) := by
      rw [show 11999 + 1 = 6000 + 6000 by rfl, Nat.pow_add]
      omega
    exact Nat.lt_of_le_of_lt (PySem.W.mg_log h3) (by decide)
  have g := PySem.W.mg_run_lcm a t b u (log_room m1) (log_room m2) sz
  rw [e1] at g
  exact call_function_meets PySem.W.MGF.kind_lcm PySem.W.MGF.plain_lcm PySem.W.MGF.entry_lcm (PySem.W.MGF.args_lcm _ _) g.meets ⟨.int _, H, I.tok _, ⟨_, rfl⟩, q⟩
def rGetL (K : PySem.W.Frag) : V → V → Hp → VK → Prop := fun o i H Q => ∃ p xs k v, o = .ref p ∧ i = .int k ∧ SqL K H p xs ∧ 0 ≤ k ∧ xs[k.toNat]? = some v ∧ Q v H
theorem get_list : PGet X (rGetL X.K) := by
  intro pins s σ H o i ov iv Q I ro ri h
  obtain ⟨p, xs, k, v, rfl, rfl, hq, k0, he, q⟩ := h
  cases ro
  obtain ⟨t, rfl⟩ := ri
  obtain ⟨its, r, pl, hz⟩ := I.list hq
  obtain ⟨w, ew, rw'⟩ := r.get he
  have hl := r.length
  have hn := line63
  have hlt : k.toNat < xs.length := (List.getElem?_eq_some_iff.mp he).1
  exact wpAny_getItem_list pl.isList k0 (by omega) (by simpa using ew) ⟨v, H, I, rw', q⟩
end
end DX
namespace My
open PySem PySem.Spec PyProof.Rows L2 DX
section
variable {σ : L2.St} {H : Hp} {Q : VK} {K : PySem.W.Frag} {to ti te : TE} {D : Ends} {i j k : Int} {n : Nat}
theorem augS {tget : V → V → Hp → VK → Prop} {tip : TIp} {tset : TSet} (h : to σ H fun o H1 => ti σ H1 fun i H2 => tget o i H2 fun x H3 => te σ H3 fun y H4 => tip x y H4 fun z H5 => tset o i z H5 fun H6 => D.nx σ H6) : tAugS to ti te tget tip tset D σ H := h
theorem getL {p : Addr} {xs : List V} {v : V} (h : SqL K H p xs) (e : xs[n]? = some v) (q : Q v H) : rGetL K (.ref p) (.int (n : Int)) H Q := ⟨p, xs, n, v, rfl, rfl, h, Int.natCast_nonneg _, by rw [Int.toNat_natCast]; exact e, q⟩
theorem setL {p : Addr} {xs : List V} {v : V} {R : Hp → Prop} (h : H p = some (.lst xs)) (e : n < xs.length) (q : R (upd H p (.lst (xs.set n v)))) : rSetL (.ref p) (.int (n : Int)) v H R := by
  refine ⟨p, xs, n, n, rfl, rfl, h, ?_, q⟩
  simp [ixN]
  exact e
theorem ipA (q : Q (.int (i + j)) H) : ipI (fun i j => i + j) (.int i) (.int j) H Q := ⟨i, j, rfl, rfl, q⟩
end
end My

set_option Elab.async false
set_option linter.all false
set_option maxRecDepth 100000
set_option maxHeartbeats 4000000
/-! for k, v in d.items(), d's keys being tuples -/
namespace DX
open PySem PySem.Spec PyProof.Rows L2
section
variable {X : Cx} {pins : List (Addr × Obj)} {σ : L2.St} {H : Hp} {s : Shared} {d : Addr} {o : Obj}
theorem frzTv {kvs : List (List L2.Key × V)} (I : Inv X pins σ H s) (h : H d = some (.frz o (.dT kvs))) :
    (d == sysModules) = false ∧ s.heap.get? d = some o ∧ o.ExactDict ∧ ∃ (es : Array DictEntry) (ep : Nat), o.data = .dict es ep ∧ es.size = kvs.length ∧
      ∀ (i : Nat) (k : List L2.Key) (v : V), kvs[i]? = some (k, v) → ∃ (en : DictEntry) (q : Addr), es[i]? = some en ∧ en.key = .ref q ∧ H q = some (.tup (k.map kV)) ∧ RelV v en.val := by
  obtain ⟨hd, z, hs, xs, pr, o', es, ep, ho, hx, hdt, he, _⟩ := I.hok d _ h
  rw [hd] at ho
  cases ho
  refine ⟨hs, hd, hx, es, ep, hdt, ?_, fun i k v e => ?_⟩
  · have l1 : es.size = xs.length := size_of_entries he
    have l2 : kvs.length = xs.length := Paired.length pr
    omega
  · obtain ⟨b, hb, e1, e2, e3⟩ := paired_get pr e
    have q := entry_at he i
    rw [hb] at q
    exact ⟨_, b.2.1, q, rfl, e2, e3⟩
/-- the pairs, each a new tuple of the key's own tuple and the value -/
def ItiT (d : Addr) (o : Obj) (kvs : List (List L2.Key × V)) : It :=
  ⟨fun i H => H d = some (.frz o (.dT kvs)) ∧ i < kvs.length, fun i H x H' => ∃ T k v q, kvs[i]? = some (k, v) ∧ x = .ref T ∧ H T = none ∧ H q = some (.tup (k.map kV)) ∧ H' = upd H T (.tup [.ref q, v]), fun i H => H d = some (.frz o (.dT kvs)) ∧ kvs.length ≤ i⟩
end
section
variable {P : Program} {w : World} {K : PySem.W.Frag} {tg : Expr} {d : Addr} {o : Obj} {es : Array DictEntry} {ep : Nat}
theorem turn_itemsT {kvs : List (List L2.Key × V)} {elts : List Expr} {kk : Nat} {tpos : Pos} (it : Addr) (hod : o.data = .dict es ep) :
    Turn P w K (.Tuple elts kk tpos) (ItiT d o kvs) [it] it (fun i h => ∃ ok ov, IsItemIter h it d i kvs.length ep ok ov) where
  mem := by simp
  obj := fun i h st b hb => by
    have e : b = it := by simpa using hb
    subst e
    obtain ⟨ok, ov, e⟩ := st
    exact ⟨_, e, fun v z => nomatch z⟩
  keep := fun i h h' st k => let ⟨ok, ov, e⟩ := st; ⟨ok, ov, k it (by simp) _ e⟩
  item := by
    intro X hP hw hK hc i pins s σ H E I hf st hg
    subst hP hw hK
    obtain ⟨hd, hi⟩ := hg
    obtain ⟨hs, hgd, hx, es', ep', hdt, hsz, ent⟩ := frzTv I hd
    obtain ⟨rfl, rfl⟩ := dict_ep hod hdt
    obtain ⟨⟨k, v⟩, hkv⟩ : ∃ p, kvs[i]? = some p := ⟨kvs[i], List.getElem?_eq_getElem hi⟩
    obtain ⟨en, q, hen, hkey, hq, rv⟩ := ent i k v hkv
    obtain ⟨ok, ov, he⟩ := st
    rw [← hsz] at he
    have hie : i < es'.size := by omega
    have een : es'[i] = en := by
      have z := Array.getElem?_eq_getElem hie
      rw [hen] at z
      exact (Option.some.inj z).symm
    have hlt : it < s.heap.objs.size := Heap.lt_size he
    refine DT.nextI he ⟨o, hgd, hx, hdt⟩ hie fun h' ho hT hz hk => ?_
    refine ⟨_, rfl, wpAny_letOwnedTupleGo_items (s := { s with heap := h' }) ho fun h'' he' sb => ?_⟩
    rw [een] at hT he'
    have hT2 : h''.get? s.heap.objs.size = some { cls := .type "tuple", data := .seq #[en.key, en.val] } := (sb.2 _ (Nat.ne_of_gt hlt)).trans hT
    have new : ObjOk X.prog X.w (upd H s.heap.objs.size (.tup [.ref q, v])) h'' s.heap.objs.size (.tup [.ref q, v]) :=
      ⟨by show 2 ≤ sizeLine; decide, [en.key, en.val], .cons hkey (.cons rv .nil), ⟨_, hT2, rfl, _, rfl⟩⟩
    have I1 : Inv X pins σ (upd H s.heap.objs.size (.tup [.ref q, v])) { s with heap := h'' } :=
      I.turnedNew (t' := s.toks) (ch := [it]) (fun b ob hb e => (sb.2 b (by simpa using hb)).trans (hk b ob (by simpa using hb) e)) hf (Nat.le_refl _) new
    refine ⟨.ref s.heap.objs.size, _, I1, rfl, ⟨_, k, v, q, hkv, rfl, I.hok.fresh (Nat.le_refl _), hq, rfl⟩, ⟨en.key, en.val, ?_⟩, fun b hb => ?_⟩
    · rw [← hsz]; exact he'
    · have e : b = it := by simpa using hb
      rw [e, upd_ne (Nat.ne_of_lt hlt)]
      exact (hf it (by simp)).1
  done := by
    intro X hP hw hK hc i pins s σ H E I hf st hg
    subst hP hw hK
    obtain ⟨hd, hi⟩ := hg
    obtain ⟨f0, f1, f2, f3, f4, f5⟩ := hf it (by simp)
    obtain ⟨hs, hgd, hx, es', ep', hdt, hsz, ent⟩ := frzTv I hd
    obtain ⟨rfl, rfl⟩ := dict_ep hod hdt
    obtain ⟨ok, ov, he⟩ := st
    rw [← hsz] at he
    exact DT.endI (I.ok.hd hc) he ⟨o, hgd, hx, hdt⟩ (by omega) fun h' eb => ⟨rfl, I.turned (t' := s.toks) (fun b ob hb e => eb b ob hb e) f0 f1 f3 f4 f5⟩
  self := fun A i s Q E st h => let ⟨_, _, e⟩ := st; PySem.W.kcp_self e h
end
def iItemsT (td : TE) : TI := fun σ H R => td σ H fun x H1 => ∃ d o kvs, x = .ref d ∧ H1 d = some (.frz o (.dT kvs)) ∧ R (ItiT d o kvs) H1
section
variable {X : Cx} {e : Expr} {td : TE} {apos cpos : Pos}
theorem pi_itemsT {elts : List Expr} {kk : Nat} {tpos : Pos} (he : PE X e td) (hbase : attributeBase e "items" X.env (eval e X.env) = eval e X.env := by rfl) (hline : (apos.endLine == cpos.line) = true := by rfl) :
    PI X (.Tuple elts kk tpos) (.Call (.Attribute e "items" apos) [] [] cpos) (iItemsT td) := by
  refine ⟨fun pins s σ H R I h => ?_⟩
  refine wpAny_Call_method (T := "dict") (id := "dict.items") hbase rfl hline F.plainAttrs_dict F.slot_dict_items F.type_dict_items (thn (he.run pins s σ H _ I h) fun u s1 ⟨x, H1, I1, rx, d, o, kvs, ex, hd, q⟩ => ?_)
  subst ex
  obtain rfl : u = Value.ref d := rx
  obtain ⟨hs, hgd, hx, es, ep, hdt, hsz, ent⟩ := frzTv I1 hd
  have raw : s1.heap.DictRaw d es ep := ⟨o, hgd, hx, hdt⟩
  refine ⟨raw.typeIs, fun b q => by cases q; exact ⟨o, hgd, hx.2.1⟩, ?_⟩
  have I2 : Inv X pins σ H1 { s1 with heap := s1.heap.push { cls := .type "dict_items", data := .fields #[.ref d] } } := I1.kept (t' := s1.toks) fun b ob q => Heap.get?_push_of_some _ q
  have fin : wpAny (model X.prog X.w) X.A (pyIter (.ref s1.heap.objs.size)) (PIE X pins σ (.Tuple elts kk tpos) R) X.xe { s1 with heap := s1.heap.push { cls := .type "dict_items", data := .fields #[.ref d] } } := by
    refine DT.iterI (d := d) (es := es) (ep := ep) ⟨_, Heap.get?_push_size _ rfl, rfl, rfl⟩ ⟨o, Heap.get?_push_of_some _ hgd, hx, hdt⟩ (pi_one (tk := s1.toks) I2 _ (turn_itemsT _ hdt) ⟨.none, .none, ?_⟩ q)
    rw [← hsz]
    exact Heap.get?_push_size _ rfl
  show wpAny _ _ (callWith cpos (.builtin "dict.items") [.ref d] [] []) _ X.xe s1
  exact method_meetsIn F.slot_dict_items F.entry_dict_items rfl (PySem.evalArgs_none ⟨rfl, raw.typeIs, F.args_dict_items_1 _, _, DT.meetsItems (es := es) (ep := ep) hs, ⟨⟨o, hgd, hx, hdt⟩, fin⟩⟩)
end
theorem walk_itemsT {d : Addr} {o : Obj} {kvs : List (List L2.Key × V)} : Walk (ItiT d o kvs) kvs.length (fun H => H d = some (.frz o (.dT kvs))) (fun i H x H' => ∃ T k v q, kvs[i]? = some (k, v) ∧ x = .ref T ∧ H T = none ∧ H q = some (.tup (k.map kV)) ∧ H' = upd H T (.tup [.ref q, v])) where
  goes := fun i H hi g => ⟨g, hi⟩
  stops := fun H g => ⟨g, Nat.le_refl _⟩
  yields := fun i H x H' _ _ y => y
end DX

set_option Elab.async false
set_option linter.all false
set_option maxRecDepth 100000
set_option maxHeartbeats 4000000
/-! list(d.values()), whatever d's keys are -/
namespace DX
open PySem PySem.Spec PyProof.Rows L2 PySem.W PySem.Calls
theorem meetsVals {prog : Program} {w : World} {d : Addr} {es : Array DictEntry} {ep : Nat} (hd : (d == sysModules) = false) :
    MeetsIn prog w (Builtin.«dict.values» ⟨[.ref d], []⟩) (fun _ R s => s.heap.DictRaw d es ep ∧
      R (.ok (.ret (.ref s.heap.objs.size))) { s with heap := s.heap.push { cls := .type "dict_values", data := .fields #[.ref d] } }) :=
  .of_wp fun A R s ⟨hm, h⟩ => by
    refine wpAny_bind ?_
    unfold Builtin.Dict.noArgs
    refine wpAny_bind (wpAny_notOrdered_dict hm.typeIs ?_)
    show wpAny _ _ (pure d) _ _ s
    refine wpAny_pure ?_
    show wpAny _ _ (Builtin.Dict.showsAll d >>= _) _ _ s
    unfold Builtin.Dict.showsAll
    rw [if_neg (by rw [hd]; exact Bool.false_ne_true)]
    refine wpAny_bind (wpAny_pure ?_)
    exact wpAny_bind (wpAny_newObj_type (wpAny_pure ⟨_, rfl, h⟩))
theorem vals_get {vs : List V} {us : List Value} (hl : vs.length = us.length) (h : ∀ (j : Nat) (v : V) (u : Value), vs[j]? = some v → us[j]? = some u → RelV v u) : Vals vs us := by
  induction vs generalizing us with
  | nil => cases us with
    | nil => exact .nil
    | cons => cases hl
  | cons v vs ih => cases us with
    | nil => cases hl
    | cons u us => exact .cons (h 0 v u rfl rfl) (ih (Nat.succ.inj hl) fun j a b ha hb => h (j + 1) a b ha hb)
def rValsT : V → Hp → VK → Prop := fun x H Q => ∃ (d : Addr) (kvs : List (List L2.Key × V)), x = .ref d ∧ Rd H d (.dT kvs) ∧ ∀ p, H p = none → Q (.ref p) (upd H p (.lst (kvs.map (·.2))))
def tListValsT (te : TE) : TE := fun σ H Q => te σ H fun x H1 => rValsT x H1 Q
section
variable {X : Cx} {e : Expr} {te : TE} {p apos cpos pos : Pos}
theorem pe_listValsT (hc : X.calm = true) (he : PE X e te) (hg : Gl X "list") (hm : X.mg "list" = none) (hv : bootBuiltins "list" = some (.type "list")) (hbase : attributeBase e "values" X.env (eval e X.env) = eval e X.env := by rfl) (hline : (apos.endLine == cpos.line) = true := by rfl)
    (hs : starEach [.Call (.Attribute e "values" apos) [] [] cpos] X.env = (false, eval (.Call (.Attribute e "values" apos) [] [] cpos) X.env) :: starEach [] X.env := by rfl) :
    PE X (.Call (.Name "list" p) [.Call (.Attribute e "values" apos) [] [] cpos] [] pos) (tListValsT te) := by
  refine ⟨fun pins s σ H Q I hq => ?_⟩
  refine wpAny_Call_Name_kw (ld_blt I hg hm hv (callWith_type1 ?_ hs rfl))
  rw [hs]
  refine Calls.spliced_cons (wpAny_Call_method (T := "dict") (id := "dict.values") hbase rfl hline F.plainAttrs_dict F.slot_dict_values F.type_dict_values (thn (he.run pins s σ H _ I hq) fun u s1 ⟨x, H1, I1, rx, d, kvs, ex, hd, q⟩ => ?_))
  subst ex
  obtain rfl : u = Value.ref d := rx
  obtain ⟨hz, lo, xs, kt, o, eds, ep, ho, hx, hdt, hen, hnd⟩ := (show ObjOk X.prog X.w H1 s1.heap d (.dT kvs) from hd.ok I1.hok)
  have raw : s1.heap.DictRaw d eds ep := ⟨o, ho, hx, hdt⟩
  have I2 : Inv X pins σ H1 { s1 with heap := s1.heap.push { cls := .type "dict_values", data := .fields #[.ref d] } } := I1.kept (t' := s1.toks) fun b ob q => Heap.get?_push_of_some _ q
  have lx : eds.size = xs.length := size_of_entries hen
  have lk : kvs.length = xs.length := Paired.length kt
  refine ⟨raw.typeIs, fun b q => by cases q; exact ⟨o, ho, hx.2.1⟩, ?_⟩
  show wpAny _ _ (callWith cpos (.builtin "dict.values") [.ref d] [] []) _ X.xe s1
  refine method_meetsIn F.slot_dict_values F.entry_dict_values rfl (PySem.evalArgs_none ⟨rfl, raw.typeIs, F.args_dict_values_1 _, _, meetsVals (es := eds) (ep := ep) lo, ⟨raw, ?_⟩⟩)
  refine Calls.spliced_nil ?_
  refine PySem.W.kdl_call (KdlSrc.rawValues (es := eds) (ep := ep)) (I1.ok.hd hc) ⟨⟨_, Heap.get?_push_size _ rfl, rfl, rfl⟩, raw.at fun ob e => Heap.get?_push_of_some _ e⟩ (by omega) fun h' tk acc c hk hS hacc => ?_
  have n2 : H1 (s1.heap.push { cls := .type "dict_values", data := .fields #[.ref d] }).objs.size = none := I2.hok.fresh (Nat.le_refl _)
  refine ⟨.ref _, upd H1 _ (.lst (kvs.map (·.2))), I2.laid (t' := tk) (fun b ob e => hk b ob e) (Nat.le_refl _) ⟨by rw [List.length_map]; exact hz, acc.toList, c, vals_get ?_ fun j v u hv hu => ?_, ?_⟩, rfl, q _ n2⟩
  · rw [List.length_map, show acc.toList.length = eds.size from hacc.1]; omega
  · rw [List.getElem?_map] at hv
    cases ek : kvs[j]? with
    | none => rw [ek] at hv; cases hv
    | some kv =>
      rw [ek] at hv
      cases Option.some.inj hv
      obtain ⟨x, hxj, _, _, rv⟩ := LiI.paired_get kt ek
      rw [Array.getElem?_toList] at hu
      obtain ⟨hj, eu⟩ := hacc.2 j u hu
      have ee := entry_at hen j
      rw [Array.getElem?_eq_getElem hj, hxj] at ee
      have ee := Option.some.inj ee
      rw [eu, ee]
      exact rv
  · rw [Array.toArray_toList]
    exact hS
end
end DX

set_option Elab.async false
set_option linter.all false
set_option maxRecDepth 100000
set_option maxHeartbeats 4000000
/-! a dict made by a comprehension, its keys tuples: over any kind of dict object, told by what a store does to it -/
namespace DX
open PySem PySem.Spec PyProof.Rows L2
section
variable {X : Cx}
/-- a kind of dict: how it stands when it is new, what putting y, z into it does -/
structure DKind (X : Cx) where
  new : HO
  put : Hp → Addr → V → V → Hp → Prop
  fresh : ∀ (H : Hp) (h : Heap), sysModules < h.objs.size → ObjOk X.prog X.w H (h.push { cls := .type "dict", data := .dict #[] }) h.objs.size new
  does : ∀ (B : Cx), B.prog = X.prog → B.w = X.w → B.A = X.A → B.xe = B.xe → ∀ {pins : List (Addr × Obj)} {σ : L2.St} {H H' : Hp} {s : Shared} {E : Value → Shared → Prop} {D : Addr} {y z : V} {u r : Value} {R : Unit → Shared → Prop}, Inv B pins σ H s → put H D y z H' → RelV y u → RelV z r → (∀ s', Inv B pins σ H' s' → R () s') →
    wpAny (model B.prog B.w) B.A (dictSet D u r) R E s
/-- dicts with tuple keys -/
def kindT (hu : X.A.units < cLine) : DKind X where
  new := .dT []
  put := fun H D y z H' => ∃ kvs k kb, (y = .ref kb ∧ H kb = some (.tup (k.map kV))) ∧ H D = some (.dT kvs) ∧ kvs.length < sizeLine ∧ H' = upd H D (.dT (putK kvs k z))
  fresh := fun H h hb => dt_empty h hb
  does := by
    intro B hp hw ha _ pins σ H H' s E D y z u r R I g ry rz q
    obtain ⟨kvs, k, kb, ⟨rfl, eb⟩, hD, hl, rfl⟩ := g
    cases (show u = Value.ref kb from ry)
    obtain ⟨zl, hm, xs, rel, dd⟩ := dt_of I.hok hD
    have e1 : xs.length ≤ sizeLine := by rw [← Paired.length rel]; exact zl
    have e2 := length_putK kvs k z
    refine wpAny_dictSet_heap (knd := tupleKind (mixKind B.prog B.w)) (hsz := e1) (by rw [ha]; exact hu) (key_of I.hok eb) dd fun h' ⟨od, es, ep, f1, f2, f3, f4, _, f5⟩ hs => q _ ?_
    refine d_write I (by rw [hD]; exact True.intro) hs ⟨od, f1⟩ ⟨by omega, hm, _, (rel.put k eb rz).keeps fun c ys ec => ?_, od, es, ep, f1, f2, f3, f4, f5⟩
    rw [upd_ne (ne_of ec hD (fun n => nomatch n))]
    exact ec
/-- {k: v for target in iter if ..}: the turns, D the new dict -/
def tDcG (kd : DKind X) (wi : TI) (g : TG) (tt : TT) (tk tv : TE) (vs : List Nat) : TE := fun σ H Q => wi σ H fun J H1 => ∀ D, H1 D = none → ∃ W : Nat → Nat → Hp → Prop, (∃ m, W 0 m (upd H1 D kd.new)) ∧ ∀ i m H, W i m H →
  (J.stop i H ∧ Q (.ref D) H) ∨ (J.go i H ∧ ∃ N : Hp → Prop, (∀ H', N H' → ∃ m', m' < m ∧ W (i + 1) m' H') ∧ ∀ x H', J.yld i H x H' → g x (wipe σ vs) H' fun σ2 H2 => wipe σ2 vs = wipe σ vs ∧ tt σ2 H2 fun b H3 =>
    if b = true then tk σ2 H3 fun y H4 => tv σ2 H4 fun z H5 => ∃ H6, kd.put H5 D y z H6 ∧ N H6 else N H3)
variable {kx vx tg iter : Expr} {ifs : List Expr} {scope : Scope} {own : List (Str × Nat)} {pos : Pos} {wi : TI} {g : TG} {tt : TT} {tk tv : TE}
/-- the comprehension itself, whatever takes the new dict -/
theorem dcG_at (kd : DKind X) {use : Option (Value → Sem Unit)} {Qf : Value → Shared → Prop} {pos' : Pos} {pins : List (Addr × Obj)} {s : Shared} {σ : L2.St} {H : Hp} {Q : VK} (hc : X.calm = true) (hN : X.N.Nodup) (hi : PI X tg iter wi) (ok : BlkOk X.N X.env.scope scope own) (I : Inv X pins σ H s)
    (hg : ∀ s H C cl fp, PG (X.blk s H scope (compEnvC scope cl C X.env) fp) tg g) (ht : ∀ s H C cl fp, PTs (X.blk s H scope (compEnvC scope cl C X.env) fp) ifs tt)
    (hk : ∀ s H C cl fp, PE (X.blk s H scope (compEnvC scope cl C X.env) fp) kx tk) (he : ∀ s H C cl fp, PE (X.blk s H scope (compEnvC scope cl C X.env) fp) vx tv) (hs : ∀ x, foldedSetIterable iter X.env x = pure x)
    (asked : tDcG kd wi g tt tk tv (own.map (·.2)) σ H Q)
    (leave : ∀ D C m s' H', Q (.ref D) H' → Inv X pins σ H' s' → s'.heap.Ns C m → FpOk X pins H' C → compPost (model X.prog X.w) X.A X.xe use Qf (.ref D) C (.ok .next) s') :
    wpAny (model X.prog X.w) X.A (comprehension (.DictComp kx vx [⟨tg, iter, ifs, 0⟩] scope pos) scope X.env pos' newDict false (eval iter X.env) use) Qf X.xe s := by
  refine wpAny_comprehension_free (use := use) rfl hs (closure_ok fun y hy e => (ok.free y hy e).elim (fun k => I.ok.has _ (.inl k)) fun k => I.ok.has _ (.inr k)) ok.kind (fun y hy e => by rw [ok.uniq y hy, e]) (thn (hi.run pins s σ H _ I asked) fun _ _ a => thn a fun _ s0 b => ?_)
  obtain ⟨it, fp, tn, J, H0, rfl, I0, T, st0, fr0, turns⟩ := b
  refine wpAny_newObj_type (newEnv_comp ?_)
  -- the new dict at D
  generalize eD : s0.heap.objs.size = D
  obtain ⟨W, ⟨m0, w0⟩, turn⟩ := turns D (I0.hok.fresh (Nat.le_of_eq eD))
  generalize e1 : ({ s0 with heap := s0.heap.push { cls := .type "dict", data := .dict #[] } } : Shared) = s1
  have eh : s1.heap = s0.heap.push { cls := .type "dict", data := .dict #[] } := by rw [← e1]
  have I1 : Inv X pins σ (upd H0 D kd.new) s1 := by
    subst e1 eD
    exact I0.laid (t' := s0.toks) (fun _ _ e => Heap.get?_push_of_some _ e) (Nat.le_refl _) (kd.fresh _ s0.heap I0.big)
  have below : ∀ b ∈ fp, b < s0.heap.objs.size := fun b hb => (T.obj _ _ st0 b hb).elim fun _ z => Heap.lt_size z.1
  have fr1 : ∀ b ∈ fp, FpOk X pins (upd H0 D kd.new) b ∧ b < s1.heap.objs.size := fun b hb =>
    ⟨⟨by rw [upd_ne (by rw [← eD]; exact Nat.ne_of_lt (below b hb))]; exact (fr0 b hb).1, (fr0 b hb).2⟩, by rw [eh, Heap.size_push]; exact Nat.lt_succ_of_lt (below b hb)⟩
  have st1 : tn 0 s1.heap := T.keep _ _ _ st0 fun _ _ _ e => by rw [eh]; exact Heap.get?_push_of_some _ e
  have Ib := block_start I1 ok hN fr1
  let cl := cellsFrom (s1.heap.objs.size + 1) scope.names (cloFrom X.env.cells scope.names [])
  obtain ⟨ce, ece⟩ : ∃ ce, compEnvC scope cl s1.heap.objs.size X.env = ce := ⟨_, rfl⟩
  have hg := hg s1 (upd H0 D kd.new) s1.heap.objs.size cl fp
  have ht := ht s1 (upd H0 D kd.new) s1.heap.objs.size cl fp
  have hk := hk s1 (upd H0 D kd.new) s1.heap.objs.size cl fp
  have he := he s1 (upd H0 D kd.new) s1.heap.objs.size cl fp
  have none1 : ∀ b ∈ fp, upd H0 D kd.new b = none := fun b hb => (fr1 b hb).1.1
  have eloc : ce.locals = s1.heap.objs.size := by subst ece; rfl
  show codeAny _ _ (.compStart (.DictComp kx vx [⟨tg, iter, ifs, 0⟩] scope pos) 0 (.ref it) (.ref D) (compEnvC scope cl s1.heap.objs.size X.env)) (compPost (model X.prog X.w) X.A X.xe use Qf (.ref D) s1.heap.objs.size) { s1 with heap := pushCells (s1.heap.push { cls := .type "dict", data := .dict #[] }) scope.names }
  rw [ece] at hg ht hk he ⊢
  have Ib : Inv (X.blk s1 (upd H0 D kd.new) scope ce fp) [] (wipe σ (own.map (·.2))) (upd H0 D kd.new) { s1 with heap := pushCells (s1.heap.push { cls := .type "dict", data := .dict #[] }) scope.names } := by rw [← ece]; exact Ib
  have stb : tn 0 (pushCells (s1.heap.push { cls := .type "dict", data := .dict #[] }) scope.names) := T.keep _ _ _ st1 fun _ _ _ e => pushCells_keeps _ _ _ _ (Heap.get?_push_of_some _ e)
  generalize esb : ({ s1 with heap := pushCells (s1.heap.push { cls := .type "dict", data := .dict #[] }) scope.names } : Shared) = sb at Ib ⊢
  have stb : tn 0 sb.heap := by rw [← esb]; exact stb
  generalize upd H0 D kd.new = Hn at w0 I1 fr1 none1 Ib hg ht hk he
  let B := X.blk s1 Hn scope ce fp
  have fpB : ∀ {σ' : L2.St} {H' : Hp} {s' : Shared}, Inv B [] σ' H' s' → (∀ b ∈ fp, H' b = none) → ∀ b ∈ fp, FpOk B [] H' b := fun J n b hb =>
    ⟨n b hb, (J.ok.exf b hb).1, J.ok.exfs b hb, .inl hb, fun x c e => (J.ok.exf b hb).2 x c e, fun p hp => nomatch (show p ∈ ([] : List (Addr × Obj)) from hp)⟩
  have loop : codeAny (model X.prog X.w) X.A (.compLoop (.DictComp kx vx [⟨tg, iter, ifs, 0⟩] scope pos) 0 (.ref it) (.ref D) ce) (compPost (model X.prog X.w) X.A X.xe use Qf (.ref D) s1.heap.objs.size) sb := by
    refine compLoop_anyD (fun n s' => ∃ i H', Inv B [] (wipe σ (own.map (·.2))) H' s' ∧ tn i s'.heap ∧ (∀ b ∈ fp, H' b = none) ∧ W i n H') (fun n s2 ⟨i, H2, I2, st2, n2, w2⟩ => ?_) m0 ⟨0, Hn, Ib, stb, none1, w0⟩
    rcases turn i n H2 w2 with ⟨stop, fin⟩ | ⟨go, N, hN', step⟩
    · refine thnF (T.done B rfl rfl rfl hc i [] s2 _ H2 (fun _ _ => False) I2 (fpB I2 n2) st2 stop) fun r s3 ⟨er, I3⟩ => ?_
      subst er
      have I4 : Inv X pins σ H2 s3 := I1.call' (ch := fp) I3.os I3.base I3.hok I3.bare fun b hb => ⟨(fr1 b hb).1.2.2.2.1, (fr1 b hb).1.2.1, (fr1 b hb).1.2.2.2.2.1, (fr1 b hb).1.2.2.2.2.2⟩
      obtain ⟨m, hm, _⟩ := I3.loc
      have free : H2 s1.heap.objs.size = none := eloc ▸ (show H2 ce.locals = none from I3.free)
      have hm : s3.heap.Ns s1.heap.objs.size m := eloc ▸ (show s3.heap.Ns ce.locals m from hm)
      exact leave D _ m s3 H2 fin I4 hm (I1.fpOk (Nat.le_refl _) free)
    · refine thnF (T.item B rfl rfl rfl hc i [] s2 _ H2 (fun _ _ => False) I2 (fpB I2 n2) st2 go) fun r s3 ⟨u, er, a3⟩ => ?_
      subst er
      refine thnF a3 fun _ s4 ⟨x, H4, I4, r4, y4, st4, n4⟩ => ?_
      refine thnF (hg.run _ s4 _ H4 x u _ (I4.pinned (fpB I4 n4) (T.obj _ _ st4)) r4 (step x H4 y4)) fun _ s5 ⟨σ5, H5, I5, wp, a5⟩ => ?_
      have close : ∀ {s' : Shared} {H' : Hp}, Inv B ([] ++ pinsAt fp s4.heap) σ5 H' s' → N H' → ∃ m, m < n ∧ ∃ i H', Inv B [] (wipe σ (own.map (·.2))) H' s' ∧ tn i s'.heap ∧ (∀ b ∈ fp, H' b = none) ∧ W i m H' := fun {s' H'} I' nx => by
        obtain ⟨m', lt, w'⟩ := hN' H' nx
        have pinned : ∀ b ∈ fp, ∀ o, s4.heap.get? b = some o → s'.heap.get? b = some o ∧ H' b = none := fun b hb o e =>
          let z := I'.pin (b, o) (List.mem_append_right _ (List.mem_append_right _ (mem_pinsAt hb e)))
          ⟨z.1, z.2.1⟩
        refine ⟨m', lt, i + 1, H', (I'.unpinned (pins := [])).weak (by have z := congrArg List.length wp; rw [wipe_length, wipe_length] at z; rw [wipe_length]; exact z.symm) (fun j v e => (wipe_some (wp ▸ e)).1), T.keep _ _ _ st4 fun b hb o e => (pinned b hb o e).1, fun b hb => ?_, w'⟩
        obtain ⟨o, e, _⟩ := T.obj _ _ st4 b hb
        exact (pinned b hb o e).2
      refine thnF (ht.run _ s5 σ5 H5 _ I5 a5) fun c s6 ⟨H6, I6, a6⟩ => ?_
      cases c with
      | true =>
        simp only [if_true] at a6 ⊢
        refine thnF (hk.run _ s6 σ5 H6 _ I6 a6) fun k7 s7 ⟨y7, H7, I7, r7, a7⟩ => ?_
        refine thnF (he.run _ s7 σ5 H7 _ I7 a7) fun k8 s8 ⟨y8, H8, I8, r8, H9, put, nx⟩ => ?_
        exact kd.does B rfl rfl rfl rfl I8 put r7 r8 fun s9 I9 => close I9 nx
      | false =>
        simp only [Bool.false_eq_true, if_false] at a6 ⊢
        exact close I6 a6
  exact codeAny_compStart_dict loop (T.self X.A 0 _ _ _ stb loop)
/-- as a value -/
theorem pe_dcG (kd : DKind X) (hc : X.calm = true) (hN : X.N.Nodup) (hi : PI X tg iter wi) (ok : BlkOk X.N X.env.scope scope own)
    (hg : ∀ s H C cl fp, PG (X.blk s H scope (compEnvC scope cl C X.env) fp) tg g) (ht : ∀ s H C cl fp, PTs (X.blk s H scope (compEnvC scope cl C X.env) fp) ifs tt)
    (hk : ∀ s H C cl fp, PE (X.blk s H scope (compEnvC scope cl C X.env) fp) kx tk) (he : ∀ s H C cl fp, PE (X.blk s H scope (compEnvC scope cl C X.env) fp) vx tv) (hs : ∀ x, foldedSetIterable iter X.env x = pure x := by intro _; rfl) :
    PE X (.DictComp kx vx [⟨tg, iter, ifs, 0⟩] scope pos) (tDcG kd wi g tt tk tv (own.map (·.2))) := by
  refine ⟨fun pins s σ H Q I asked => ?_⟩
  rw [arm_eval_DictComp]
  refine dcG_at kd hc hN hi ok I hg ht hk he hs asked fun D C m s3 H2 fin I4 hm fr => ?_
  obtain ⟨f0, f1, f2, f3, f4, f5⟩ := fr
  exact ⟨m, hm, fun h'' sb => ⟨.ref D, H2, I4.turned (t' := s3.toks) (fun b o hb e => (sb.2 b hb).trans e) f0 f1 f3 f4 f5, rfl, fin⟩⟩
/-- y = {..} on one line, y a local: the store comes before the block goes -/
theorem ps_dcG {i : Nat} {y : Str} {py spos : Pos} (kd : DKind X) (hc : X.calm = true) (hN : X.N.Nodup) (hy : X.N[i]? = some y) (yl : X.env.scope.names.lookup y = some .local)
    (sw : swapsWith (.DictComp kx vx [⟨tg, iter, ifs, 0⟩] scope pos) (some (.Name y py)) spos.line X.env = pure true) (hi : PI X tg iter wi) (ok : BlkOk X.N X.env.scope scope own)
    (hg : ∀ s H C cl fp, PG (X.blk s H scope (compEnvC scope cl C X.env) fp) tg g) (ht : ∀ s H C cl fp, PTs (X.blk s H scope (compEnvC scope cl C X.env) fp) ifs tt)
    (hk : ∀ s H C cl fp, PE (X.blk s H scope (compEnvC scope cl C X.env) fp) kx tk) (he : ∀ s H C cl fp, PE (X.blk s H scope (compEnvC scope cl C X.env) fp) vx tv) (hs : ∀ x, foldedSetIterable iter X.env x = pure x := by intro _; rfl) :
    PS X (.Assign [.Name y py] (.DictComp kx vx [⟨tg, iter, ifs, 0⟩] scope pos) spos) (tAsg (tDcG kd wi g tt tk tv (own.map (·.2))) (gName i)) := by
  refine ⟨fun pins s σ H E I asked => ?_⟩
  rw [exec_Assign_Name_used _ _ _ _ sw]
  refine wpAny_bind (wpAny_standAt (wpAny_bind ?_))
  show wpAny _ X.A (do let _ ← comprehension (.DictComp kx vx [⟨tg, iter, ifs, 0⟩] scope pos) scope X.env (firstIterPos [⟨tg, iter, ifs, 0⟩] pos) newDict false (eval iter X.env) (some (assign (.Name y py) X.env))) _ _ s
  have asked : tDcG kd wi g tt tk tv (own.map (·.2)) σ H (fun x H1 => gName i x σ H1 E.nx) := asked
  refine wpAny_bind (thn (dcG_at (Qf := fun _ s' => SP X pins E .next s') kd hc hN hi ok I hg ht hk he hs asked fun D C m s3 H2 fin I4 hm fr => ?_) fun _ s' z => wpAny_pure (wpAny_pure z))
  show wpAny _ _ (assign (.Name y py) X.env (.ref D)) _ _ _
  obtain ⟨f0, f1, f2, f3, f4, f5⟩ := fr
  refine wpAny_assign_Name (store_ok2 (v := V.ref D) I4 hN hy (.inl yl) rfl (fun s4 I5 ⟨b, sb, hb⟩ => ?_) (.inr yl))
  have ne : C ≠ b := hb.elim (fun z => z ▸ f1) fun z e => f4 y b z e.symm
  exact ⟨m, hm.sameBut sb ne, fun h5 sb5 => ⟨_, H2, I5.turned (t' := s4.toks) (fun c o hc e => (sb5.2 c hc).trans e) f0 f1 f3 f4 f5, fin⟩⟩
theorem sl_tupK {Y : Cx} {K : PySem.W.Frag} (e : Y.K = K) : SlR Y (rSlA K) := e ▸ sl_tupA
theorem sw_dc {env : Env} {y : Str} {py : Pos} {l : Nat} (hk : env.scope.kind = .function) (hy : env.scope.names.lookup y = some .local) (hl : (py.line == pos.line) = true) (ha : (scope.names.any fun z => z.1 == y && (z.2 == .local || z.2 == .cell)) = false) {gs : List Comprehension} :
    swapsWith (.DictComp kx vx gs scope pos) (some (.Name y py)) l env = pure true := by
  have h1 : env.kindOf y = some .local := hy
  have h2 : env.blockKind = .function := by unfold Env.blockKind; rw [hk]; rfl
  have ha' : (scope.names.any fun (n, k) => n == y && (k == .local || k == .cell)) = false := ha
  unfold swapsWith
  simp only [h1, h2, ha', Expr.pos, hl]
  rfl
end
end DX

set_option Elab.async false
set_option linter.all false
set_option maxRecDepth 100000
set_option maxHeartbeats 4000000
/-! f'{n:b}' of a number -/
namespace DX
open PySem PySem.Spec PyProof.Rows L2 PySem.W PySem.Calls Builtin Builtin.Str Builtin.Int Builtin.Float
/-- a number by its binary figures -/
def binS (n : Nat) : Str := ⟨((Nat.toDigits 2 n).map Char.toNat).toArray⟩
def spB : Str := ⟨#[98]⟩
theorem parse_b : parseFormatSpec spB.cps.toList "int" 62 = .ok { align := 62, type := some 98 } := by kernel_rfl
theorem ret_text2 {M : Model} {A : Around} {E : Value → Shared → Prop} {s : Shared} {X T : PySem.Str} {Q : PySem.Fin → Shared → Prop} (hL : T.length ≤ sizeLine) (h : ∀ t k, Q (.done (.ret (.str T t))) { s with toks := k }) (e : X = T) : wpAny M A (retStr X) Q E s := KXf.ret_text e (by rw [e]; exact hL) h
theorem pad0 (k : Nat) : ((-1 : Int) - (((0 : Nat) : Int) + ((0 : Nat) : Int) + ((0 : Nat) : Int)) - (k : Int)).toNat = 0 := by omega
theorem fmtB (n : Nat) (t : Tok) (hz : (binS n).length ≤ sizeLine) : ∀ u, Meets («int.__format__» ⟨[.int (n : Int) t, .str spB u], []⟩) (fun _ R s => ∀ t' k, R (.ok (.ret (.str (binS n) t'))) { s with toks := k }) := by
  intro _
  apply KPc.meets_of
  intro _ _ _ _ _ _ _
  unfold Builtin.«int.__format__»
  refine wpAny_bind (wpAny_of_eq (a := (_, _)) rfl ?_)
  refine wpAny_bind (wpAny_of_eq (a := _) rfl ?_)
  refine wpAny_ite (KPc.ite_no (fun z => Bool.noConfusion z) ?_)
  refine wpAny_bind (wpAny_typeNameOf (T := "str") (typeIs_str _ _ _) (by decide) fun _ => ?_)
  refine wpAny_bind (wpAny_of_eq (a := some _) rfl ?_)
  refine wpAny_ite (KPc.ite_no (by decide +kernel) ?_)
  refine wpAny_ite (KPc.ite_no (by decide +kernel) ?_)
  refine wpAny_bind (wpAny_typeNameOfCut_int ?_)
  rw [parse_b]
  refine wpAny_ite (KPc.ite_yes (by decide +kernel) ?_)
  refine ret_text2 (T := binS n) hz (by assumption) ?_
  rw [show decide ((n : Int) < 0) = false from decide_eq_false (by omega)]
  obtain ⟨d, ds, e⟩ : ∃ d ds, Nat.toDigits 2 n = d :: ds := by
    cases e : Nat.toDigits 2 n with
    | nil => exact absurd e (Nat.toDigits_ne_nil)
    | cons d ds => exact ⟨d, ds, rfl⟩
  unfold binS
  rw [show ((n : Int)).natAbs = n from rfl, e]
  show (⟨(List.replicate (((-1 : Int) - (((0 : Nat) : Int) + ((0 : Nat) : Int) + ((0 : Nat) : Int)) - ((List.replicate ((0 : Int).toNat - (d.toNat :: ds.map Char.toNat).length) 48 ++ (d.toNat :: ds.map Char.toNat)).length : Nat)).toNat) 32 ++ [] ++ [] ++ [] ++ (List.replicate ((0 : Int).toNat - (d.toNat :: ds.map Char.toNat).length) 48 ++ (d.toNat :: ds.map Char.toNat)) ++ [] ++ []).toArray⟩ : Str) = ⟨(d.toNat :: ds.map Char.toNat).toArray⟩
  rw [show (0 : Int).toNat - (d.toNat :: ds.map Char.toNat).length = 0 by simp, pad0]
  simp
end DX

set_option Elab.async false
set_option linter.all false
set_option maxRecDepth 100000
set_option maxHeartbeats 4000000
namespace DX
open PySem PySem.Spec PyProof.Rows L2
/-- {n:b} -/
def tFmtB (te : TE) : TE := fun σ H Q => te σ H fun x H1 => ∃ n : Nat, x = .int (n : Int) ∧ (binS n).length ≤ sizeLine ∧ Q (.str (binS n)) H1
section
variable {X : Cx} {e : Expr} {te : TE} {p1 p2 pos : Pos} {k : Nat}
theorem pe_fmtB (he : PE X e te) : PE X (.FormattedValue e (-1) (some (.JoinedStr [.Constant (.str ⟨#[98]⟩) k p1] p2)) pos) (tFmtB te) := by
  refine ⟨fun pins s σ H Q I h => ?_⟩
  refine wpAny_FormattedValue_spec (thn (he.run pins s σ H _ I h) fun v s1 hv => ?_)
  obtain ⟨x, H1, I1, r1, n, rfl, hz, q⟩ := hv
  obtain ⟨t, rfl⟩ := r1
  refine thn ((pe_joined1 (pe_str (X := X) (x := spB) (j := k) (pos := p1)) (pos := p2)).run pins s1 σ H1 (fun v H2 => v = .str spB ∧ H2 = H1) I1 ⟨rfl, rfl⟩) fun w s2 hw => ?_
  obtain ⟨y, H2, I2, r2, rfl, rfl⟩ := hw
  obtain ⟨u, rfl⟩ := r2
  refine ⟨spB, u, rfl, ?_⟩
  refine PySem.W.KXf.field_int (spec' := spB) rfl (by decide) (by decide +kernel) (fmtB n t hz) fun t' kk => ?_
  exact ⟨.str (binS n), H2, I2.tok _, ⟨_, rfl⟩, q⟩
end
/-! ### the binary figures -/
/-- reading them -/
def binF (a : Nat) : List Nat → Nat
  | [] => a
  | c :: l => binF (2 * a + (if c = 49 then 1 else 0)) l
theorem binF_snoc (a : Nat) (c : Nat) : ∀ l : List Nat, binF a (l ++ [c]) = 2 * binF a l + (if c = 49 then 1 else 0) := fun l => by
  induction l generalizing a with
  | nil => rfl
  | cons x l ih => exact ih _
theorem digit_cases (n : Nat) : (Nat.digitChar (n % 2)).toNat = if n % 2 = 1 then 49 else 48 := by
  rcases Nat.mod_two_eq_zero_or_one n with h | h <;> rw [h] <;> decide
theorem bin_read : ∀ n : Nat, binF 0 ((Nat.toDigits 2 n).map Char.toNat) = n ∧ ∀ c ∈ (Nat.toDigits 2 n).map Char.toNat, c = 48 ∨ c = 49 := fun n => by
  induction n using Nat.strongRecOn with
  | _ n ih =>
    by_cases h : n < 2
    · have : n = 0 ∨ n = 1 := by omega
      rcases this with rfl | rfl <;> decide
    · have e : Nat.toDigits 2 n = Nat.toDigits 2 (n / 2) ++ [Nat.digitChar (n % 2)] := Nat.toDigits_of_base_le (by decide) (by omega)
      obtain ⟨h1, h2⟩ := ih (n / 2) (by omega)
      rw [e, List.map_append, List.map_cons, List.map_nil, binF_snoc, h1, digit_cases]
      refine ⟨?_, fun c hc => ?_⟩
      · rcases Nat.mod_two_eq_zero_or_one n with z | z <;> rw [z] <;> simp <;> omega
      · rcases List.mem_append.mp hc with g | g
        · exact h2 c g
        · rw [List.mem_singleton.mp g]
          rcases Nat.mod_two_eq_zero_or_one n with z | z <;> rw [z] <;> simp
/-- the power so far -/
def rzF (b : Int) (a : Int) : List Nat → Int
  | [] => a
  | c :: l => rzF b (if c = 49 then a * a * b else a * a) l
theorem rz_pow (b : Int) : ∀ (l : List Nat) (k : Nat), rzF b (b ^ k) l = b ^ binF k l
  | [], k => rfl
  | c :: l, k => by
    show rzF b (if c = 49 then b ^ k * b ^ k * b else b ^ k * b ^ k) l = b ^ binF (2 * k + if c = 49 then 1 else 0) l
    rw [← rz_pow b l]
    congr 1
    split
    · rw [← Int.pow_add, ← Int.pow_succ]; congr 1; omega
    · rw [← Int.pow_add]; congr 1; omega
theorem binF_le : ∀ (l : List Nat) (a : Nat), a ≤ binF a l
  | [], a => Nat.le_refl a
  | c :: l, a => by
    have := binF_le l (2 * a + if c = 49 then 1 else 0)
    show a ≤ binF (2 * a + if c = 49 then 1 else 0) l
    omega
theorem binF_take (l : List Nat) (i : Nat) (a : Nat) : binF a (l.take i) ≤ binF a l := by
  have key : ∀ (l m : List Nat) (a : Nat), binF a l ≤ binF a (l ++ m) := by
    intro l
    induction l with
    | nil => exact fun m a => binF_le m a
    | cons c l ih => exact fun m a => ih m _
  have := key (l.take i) (l.drop i) a
  rwa [List.take_append_drop] at this
theorem bin_len (n : Nat) : (binS n).length ≤ n + 1 := by
  unfold binS
  show ((Nat.toDigits 2 n).map Char.toNat).toArray.size ≤ n + 1
  rw [List.size_toArray, List.length_map]
  induction n using Nat.strongRecOn with
  | _ n ih =>
    by_cases h : n < 2
    · have : n = 0 ∨ n = 1 := by omega
      rcases this with rfl | rfl <;> decide
    · have e : Nat.toDigits 2 n = Nat.toDigits 2 (n / 2) ++ [Nat.digitChar (n % 2)] := Nat.toDigits_of_base_le (by decide) (by omega)
      have := ih (n / 2) (by omega)
      rw [e, List.length_append, List.length_singleton]
      omega
end DX

set_option Elab.async false
set_option linter.all false
set_option maxRecDepth 100000
set_option maxHeartbeats 4000000
/-! {e for target in iter} whose members are ints -/
namespace DX
open PySem PySem.Spec PyProof.Rows L2
section
variable {X : Cx}
/-- the turns, D the new set -/
def SI (w : World) (J : It) (g : TG) (tt : TT) (te : TE) (vs : List Nat) (σ : L2.St) (Q : VK) (H1 : Hp) : Prop := ∀ D, H1 D = none → ∃ W : Nat → Nat → Hp → Prop, (∃ m, W 0 m (upd H1 D (SetO w D (fun _ => false) 0))) ∧ ∀ i m H, W i m H →
  (J.stop i H ∧ Q (.ref D) H) ∨ (J.go i H ∧ ∃ N : Hp → Prop, (∀ H', N H' → ∃ m', m' < m ∧ W (i + 1) m' H') ∧ ∀ x H', J.yld i H x H' → g x (wipe σ vs) H' fun σ2 H2 => wipe σ2 vs = wipe σ vs ∧ tt σ2 H2 fun b H3 =>
    if b = true then te σ2 H3 fun y H4 => ∃ (k : Int) (S : Int → Bool) (n : Nat), y = .int k ∧ H4 D = some (SetO w D S n) ∧ n + 1 < scanBound ∧ N (upd H4 D (SetO w D (fun j => S j || decide (j = k)) (if S k = true then n else n + 1))) else N H3)
def tScI (w : World) (wi : TI) (g : TG) (tt : TT) (te : TE) (vs : List Nat) : TE := fun σ H Q => wi σ H fun J H1 => SI w J g tt te vs σ Q H1
variable {elt tg iter : Expr} {ifs : List Expr} {scope : Scope} {own : List (Str × Nat)} {pos : Pos} {wi : TI} {g : TG} {tt : TT} {te : TE}
theorem scI_at {use : Option (Value → Sem Unit)} {Qf : Value → Shared → Prop} {pos' : Pos} {pins : List (Addr × Obj)} {s : Shared} {σ : L2.St} {H : Hp} {Q : VK} (hc : X.calm = true) (hN : X.N.Nodup) (hi : PI X tg iter wi) (ok : BlkOk X.N X.env.scope scope own) (I : Inv X pins σ H s)
    (hg : ∀ s H C cl fp, PG (X.blk s H scope (compEnvC scope cl C X.env) fp) tg g) (ht : ∀ s H C cl fp, PTs (X.blk s H scope (compEnvC scope cl C X.env) fp) ifs tt)
    (he : ∀ s H C cl fp, PE (X.blk s H scope (compEnvC scope cl C X.env) fp) elt te) (hs : ∀ x, foldedSetIterable iter X.env x = pure x)
    (asked : tScI X.w wi g tt te (own.map (·.2)) σ H Q)
    (leave : ∀ D C m s' H', Q (.ref D) H' → Inv X pins σ H' s' → s'.heap.Ns C m → FpOk X pins H' C → compPost (model X.prog X.w) X.A X.xe use Qf (.ref D) C (.ok .next) s') :
    wpAny (model X.prog X.w) X.A (comprehension (.SetComp elt [⟨tg, iter, ifs, 0⟩] scope pos) scope X.env pos' (newSet (.type "set")) false (eval iter X.env) use) Qf X.xe s := by
  refine wpAny_comprehension_free (use := use) rfl hs (closure_ok fun y hy e => (ok.free y hy e).elim (fun k => I.ok.has _ (.inl k)) fun k => I.ok.has _ (.inr k)) ok.kind (fun y hy e => by rw [ok.uniq y hy, e]) (thn (hi.run pins s σ H _ I asked) fun _ _ a => thn a fun _ s0 b => ?_)
  obtain ⟨it, fp, tn, J, H0, rfl, I0, T, st0, fr0, turns⟩ := b
  refine PpSet.newSet_ok (newEnv_comp ?_)
  -- the new set at D
  generalize eD : s0.heap.objs.size = D
  obtain ⟨W, ⟨m0, w0⟩, turn⟩ := turns D (I0.hok.fresh (Nat.le_of_eq eD))
  generalize e1 : ({ s0 with heap := s0.heap.push { cls := .type "set", dict := none, data := .set #[] 0 (.fresh 0 0 (!X.w.params.followText "set-order")) } } : Shared) = s1
  have eh : s1.heap = s0.heap.push { cls := .type "set", dict := none, data := .set #[] 0 (.fresh 0 0 (!X.w.params.followText "set-order")) } := by rw [← e1]
  have I1 : Inv X pins σ (upd H0 D (SetO X.w D (fun _ => false) 0)) s1 := by
    subst e1 eD
    exact I0.laid (t' := s0.toks) (fun _ _ e => Heap.get?_push_of_some _ e) (Nat.le_refl _) (setO_new (setR_fresh X.w))
  have below : ∀ b ∈ fp, b < s0.heap.objs.size := fun b hb => (T.obj _ _ st0 b hb).elim fun _ z => Heap.lt_size z.1
  have fr1 : ∀ b ∈ fp, FpOk X pins (upd H0 D (SetO X.w D (fun _ => false) 0)) b ∧ b < s1.heap.objs.size := fun b hb =>
    ⟨⟨by rw [upd_ne (by rw [← eD]; exact Nat.ne_of_lt (below b hb))]; exact (fr0 b hb).1, (fr0 b hb).2⟩, by rw [eh, Heap.size_push]; exact Nat.lt_succ_of_lt (below b hb)⟩
  have st1 : tn 0 s1.heap := T.keep _ _ _ st0 fun _ _ _ e => by rw [eh]; exact Heap.get?_push_of_some _ e
  have Ib := block_start I1 ok hN fr1
  let cl := cellsFrom (s1.heap.objs.size + 1) scope.names (cloFrom X.env.cells scope.names [])
  obtain ⟨ce, ece⟩ : ∃ ce, compEnvC scope cl s1.heap.objs.size X.env = ce := ⟨_, rfl⟩
  have hg := hg s1 (upd H0 D (SetO X.w D (fun _ => false) 0)) s1.heap.objs.size cl fp
  have ht := ht s1 (upd H0 D (SetO X.w D (fun _ => false) 0)) s1.heap.objs.size cl fp
  have he := he s1 (upd H0 D (SetO X.w D (fun _ => false) 0)) s1.heap.objs.size cl fp
  have none1 : ∀ b ∈ fp, upd H0 D (SetO X.w D (fun _ => false) 0) b = none := fun b hb => (fr1 b hb).1.1
  have eloc : ce.locals = s1.heap.objs.size := by subst ece; rfl
  show codeAny _ _ (.compStart (.SetComp elt [⟨tg, iter, ifs, 0⟩] scope pos) 0 (.ref it) (.ref D) (compEnvC scope cl s1.heap.objs.size X.env)) (compPost (model X.prog X.w) X.A X.xe use Qf (.ref D) s1.heap.objs.size) { s1 with heap := pushCells (s1.heap.push { cls := .type "dict", data := .dict #[] }) scope.names }
  rw [ece] at hg ht he ⊢
  have Ib : Inv (X.blk s1 (upd H0 D (SetO X.w D (fun _ => false) 0)) scope ce fp) [] (wipe σ (own.map (·.2))) (upd H0 D (SetO X.w D (fun _ => false) 0)) { s1 with heap := pushCells (s1.heap.push { cls := .type "dict", data := .dict #[] }) scope.names } := by rw [← ece]; exact Ib
  have stb : tn 0 (pushCells (s1.heap.push { cls := .type "dict", data := .dict #[] }) scope.names) := T.keep _ _ _ st1 fun _ _ _ e => pushCells_keeps _ _ _ _ (Heap.get?_push_of_some _ e)
  generalize esb : ({ s1 with heap := pushCells (s1.heap.push { cls := .type "dict", data := .dict #[] }) scope.names } : Shared) = sb at Ib ⊢
  have stb : tn 0 sb.heap := by rw [← esb]; exact stb
  generalize upd H0 D (SetO X.w D (fun _ => false) 0) = Hn at w0 I1 fr1 none1 Ib hg ht he
  let B := X.blk s1 Hn scope ce fp
  have fpB : ∀ {σ' : L2.St} {H' : Hp} {s' : Shared}, Inv B [] σ' H' s' → (∀ b ∈ fp, H' b = none) → ∀ b ∈ fp, FpOk B [] H' b := fun J n b hb =>
    ⟨n b hb, (J.ok.exf b hb).1, J.ok.exfs b hb, .inl hb, fun x c e => (J.ok.exf b hb).2 x c e, fun p hp => nomatch (show p ∈ ([] : List (Addr × Obj)) from hp)⟩
  have loop : codeAny (model X.prog X.w) X.A (.compLoop (.SetComp elt [⟨tg, iter, ifs, 0⟩] scope pos) 0 (.ref it) (.ref D) ce) (compPost (model X.prog X.w) X.A X.xe use Qf (.ref D) s1.heap.objs.size) sb := by
    refine PpSet.compLoopS_any (fun n s' => ∃ i H', Inv B [] (wipe σ (own.map (·.2))) H' s' ∧ tn i s'.heap ∧ (∀ b ∈ fp, H' b = none) ∧ W i n H') (fun n s2 ⟨i, H2, I2, st2, n2, w2⟩ => ?_) m0 ⟨0, Hn, Ib, stb, none1, w0⟩
    rcases turn i n H2 w2 with ⟨stop, fin⟩ | ⟨go, N, hN', step⟩
    · refine thnF (T.done B rfl rfl rfl hc i [] s2 _ H2 (fun _ _ => False) I2 (fpB I2 n2) st2 stop) fun r s3 ⟨er, I3⟩ => ?_
      subst er
      have I4 : Inv X pins σ H2 s3 := I1.call' (ch := fp) I3.os I3.base I3.hok I3.bare fun b hb => ⟨(fr1 b hb).1.2.2.2.1, (fr1 b hb).1.2.1, (fr1 b hb).1.2.2.2.2.1, (fr1 b hb).1.2.2.2.2.2⟩
      obtain ⟨m, hm, _⟩ := I3.loc
      have free : H2 s1.heap.objs.size = none := eloc ▸ (show H2 ce.locals = none from I3.free)
      have hm : s3.heap.Ns s1.heap.objs.size m := eloc ▸ (show s3.heap.Ns ce.locals m from hm)
      exact leave D _ m s3 H2 fin I4 hm (I1.fpOk (Nat.le_refl _) free)
    · refine thnF (T.item B rfl rfl rfl hc i [] s2 _ H2 (fun _ _ => False) I2 (fpB I2 n2) st2 go) fun r s3 ⟨u, er, a3⟩ => ?_
      subst er
      refine thnF a3 fun _ s4 ⟨x, H4, I4, r4, y4, st4, n4⟩ => ?_
      refine thnF (hg.run _ s4 _ H4 x u _ (I4.pinned (fpB I4 n4) (T.obj _ _ st4)) r4 (step x H4 y4)) fun _ s5 ⟨σ5, H5, I5, wp, a5⟩ => ?_
      have close : ∀ {s' : Shared} {H' : Hp}, Inv B ([] ++ pinsAt fp s4.heap) σ5 H' s' → N H' → ∃ m, m < n ∧ ∃ i H', Inv B [] (wipe σ (own.map (·.2))) H' s' ∧ tn i s'.heap ∧ (∀ b ∈ fp, H' b = none) ∧ W i m H' := fun {s' H'} I' nx => by
        obtain ⟨m', lt, w'⟩ := hN' H' nx
        have pinned : ∀ b ∈ fp, ∀ o, s4.heap.get? b = some o → s'.heap.get? b = some o ∧ H' b = none := fun b hb o e =>
          let z := I'.pin (b, o) (List.mem_append_right _ (List.mem_append_right _ (mem_pinsAt hb e)))
          ⟨z.1, z.2.1⟩
        refine ⟨m', lt, i + 1, H', (I'.unpinned (pins := [])).weak (by have z := congrArg List.length wp; rw [wipe_length, wipe_length] at z; rw [wipe_length]; exact z.symm) (fun j v e => (wipe_some (wp ▸ e)).1), T.keep _ _ _ st4 fun b hb o e => (pinned b hb o e).1, fun b hb => ?_, w'⟩
        obtain ⟨o, e, _⟩ := T.obj _ _ st4 b hb
        exact (pinned b hb o e).2
      refine thnF (ht.run _ s5 σ5 H5 _ I5 a5) fun c s6 ⟨H6, I6, a6⟩ => ?_
      cases c with
      | true =>
        simp only [if_true] at a6 ⊢
        refine thnF (he.run _ s6 σ5 H6 _ I6 a6) fun k7 s7 ⟨y7, H7, I7, r7, kk, S0, n0, ey, hD7, room, nx⟩ => ?_
        subst ey
        refine thnF (mt_sadd (X := B) _ s7 σ5 H7 (.ref D) [.int kk] (.ref D) [k7] (fun v H' => v = .non ∧ N H') I7 rfl (.cons r7 .nil) ⟨D, kk, S0, n0, rfl, rfl, hD7, room, rfl, nx⟩) fun _ s8 ⟨_, H8, I8, _, _, nx8⟩ => ?_
        exact close I8 nx8
      | false =>
        simp only [Bool.false_eq_true, if_false] at a6 ⊢
        exact close I6 a6
  exact PpSet.codeAny_compStart_set loop (T.self X.A 0 _ _ _ stb loop)
/-- as a value -/
theorem pe_scI (hc : X.calm = true) (hN : X.N.Nodup) (hi : PI X tg iter wi) (ok : BlkOk X.N X.env.scope scope own)
    (hg : ∀ s H C cl fp, PG (X.blk s H scope (compEnvC scope cl C X.env) fp) tg g) (ht : ∀ s H C cl fp, PTs (X.blk s H scope (compEnvC scope cl C X.env) fp) ifs tt)
    (he : ∀ s H C cl fp, PE (X.blk s H scope (compEnvC scope cl C X.env) fp) elt te) (hs : ∀ x, foldedSetIterable iter X.env x = pure x := by intro _; rfl) :
    PE X (.SetComp elt [⟨tg, iter, ifs, 0⟩] scope pos) (tScI X.w wi g tt te (own.map (·.2))) := by
  refine ⟨fun pins s σ H Q I asked => ?_⟩
  rw [PpSet.eval_SetComp]
  refine scI_at hc hN hi ok I hg ht he hs asked fun D C m s3 H2 fin I4 hm fr => ?_
  obtain ⟨f0, f1, f2, f3, f4, f5⟩ := fr
  exact ⟨m, hm, fun h'' sb => ⟨.ref D, H2, I4.turned (t' := s3.toks) (fun b o hb e => (sb.2 b hb).trans e) f0 f1 f3 f4 f5, rfl, fin⟩⟩
end
end DX

set_option Elab.async false
set_option linter.all false
set_option maxRecDepth 100000
set_option maxHeartbeats 4000000
/-! itertools.product(a list, a range) -/
namespace PrI
open PySem PySem.Spec PyProof.Rows L2
open Builtin.Itertools
theorem mro_prod : mroOf (.type "itertools.product") = pure [.type "itertools.product", .type "object"] := by rw [mroOf_type]; kernel_rfl
theorem lookup_prod_new : typeLookup (.type "itertools.product") "__new__" = pure (some (.builtin "itertools.product.__new__")) := by rw [typeLookup_type, builtinLookup_eq_fast]; kernel_rfl
theorem slot_prod_init : Slot "itertools.product" "__init__" "object.__init__" :=
  .of (owner := "object") (n := "__init__") (by rw [typeLookup_type, builtinLookup_eq_fast]; kernel_rfl) (by decide +kernel) (by decide +kernel) (by decide +kernel)
    (by first | exact .inl (by decide +kernel) | exact .inr (by decide +kernel)) (by rw [isSubtype_type]; kernel_rfl)
theorem sub_prod : isSubtype (.type "itertools.product") (.type "itertools.product") = pure true := by rw [isSubtype_type]; kernel_rfl
theorem called_prod : TypeCalled "itertools.product" "itertools.product.__new__" "object.__init__" :=
  ⟨by decide +kernel, by decide +kernel, ⟨_, _, mro_prod⟩, madeBy_type mro_prod lookup_prod_new (by decide +kernel), by decide +kernel, sub_prod, slot_prod_init⟩
theorem typeCall_prod_2 (a b : Value) : checkTypeCall "itertools.product" ⟨[a, b], []⟩ = pure () := by kernel_rfl
theorem newCall_prod_2 (a b : Value) : checkBuiltinCall "itertools.product.__new__" ⟨[.type "itertools.product", a, b], []⟩ = pure () := by kernel_rfl
theorem entry_prod_new : entryFor table "itertools.product.__new__" = some Builtin.«itertools.product.__new__» := entryFor_of_tree (by kernel_rfl)
theorem slot_prod_iter : Slot "itertools.product" "__iter__" "itertools.product.__iter__" :=
  .of (owner := "itertools.product") (n := "__iter__") (by rw [typeLookup_type, builtinLookup_eq_fast]; kernel_rfl) (by decide +kernel) (by decide +kernel) (by decide +kernel)
    (by first | exact .inl (by decide +kernel) | exact .inr (by decide +kernel)) sub_prod
theorem slot_prod_next : Slot "itertools.product" "__next__" "itertools.product.__next__" :=
  .of (owner := "itertools.product") (n := "__next__") (by rw [typeLookup_type, builtinLookup_eq_fast]; kernel_rfl) (by decide +kernel) (by decide +kernel) (by decide +kernel)
    (by first | exact .inl (by decide +kernel) | exact .inr (by decide +kernel)) sub_prod
theorem entry_prod_iter : entryFor table "itertools.product.__iter__" = some Builtin.«dict_keyiterator.__iter__» :=
  entryFor_alias (id' := "dict_keyiterator.__iter__") (by kernel_rfl) (by first | rfl | decide +kernel | (unfold String.splitOn; simp +decide [String.splitOnAux])) (by decide +kernel) (by kernel_rfl)
theorem entry_prod_next : entryFor table "itertools.product.__next__" = some Builtin.«itertools.product.__next__» := entryFor_of_tree (by kernel_rfl)
theorem owner_prod : Manifest.owners.lookup (String.ofList ['t', 'c', 'u', 'd', 'o', 'r', 'p', '.', 's', 'l', 'o', 'o', 't', 'r', 'e', 't', 'i'].reverse) = some Manifest.sig_itertools_product := by kernel_rfl
theorem args_prod_iter (a : Value) : argsOk "itertools.product.__iter__" ⟨[a], []⟩ := by
  unfold argsOk; rw [signature?_of (id := "itertools.product.__iter__") (n := ['_', '_', 'r', 'e', 't', 'i', '_', '_']) (o := ['t', 'c', 'u', 'd', 'o', 'r', 'p', '.', 's', 'l', 'o', 'o', 't', 'r', 'e', 't', 'i']) (by kernel_rfl) owner_prod]; kernel_rfl
theorem args_prod_next (a : Value) : argsOk "itertools.product.__next__" ⟨[a], []⟩ := by
  unfold argsOk; rw [signature?_of (id := "itertools.product.__next__") (n := ['_', '_', 't', 'x', 'e', 'n', '_', '_']) (o := ['t', 'c', 'u', 'd', 'o', 'r', 'p', '.', 's', 'l', 'o', 'o', 't', 'r', 'e', 't', 'i']) (by kernel_rfl) owner_prod]; kernel_rfl
theorem noDict_prod : typeHasDict (.type "itertools.product") = false := by decide +kernel
/-- a product of two pools -/
abbrev IsProd (h : Heap) (p tp : Addr) (st : Int) (last : Value) (i j : Nat) : Prop := h.get? p = some { cls := .type "itertools.product", dict := none, data := .fields #[.ref tp, .int st 0, last, .int (i : Int) 0, .int (j : Int) 0], slots := #[] }
abbrev IsTup (h : Heap) (t : Addr) (vs : Array Value) : Prop := h.get? t = some { cls := .type "tuple", dict := none, data := .seq vs, slots := #[] }
end PrI

set_option Elab.async false
set_option linter.all false
set_option maxRecDepth 100000
set_option maxHeartbeats 4000000
namespace PrI
open PySem PySem.Spec PyProof.Rows L2
open Builtin.Itertools
theorem meets_prod_new (l r : Addr) {items : Array Value} {a b c : Int} {t u v : Tok} {n : Nat} :
    Meets (Builtin.«itertools.product.__new__» ⟨[.type "itertools.product", .ref l, .ref r], []⟩)
      (fun A R s => A.handled = none ∧ s.heap.IsList l items ∧ items.size ≤ sizeLine ∧ IsRange s.heap r a b c t u v ∧ Builtin.Range.small a b c = true ∧ Builtin.Range.rangeSize a b c = n ∧ n ≤ 2 ^ 24 ∧ n ≤ sizeLine ∧
        ∀ (h1 h2 : Heap) (tk : Nat) (acc : Array Value), (∀ b o, s.heap.get? b = some o → h1.get? b = some o) → (∀ b o, (h1.push { cls := .type "tuple", data := .seq items }).get? b = some o → h2.get? b = some o) →
          ItemsOf (fun i v => ∃ t, v = .int (a + i * c) t) acc n → R (.ok (.ret (.ref (h2.objs.size + 2)))) { s with heap := ((h2.push { cls := .type "tuple", data := .seq acc }).push { cls := .type "tuple", data := .seq #[.ref h1.objs.size, .ref h2.objs.size] }).push { cls := .type "itertools.product", data := .fields #[.ref (h2.objs.size + 1), .int 0 0, .none, .int 0 0, .int 0 0] }, toks := tk }) :=
  .of_wp fun prog w A R s h => by
    obtain ⟨hp, g, dd, tk, os⟩ := s
    obtain ⟨hh, ⟨ol, hol, hcl, nl, hdl⟩, hz, hr, hsm, hn, hlen, hns, h⟩ := h
    have hsub : isSubtype (.type "itertools.product") (.type ("itertools." ++ "product")) = pure true := sub_prod
    have hd := noDict_prod
    repeat (first
      | with_reducible refine wpAny_collect_seq l (T := "list") (.inl rfl) hol hcl hdl (fun h1 k1 => ?_) hz
      | with_reducible refine collect_range (A := A.in1) (r := r) (n := n) hh (Heap.get?_push_of_some _ (k1 _ _ hr)) hsm hn hlen (fun h2 tk2 acc k2 ha => ?_)
      | wp_step
      | simp only [List.head?_cons, Option.some_or, List.getElem?_cons_succ, List.getElem?_cons_zero, List.length_cons, List.length_nil, List.forIn_nil])
    have hn2 : ¬ (acc.toList.toArray.size > sizeLine) := by
      have := ha.1
      simp only [Array.toArray_toList]
      omega
    rw [if_neg hn2]
    repeat (first
      | wp_step
      | simp only [List.head?_cons, Option.some_or, List.getElem?_cons_succ, List.getElem?_cons_zero, List.length_cons, List.length_nil, List.forIn_nil])
    have z := h h1 h2 tk2 acc k1 k2 ha
    refine ⟨_, rfl, ?_⟩
    simp only [Heap.size_push, Array.toArray_toList]
    exact z
end PrI

set_option Elab.async false
set_option linter.all false
set_option maxRecDepth 100000
set_option maxHeartbeats 4000000
namespace PrI
open PySem PySem.Spec PyProof.Rows L2
open Builtin.Itertools
section
variable {prog : Program} {w : World} {A : Around} {E : Value → Shared → Prop} {s : Shared} {p tp t1 t2 : Addr} {st : Int} {last : Value} {xs ys : Array Value} {x y : Value} {i j : Nat}
theorem keep_ok {Q : Value → Shared → Prop} (l : List Value) (el : l = [x, y]) (hp : IsProd s.heap p tp st last i j)
    (hQ : ∀ h', IsProd h' p tp st (.ref s.heap.objs.size) i j → IsTup h' s.heap.objs.size #[x, y] → (∀ b o, b ≠ p → s.heap.get? b = some o → h'.get? b = some o) → Q (.ref s.heap.objs.size) { s with heap := h' }) :
    wpAny (model prog w) A (do
      let t ← newTuple l
      let before ← field (.ref p) 2
      setField (.ref p) 2 t
      letGo [before] [t]
      pure t) Q E s := by
  subst el
  refine wpAny_bind (wpAny_newTuple ?_)
  have lp : p < s.heap.objs.size := Heap.lt_size hp
  have hp1 : IsProd (s.heap.push { cls := .type "tuple", data := .seq #[x, y] }) p tp st last i j := Heap.get?_push_of_some _ hp
  refine wpAny_bind (wpAny_field hp1 rfl (x := last) rfl ?_)
  refine wpAny_bind (wpAny_setField hp1 rfl (by simp) ?_)
  refine wpAny_bind (wpAny_letGo (wpAny_pure ?_))
  refine hQ _ (Heap.get?_update_self _ hp1 rfl) ?_ fun b o n e => ((Heap.SameBut.update ..).2 b n).trans (Heap.get?_push_of_some _ e)
  exact ((Heap.SameBut.update ..).2 _ (Nat.ne_of_gt lp)).trans (Heap.get?_push_size _ rfl)
theorem gd {xs : Array Value} {i : Nat} {x d : Value} (h : xs[i]? = some x) : xs.getD i d = x := by
  rw [Array.getD_eq_getD_getElem?, h]; rfl
theorem prod_first {Q : Option Value → Shared → Prop} (hp : IsProd s.heap p tp 0 last 0 0) (htp : IsTup s.heap tp #[.ref t1, .ref t2]) (h1 : IsTup s.heap t1 xs) (h2 : IsTup s.heap t2 ys) (hx : xs[0]? = some x) (hy : ys[0]? = some y)
    (hQ : ∀ h', IsProd h' p tp 1 (.ref s.heap.objs.size) 0 0 → IsTup h' s.heap.objs.size #[x, y] → (∀ b o, b ≠ p → s.heap.get? b = some o → h'.get? b = some o) → Q (some (.ref s.heap.objs.size)) { s with heap := h' }) :
    wpAny (model prog w) A (pyNext (.ref p)) Q E s := by
  have hT : s.TypeIs (.ref p) "itertools.product" := ⟨_, hp, rfl⟩
  unfold pyNext
  refine wpAny_bind (wpAny_attempt (wpAny_callSpecial?_slot (name := Str.ofString "__next__") hT slot_prod_next (wpAny_call_entry slot_prod_next hT entry_prod_next ?_ (args_prod_next _))))
  show wpAny _ _ (field (.ref p) 0 >>= _) _ _ s
  refine wpAny_bind (wpAny_field hp rfl (x := .ref tp) rfl ?_)
  show wpAny _ _ (itPoolItems (.ref tp) >>= _) _ _ s
  refine wpAny_bind ?_
  unfold itPoolItems
  refine wpAny_bind (wpAny_seqItems htp rfl (wpAny_pure ?_))
  simp only [List.mapM_cons, List.mapM_nil]
  refine wpAny_bind (wpAny_bind (wpAny_bind (wpAny_seqItems h1 rfl (wpAny_pure ?_))))
  refine wpAny_bind (wpAny_bind (wpAny_bind (wpAny_seqItems h2 rfl (wpAny_pure ?_))))
  refine wpAny_bind (wpAny_pure (wpAny_pure (wpAny_pure ?_)))
  refine wpAny_bind ?_
  unfold itNumbersFrom
  refine wpAny_bind (wpAny_load hp (wpAny_pure ?_))
  refine wpAny_bind ?_
  unfold itIntField
  refine wpAny_bind (wpAny_field hp rfl (x := .int 0 0) rfl (wpAny_pure ?_))
  have lx : 0 < xs.size := (Array.getElem?_eq_some_iff.mp hx).1
  have ly : 0 < ys.size := (Array.getElem?_eq_some_iff.mp hy).1
  have hne : ¬ (([xs, ys].any fun x => x.isEmpty) = true) := by
    simp only [List.any_cons, List.any_nil, Array.isEmpty, Bool.or_false, Bool.or_eq_true, decide_eq_true_eq]
    omega
  show wpAny _ _ (if ([xs, ys].any fun x => x.isEmpty) = true then _ else _) _ _ s
  rw [if_neg hne]
  refine wpAny_bind (wpAny_setField hp rfl (by simp) ?_)
  have hp2 : IsProd (s.heap.update p (Obj.mapFields fun x => x.setIfInBounds 1 (rawInt 1))) p tp 1 last 0 0 := Heap.get?_update_self _ hp rfl
  have lp : p < s.heap.objs.size := Heap.lt_size hp
  have sz : (s.heap.update p (Obj.mapFields fun x => x.setIfInBounds 1 (rawInt 1))).objs.size = s.heap.objs.size := (Heap.SameBut.update ..).1
  have k2 : ∀ b o, b ≠ p → s.heap.get? b = some o → (s.heap.update p (Obj.mapFields fun x => x.setIfInBounds 1 (rawInt 1))).get? b = some o := fun b o n e => ((Heap.SameBut.update ..).2 b n).trans e
  generalize s.heap.update p (Obj.mapFields fun x => x.setIfInBounds 1 (rawInt 1)) = g2 at hp2 sz k2 ⊢
  refine wpAny_bind ?_
  refine keep_ok (s := { s with heap := g2 }) (x := x) (y := y) _ (show [xs.getD 0 .none, ys.getD 0 .none] = _ by rw [gd hx, gd hy]) hp2 fun h' a1 a2 a3 => ?_
  refine wpAny_pure ⟨_, rfl, wpAny_pure ?_⟩
  have a1 : IsProd h' p tp 1 (.ref g2.objs.size) 0 0 := a1
  have a2 : IsTup h' g2.objs.size #[x, y] := a2
  have z := hQ h' (by rw [← sz]; exact a1) (by rw [← sz]; exact a2) fun b o n e => a3 b o n (k2 b o n e)
  rw [← sz] at z
  exact z
theorem prod_next {Q : Option Value → Shared → Prop} {i' j' : Nat} (hp : IsProd s.heap p tp 1 last i j) (htp : IsTup s.heap tp #[.ref t1, .ref t2]) (h1 : IsTup s.heap t1 xs) (h2 : IsTup s.heap t2 ys) (hx : xs[i']? = some x) (hy : ys[j']? = some y)
    (od : (j + 1 = ys.size ∧ i + 1 ≠ xs.size ∧ i' = i + 1 ∧ j' = 0) ∨ (j + 1 ≠ ys.size ∧ i' = i ∧ j' = j + 1))
    (hQ : ∀ h', IsProd h' p tp 1 (.ref s.heap.objs.size) i' j' → IsTup h' s.heap.objs.size #[x, y] → (∀ b o, b ≠ p → s.heap.get? b = some o → h'.get? b = some o) → Q (some (.ref s.heap.objs.size)) { s with heap := h' }) :
    wpAny (model prog w) A (pyNext (.ref p)) Q E s := by
  have hT : s.TypeIs (.ref p) "itertools.product" := ⟨_, hp, rfl⟩
  unfold pyNext
  refine wpAny_bind (wpAny_attempt (wpAny_callSpecial?_slot (name := Str.ofString "__next__") hT slot_prod_next (wpAny_call_entry slot_prod_next hT entry_prod_next ?_ (args_prod_next _))))
  show wpAny _ _ (field (.ref p) 0 >>= _) _ _ s
  refine wpAny_bind (wpAny_field hp rfl (x := .ref tp) rfl ?_)
  show wpAny _ _ (itPoolItems (.ref tp) >>= _) _ _ s
  refine wpAny_bind ?_
  unfold itPoolItems
  refine wpAny_bind (wpAny_seqItems htp rfl (wpAny_pure ?_))
  simp only [List.mapM_cons, List.mapM_nil]
  refine wpAny_bind (wpAny_bind (wpAny_bind (wpAny_seqItems h1 rfl (wpAny_pure ?_))))
  refine wpAny_bind (wpAny_bind (wpAny_bind (wpAny_seqItems h2 rfl (wpAny_pure ?_))))
  refine wpAny_bind (wpAny_pure (wpAny_pure (wpAny_pure ?_)))
  refine wpAny_bind ?_
  unfold itNumbersFrom
  refine wpAny_bind (wpAny_load hp (wpAny_pure ?_))
  refine wpAny_bind ?_
  unfold itIntField
  refine wpAny_bind (wpAny_field hp rfl (x := .int 1 0) rfl (wpAny_pure ?_))
  show wpAny _ _ (match (if (j + 1 == ys.size) = true then (0 :: ·) <$> (if (i + 1 == xs.size) = true then (0 :: ·) <$> (none : Option (List Nat)) else some [i + 1]) else some [j + 1, i]) with
    | some next => _
    | none => _) _ _ s
  have eo : (if (j + 1 == ys.size) = true then (0 :: ·) <$> (if (i + 1 == xs.size) = true then (0 :: ·) <$> (none : Option (List Nat)) else some [i + 1]) else some [j + 1, i]) = some [j', i'] := by
    rcases od with ⟨h1, h2, rfl, rfl⟩ | ⟨h1, rfl, rfl⟩
    · rw [if_pos (by simpa using h1), if_neg (by simpa using h2)]; rfl
    · rw [if_neg (by simpa using h1)]
  rw [eo]
  show wpAny _ _ (itSetNumbersFrom (.ref p) 3 [i', j'] >>= _) _ _ s
  unfold itSetNumbersFrom
  refine wpAny_bind (wpAny_updateFields hp rfl ?_ (by simp; decide))
  have hp2 : IsProd (s.heap.update p (Obj.mapFields fun fs => fs.extract 0 3 ++ ([i', j'].map fun (n : Nat) => rawInt n).toArray)) p tp 1 last i' j' := Heap.get?_update_self _ hp rfl
  have sz : (s.heap.update p (Obj.mapFields fun fs => fs.extract 0 3 ++ ([i', j'].map fun (n : Nat) => rawInt n).toArray)).objs.size = s.heap.objs.size := (Heap.SameBut.update ..).1
  have k2 : ∀ b o, b ≠ p → s.heap.get? b = some o → (s.heap.update p (Obj.mapFields fun fs => fs.extract 0 3 ++ ([i', j'].map fun (n : Nat) => rawInt n).toArray)).get? b = some o := fun b o n e => ((Heap.SameBut.update ..).2 b n).trans e
  generalize s.heap.update p (Obj.mapFields fun fs => fs.extract 0 3 ++ ([i', j'].map fun (n : Nat) => rawInt n).toArray) = g2 at hp2 sz k2 ⊢
  refine wpAny_bind ?_
  refine keep_ok (s := { s with heap := g2 }) (x := x) (y := y) _ (show [xs.getD i' .none, ys.getD j' .none] = _ by rw [gd hx, gd hy]) hp2 fun h' a1 a2 a3 => ?_
  refine wpAny_pure ⟨_, rfl, wpAny_pure ?_⟩
  have a1 : IsProd h' p tp 1 (.ref g2.objs.size) i' j' := a1
  have a2 : IsTup h' g2.objs.size #[x, y] := a2
  have z := hQ h' (by rw [← sz]; exact a1) (by rw [← sz]; exact a2) fun b o n e => a3 b o n (k2 b o n e)
  rw [← sz] at z
  exact z
theorem prod_end {Q : Option Value → Shared → Prop} (hh : A.handled = none) (hp : IsProd s.heap p tp 1 last i j) (htp : IsTup s.heap tp #[.ref t1, .ref t2]) (h1 : IsTup s.heap t1 xs) (h2 : IsTup s.heap t2 ys) (hi : i + 1 = xs.size) (hj : j + 1 = ys.size)
    (hQ : ∀ h', Heap.ExtBut p s.heap h' → Q none { s with heap := h' }) :
    wpAny (model prog w) A (pyNext (.ref p)) Q E s := by
  have hT : s.TypeIs (.ref p) "itertools.product" := ⟨_, hp, rfl⟩
  unfold pyNext
  refine wpAny_bind (wpAny_attempt (wpAny_callSpecial?_slot (name := Str.ofString "__next__") hT slot_prod_next (wpAny_call_entry slot_prod_next hT entry_prod_next ?_ (args_prod_next _))))
  show wpAny _ _ (field (.ref p) 0 >>= _) _ _ s
  refine wpAny_bind (wpAny_field hp rfl (x := .ref tp) rfl ?_)
  show wpAny _ _ (itPoolItems (.ref tp) >>= _) _ _ s
  refine wpAny_bind ?_
  unfold itPoolItems
  refine wpAny_bind (wpAny_seqItems htp rfl (wpAny_pure ?_))
  simp only [List.mapM_cons, List.mapM_nil]
  refine wpAny_bind (wpAny_bind (wpAny_bind (wpAny_seqItems h1 rfl (wpAny_pure ?_))))
  refine wpAny_bind (wpAny_bind (wpAny_bind (wpAny_seqItems h2 rfl (wpAny_pure ?_))))
  refine wpAny_bind (wpAny_pure (wpAny_pure (wpAny_pure ?_)))
  refine wpAny_bind ?_
  unfold itNumbersFrom
  refine wpAny_bind (wpAny_load hp (wpAny_pure ?_))
  refine wpAny_bind ?_
  unfold itIntField
  refine wpAny_bind (wpAny_field hp rfl (x := .int 1 0) rfl (wpAny_pure ?_))
  show wpAny _ _ (match (if (j + 1 == ys.size) = true then (0 :: ·) <$> (if (i + 1 == xs.size) = true then (0 :: ·) <$> (none : Option (List Nat)) else some [i + 1]) else some [j + 1, i]) with
    | some next => _
    | none => _) _ _ s
  have eo : (if (j + 1 == ys.size) = true then (0 :: ·) <$> (if (i + 1 == xs.size) = true then (0 :: ·) <$> (none : Option (List Nat)) else some [i + 1]) else some [j + 1, i]) = none := by
    rw [if_pos (by simpa using hj), if_pos (by simpa using hi)]; rfl
  rw [eo]
  refine wpAny_bind (wpAny_setField hp rfl (by simp) ?_)
  have hp2 : IsProd (s.heap.update p (Obj.mapFields fun x => x.setIfInBounds 1 (rawInt 2))) p tp 2 last i j := Heap.get?_update_self _ hp rfl
  have e2 : Heap.ExtBut p s.heap (s.heap.update p (Obj.mapFields fun x => x.setIfInBounds 1 (rawInt 2))) := (Heap.SameBut.update ..).extBut
  generalize s.heap.update p (Obj.mapFields fun x => x.setIfInBounds 1 (rawInt 2)) = g2 at hp2 e2 ⊢
  obtain ⟨x, hx⟩ : ∃ x, xs[0]? = some x := ⟨_, Array.getElem?_eq_getElem (by omega)⟩
  obtain ⟨y, hy⟩ : ∃ y, ys[0]? = some y := ⟨_, Array.getElem?_eq_getElem (by omega)⟩
  refine wpAny_bind ?_
  refine keep_ok (s := { s with heap := g2 }) (x := x) (y := y) _ (show [xs.getD 0 .none, ys.getD 0 .none] = _ by rw [gd hx, gd hy]) hp2 fun h' a1 a2 a3 => ?_
  have e3 : Heap.ExtBut p s.heap h' := fun b o n e => a3 b o n (e2 b o n e)
  show wpAny _ _ (newExc (.type "StopIteration") [] >>= _) _ _ _
  refine wpAny_bind ?_
  simp only [newExc, newTuple]
  refine wpAny_bind (wpAny_newObj_type ?_ (by size_fits))
  refine wpAny_bind (m := firstArgMember _ _) (wpAny_of_eq (a := Value.none) (by first | rfl | (simp only [firstArgMember]; rfl)) ?_)
  refine wpAny_newObj_type ?_ (by size_fits)
  simp only [raiseNew]
  refine wpAny_bind (wpAny_handled ?_)
  first | rw [show A.in1.handled = none from hh] | rw [hh]
  refine wpAny_bind (wpAny_pure (wpAny_throw ?_))
  refine wpAny_bind (wpAny_isInstance (T := "StopIteration") (b := true) ⟨_, Heap.get?_push_size _ rfl, rfl⟩ isSubtype_stop ?_)
  exact wpAny_pure (hQ _ ((e3.push _).push _))
theorem iter_prod {Q : Value → Shared → Prop} (hp : IsProd s.heap p tp st last i j) (h : Q (.ref p) s) : wpAny (model prog w) A (pyIter (.ref p)) Q E s := by
  have hT : s.TypeIs (.ref p) "itertools.product" := ⟨_, hp, rfl⟩
  refine wpAny_pyIter_slot hT slot_prod_iter (wpAny_call_entry slot_prod_iter hT entry_prod_iter ?_ (args_prod_iter _))
  show wpAny _ _ (ret (.ref p)) _ _ s
  exact wpAny_pure ⟨_, rfl, "itertools.product", _, hT, slot_prod_next.lookup, h⟩
end
end PrI

set_option Elab.async false
set_option linter.all false
set_option maxRecDepth 100000
set_option maxHeartbeats 4000000
/-! for .. in product(a list, range(n)) -/
namespace PrI
open PySem PySem.Spec PyProof.Rows L2
/-- the pairs of a list's items with lo .. lo + n - 1 -/
def It (xs : List V) (lo : Int) (n : Nat) : L2.It :=
  ⟨fun i _ => i < xs.length * n, fun i H v H' => ∃ T x, v = .ref T ∧ H T = none ∧ H' = upd H T (.tup [x, .int (lo + ((i % n : Nat) : Int))]) ∧ xs[i / n]? = some x, fun i _ => i = xs.length * n⟩
/-- how the product stands at the turn i -/
def Stand (p tp t1 t2 : Addr) (xs ys : Array Value) (n i : Nat) (h : Heap) : Prop := ∃ (st : Int) (last : Value) (a b : Nat), IsProd h p tp st last a b ∧ IsTup h tp #[.ref t1, .ref t2] ∧ IsTup h t1 xs ∧ IsTup h t2 ys ∧
  ((i = 0 ∧ st = 0 ∧ a = 0 ∧ b = 0) ∨ (0 < i ∧ st = 1 ∧ a = (i - 1) / n ∧ b = (i - 1) % n))
theorem div_facts {n i L : Nat} (n0 : 0 < n) (hi : 0 < i) (hl : i < L * n) : ((i - 1) % n + 1 = n ∧ (i - 1) / n + 1 ≠ L ∧ i / n = (i - 1) / n + 1 ∧ i % n = 0) ∨ ((i - 1) % n + 1 ≠ n ∧ i / n = (i - 1) / n ∧ i % n = (i - 1) % n + 1) := by
  have e := Nat.div_add_mod (i - 1) n
  have r := Nat.mod_lt (i - 1) n0
  generalize hq : (i - 1) / n = q at e
  generalize hr : (i - 1) % n = m at e r
  by_cases z : m + 1 = n
  · left
    have ei : i = n * (q + 1) := by rw [Nat.mul_add, Nat.mul_one]; omega
    refine ⟨z, fun y => ?_, by rw [ei, Nat.mul_div_cancel_left _ n0], by rw [ei, Nat.mul_mod_right]⟩
    rw [← y, ei, Nat.mul_comm] at hl
    exact Nat.lt_irrefl _ hl
  · right
    have ei : i = n * q + (m + 1) := by omega
    refine ⟨z, ?_, ?_⟩
    · rw [ei, Nat.mul_add_div n0, Nat.div_eq_of_lt (by omega), Nat.add_zero]
    · rw [ei, Nat.mul_add_mod, Nat.mod_eq_of_lt (by omega)]
theorem turn {P : Program} {w : World} {K : PySem.W.Frag} {tg : Expr} {p tp t1 t2 : Addr} {xs : List V} {its : List Value} {lo : Int} {n : Nat} {acc : Array Value} (rv : Vals xs its) (ra : Vals (rgV lo (lo + n)) acc.toList) (x0 : 0 < xs.length) (n0 : 0 < n) (d1 : tp ≠ p) (d2 : t1 ≠ p) (d3 : t2 ≠ p) :
    Turn P w K tg (It xs lo n) [p, tp, t1, t2] p (Stand p tp t1 t2 its.toArray acc n) where
  mem := List.mem_cons_self
  obj := fun i h st b hb => by
    obtain ⟨s, l, a, c, h1, h2, h3, h4, _⟩ := st
    simp only [List.mem_cons, List.not_mem_nil, or_false] at hb
    rcases hb with rfl | rfl | rfl | rfl
    · exact ⟨_, h1, fun v q => nomatch q⟩
    · exact ⟨_, h2, fun v q => nomatch q⟩
    · exact ⟨_, h3, fun v q => nomatch q⟩
    · exact ⟨_, h4, fun v q => nomatch q⟩
  keep := fun i h h' st k => by
    obtain ⟨s, l, a, c, h1, h2, h3, h4, h5⟩ := st
    exact ⟨s, l, a, c, k _ (by simp) _ h1, k _ (by simp) _ h2, k _ (by simp) _ h3, k _ (by simp) _ h4, h5⟩
  item := by
    intro X hP hw hK hc i pins s σ H E I hf st hg
    subst hP hw hK
    obtain ⟨sv, last, a, c, h1, h2, h3, h4, h5⟩ := st
    have hg : i < xs.length * n := hg
    have li : its.length = xs.length := rv.length.symm
    have la : acc.size = n := by
      have := ra.length
      rw [rgV_length, Array.length_toList] at this
      omega
    have hd : i / n < xs.length := by rw [Nat.div_lt_iff_lt_mul n0]; exact hg
    have hm : i % n < n := Nat.mod_lt _ n0
    obtain ⟨x, hx⟩ : ∃ x, xs[i / n]? = some x := ⟨_, List.getElem?_eq_getElem hd⟩
    obtain ⟨u, hu, ru⟩ := rv.get hx
    have hu' : its.toArray[i / n]? = some u := by simpa using hu
    have hy0 : (rgV lo (lo + n))[i % n]? = some (.int (lo + ((i % n : Nat) : Int))) := by
      unfold rgV
      rw [List.getElem?_map, List.getElem?_range (by omega)]; rfl
    obtain ⟨y, hy, ry⟩ := ra.get hy0
    have hy' : acc[i % n]? = some y := by rw [← hy, Array.getElem?_toList]
    have lp : p < s.heap.objs.size := Heap.lt_size h1
    have fin : ∀ h', IsProd h' p tp 1 (.ref s.heap.objs.size) (i / n) (i % n) → IsTup h' s.heap.objs.size #[u, y] → (∀ b o, b ≠ p → s.heap.get? b = some o → h'.get? b = some o) →
        ∃ u', some (Value.ref s.heap.objs.size) = some u' ∧ wpAny (model X.prog X.w) X.A (letOwnedTupleGo tg (.ref p) u') (fun _ s2 => ∃ x H', Inv X pins σ H' s2 ∧ RelV x u' ∧ (It xs lo n).yld i H x H' ∧ Stand p tp t1 t2 its.toArray acc n (i + 1) s2.heap ∧ ∀ b ∈ [p, tp, t1, t2], H' b = none) E { s with heap := h' } := by
      intro h' a1 a2 a3
      have new : ObjOk X.prog X.w (upd H s.heap.objs.size (.tup [x, .int (lo + ((i % n : Nat) : Int))])) h' s.heap.objs.size (.tup [x, .int (lo + ((i % n : Nat) : Int))]) :=
        ⟨My.sz (by simp), [u, y], .cons ru (.cons ry .nil), ⟨_, a2, rfl, _, rfl⟩⟩
      have J : Inv X pins σ (upd H s.heap.objs.size (.tup [x, .int (lo + ((i % n : Nat) : Int))])) { s with heap := h' } :=
        I.turnedNew (t' := s.toks) (ch := [p]) (fun b ob hb q => a3 b ob (fun z => hb (by simp [z])) q) (fun b hb => hf b (by rw [List.mem_singleton.mp hb]; simp)) (Nat.le_refl _) new
      refine ⟨_, rfl, go_of (s := { s with heap := h' }) (n := "itertools.product") a1 rfl rfl (by decide) ⟨.ref s.heap.objs.size, _, J, rfl, ⟨_, x, rfl, I.hok.fresh (Nat.le_refl _), rfl, hx⟩, ⟨1, _, i / n, i % n, a1, a3 _ _ d1 h2, a3 _ _ d2 h3, a3 _ _ d3 h4, .inr ⟨Nat.succ_pos _, rfl, rfl, rfl⟩⟩, fun b hb => ?_⟩⟩
      have lb : b < s.heap.objs.size := by
        simp only [List.mem_cons, List.not_mem_nil, or_false] at hb
        rcases hb with rfl | rfl | rfl | rfl
        · exact lp
        · exact Heap.lt_size h2
        · exact Heap.lt_size h3
        · exact Heap.lt_size h4
      rw [upd_ne (Nat.ne_of_lt lb)]
      exact (hf b hb).1
    rcases h5 with ⟨rfl, rfl, rfl, rfl⟩ | ⟨ip, rfl, rfl, rfl⟩
    · rw [Nat.zero_div] at hu' fin
      rw [Nat.zero_mod] at hy' fin
      exact prod_first h1 h2 h3 h4 hu' hy' fin
    · have df := div_facts n0 ip hg
      refine prod_next h1 h2 h3 h4 hu' hy' ?_ fin
      rw [la, List.size_toArray, li]
      exact df
  done := by
    intro X hP hw hK hc i pins s σ H E I hf st hg
    subst hP hw hK
    obtain ⟨sv, last, a, c, h1, h2, h3, h4, h5⟩ := st
    obtain ⟨f0, f1, f2, f3, f4, f5⟩ := hf p (by simp)
    have hg : i = xs.length * n := hg
    have li : its.length = xs.length := rv.length.symm
    have la : acc.size = n := by
      have := ra.length
      rw [rgV_length, Array.length_toList] at this
      omega
    have ip : 0 < xs.length * n := Nat.mul_pos x0 n0
    rcases h5 with ⟨rfl, _, _, _⟩ | ⟨_, rfl, rfl, rfl⟩
    · omega
    · obtain ⟨L, hL⟩ : ∃ L, xs.length = L + 1 := ⟨xs.length - 1, by omega⟩
      have e1 : i - 1 = n * L + (n - 1) := by rw [hg, hL, Nat.add_mul, Nat.one_mul, Nat.mul_comm L n]; omega
      have q1 : (i - 1) / n = L := by rw [e1, Nat.mul_add_div n0, Nat.div_eq_of_lt (by omega), Nat.add_zero]
      have q2 : (i - 1) % n = n - 1 := by rw [e1, Nat.mul_add_mod, Nat.mod_eq_of_lt (by omega)]
      refine prod_end (I.ok.hd hc) h1 h2 h3 h4 ?_ ?_ fun h' eb => ⟨rfl, I.turned (t' := s.toks) (fun b o hb q => eb b o hb q) f0 f1 f3 f4 f5⟩
      · rw [q1, List.size_toArray, li, hL]
      · rw [q2, la]; omega
  self := fun A i s Q E st h => by
    obtain ⟨sv, last, a, c, h1, _⟩ := st
    exact iter_prod h1 h
def iPr (K : PySem.W.Frag) (tl : TE) (tr : L2.St → Hp → (Int → Int → Hp → Prop) → Prop) : TI := fun σ H R => tl σ H fun v H1 => tr σ H1 fun a b H2 => ∃ (l : Addr) (xs : List V) (n : Nat), v = .ref l ∧ SqL K H2 l xs ∧ 0 < xs.length ∧ b = a + n ∧ 0 < n ∧ RgOk a b ∧ R (It xs a n) H2
theorem pi_prod {X : Cx} {tg e1 e2 : Expr} {tl : TE} {tr : L2.St → Hp → (Int → Int → Hp → Prop) → Prop} {x : Str} {p pos : Pos} (hc : X.calm = true) (hg : Gl X x) (hm : X.mg x = some (.type "itertools.product")) (hl : PE X e1 tl) (hr : PRg X e2 tr)
    (hdb : (x == ("__debug__" : Str)) = false := by decide) (h1 : starEach [e1, e2] X.env = (false, eval e1 X.env) :: starEach [e2] X.env := by rfl) (h2 : starEach [e2] X.env = (false, eval e2 X.env) :: starEach [] X.env := by rfl) (hp : (backTo pos (starEach [e2] X.env)).any (·.1) = false := by rfl) :
    PI X tg (.Call (.Name x p) [e1, e2] [] pos) (iPr X.K tl tr) := by
  refine ⟨fun pins s σ H R I h => ?_⟩
  refine wpAny_Call_Name_kw (ld_glob I hg hm ?_ hdb)
  refine PyProof.Rows.callWith_type1 (args_cons (thn (hl.run pins s σ H _ I h) fun v s1 ⟨y, H1, I1, r1, q1⟩ => args_cons (thn (hr pins s1 σ H1 _ I1 q1) fun rv s2 ⟨r, a, b, t, u, w, H2, er, ir, I2, q2⟩ => args_nil ?_) h2) h1) h1 hp
  subst er
  obtain ⟨l, xs, n, rfl, hq, x0, rfl, n0, ok, q⟩ := q2
  cases r1
  obtain ⟨b1, b2, b3, b4, b5⟩ := ok
  obtain ⟨its, vs, pl, hz⟩ := I2.list hq
  have en : (a + (n : Int) - a).toNat = n := by omega
  rw [en] at b5
  have hsz : its.toArray.size ≤ sizeLine := by rw [List.size_toArray, ← vs.length]; exact hz
  refine callType_new called_prod (by decide +kernel) (typeCall_prod_2 _ _) (newCall_prod_2 _ _) (fun obj => F.args_object_init_3 obj _ _) entry_prod_new (meets_prod_new l r (items := its.toArray) (n := n)) ⟨I2.ok.hd hc, pl.isList, hsz, ir, small_one b1 b2 b3 b4, by rw [rangeSize_nat, en], b5, by rw [sizeLine_eq]; omega, fun h1 h2 tk acc k1 k2 ha => ?_⟩
  have J1 : Inv X pins σ H2 { s2 with heap := h1 } := I2.kept (t' := s2.toks) k1
  have J1' : Inv X pins σ H2 { s2 with heap := h1.push { cls := .type "tuple", data := .seq its.toArray } } := J1.kept (t' := s2.toks) fun b o e => Heap.get?_push_of_some _ e
  have J2 : Inv X pins σ H2 { s2 with heap := h2 } := J1'.kept (t' := s2.toks) k2
  have et1 : h2.get? h1.objs.size = some { cls := .type "tuple", data := .seq its.toArray } := k2 _ _ (Heap.get?_push_size _ rfl)
  have l1 : h1.objs.size < h2.objs.size := Heap.lt_size et1
  generalize ehA : h2.push { cls := .type "tuple", data := .seq acc } = hA
  have sA : hA.objs.size = h2.objs.size + 1 := by rw [← ehA, Heap.size_push]
  have kA : ∀ b o, h2.get? b = some o → hA.get? b = some o := fun b o e => by rw [← ehA]; exact Heap.get?_push_of_some _ e
  have et2 : hA.get? h2.objs.size = some { cls := .type "tuple", data := .seq acc } := by rw [← ehA]; exact Heap.get?_push_size _ rfl
  generalize ehB : hA.push { cls := .type "tuple", data := .seq #[.ref h1.objs.size, .ref h2.objs.size] } = hB
  have sB : hB.objs.size = h2.objs.size + 2 := by rw [← ehB, Heap.size_push, sA]
  have kB : ∀ b o, hA.get? b = some o → hB.get? b = some o := fun b o e => by rw [← ehB]; exact Heap.get?_push_of_some _ e
  have et3 : hB.get? (h2.objs.size + 1) = some { cls := .type "tuple", data := .seq #[.ref h1.objs.size, .ref h2.objs.size] } := by rw [← ehB, ← sA]; exact Heap.get?_push_size _ rfl
  generalize ehC : hB.push { cls := .type "itertools.product", data := .fields #[.ref (h2.objs.size + 1), .int 0 0, .none, .int 0 0, .int 0 0] } = hC
  have kC : ∀ b o, hB.get? b = some o → hC.get? b = some o := fun b o e => by rw [← ehC]; exact Heap.get?_push_of_some _ e
  have ep : IsProd hC (h2.objs.size + 2) (h2.objs.size + 1) 0 .none 0 0 := by
    show hC.get? (h2.objs.size + 2) = _
    rw [← ehC, ← sB]; exact Heap.get?_push_size _ rfl
  have J3 : Inv X pins σ H2 { s2 with heap := hC, toks := tk } := J2.kept (t' := tk) fun b o e => kC _ _ (kB _ _ (kA _ _ e))
  have ra : Vals (rgV a (a + n)) acc.toList := vals_rg (by rw [en]; exact ha)
  have d1 : h2.objs.size + 1 ≠ h2.objs.size + 2 := by omega
  have d2 : h1.objs.size ≠ h2.objs.size + 2 := by omega
  have d3 : h2.objs.size ≠ h2.objs.size + 2 := by omega
  show _ ∧ _
  refine ⟨⟨_, ep, rfl⟩, iter_prod ep ⟨h2.objs.size + 2, [h2.objs.size + 2, h2.objs.size + 1, h1.objs.size, h2.objs.size], _, _, H2, rfl, J3, turn vs ra x0 n0 d1 d2 d3, ⟨0, .none, 0, 0, ep, kC _ _ et3, kC _ _ (kB _ _ (kA _ _ et1)), kC _ _ (kB _ _ et2), .inl ⟨rfl, rfl, rfl, rfl⟩⟩, fun b hb => ?_, q⟩⟩
  have f1 : FpOk X pins H2 h1.objs.size := J1.fpOk (Nat.le_refl _) (J1.hok.fresh (Nat.le_refl _))
  have f2 : ∀ c, h2.objs.size ≤ c → FpOk X pins H2 c := fun c hc => J2.fpOk hc (J2.hok.fresh hc)
  simp only [List.mem_cons, List.not_mem_nil, or_false] at hb
  rcases hb with rfl | rfl | rfl | rfl
  · exact f2 _ (by omega)
  · exact f2 _ (by omega)
  · exact f1
  · exact f2 _ (Nat.le_refl _)
/-- each turn a new pair -/
theorem walk_pr {xs : List V} {lo : Int} {n : Nat} : Walk (It xs lo n) (xs.length * n) (fun _ => True) (fun i H v H' => ∃ T x, v = .ref T ∧ H T = none ∧ H' = upd H T (.tup [x, .int (lo + ((i % n : Nat) : Int))]) ∧ xs[i / n]? = some x) :=
  ⟨fun _ _ h _ => h, fun _ _ => rfl, fun _ _ _ _ _ _ y => y⟩
end PrI

set_option Elab.async false
set_option linter.all false
set_option maxRecDepth 100000
set_option maxHeartbeats 4000000
/-! for .. in zip(a list, a tuple) -/
namespace ZLT
open PySem PySem.Spec PyProof.Rows L2
/-- the list at a and the tuple at b, the items in new pairs -/
def It (K : PySem.W.Frag) (a b : Addr) : L2.It :=
  ⟨fun i H => ∃ (xs ys : List V) (x y : V), SqL K H a xs ∧ SqT K H b ys ∧ xs[i]? = some x ∧ ys[i]? = some y,
    fun i H v H' => ∃ T x y, v = .ref T ∧ H T = none ∧ H' = upd H T (.tup [x, y]) ∧ (∀ xs, SqL K H a xs → xs[i]? = some x) ∧ ∀ ys, SqT K H b ys → ys[i]? = some y,
    fun i H => ∃ xs ys : List V, SqL K H a xs ∧ SqT K H b ys ∧ i ≤ xs.length ∧ i ≤ ys.length ∧ (xs.length = i ∨ ys.length = i)⟩
theorem sep {z TI TO i1 i2 a b : Addr} (D : ZipApart z TI TO i1 i2 a b) : ZipSep2 z TI TO i1 i2 [i1, a] [i2, b] := by
  refine ⟨D.TIz, D.TOz, D.TITO, D.TIi1, by simp, ?_, ?_, D.TIi2, by simp, ?_, ?_, ?_, ?_⟩
  · simp only [List.mem_cons, List.not_mem_nil, or_false, not_or]; exact ⟨D.i1z.symm, D.l1z.symm⟩
  · simp only [List.mem_cons, List.not_mem_nil, or_false, not_or]; exact ⟨D.TOi1, D.l1TO.symm⟩
  · simp only [List.mem_cons, List.not_mem_nil, or_false, not_or]; exact ⟨D.i2z.symm, D.l2z.symm⟩
  · simp only [List.mem_cons, List.not_mem_nil, or_false, not_or]; exact ⟨D.TOi2, D.l2TO.symm⟩
  · simp only [List.mem_cons, List.not_mem_nil, or_false, not_or]; exact ⟨D.i12, D.l2i1.symm⟩
  · simp only [List.mem_cons, List.not_mem_nil, or_false, not_or]; exact ⟨D.i12.symm, D.l1i2.symm⟩
theorem turn {P : Program} {w : World} {K : PySem.W.Frag} {elts : List Expr} {kk : Nat} {tpos : Pos} {a b z TI TO i1 i2 : Addr} (D : ZipApart z TI TO i1 i2 a b) :
    Turn P w K (.Tuple elts kk tpos) (It K a b) [z, TI, TO, i1, i2] z (fun i h => IsZip h z TI TO .none ∧ IsTupOf2 h TI (.ref i1) (.ref i2) ∧ (∃ x y, IsTupOf2 h TO x y) ∧ h.IsListIter i1 a i ∧ h.IsTupleIter i2 b i) where
  mem := by simp
  obj := fun i h st c hc => by
    obtain ⟨hz, hTI, ⟨x, y, hTO⟩, ⟨o1, e1, _, d1⟩, ⟨o2, e2, _, d2⟩⟩ := st
    simp only [List.mem_cons, List.not_mem_nil, or_false] at hc
    rcases hc with rfl | rfl | rfl | rfl | rfl
    · exact ⟨_, hz, fun v q => nomatch q⟩
    · exact ⟨_, hTI, fun v q => nomatch q⟩
    · exact ⟨_, hTO, fun v q => nomatch q⟩
    · exact ⟨o1, e1, fun v q => by rw [d1] at q; cases q⟩
    · exact ⟨o2, e2, fun v q => by rw [d2] at q; cases q⟩
  keep := fun i h h' st k => by
    obtain ⟨hz, hTI, ⟨x, y, hTO⟩, h1, h2⟩ := st
    exact ⟨k z (by simp) _ hz, k TI (by simp) _ hTI, ⟨x, y, k TO (by simp) _ hTO⟩, h1.at fun o q => k i1 (by simp) o q, h2.at fun o q => k i2 (by simp) o q⟩
  item := by
    intro X hP hw hK hc i pins s σ H E I hf st hg
    subst hP hw hK
    obtain ⟨hz, hTI, ⟨x0, y0, hTO⟩, h1, h2⟩ := st
    obtain ⟨xs, ys, x, y, hqx, hqy, hx, hy⟩ := hg
    obtain ⟨its, rv, p, _⟩ := I.list hqx
    obtain ⟨its2, rv2, p2, _⟩ := I.tuple hqy
    obtain ⟨u, hu, ru⟩ := rv.get hx
    obtain ⟨u2, hu2, ru2⟩ := rv2.get hy
    have hzl : z < s.heap.objs.size := Heap.lt_size hz
    have b1 : i < its.toArray.size := by have := (List.getElem?_eq_some_iff.mp hu).1; simpa using this
    have b2 : i < its2.toArray.size := by have := (List.getElem?_eq_some_iff.mp hu2).1; simpa using this
    refine wpAny_pyNext_zipD2_item (sep D) (Draws.list (A := X.A.in1) (show X.A.in1.handled = none from I.ok.hd hc) i1 a D.l1i1 its.toArray) (Draws.tuple (A := X.A.in1) (show X.A.in1.handled = none from I.ok.hd hc) i2 b D.l2i2 its2.toArray) hz hTI hTO ⟨h1, p.isList⟩ ⟨h2, p2⟩ b1 b2 fun v1 v2 h' tk q1 q2 z' TO' s1 s2 hT hsz hk => ?_
    have ev1 : v1 = u := by
      have e : its.toArray[i]? = some u := by simpa using hu
      have q1 : its.toArray[i]? = some v1 := q1
      rw [e] at q1
      exact (Option.some.inj q1).symm
    have ev2 : v2 = u2 := by
      have e : its2.toArray[i]? = some u2 := by simpa using hu2
      have q2 : its2.toArray[i]? = some v2 := q2
      rw [e] at q2
      exact (Option.some.inj q2).symm
    subst ev1 ev2
    refine ⟨_, rfl, wpAny_letOwnedTupleGo_zip (s := { s with heap := h', toks := tk }) z' fun h'' z'' sb => ?_⟩
    have hT2 : h''.get? s.heap.objs.size = some { cls := .type "tuple", data := .seq #[v1, v2] } := (sb.2 _ (Nat.ne_of_gt hzl)).trans hT
    have new : ObjOk X.prog X.w (upd H s.heap.objs.size (.tup [x, y])) h'' s.heap.objs.size (.tup [x, y]) :=
      ⟨My.sz (by simp), [v1, v2], .cons ru (.cons ru2 .nil), ⟨_, hT2, rfl, _, rfl⟩⟩
    have J : Inv X pins σ (upd H s.heap.objs.size (.tup [x, y])) { s with heap := h'', toks := tk } :=
      I.turnedNew (t' := tk) (ch := [z, TI, TO, i1, i2]) (fun c o hb q => (sb.2 c (fun q' => hb (by simp [q']))).trans (hk c o (fun q' => hb (by simp [q'])) (fun q' => hb (by simp [q'])) (fun q' => hb (by simp [q'])) (fun q' => hb (by simp [q'])) q)) hf (Nat.le_refl _) new
    refine ⟨.ref s.heap.objs.size, _, J, rfl, ⟨_, x, y, rfl, I.hok.fresh (Nat.le_refl _), rfl, fun l hl => by rw [I.list_inj hl hqx]; exact hx, fun l hl => by rw [I.tuple_inj hl hqy]; exact hy⟩, ⟨z'', (sb.2 _ D.TIz).trans (hk _ _ D.TIz D.TITO D.TIi1 D.TIi2 hTI), ⟨v1, v2, (sb.2 _ D.TOz).trans TO'⟩, s1.1.at fun o q => (sb.2 _ D.i1z).trans q, s2.1.at fun o q => (sb.2 _ D.i2z).trans q⟩, fun c hcm => ?_⟩
    have hlt : c < s.heap.objs.size := by
      simp only [List.mem_cons, List.not_mem_nil, or_false] at hcm
      rcases hcm with rfl | rfl | rfl | rfl | rfl
      · exact hzl
      · exact Heap.lt_size hTI
      · exact Heap.lt_size hTO
      · obtain ⟨_, e1, _⟩ := h1; exact Heap.lt_size e1
      · obtain ⟨_, e2, _⟩ := h2; exact Heap.lt_size e2
    rw [upd_ne (Nat.ne_of_lt hlt)]
    exact (hf c hcm).1
  done := by
    intro X hP hw hK hc i pins s σ H E I hf st hg
    subst hP hw hK
    obtain ⟨hz, hTI, ⟨x0, y0, hTO⟩, h1, h2⟩ := st
    obtain ⟨xs, ys, hqx, hqy, le1, le2, hend⟩ := hg
    obtain ⟨its, rv, p, _⟩ := I.list hqx
    obtain ⟨its2, rv2, p2, _⟩ := I.tuple hqy
    have l1 := rv.length
    have l2 := rv2.length
    refine wpAny_pyNext_zipD2_end (sep D) (Draws.list (A := X.A.in1) (show X.A.in1.handled = none from I.ok.hd hc) i1 a D.l1i1 its.toArray) (Draws.tuple (A := X.A.in1) (show X.A.in1.handled = none from I.ok.hd hc) i2 b D.l2i2 its2.toArray) hz hTI hTO ⟨h1, p.isList⟩ ⟨h2, p2⟩ (by rw [List.size_toArray]; omega) (by rw [List.size_toArray]; omega) (by rw [List.size_toArray, List.size_toArray]; omega) fun h' tk hk => ⟨rfl, I.turnedL (t' := tk) (ch := [z, TI, TO, i1, i2]) (fun c o hb q =>
      hk c o (fun q' => hb (by simp [q'])) (fun q' => hb (by simp [q'])) (fun q' => hb (by simp [q'])) (fun q' => hb (by simp [q'])) q) hf⟩
  self := fun A i s Q E st h => wpAny_pyIter_zip st.1 h
def iZ (K : PySem.W.Frag) (ta : TA) : TI := fun σ H R => ta σ H fun vs H1 => ∃ a b xs ys, vs = [.ref a, .ref b] ∧ SqL K H1 a xs ∧ SqT K H1 b ys ∧ R (It K a b) H1
theorem pi_zipLT {X : Cx} {e e2 : Expr} {ta : TA} {p pos tpos : Pos} {elts : List Expr} {kk : Nat} (hg : Gl X "zip") (hm : X.mg "zip" = none) (ha : PA X [e, e2] ta)
    (hs : starEach [e, e2] X.env = (false, eval e X.env) :: starEach [e2] X.env := by rfl) (hpl : (backTo pos (starEach [e2] X.env)).any (·.1) = false := by rfl) :
    PI X (.Tuple elts kk tpos) (.Call (.Name "zip" p) [e, e2] [] pos) (iZ X.K ta) := by
  refine ⟨fun pins s σ H R I h => ?_⟩
  refine Call_ (ld_blt I hg hm PyProof.Rows.boot_zip (PyProof.Rows.callWith_type1 (thn (ha.run pos pins s σ H _ I h) fun us s1 ⟨vs, H1, I1, r1, q1⟩ => ?_) hs hpl))
  obtain ⟨a, b, xs, ys, rfl, hqx, hqy, q⟩ := q1
  obtain ⟨u1, u2, rfl, r, r'⟩ : ∃ u1 u2, us = [u1, u2] ∧ RelV (.ref a) u1 ∧ RelV (.ref b) u2 := by
    cases r1 with
    | cons r rr => cases rr with
      | cons r' rr => cases rr; exact ⟨_, _, rfl, r, r'⟩
  cases r
  cases r'
  obtain ⟨its, rv, p1, _⟩ := I1.list hqx
  obtain ⟨its2, rv2, p2, _⟩ := I1.tuple hqy
  obtain ⟨o2, ho2, _⟩ := id p2
  refine zip_begins2 (begins_list a its.toArray) (begins_tuple b its2.toArray) p1.isList p2 fun h' hz hTI hTO g1 g2 hsz hk => wpAny_pyIter_zip hz ?_
  have J : Inv X pins σ H1 { s1 with heap := h' } := I1.kept (t' := s1.toks) hk
  refine ⟨s1.heap.objs.size + 4, [s1.heap.objs.size + 4, s1.heap.objs.size + 2, s1.heap.objs.size + 3, s1.heap.objs.size, s1.heap.objs.size + 1], _, _, H1, rfl, J, turn (PySem.W.ktu_apart s1.heap.objs.size a b p1.lt (Heap.lt_size ho2)), ⟨hz, hTI, ⟨_, _, hTO⟩, ⟨_, g1, rfl, rfl⟩, ⟨_, g2, rfl, rfl⟩⟩, fun c hcm => ?_, q⟩
  have hle : s1.heap.objs.size ≤ c := by
    simp only [List.mem_cons, List.not_mem_nil, or_false] at hcm
    rcases hcm with rfl | rfl | rfl | rfl | rfl
    · exact Nat.le_add_right _ _
    · exact Nat.le_add_right _ _
    · exact Nat.le_add_right _ _
    · exact Nat.le_refl _
    · exact Nat.le_add_right _ _
  exact I1.fpOk hle (I1.hok.fresh hle)
theorem walk_z {K : PySem.W.Frag} {a b : Addr} {xs ys : List V} (hl : xs.length = ys.length) : Walk (It K a b) xs.length (fun H => SqL K H a xs ∧ SqT K H b ys) (YPair (fun i => xs[i]?) (fun i => ys[i]?)) := by
  refine ⟨fun i H hi q => ⟨xs, ys, xs[i], ys[i]'(by omega), q.1, q.2, by simp [hi], by simp⟩, fun H q => ⟨xs, ys, q.1, q.2, Nat.le_refl _, by omega, .inl rfl⟩, fun i H v H' _ q y => ?_⟩
  obtain ⟨T, x, y, h1, h2, h3, h4, h5⟩ := y
  exact ⟨T, x, y, h1, h2, h3, h4 xs q.1, h5 ys q.2⟩
def FZ (K : PySem.W.Frag) (vs : List V) (g : TG) (tb : TS) (D : Ends) (σ : L2.St) (H1 : Hp) : Prop := ∃ a b xs ys, vs = [.ref a, .ref b] ∧ SqL K H1 a xs ∧ SqT K H1 b ys ∧ ∃ W : Nat → Nat → L2.St → Hp → Prop, (∃ m, W 0 m σ H1) ∧ ∀ i m σ H, W i m σ H →
  ((It K a b).stop i H ∧ D.nx σ H) ∨ ((It K a b).go i H ∧ ∃ N : L2.St → Hp → Prop, (∀ σ' H', N σ' H' → ∃ m', m' < m ∧ W (i + 1) m' σ' H') ∧ ∀ x H', (It K a b).yld i H x H' → g x σ H' fun σ2 H2 => tb { D with nx := N, ct := N, bk := D.nx } σ2 H2)
theorem forZ1 {K : PySem.W.Frag} {tl : TA} {g : TG} {tb : TS} {D : Ends} {σ : L2.St} {H : Hp} (h : tl σ H fun vs H1 => FZ K vs g tb D σ H1) : tFor (iZ K tl) g tb D σ H := h
theorem forZ {K : PySem.W.Frag} {g : TG} {tb : TS} {D : Ends} {σ : L2.St} {H : Hp} {a b : Addr} {xs ys : List V} (ha : SqL K H a xs) (hb : SqT K H b ys) (hl : xs.length = ys.length) (Pv : Nat → L2.St → Hp → Prop) (h0 : Pv 0 σ H) (hG : ∀ i σ H, i ≤ xs.length → Pv i σ H → SqL K H a xs ∧ SqT K H b ys)
    (hs : ∀ i x y T σ H, xs[i]? = some x → ys[i]? = some y → Pv i σ H → H T = none → g (.ref T) σ (upd H T (.tup [x, y])) fun σ2 H2 => tb { D with nx := Pv (i + 1), ct := Pv (i + 1), bk := D.nx } σ2 H2) (hd : ∀ σ H, Pv xs.length σ H → D.nx σ H) : FZ K [.ref a, .ref b] g tb D σ H :=
  ⟨a, b, xs, ys, rfl, ha, hb, for_it (walk_z hl) Pv h0 hG (fun i v σ H H' hi p y => by
    obtain ⟨T, x, y', rfl, hT, rfl, ex, ey⟩ := y
    exact hs i x y' T σ H ex ey p hT) hd⟩
end ZLT

set_option Elab.async false
set_option linter.all false
set_option maxRecDepth 100000
set_option maxHeartbeats 4000000
/-! d != e, dicts of tuples under tuples that are equal; d.clear() -/
namespace DX
open PySem PySem.Spec PyProof.Rows L2
section
variable {P : Program} {w : World} {κ : Type} [DecidableEq κ] {knd : HeapKind P w κ} {A : Around} {E : Value → Shared → Prop} {s : Shared}
theorem rc_dTne {a b : Addr} {xs ys : List (κ × Addr × Value)} {e : κ × Addr × Value → Bool} (ha : (a == sysModules) = false) (hb : (b == sysModules) = false) (hr : knd.room A.in1) (hu : A.units < cLine)
    (da : s.heap.DictOfH knd a xs) (db : s.heap.DictOfH knd b ys) (he : ∀ x ∈ xs, (atKey ys x.1 = none ∧ e x = false) ∨ ∃ p, atKey ys x.1 = some p ∧ SeqAt.EqP P w A.in1 s x.2.2 p.2 (e x))
    (E Q : Value → Shared → Prop) (h : Q (.bool (!(xs.length == ys.length && xs.all e))) s) : wpAny (model P w) A (richCompare .NotEq (.ref a) (.ref b)) Q E s := by
  refine wpAny_richCompare_same_room (op := .NotEq) da.typeIs db.typeIs F.slot_dict_ne (wpAny_call_entry F.slot_dict_ne da.typeIs F.entry_dict_ne ?_ (F.args_dict_ne_2 _ _)) hu
  show wpAny _ _ (Builtin.Dict.dictSlotArgs "__ne__" ⟨[.ref a, .ref b], []⟩ >>= _) _ _ s
  refine wpAny_bind ?_
  unfold Builtin.Dict.dictSlotArgs
  refine wpAny_bind (wpAny_notOrdered_dict da.typeIs (wpAny_pure (wpAny_bind (wpAny_isInstance (T := "dict") db.typeIs F.sub_dict_dict ?_))))
  simp only [Bool.not_true, Bool.false_eq_true, if_false]
  refine wpAny_bind (wpAny_pure (wpAny_bind (wpAny_pure (wpAny_bind (same_run ha hb hr da db he (wpAny_pure ⟨_, rfl, (fun x => nomatch x), ?_⟩))))))
  simpa using h
end
section
variable {X : Cx} {pins : List (Addr × Obj)} {σ : L2.St} {H : Hp} {s : Shared} {A : Around}
/-- two tuples of the same flat items -/
theorem eqP_tups (I : Inv X pins σ H s) {q1 q2 : Addr} {xs : List V} (h1 : SqT X.K H q1 xs) (h2 : SqT X.K H q2 xs) (fx : ∀ x ∈ xs, flatV x = true) (hr : ∀ x ∈ xs, eqV x x = true) (hu : A.units + 1 < cLine) : SeqAt.EqP X.prog X.w A s (.ref q1) (.ref q2) true := by
  by_cases z : q1 = q2
  · subst z
    exact (SeqAt.EqAt.same (A := A) (s := s) (.ref q1)).eqP
  · refine SeqAt.eqP_refs z fun E Q hq => ?_
    obtain ⟨us, r1, o1, _⟩ := I.tuple h1
    obtain ⟨ws, r2, o2, _⟩ := I.tuple h2
    have z1 : us.toArray.size = xs.length := by rw [List.size_toArray, ← r1.length]
    have z2 : ws.toArray.size = xs.length := by rw [List.size_toArray, ← r2.length]
    refine rc_tups (e := fun _ => true) (by omega) (fun t => t = s) o1 o2 (fun i k1 k2 t J => ?_) (fun t J => ?_) rfl
    · subst J
      have k : i < xs.length := by omega
      have hm : xs[i] ∈ xs := List.getElem_mem k
      obtain ⟨p, hp, rp⟩ := r1.get (List.getElem?_eq_getElem k)
      obtain ⟨q, hq, rq⟩ := r2.get (List.getElem?_eq_getElem k)
      have e1 : us.toArray[i] = p := by
        have : us[i]? = some us.toArray[i] := by simp at k1; simp [k1]
        rw [hp] at this
        exact (Option.some.inj this).symm
      have e2 : ws.toArray[i] = q := by
        have : ws[i]? = some ws.toArray[i] := by simp at k2; simp [k2]
        rw [hq] at this
        exact (Option.some.inj this).symm
      rw [e1, e2]
      have ea := eqAt_V (A := A.in1) (s := t) rp rq (fx _ hm) (fx _ hm)
      rw [hr _ hm] at ea
      exact ea.eqP (prog := X.prog) (w := X.w) E _ ⟨rfl, rfl⟩
    · subst J
      have e : ((List.range (min us.toArray.size ws.toArray.size)).all (fun _ => true) && us.toArray.size == ws.toArray.size) = true := by
        rw [z1, z2]; simp
      rw [e]
      exact hq
/-- a != b, both hold equal tuples of flat items under the same keys -/
def rNeTT (K : PySem.W.Frag) : R2 := fun x y H Q => ∃ a c ks ls, x = .ref a ∧ y = .ref c ∧ Rd H a (.dT ks) ∧ Rd H c (.dT ls) ∧ ks.length = ls.length ∧ (∀ p ∈ ks, ∃ (q1 q2 : Addr) (xs : List V), p.2 = .ref q1 ∧ valV ls p.1 = some (.ref q2) ∧ SqT K H q1 xs ∧ SqT K H q2 xs ∧ (∀ x ∈ xs, flatV x = true) ∧ ∀ x ∈ xs, eqV x x = true) ∧ Q (.bl false) H
theorem op_neTT (hu : X.A.units + 64 < cLine) : OpR X (compareOp .NotEq) (rNeTT X.K) := by
  intro pins s σ H x y v u Q I rx ry h
  obtain ⟨a, c, ks, ls, rfl, rfl, ha, hc, hl, hv, q⟩ := h
  cases rx
  cases ry
  obtain ⟨z1, lo1, xs, r1, d1⟩ := dt_rd I.hok ha
  obtain ⟨z2, lo2, ys, r2, d2⟩ := dt_rd I.hok hc
  have un : X.A.in1.units + 1 < cLine := by
    have : X.A.in1.units ≤ X.A.units + 1 := by show _ ≤ _; first | exact Nat.le_refl _ | exact Nat.le_succ _ | decide
    omega
  refine rc_dTne (knd := tupleKind (mixKind X.prog X.w)) (e := fun _ => true) lo1 lo2 (show X.A.units + 1 < cLine by omega) (by omega) d1 d2 (fun x hx => ?_) _ _ ?_
  · obtain ⟨p, hp, hp1, hp2⟩ := kt_mem r1 x hx
    obtain ⟨q1, q2, ws, e1, e2, t1, t2, f, g⟩ := hv p hp
    have rv := valT r2 x.1
    rw [← hp1, e2] at rv
    obtain ⟨w', hw, rw'⟩ := RelO.some_of rv
    obtain ⟨q', hq', rfl⟩ := Option.map_eq_some_iff.mp hw
    refine .inr ⟨q', by rw [← hp1]; exact hq', ?_⟩
    rw [e1] at hp2
    have h1 : x.2.2 = .ref q1 := hp2
    have h2 : q'.2 = .ref q2 := rw'
    rw [h1, h2]
    exact eqP_tups I t1 t2 f g un
  · have a1 : xs.length = ks.length := (Paired.length r1).symm
    have a2 : ys.length = ls.length := (Paired.length r2).symm
    have e : (!(xs.length == ys.length && xs.all fun _ => true)) = false := by
      rw [a1, a2, hl]; simp
    rw [e]
    exact ⟨.bl false, H, I, rfl, q⟩
theorem dt_clear {a : Addr} {kvs : List (List L2.Key × V)} {E : Value → Shared → Prop} {Q : Value → Shared → Prop} (I : Inv X pins σ H s) (e : H a = some (.dT kvs)) (h : ∀ s', Inv X pins σ (upd H a (.dT [])) s' → Q .none s') : wpAny (model X.prog X.w) A (call (.builtin "dict.clear") [.ref a]) Q E s := by
  obtain ⟨z, y, xs, r, o, es, ep, h1, h2, h3, h4, h5⟩ := (show ObjOk X.prog X.w H s.heap a (.dT kvs) from I.hok a _ e)
  have sz : es.size = xs.length := size_of_entries h4
  have dr : s.heap.DictRaw a es ep := ⟨o, h1, h2, h3⟩
  refine call_meetsIn PySem.F.slot_dict_clear dr.typeIs PySem.F.entry_dict_clear (PySem.F.args_dict_clear_1 _) (PySem.meets_dict_clear_raw a) ⟨es, ep, dr, by rw [sz, ← Paired.length r]; exact z, fun h' dd' hs => h _ ?_⟩
  obtain ⟨o', g1, g2, g3⟩ := id dd'
  exact d_write (t' := s.toks) I (by rw [e]; exact True.intro) hs ⟨o', g1⟩ ⟨Nat.zero_le _, y, [], .nil, o', #[], ep + 1, g1, g2, g3, rfl, List.nodup_nil⟩
def rTClear : V → List V → Hp → VK → Prop := fun x vs H Q => ∃ (a : Addr) (kvs : List (List L2.Key × V)), x = .ref a ∧ vs = [] ∧ H a = some (.dT kvs) ∧ Q .non (upd H a (.dT []))
theorem mtT_clear {X : Cx} : MtR X "dict.clear" rTClear := by
  intro pins s σ H x vs v us Q I rx rv h
  obtain ⟨a, kvs, rfl, rfl, e, q⟩ := h
  obtain rfl : v = Value.ref a := rx
  obtain rfl := rv.zero
  exact dt_clear I e fun s' I' => ⟨.non, _, I', rfl, q⟩
theorem pe_clearT {o : Expr} {to : TE} {apos cpos : Pos} (ho : PE X o to) (hbase : attributeBase o "clear" X.env (eval o X.env) = eval o X.env := by rfl) (hline : (apos.endLine == cpos.line) = true := by rfl) : PE X (.Call (.Attribute o "clear" apos) [] [] cpos) (tBM0 X.K "dict" rTClear to) :=
  pe_bm0 PySem.F.plainAttrs_dict PySem.F.slot_dict_clear PySem.F.type_dict_clear mtT_clear ho hbase hline
end
end DX

set_option Elab.async false
set_option linter.all false
set_option maxRecDepth 100000
set_option maxHeartbeats 4000000
namespace K23
open PySem PySem.Spec PyProof.Rows L2
def top (i : Nat) : Stmt := PySem.Challenge.pw_boxedroots_k23_whole_counts_over_boxes.main.body.getD i (.Pass ⟨0, 0, 0, 0⟩)
abbrev s_BadPoly_init : Stmt := inClass (top 4) 0
abbrev s_is_integer : Stmt := top 9
abbrev s_is_number_to : Stmt := top 10
abbrev s_is_fraction : Stmt := top 11
abbrev s_is_point : Stmt := top 12
abbrev s_greatest_powers : Stmt := top 14
abbrev s_Poly_init : Stmt := inClass (top 18) 0
abbrev s_Poly_eq : Stmt := inClass (top 18) 1
abbrev s_is_term : Stmt := top 19
abbrev s_is_powers : Stmt := top 20
abbrev s_number_raised : Stmt := top 21
abbrev s_top : Stmt := top 22
abbrev s_worth : Stmt := top 23
abbrev s_weights_of : Stmt := top 24
abbrev s_stands_in : Stmt := top 25
abbrev s_ratio : Stmt := top 28
abbrev s_is_less : Stmt := top 29
abbrev s_is_stretch : Stmt := top 30
abbrev s_is_box : Stmt := top 31
abbrev s_spread : Stmt := top 33
abbrev s_shared_bottom : Stmt := top 34
abbrev s_spread_by : Stmt := top 35
abbrev s_times_line : Stmt := top 36
abbrev s_turned : Stmt := top 37
abbrev s_counts_over : Stmt := top 39
abbrev s_places_to : Stmt := top 40
abbrev s_is_box_for : Stmt := top 41
abbrev s_law_hand : Stmt := top 43
abbrev s_law_draw : Stmt := top 44
abbrev s_law_any : Stmt := top 45
abbrev s_law_low : Stmt := top 46
abbrev s_law_power : Stmt := top 47
abbrev s_law_binomial : Stmt := top 48
abbrev s_law_poly : Stmt := top 49
abbrev s_law_parts : Stmt := top 50
abbrev s_law_degrees : Stmt := top 51
abbrev s_law_stretch : Stmt := top 52
abbrev s_law_box : Stmt := top 53
abbrev s_law_polar : Stmt := top 54
abbrev s_law_indexes : Stmt := top 55
abbrev s_law_counts : Stmt := top 56
abbrev s_law_worth : Stmt := top 57
abbrev s_law_mixed : Stmt := top 58
abbrev s_law : Stmt := top 59
def d_BadPoly_init : He.DefD := ⟨("BadPoly", some "__init__"), "__init__", "BadPoly.__init__", defArgs s_BadPoly_init, defBody s_BadPoly_init, defScope s_BadPoly_init, [], []⟩
def d_is_integer : He.DefD := ⟨("is_integer", none), "is_integer", "is_integer", defArgs s_is_integer, defBody s_is_integer, defScope s_is_integer, [], []⟩
def d_is_number_to : He.DefD := ⟨("is_number_to", none), "is_number_to", "is_number_to", defArgs s_is_number_to, defBody s_is_number_to, defScope s_is_number_to, [], []⟩
def d_is_fraction : He.DefD := ⟨("is_fraction", none), "is_fraction", "is_fraction", defArgs s_is_fraction, defBody s_is_fraction, defScope s_is_fraction, [], []⟩
def d_is_point : He.DefD := ⟨("is_point", none), "is_point", "is_point", defArgs s_is_point, defBody s_is_point, defScope s_is_point, [], []⟩
def d_greatest_powers : He.DefD := ⟨("greatest_powers", none), "greatest_powers", "greatest_powers", defArgs s_greatest_powers, defBody s_greatest_powers, defScope s_greatest_powers, [], []⟩
def d_Poly_init : He.DefD := ⟨("Poly", some "__init__"), "__init__", "Poly.__init__", defArgs s_Poly_init, defBody s_Poly_init, defScope s_Poly_init, [], []⟩
def d_Poly_eq : He.DefD := ⟨("Poly", some "__eq__"), "__eq__", "Poly.__eq__", defArgs s_Poly_eq, defBody s_Poly_eq, defScope s_Poly_eq, [], []⟩
def d_is_term : He.DefD := ⟨("is_term", none), "is_term", "is_term", defArgs s_is_term, defBody s_is_term, defScope s_is_term, [], []⟩
def d_is_powers : He.DefD := ⟨("is_powers", none), "is_powers", "is_powers", defArgs s_is_powers, defBody s_is_powers, defScope s_is_powers, [], []⟩
def d_number_raised : He.DefD := ⟨("number_raised", none), "number_raised", "number_raised", defArgs s_number_raised, defBody s_number_raised, defScope s_number_raised, [], []⟩
def d_top : He.DefD := ⟨("top", none), "top", "top", defArgs s_top, defBody s_top, defScope s_top, [], []⟩
def d_worth : He.DefD := ⟨("worth", none), "worth", "worth", defArgs s_worth, defBody s_worth, defScope s_worth, [], []⟩
def d_weights_of : He.DefD := ⟨("weights_of", none), "weights_of", "weights_of", defArgs s_weights_of, defBody s_weights_of, defScope s_weights_of, [], []⟩
def d_stands_in : He.DefD := ⟨("stands_in", none), "stands_in", "stands_in", defArgs s_stands_in, defBody s_stands_in, defScope s_stands_in, [], []⟩
def d_ratio : He.DefD := ⟨("ratio", none), "ratio", "ratio", defArgs s_ratio, defBody s_ratio, defScope s_ratio, [], []⟩
def d_is_less : He.DefD := ⟨("is_less", none), "is_less", "is_less", defArgs s_is_less, defBody s_is_less, defScope s_is_less, [], []⟩
def d_is_stretch : He.DefD := ⟨("is_stretch", none), "is_stretch", "is_stretch", defArgs s_is_stretch, defBody s_is_stretch, defScope s_is_stretch, [], []⟩
def d_is_box : He.DefD := ⟨("is_box", none), "is_box", "is_box", defArgs s_is_box, defBody s_is_box, defScope s_is_box, [], []⟩
def d_spread : He.DefD := ⟨("spread", none), "spread", "spread", defArgs s_spread, defBody s_spread, defScope s_spread, [], []⟩
def d_shared_bottom : He.DefD := ⟨("shared_bottom", none), "shared_bottom", "shared_bottom", defArgs s_shared_bottom, defBody s_shared_bottom, defScope s_shared_bottom, [], []⟩
def d_spread_by : He.DefD := ⟨("spread_by", none), "spread_by", "spread_by", defArgs s_spread_by, defBody s_spread_by, defScope s_spread_by, [], []⟩
def d_times_line : He.DefD := ⟨("times_line", none), "times_line", "times_line", defArgs s_times_line, defBody s_times_line, defScope s_times_line, [], []⟩
def d_turned : He.DefD := ⟨("turned", none), "turned", "turned", defArgs s_turned, defBody s_turned, defScope s_turned, [], []⟩
def d_counts_over : He.DefD := ⟨("counts_over", none), "counts_over", "counts_over", defArgs s_counts_over, defBody s_counts_over, defScope s_counts_over, [], []⟩
def d_places_to : He.DefD := ⟨("places_to", none), "places_to", "places_to", defArgs s_places_to, defBody s_places_to, defScope s_places_to, [], []⟩
def d_is_box_for : He.DefD := ⟨("is_box_for", none), "is_box_for", "is_box_for", defArgs s_is_box_for, defBody s_is_box_for, defScope s_is_box_for, [], []⟩
def d_law_hand : He.DefD := ⟨("_law_hand", none), "_law_hand", "_law_hand", defArgs s_law_hand, defBody s_law_hand, defScope s_law_hand, [], []⟩
def d_law_draw : He.DefD := ⟨("_law_draw", none), "_law_draw", "_law_draw", defArgs s_law_draw, defBody s_law_draw, defScope s_law_draw, [], []⟩
def d_law_any : He.DefD := ⟨("_law_any", none), "_law_any", "_law_any", defArgs s_law_any, defBody s_law_any, defScope s_law_any, [], []⟩
def d_law_low : He.DefD := ⟨("_law_low", none), "_law_low", "_law_low", defArgs s_law_low, defBody s_law_low, defScope s_law_low, [], []⟩
def d_law_power : He.DefD := ⟨("_law_power", none), "_law_power", "_law_power", defArgs s_law_power, defBody s_law_power, defScope s_law_power, [], []⟩
def d_law_binomial : He.DefD := ⟨("_law_binomial", none), "_law_binomial", "_law_binomial", defArgs s_law_binomial, defBody s_law_binomial, defScope s_law_binomial, [], []⟩
def d_law_poly : He.DefD := ⟨("_law_poly", none), "_law_poly", "_law_poly", defArgs s_law_poly, defBody s_law_poly, defScope s_law_poly, [], []⟩
def d_law_parts : He.DefD := ⟨("_law_parts", none), "_law_parts", "_law_parts", defArgs s_law_parts, defBody s_law_parts, defScope s_law_parts, [], []⟩
def d_law_degrees : He.DefD := ⟨("_law_degrees", none), "_law_degrees", "_law_degrees", defArgs s_law_degrees, defBody s_law_degrees, defScope s_law_degrees, [], []⟩
def d_law_stretch : He.DefD := ⟨("_law_stretch", none), "_law_stretch", "_law_stretch", defArgs s_law_stretch, defBody s_law_stretch, defScope s_law_stretch, [], []⟩
def d_law_box : He.DefD := ⟨("_law_box", none), "_law_box", "_law_box", defArgs s_law_box, defBody s_law_box, defScope s_law_box, [], []⟩
def d_law_polar : He.DefD := ⟨("_law_polar", none), "_law_polar", "_law_polar", defArgs s_law_polar, defBody s_law_polar, defScope s_law_polar, [], []⟩
def d_law_indexes : He.DefD := ⟨("_law_indexes", none), "_law_indexes", "_law_indexes", defArgs s_law_indexes, defBody s_law_indexes, defScope s_law_indexes, [], []⟩
def d_law_counts : He.DefD := ⟨("_law_counts", none), "_law_counts", "_law_counts", defArgs s_law_counts, defBody s_law_counts, defScope s_law_counts, [], []⟩
def d_law_worth : He.DefD := ⟨("_law_worth", none), "_law_worth", "_law_worth", defArgs s_law_worth, defBody s_law_worth, defScope s_law_worth, [], []⟩
def d_law_mixed : He.DefD := ⟨("_law_mixed", none), "_law_mixed", "_law_mixed", defArgs s_law_mixed, defBody s_law_mixed, defScope s_law_mixed, [], []⟩
def d_law : He.DefD := ⟨("law", none), "law", "law", defArgs s_law, defBody s_law, defScope s_law, [], []⟩
abbrev FnP (K : PySem.W.Frag) (x qual : Str) (st : Stmt) (f : Addr) (fd : FuncData) : Prop := FunD K x qual (defArgs st) (defBody st) (defScope st) [] [] f fd
end K23

set_option Elab.async false
set_option linter.all false
set_option maxRecDepth 100000
set_option maxHeartbeats 0
namespace K23
open PySem PySem.Spec PyProof.Rows L2 XV DX XF He HandSHeadRun
/-! ### the head -/
def names0 : List PySem.Str := ["RootError", "BadPoly", "NoPoint", "NoBox", "UNKNOWNS", "is_integer", "is_number_to", "is_fraction", "is_point", "greatest_powers", "MOST_TERMS", "MOST_POWER", "Poly", "is_term"]
def names1 : List PySem.Str := ["is_powers", "number_raised", "top", "worth", "weights_of", "stands_in", "MOST_STRETCHES", "ratio", "is_less", "is_stretch", "is_box", "spread", "shared_bottom", "spread_by"]
def names2 : List PySem.Str := ["times_line", "turned", "counts_over", "places_to", "is_box_for", "_law_hand", "_law_draw", "_law_any", "_law_low", "_law_power", "_law_binomial", "_law_poly", "_law_parts", "_law_degrees"]
def names3 : List PySem.Str := ["_law_stretch", "_law_box", "_law_polar", "_law_indexes", "_law_counts", "_law_worth", "_law_mixed"]
def names : List PySem.Str := names0 ++ (names1 ++ (names2 ++ (names3)))
def fa0 : List He.Fa := [.glo "is_integer", .glo "is_number_to", .glo "is_fraction", .glo "is_point", .glo "greatest_powers", .glo "is_term", .glo "is_powers", .glo "number_raised", .glo "top", .glo "worth", .glo "weights_of", .glo "stands_in", .glo "ratio", .glo "is_less"]
def fa1 : List He.Fa := [.glo "is_stretch", .glo "is_box", .glo "spread", .glo "shared_bottom", .glo "spread_by", .glo "times_line", .glo "turned", .glo "counts_over", .glo "places_to", .glo "is_box_for", .glo "_law_hand", .glo "_law_draw", .glo "_law_any", .glo "_law_low"]
def fa2 : List He.Fa := [.glo "_law_power", .glo "_law_binomial", .glo "_law_poly", .glo "_law_parts", .glo "_law_degrees", .glo "_law_stretch", .glo "_law_box", .glo "_law_polar", .glo "_law_indexes", .glo "_law_counts", .glo "_law_worth", .glo "_law_mixed", .glo "law", .glo "Poly"]
def fa3 : List He.Fa := [.free "len", .free "int", .free "abs", .free "range", .free "isinstance", .free "bool", .free "tuple", .free "enumerate", .free "ValueError", .free "list", .free "sorted", .free "max", .free "min", .free "sum"]
def fa4 : List He.Fa := [.free "zip", .free "all", .free "str", .free "dict", .cls "Poly", .mkr "Poly", .meth "Poly" "__eq__", .noat "Poly" "terms", .int "UNKNOWNS" 4, .int "MOST_POWER" 60, .int "MOST_TERMS" 300, .int "MOST_STRETCHES" 3]
def fa : List He.Fa := fa0 ++ (fa1 ++ (fa2 ++ (fa3 ++ (fa4))))
def fnH0 : List He.DefD := [d_is_integer, d_is_number_to, d_is_fraction, d_is_point, d_greatest_powers, d_Poly_init, d_is_term, d_is_powers, d_number_raised, d_top, d_worth, d_weights_of, d_stands_in, d_ratio]
def fnH1 : List He.DefD := [d_is_less, d_is_stretch, d_is_box, d_spread, d_shared_bottom, d_spread_by, d_times_line, d_turned, d_counts_over, d_places_to, d_is_box_for, d_law_hand, d_law_draw, d_law_any]
def fnH2 : List He.DefD := [d_law_low, d_law_power, d_law_binomial, d_law_poly, d_law_parts, d_law_degrees, d_law_stretch, d_law_box, d_law_polar, d_law_indexes, d_law_counts, d_law_worth, d_law_mixed, d_law]
def fnH : List He.DefD := fnH0 ++ (fnH1 ++ (fnH2))
def kitB2 (K : PySem.W.Frag) (x : Str) (c : Value) (b : Bool) : Bool := decide (PySem.W.kitOne K (.ref (ga K x)) c = some b)
/-- what is asked of an own class -/
def ownB (K : PySem.W.Frag) (x : Str) : Bool := eqO (PySem.W.findIn K (.ref (ga K x)) "__class__") (some (some (.builtin "object.__class__"))) && (decide (PySem.W.mroIn K (ga K x) (.type "object") = some true) && ((sixT.all fun T => kitB2 K x (.type T) false) && (isB K x x true && (("NoneType" :: sixT).all fun T => decide (PySem.W.kitOne K (.type T) (.ref (ga K x)) = some false)))))
/-- all else that is asked of the written part -/
def ex (K : PySem.W.Frag) : Bool := eqO (PySem.W.nsIn K mainGlobals "product") (some (some (.type "itertools.product"))) && (eqO (PySem.W.nsIn K mainGlobals "comb") (some (some (.builtin "math.comb"))) && (eqO (PySem.W.nsIn K mainGlobals "gcd") (some (some (.builtin "math.gcd"))) && (eqO (PySem.W.nsIn K mainGlobals "lcm") (some (some (.builtin "math.lcm"))) && ((eqO (PySem.W.specialIn K (.builtin "object.__class__") "__get__") (some (some (.builtin "getset_descriptor.__get__"))) && (decide (PySem.W.takesIn K (.builtin "object.__class__") = some true) && ownB K "Poly"))))))
abbrev R : PySem.W.OpenRow := PySem.W.OpenLaw.row PySem.Challenge.rw_boxedroots_k23_whole_counts_over_boxes
def hookZ (n : Nat) (fa : List Fa) (fn : List DefD) (ex : PySem.W.Frag → Bool) : PySem.W.Hook where
  α := AlD × Bool
  obs := fun s => (obsDG n fa fn s.heap.get?, ex (frG s.heap.get? (asD s.heap.get? n)))
  val := fun _ => (valD fn, true)
  says := fun _ h => ∃ K : PySem.W.Frag, K.In h ∧ SaysD fa fn K ∧ ex K = true
  of := fun _ _ e => ⟨_, frG_in, congrArg Prod.fst e, congrArg Prod.snd e⟩
  keeps := fun _ _ _ ⟨K, hK, c, c2⟩ k => ⟨K, PySem.W.Frag.In.keeps hK k, c, c2⟩
abbrev hz : PySem.W.Hook := hookZ 5 fa fnH ex
def ob (s : PySem.W.SharedT) : AlD × Bool := (obsDG 5 fa fnH (HandSHeadRun.getT s), ex (frG (HandSHeadRun.getT s) (asD (HandSHeadRun.getT s) 5)))
theorem ob_eq (s : PySem.W.SharedT) : ob s = hz.obs s.abs := by
  have e : HandSHeadRun.getT s = s.abs.heap.get? := funext (HandSHeadRun.getT_eq s)
  show (obsDG 5 fa fnH (HandSHeadRun.getT s), ex (frG (HandSHeadRun.getT s) (asD (HandSHeadRun.getT s) 5))) = (obsDG 5 fa fnH s.abs.heap.get?, ex (frG s.abs.heap.get? (asD s.abs.heap.get? 5)))
  rw [e]
section
open PySem.W
/-- the top's run, bound 60000 -/
noncomputable abbrev hdR (w : World) : Option (Shared × SharedT) := wholeF (fun p => stepQ (denQ tabQ) p w) fenceQ 60000 R.prog
noncomputable abbrev hdV : Program := PySem.W.view R.prog [0, 1, 59]
theorem run1 (w : World) : (hdR w).map (fun x => (looksF R.prog x.1.heap x.2.abs, seenQ hdV names (importedModules R.prog.main.body) (fun s => xlAt hdV [] s && recOk R.toRowW.records s) x.2.abs)) = some (true, openGood hdV names) := by kernel_rfl
theorem run2 (w : World) : (hdR w).map (fun x => obsDG 5 fa [] (HandSHeadRun.getT x.2)) = some (valD []) := by kernel_rfl
theorem run3 (w : World) : (hdR w).map (fun x => obsDG 5 [] fnH (HandSHeadRun.getT x.2)) = some (valD fnH) := by kernel_rfl
theorem run4 (w : World) : (hdR w).map (fun x => ex (frG (HandSHeadRun.getT x.2) (asD (HandSHeadRun.getT x.2) 5))) = some true := by kernel_rfl
theorem obsD_cat {fa : List Fa} {fn : List DefD} {K : PySem.W.Frag} (h1 : obsD fa [] K = valD []) (h2 : obsD [] fn K = valD fn) : obsD fa fn K = valD fn := by
  have a1 : ((fa.all fun f => f.ok K) && ([] : List DefD).all fun d => d.ok K) = true := congrArg Prod.fst h1
  have b1 : ((([] : List Fa).all fun f => f.ok K) && fn.all fun d => d.ok K) = true := congrArg Prod.fst h2
  have b2 : fn.map (fun d => fnW K d.at_) = fn.map DefD.val := congrArg Prod.snd h2
  obtain ⟨a, _⟩ := ba a1
  obtain ⟨_, b⟩ := ba b1
  show (((fa.all fun f => f.ok K) && fn.all fun d => d.ok K), fn.map fun d => fnW K d.at_) = (true, fn.map DefD.val)
  rw [a, b, b2]; rfl
theorem run_cat {α β γ δ : Type} {o : Option α} {A : α → β} {C1 C2 : α → γ} {C : α → γ} {X : α → Bool} {b : β} {c1 c2 c : γ} (h1 : o.map A = some b) (h2 : o.map C1 = some c1) (h3 : o.map C2 = some c2) (h4 : o.map X = some true) (f : β × γ × Bool → δ) (hc : ∀ x, C1 x = c1 → C2 x = c2 → C x = c) :
    o.map (fun x => f (A x, C x, X x)) = some (f (b, c, true)) := by
  cases o with
  | none => cases h1
  | some x =>
    have e1 := Option.some.inj h1
    have e4 := Option.some.inj h4
    have e := hc x (Option.some.inj h2) (Option.some.inj h3)
    show some (f (A x, C x, X x)) = _
    rw [e1, e, e4]
theorem run (w : World) : HandSHeadRun.RunEqI R hdV hz ob 60000 names w := by
  unfold HandSHeadRun.RunEqI
  exact run_cat (run1 w) (run2 w) (run3 w) (run4 w) (fun z => (z.1.1, z.1.2, z.2)) fun x e1 e2 => obsD_cat e1 e2
end
end K23

set_option Elab.async false
set_option linter.all false
set_option maxRecDepth 100000
set_option maxHeartbeats 4000000
namespace K23
open PySem PySem.Spec PyProof.Rows L2 XV DX
/-- the drawing hand's pairs -/
def hk (c : Addr) (a g s t : Int) : List (Key × V) := [(.inr "cells", .ref c), (.inr "at", .int a), (.inr "left", .int g), (.inr "seed", .int s), (.inr "turn", .int t)]
section
variable {c : Addr} {a g s t z : Int}
theorem hk_cells : valV (hk c a g s t) (.inr "cells") = some (.ref c) := by rfl
theorem hk_at : valV (hk c a g s t) (.inr "at") = some (.int a) := by rfl
theorem hk_left : valV (hk c a g s t) (.inr "left") = some (.int g) := by rfl
theorem hk_seed : valV (hk c a g s t) (.inr "seed") = some (.int s) := by rfl
theorem hk_turn : valV (hk c a g s t) (.inr "turn") = some (.int t) := by rfl
theorem hp_at : putK (hk c a g s t) (.inr "at") (.int z) = hk c z g s t := by rfl
theorem hp_left : putK (hk c a g s t) (.inr "left") (.int z) = hk c a z s t := by rfl
theorem hp_seed : putK (hk c a g s t) (.inr "seed") (.int z) = hk c a g z t := by rfl
theorem hp_turn : putK (hk c a g s t) (.inr "turn") (.int z) = hk c a g s z := by rfl
theorem hk_len : (hk c a g s t).length < sizeLine := by show 5 < sizeLine; decide
end
/-- the drawing hand at d -/
structure Hand (K : PySem.W.Frag) (H : Hp) (d c : Addr) : Prop where
  ex : ∃ (cs : List Int) (at_ gr sd tn : Int), H d = some (.dK (hk c at_ gr sd tn)) ∧ SqL K H c (cs.map V.int) ∧ c ≠ d ∧ 0 ≤ at_
/-- all but d stands -/
def But (d : Addr) (H H' : Hp) : Prop := ∀ b o, b ≠ d → H b = some o → H' b = some o
theorem But.refl (d : Addr) (H : Hp) : But d H H := fun _ _ _ h => h
theorem But.trans {d : Addr} {H H1 H2 : Hp} (a : But d H H1) (b : But d H1 H2) : But d H H2 := fun x o n h => b x o n (a x o n h)
def spDraw (K : PySem.W.Frag) : Sp := fun vs H Q _ => ∃ (d c : Addr) (m : Int), vs = [.ref d, .int m] ∧ 0 < m ∧ m.natAbs < 2 ^ 100 ∧ Hand K H d c ∧
  ∀ (r : Int) (H' : Hp), 0 ≤ r → r < m → Hand K H' d c → But d H H' → (∀ b, H b = none → H' b = none) → Q (.int r) H'
structure Txt0 (mg : Str → Option Value) : Prop where
  len : mg "len" = none
  int : mg "int" = none
  abs : mg "abs" = none
  range : mg "range" = none
  isi : mg "isinstance" = none
  bool : mg "bool" = none
  tuple : mg "tuple" = none
  enum : mg "enumerate" = none
  verr : mg "ValueError" = none
  list : mg "list" = none
  sorted : mg "sorted" = none
  max : mg "max" = none
  min : mg "min" = none
  sum : mg "sum" = none
  zip : mg "zip" = none
  all : mg "all" = none
  str : mg "str" = none
  gcd : mg "gcd" = some (.builtin "math.gcd")
  lcm : mg "lcm" = some (.builtin "math.lcm")
theorem draw_end {K : PySem.W.Frag} {H : Hp} {d c : Addr} {cs : List Int} {o : HO} {a g s t : Int} (hd : H d = some o) (hc : SqL K H c (cs.map V.int)) (cd : c ≠ d) (a0 : 0 ≤ a) :
    Hand K (upd H d (.dK (hk c a g s t))) d c ∧ But d H (upd H d (.dK (hk c a g s t))) ∧ ∀ b, H b = none → upd H d (.dK (hk c a g s t)) b = none := by
  refine ⟨⟨cs, a, g, s, t, upd_same, ?_, cd, a0⟩, fun b o n e => ?_, fun b n => ?_⟩
  · rcases hc with h | h
    · refine .inl ?_
      rcases h with h | ⟨o, h⟩
      · exact .inl (by rw [upd_ne cd]; exact h)
      · exact .inr ⟨o, by rw [upd_ne cd]; exact h⟩
    · exact .inr h
  · rw [upd_ne n]; exact e
  · rw [upd_ne (fun z => by rw [z, hd] at n; cases n)]; exact n
theorem draw_q {K : PySem.W.Frag} {H : Hp} {d c : Addr} {cs : List Int} {o : HO} {a g s t m r : Int} {Q : VK} (k : ∀ (r : Int) (H' : Hp), 0 ≤ r → r < m → Hand K H' d c → But d H H' → (∀ b, H b = none → H' b = none) → Q (.int r) H') (hd : H d = some o) (hc : SqL K H c (cs.map V.int)) (cd : c ≠ d)
    (a0 : 0 ≤ a) (r0 : 0 ≤ r) (r1 : r < m) : Q (.int r) (upd H d (.dK (hk c a g s t))) := by
  obtain ⟨x1, x2, x3⟩ := draw_end (a := a) (g := g) (s := s) (t := t) hd hc cd a0
  exact k _ _ r0 r1 x1 x2 x3
/-! ### heaps -/
theorem same_new {H : Hp} {p : Addr} {o : HO} (h : H p = none) : Same H (upd H p o) := fun b u e => by
  rw [upd_ne (ne_of_none e h)]; exact e
theorem Same.but {d : Addr} {H H' : Hp} (s : Same H H') : But d H H' := fun b o _ e => s b o e
theorem Hand.same {K : PySem.W.Frag} {H H' : Hp} {d c : Addr} (h : Hand K H d c) (s : Same H H') : Hand K H' d c := by
  obtain ⟨cs, a, g, sd, tn, hd, hc, cd, a0⟩ := h
  exact ⟨cs, a, g, sd, tn, s _ _ hd, s.seq hc, cd, a0⟩
theorem Hand.dk {K : PySem.W.Frag} {H : Hp} {d c : Addr} (h : Hand K H d c) : ∃ kvs, H d = some (.dK kvs) := by
  obtain ⟨cs, a, g, sd, tn, hd, _⟩ := h
  exact ⟨_, hd⟩
theorem But.list {K : PySem.W.Frag} {H H' : Hp} {d c p : Addr} {xs : List V} (b : But d H H') (h : Hand K H d c) (l : SqL K H p xs) : SqL K H' p xs := by
  obtain ⟨kvs, hd⟩ := h.dk
  have ne : ∀ o, H p = some o → (∀ ks, o ≠ .dK ks) → p ≠ d := fun o e n z => by
    rw [z, hd] at e
    exact n kvs (Option.some.inj e).symm
  rcases l with (l | ⟨o, l⟩) | l
  · exact .inl (.inl (b _ _ (ne _ l (fun ks z => by cases z)) l))
  · exact .inl (.inr ⟨o, b _ _ (ne _ l (fun ks z => by cases z)) l⟩)
  · exact .inr l
theorem But.obj {K : PySem.W.Frag} {H H' : Hp} {d c p : Addr} {o : HO} (b : But d H H') (h : Hand K H d c) (e : H p = some o) (n : ∀ ks, o ≠ .dK ks) : H' p = some o := by
  obtain ⟨kvs, hd⟩ := h.dk
  exact b _ _ (fun z => by rw [z, hd] at e; exact n kvs (Option.some.inj e).symm) e
/-! ### polynomials: their keys and counts -/
abbrev Pol := List (List Int × Int)
def kvI (m : Pol) : List (List L2.Key × V) := m.map fun p => (DX.ik p.1, .int p.2)
/-- the dict of a polynomial -/
abbrev PolD (H : Hp) (b : Addr) (m : Pol) : Prop := H b = some (.dT (kvI m))
theorem kvI_len (m : Pol) : (kvI m).length = m.length := List.length_map ..
def getP (m : Pol) (k : List Int) : Option Int := (m.find? fun p => decide (p.1 = k)).map (·.2)
def putP (m : Pol) (k : List Int) (v : Int) : Pol := if (m.any fun p => decide (p.1 = k)) = true then m.map (fun p => if p.1 = k then (p.1, v) else p) else m ++ [(k, v)]
theorem ik_eq {k l : List Int} : ik k = ik l ↔ k = l := ⟨ik_inj, fun e => by rw [e]⟩
theorem valV_kvI (k : List Int) : ∀ m : Pol, valV (kvI m) (ik k) = (getP m k).map V.int
  | [] => rfl
  | p :: m => by
    have ih := valV_kvI k m
    by_cases e : p.1 = k
    · rw [show kvI (p :: m) = (ik p.1, .int p.2) :: kvI m from rfl, valV_pos (by rw [e])]
      simp [getP, List.find?_cons, e]
    · rw [show kvI (p :: m) = (ik p.1, .int p.2) :: kvI m from rfl, valV_neg (fun z => e (ik_inj z)), ih]
      simp [getP, List.find?_cons, e]
theorem kvI_put (m : Pol) (k : List Int) (v : Int) : putK (kvI m) (ik k) (.int v) = kvI (putP m k v) := by
  have e : (kvI m).any (fun kv => decide (kv.1 = ik k)) = m.any fun p => decide (p.1 = k) := by
    rw [kvI, List.any_map]
    congr 1
    funext p
    exact decide_eq_decide.mpr ik_eq
  unfold putK putP
  rw [e]
  by_cases z : (m.any fun p => decide (p.1 = k)) = true
  · rw [if_pos z, if_pos z, kvI, kvI, List.map_map, List.map_map]
    refine List.map_congr_left fun p _ => ?_
    show (if ik p.1 = ik k then _ else _) = _
    by_cases g : p.1 = k
    · rw [if_pos (ik_eq.mpr g)]
      show _ = (ik (if p.1 = k then (p.1, v) else p).1, V.int (if p.1 = k then (p.1, v) else p).2)
      rw [if_pos g]
    · rw [if_neg (fun z => g (ik_inj z))]
      show _ = (ik (if p.1 = k then (p.1, v) else p).1, V.int (if p.1 = k then (p.1, v) else p).2)
      rw [if_neg g]
  · rw [if_neg z, if_neg z, kvI, kvI, List.map_append]
    rfl
def keysP (m : Pol) : List (List Int) := m.map (·.1)
theorem keys_put (m : Pol) (k : List Int) (v : Int) : keysP (putP m k v) = if k ∈ keysP m then keysP m else keysP m ++ [k] := by
  have e : (m.any fun p => decide (p.1 = k)) = true ↔ k ∈ keysP m := by
    rw [List.any_eq_true, keysP, List.mem_map]
    exact ⟨fun ⟨p, h1, h2⟩ => ⟨p, h1, of_decide_eq_true h2⟩, fun ⟨p, h1, h2⟩ => ⟨p, h1, decide_eq_true h2⟩⟩
  unfold putP
  by_cases z : (m.any fun p => decide (p.1 = k)) = true
  · rw [if_pos z, if_pos (e.mp z), keysP, List.map_map]
    refine List.map_congr_left fun p _ => ?_
    show (if p.1 = k then (p.1, v) else p).1 = p.1
    split <;> rfl
  · rw [if_neg z, if_neg (fun g => z (e.mpr g)), keysP, List.map_append]
    rfl
theorem nodup_put {m : Pol} {k : List Int} {v : Int} (h : (keysP m).Nodup) : (keysP (putP m k v)).Nodup := by
  rw [keys_put]
  split
  · exact h
  · rename_i z
    exact List.nodup_append.mpr ⟨h, List.nodup_cons.mpr ⟨by simp, List.nodup_nil⟩, fun a ha b hb e => z (by rw [List.mem_singleton.mp hb] at e; rw [← e]; exact ha)⟩
/-- the sum as the law makes it, 0s not yet left out; left out -/
def addP (one other : Pol) (by_ : Int) : Pol := other.foldl (fun acc p => putP acc p.1 ((getP acc p.1).getD 0 + by_ * p.2)) one
def plusP (one other : Pol) (by_ : Int) : Pol := (addP one other by_).filter fun p => !decide (p.2 = 0)
theorem nodup_add {by_ : Int} : ∀ {other one : Pol}, (keysP one).Nodup → (keysP (addP one other by_)).Nodup
  | [], _, h => h
  | p :: r, one, h => nodup_add (other := r) (nodup_put h)
theorem mem_add {by_ : Int} {k : List Int} : ∀ {other one : Pol}, k ∈ keysP (addP one other by_) → k ∈ keysP one ∨ k ∈ keysP other
  | [], _, h => .inl h
  | p :: r, one, h => by
    rcases mem_add (other := r) h with g | g
    · rw [keys_put] at g
      split at g
      · exact .inl g
      · rcases List.mem_append.mp g with g | g
        · exact .inl g
        · rw [List.mem_singleton.mp g]
          exact .inr List.mem_cons_self
    · exact .inr (List.mem_cons_of_mem _ g)
theorem len_put (m : Pol) (k : List Int) (v : Int) : (putP m k v).length ≤ m.length + 1 := by
  unfold putP
  split
  · rw [List.length_map]; omega
  · rw [List.length_append, List.length_singleton]; omega
theorem len_add {by_ : Int} : ∀ (other one : Pol), (addP one other by_).length ≤ one.length + other.length
  | [], _ => Nat.le_refl _
  | p :: r, one => by
    have h1 := len_add (by_ := by_) r (putP one p.1 ((getP one p.1).getD 0 + by_ * p.2))
    have h2 := len_put one p.1 ((getP one p.1).getD 0 + by_ * p.2)
    show (addP (putP one p.1 ((getP one p.1).getD 0 + by_ * p.2)) r by_).length ≤ _
    rw [List.length_cons]; omega
theorem mT_nodup : ∀ {m acc : Pol}, (keysP (acc ++ m)).Nodup → mT (kvI acc) (kvI m) = kvI (acc ++ m)
  | [], acc, _ => by rw [List.append_nil]; rfl
  | p :: m, acc, h => by
    have hn : p.1 ∉ keysP acc := fun z => by
      rw [keysP, List.map_append, List.map_cons] at h
      exact (List.nodup_append.mp h).2.2 _ z p.1 List.mem_cons_self rfl
    have e : putK (kvI acc) (ik p.1) (.int p.2) = kvI (acc ++ [p]) := by
      rw [kvI_put]
      unfold putP
      rw [if_neg]
      intro z
      obtain ⟨q, h1, h2⟩ := List.any_eq_true.mp z
      exact hn (List.mem_map.mpr ⟨q, h1, of_decide_eq_true h2⟩)
    show mT (putK (kvI acc) (ik p.1) (.int p.2)) (kvI m) = _
    rw [e, mT_nodup (by rw [List.append_assoc]; exact h), List.append_assoc]
    rfl
theorem mT_nil {m : Pol} (h : (keysP m).Nodup) : mT [] (kvI m) = kvI m := mT_nodup (acc := []) h
theorem kvI_get {m : Pol} {i : Nat} {k : List L2.Key} {v : V} (h : (kvI m)[i]? = some (k, v)) : ∃ l c, m[i]? = some (l, c) ∧ k = ik l ∧ v = .int c := by
  rw [kvI, List.getElem?_map] at h
  cases e : m[i]? with
  | none => rw [e] at h; cases h
  | some p =>
    rw [e] at h
    cases (Option.some.inj h)
    exact ⟨p.1, p.2, rfl, rfl, rfl⟩
theorem getP_at {m : Pol} (h : (keysP m).Nodup) : ∀ {i : Nat} {l : List Int} {c : Int}, m[i]? = some (l, c) → getP m l = some c := by
  induction m with
  | nil => intro i l c e; cases e
  | cons p m ih =>
    intro i l c e
    rw [keysP, List.map_cons, List.nodup_cons] at h
    cases i with
    | zero =>
      cases (Option.some.inj e)
      simp [getP, List.find?_cons]
    | succ i =>
      have e' : m[i]? = some (l, c) := e
      have hm : l ∈ m.map (·.1) := List.mem_map.mpr ⟨(l, c), List.mem_of_getElem? e', rfl⟩
      have ne : ¬ p.1 = l := fun z => h.1 (by rw [z]; exact hm)
      have := ih h.2 e'
      simp only [getP, List.find?_cons, ne, decide_false] at this ⊢
      exact this
theorem but_at {d D : Addr} {H0 H' : Hp} {o : HO} (b : But d H0 H') (nD : H0 D = none) : But d H0 (upd H' D o) := fun x u nx e => by
  rw [upd_ne (ne_of_none e nD)]
  exact b x u nx e
theorem Hand.at {K : PySem.W.Frag} {d c D : Addr} {H0 H' : Hp} {o : HO} (h0 : Hand K H0 d c) (b : But d H0 H') (h : Hand K H' d c) (nD : H0 D = none) : Hand K (upd H' D o) d c := by
  have ne : d ≠ D := fun z => by
    obtain ⟨_, hd⟩ := h0.dk
    rw [z, nD] at hd
    cases hd
  have b2 := but_at (o := o) b nD
  obtain ⟨cs, _, _, _, _, _, hc, _, _⟩ := id h0
  obtain ⟨_, a, g, sd, tn, hd, _, cd, a0⟩ := h
  exact ⟨cs, a, g, sd, tn, by rw [upd_ne ne]; exact hd, b2.list h0 hc, cd, a0⟩
theorem same_at {H1 H : Hp} {D : Addr} {o : HO} (s : Same H1 H) (nD : H1 D = none) : Same H1 (upd H D o) := fun x u e => by
  rw [upd_ne (ne_of_none e nD)]
  exact s x u e
theorem map_of {α : Type} {f : Nat → α} : ∀ {n : Nat} {ys : List α}, ys.length = n → (∀ j y, ys[j]? = some y → y = f j) → ys = (List.range n).map f
  | n, ys, hl, h => by
    refine List.ext_getElem? fun j => ?_
    rw [List.getElem?_map]
    by_cases hj : j < ys.length
    · rw [List.getElem?_eq_getElem hj, h j _ (List.getElem?_eq_getElem hj), List.getElem?_eq_getElem (by rw [List.length_range]; omega), List.getElem_range]
      rfl
    · rw [List.getElem?_eq_none (by omega), List.getElem?_eq_none (by rw [List.length_range]; omega)]
      rfl
theorem ints_of {P : Nat → Int → Prop} : ∀ {ys : List V}, (∀ (j : Nat) (y : V), ys[j]? = some y → ∃ e : Int, y = V.int e ∧ P j e) → ∃ ks : List Int, ys = ks.map V.int ∧ ∀ (j : Nat) e, ks[j]? = some e → P j e := by
  intro ys
  induction ys generalizing P with
  | nil => exact fun _ => ⟨[], rfl, fun j e h => by simp at h⟩
  | cons y ys ih =>
    intro hh
    obtain ⟨e, rfl, he⟩ := hh 0 y rfl
    obtain ⟨ks, rfl, hk⟩ := ih (P := fun j e => P (j + 1) e) fun j y h => hh (j + 1) y h
    refine ⟨e :: ks, rfl, fun j x hx => ?_⟩
    cases j with
    | zero => cases (show e = x by simpa using hx); exact he
    | succ j => exact hk j x (by simpa using hx)
/-- a def of the text as callers need it -/
def Cal (P : Program) (w : World) (K : PySem.W.Frag) (mg : Str → Option Value) (base : Heap) (x : Str) (k : Nat) (ps : List Str) (sp : Sp) : Prop :=
  ∃ f fd, mg x = some (.ref f) ∧ FnOk P w K mg base CX0 k f fd ps sp ∧ Binds K fd ps [] ∧ PySem.W.keepIn K (.ref f) = true
theorem mem6 {T : String} (h : T ∈ sixT := by decide) : T ∈ sixT := h
/-- is it an integer that is no flag -/
def spIsInt (K : PySem.W.Frag) : Sp := fun vs H Q _ => ∃ v t, vs = [v] ∧ TgV K H v t ∧ Q (.bl (DX.isInt v)) H
/-- a number up to m -/
def inTo (m : Int) : V → Bool
  | .int i => decide (0 ≤ i) && decide (i ≤ m)
  | _ => false
def spNumTo (K : PySem.W.Frag) : Sp := fun vs H Q _ => ∃ (m : Int) (v : V) (t : Tg), vs = [.int m, v] ∧ TgV K H v t ∧ Q (.bl (inTo m v)) H
/-- the terms of a Poly, as they stand -/
def TermsAt (H : Hp) (t : Addr) (ts : Pol) : Prop := ∃ rs : List Addr, H t = some (.tup (rs.map V.ref)) ∧ Paired (fun r (p : List Int × Int) => ∃ q, H r = some (.tup [.ref q, .int p.2]) ∧ KAt H q p.1) rs ts
theorem TermsAt.same {H H' : Hp} {t : Addr} {ts : Pol} (s : Same H H') (h : TermsAt H t ts) : TermsAt H' t ts := by
  obtain ⟨rs, h1, h2⟩ := h
  exact ⟨rs, s _ _ h1, Paired.mapP h2 fun r p ⟨q, e1, e2⟩ => ⟨q, s _ _ e1, s _ _ e2⟩⟩
structure WFt (ts : Pol) : Prop where
  ky : ∀ p ∈ ts, p.1.length = 4 ∧ ∀ e ∈ p.1, 0 ≤ e ∧ e ≤ 60
  nz : ∀ p ∈ ts, p.2 ≠ 0
  few : ts.length ≤ 300
  asc : ts.Pairwise fun p q => TS.code 64 p.1 < TS.code 64 q.1
theorem four {k : List Int} (h : k.length = 4) : ∃ a b c d, k = [a, b, c, d] := by
  match k, h with
  | [a, b, c, d], _ => exact ⟨a, b, c, d, rfl⟩
theorem le_no {k l : List Int} (hk : k.length = 4) (hl : l.length = 4) (bk : ∀ e ∈ k, 0 ≤ e ∧ e ≤ 60) (bl : ∀ e ∈ l, 0 ≤ e ∧ e ≤ 60) (h : TS.code 64 k < TS.code 64 l) :
    Ob.lexAt (fun j => decide (l.getD j 0 = k.getD j 0)) (fun j => decide (l.getD j 0 ≤ k.getD j 0)) (decide (l.length ≤ k.length)) 0 (min l.length k.length) = false := by
  obtain ⟨a, b, c, d, rfl⟩ := four hk
  obtain ⟨a', b', c', d', rfl⟩ := four hl
  have A := bk a (by simp); have B := bk b (by simp); have C := bk c (by simp); have D := bk d (by simp)
  have A' := bl a' (by simp); have B' := bl b' (by simp); have C' := bl c' (by simp); have D' := bl d' (by simp)
  have e : a * 262144 + b * 4096 + c * 64 + d < a' * 262144 + b' * 4096 + c' * 64 + d' := by
    simp [TS.code] at h
    omega
  simp only [List.length_cons, List.length_nil, Nat.zero_add, Nat.reduceAdd, Nat.min_self, Ob.lexAt_succ, Ob.lexAt_zero, List.getD_cons_zero, List.getD_cons_succ, decide_eq_true_eq]
  split
  · split
    · split
      · split
        · omega
        · exact decide_eq_false (by omega)
      · exact decide_eq_false (by omega)
    · exact decide_eq_false (by omega)
  · exact decide_eq_false (by omega)
def spPowers (K : PySem.W.Frag) : Sp := fun vs H Q _ => ∃ (q : Addr) (k : List Int), vs = [.ref q] ∧ KAt H q k ∧ k.length = 4 ∧ (∀ e ∈ k, 0 ≤ e ∧ e ≤ 60) ∧ ∀ H', Same H H' → Q (.bl true) H'
def spTerm (K : PySem.W.Frag) : Sp := fun vs H Q _ => ∃ (r q : Addr) (k : List Int) (c : Int), vs = [.ref r] ∧ H r = some (.tup [.ref q, .int c]) ∧ KAt H q k ∧ k.length = 4 ∧ (∀ e ∈ k, 0 ≤ e ∧ e ≤ 60) ∧ c ≠ 0 ∧ ∀ H', Same H H' → Q (.bl true) H'
def spPolyI (C : Addr) : Sp := fun vs H Q _ => ∃ (p dx t : Addr) (ts : Pol), vs = [.ref p, .ref t] ∧ H p = some (.ins C dx []) ∧ TermsAt H t ts ∧ WFt ts ∧ ∀ H', Same H H' → Q .non (upd H' p (.ins C dx [("terms", .ref t)]))
/-- what the head says of Poly -/
structure PolF (K : PySem.W.Frag) (mg : Str → Option Value) (C fI fE : Addr) : Prop where
  g : mg "Poly" = some (.ref C)
  ins : InsT K C
  cn : ClsN K C
  na : NoAttr K C "terms"
  mkr : Mk K C fI
  eq : Meth K C "__eq__" fE
/-- a Poly with the terms ts -/
def PolyAt (C : Addr) (H : Hp) (a : Addr) (ts : Pol) : Prop := ∃ dx t, H a = some (.ins C dx [("terms", .ref t)]) ∧ TermsAt H t ts
theorem PolyAt.same {C : Addr} {H H' : Hp} {a : Addr} {ts : Pol} (s : Same H H') (h : PolyAt C H a ts) : PolyAt C H' a ts := by
  obtain ⟨dx, t, h1, h2⟩ := h
  exact ⟨dx, t, s _ _ h1, h2.same s⟩
theorem map_inj {α β : Type} {f : α → β} (h : ∀ a b, f a = f b → a = b) : ∀ {k l : List α}, k.map f = l.map f → k = l
  | [], [], _ => rfl
  | [], _ :: _, e => by cases e
  | _ :: _, [], e => by cases e
  | a :: k, b :: l, e => by
    rw [List.map_cons, List.map_cons] at e
    injection e with e1 e2
    rw [h _ _ e1, map_inj h e2]
theorem kat_inj {H : Hp} {q : Addr} {k l : List Int} (h1 : KAt H q k) (h2 : KAt H q l) : k = l := by
  have e : k.map V.int = l.map V.int := by
    have := Option.some.inj ((show H q = _ from h1).symm.trans h2)
    injection this
  exact map_inj (fun a b e => by injection e) e
/-- the greatest power of an unknown -/
def colP (ts : Pol) (j : Nat) : List Int := ts.map fun p => p.1.getD j 0
def greatP (ts : Pol) : List Int := (List.range 4).map fun j => mx 0 (colP ts j)
def spGreat : Sp := fun vs H Q _ => ∃ (t : Addr) (ts : Pol), vs = [.ref t] ∧ TermsAt H t ts ∧ (∀ p ∈ ts, p.1.length = 4) ∧ ts.length ≤ 1000 ∧ ∀ p H', H p = none → Same H H' → H' p = some (.lst ((greatP ts).map V.int)) → Q (.ref p) H'
def gpS : Scope := { kind := ScopeKind.function, names := [(".0", NameKind.local), ("k", NameKind.cell), ("max", NameKind.globalImplicit), ("terms", NameKind.cell)], isGenerator := false, isCoroutine := false }
end K23

set_option Elab.async false
set_option linter.all false
set_option maxRecDepth 100000
set_option maxHeartbeats 4000000
/-! bounds of integers by their bits; products, quotients -/
namespace My
open PySem PySem.Spec PyProof.Rows L2 DX
/-- below 2 ^ n in size -/
def Bd (n : Nat) (x : Int) : Prop := x.natAbs < 2 ^ n
theorem Bd.mono {n m : Nat} {x : Int} (h : Bd n x) (l : n ≤ m) : Bd m x := Nat.lt_of_lt_of_le h (Nat.pow_le_pow_right (by decide) l)
theorem Bd.mul {n m : Nat} {x y : Int} (h : Bd n x) (g : Bd m y) : Bd (n + m) (x * y) := wide_lt h g
theorem Bd.add {n : Nat} {x y : Int} (h : Bd n x) (g : Bd n y) : Bd (n + 1) (x + y) := by
  unfold Bd at *
  rw [Nat.pow_succ]
  have := Int.natAbs_add_le x y
  omega
theorem Bd.neg {n : Nat} {x : Int} (h : Bd n x) : Bd n (-x) := by
  unfold Bd at *
  rw [Int.natAbs_neg]; exact h
theorem Bd.sub {n : Nat} {x y : Int} (h : Bd n x) (g : Bd n y) : Bd (n + 1) (x - y) := by
  rw [Int.sub_eq_add_neg]; exact h.add g.neg
theorem Bd.zero {n : Nat} : Bd n 0 := by
  unfold Bd; exact Nat.two_pow_pos n
theorem Bd.of_le {n : Nat} {x y : Int} (h : Bd n y) (l : x.natAbs ≤ y.natAbs) : Bd n x := Nat.lt_of_le_of_lt l h
theorem Bd.lit {n : Nat} {x : Int} {k : Nat} (h : x.natAbs < k) (g : k ≤ 2 ^ n) : Bd n x := Nat.lt_of_lt_of_le h g
section
variable {H : Hp} {Q : VK} {i j : Int}
theorem mulW {n m : Nat} {g : Int → Int → V} (hi : Bd n i) (hj : Bd m j) (h : n + m ≤ 999990 := by decide) (q : Q (g i j) H) : rI CMulW g (.int i) (.int j) H Q :=
  ⟨i, j, rfl, rfl, wide_mul (a := n + 1) (b := m + 1) (hi.mono (Nat.le_succ n)) (hj.mono (Nat.le_succ m)) (Nat.succ_pos _) (Nat.succ_pos _) (by omega), q⟩
theorem mulWk {n m : Nat} {g : Int → Int → V} (hi : Bd n i) (hj : Bd m j) (h : n + m ≤ 999990) (q : Q (g i j) H) : rI CMulW g (.int i) (.int j) H Q := mulW hi hj h q
/-- one factor a small number -/
theorem mulWs {n : Nat} {g : Int → Int → V} (hi : i.natAbs.log2 < 900000) (hj : Bd 64 j) (q : Q (g i j) H) : rI CMulW g (.int i) (.int j) H Q := by
  refine ⟨i, j, rfl, rfl, ?_, q⟩
  have y := PySem.Flt.log2_lt_of (by decide : 0 < 64) hj
  unfold CMulW
  omega
theorem divW {n : Nat} {g : Int → Int → V} (h0 : 0 < j) (hj : Bd n j) (h9 : n < 9000 := by decide) (q : Q (g i j) H) : rI CDivW g (.int i) (.int j) H Q :=
  ⟨i, j, rfl, rfl, wide_div (b := n + 1) h0 (hj.mono (Nat.le_succ n)) (Nat.succ_pos _) h9, q⟩
theorem divWl {g : Int → Int → V} (h0 : 0 < j) (hj : j.natAbs < 2 ^ 100) (q : Q (g i j) H) : rI CDivW g (.int i) (.int j) H Q := divW (n := 100) h0 hj (by decide) q
end
end My
namespace My
open PySem PySem.Spec PyProof.Rows L2 DX
section
variable {σ : L2.St} {H : Hp} {Q : VK} {tl : TA} {te : TE} {D : Ends} {v w z : V} {i j l : Nat}
theorem modE {i' : Int} {j' : Int} (c' : 0 < j') (q : Q (.int (i' % j')) H) : rI (fun _ j => 0 < j) (fun i j => .int (i % j)) (.int i') (.int j') H Q := ⟨i', j', rfl, rfl, c', q⟩
theorem par (h : tl σ H fun vs H1 => ∃ v w, vs = [v, w] ∧ D.nx ((σ.set i (some v)).set j (some w)) H1) : tPar i j tl D σ H := h
theorem par2 {R : V → V → Prop} (h : R v w) : ∃ x y, [v, w] = [x, y] ∧ R x y := ⟨_, _, rfl, h⟩
theorem par3 (h : tl σ H fun vs H1 => ∃ u v w, vs = [u, v, w] ∧ D.nx (((σ.set i (some u)).set j (some v)).set l (some w)) H1) : tPar3 i j l tl D σ H := h
theorem par33 {R : V → V → V → Prop} (h : R v w z) : ∃ x y u, [v, w, z] = [x, y, u] ∧ R x y u := ⟨_, _, _, rfl, h⟩
theorem aug {ti : TIp} (e : σ[i]? = some (some v)) (h : te σ H fun y H1 => ti v y H1 fun z H2 => D.nx (σ.set i (some z)) H2) : tAug i te ti D σ H := ⟨v, e, h⟩
theorem whileM {c : TT} {tb : TS} (Pv : Nat → L2.St → Hp → Prop) (m0 : Nat) (h0 : Pv m0 σ H) (hs : ∀ m σ H, Pv m σ H → c σ H fun b H1 => if b = true then ∃ N : L2.St → Hp → Prop, (∀ σ' H', N σ' H' → ∃ m', m' < m ∧ Pv m' σ' H') ∧ tb { D with nx := N, ct := N, bk := D.nx } σ H1 else D.nx σ H1) : tWhile c tb D σ H :=
  ⟨Pv, ⟨m0, h0⟩, hs⟩
theorem turnM {tb : TS} {Pv : Nat → L2.St → Hp → Prop} {m : Nat} (h : tb { D with nx := fun σ' H' => ∃ m', m' < m ∧ Pv m' σ' H', ct := fun σ' H' => ∃ m', m' < m ∧ Pv m' σ' H', bk := D.nx } σ H) : ∃ N : L2.St → Hp → Prop, (∀ σ' H', N σ' H' → ∃ m', m' < m ∧ Pv m' σ' H') ∧ tb { D with nx := N, ct := N, bk := D.nx } σ H := ⟨_, fun _ _ z => z, h⟩
end
end My
namespace My
open PySem PySem.Spec PyProof.Rows L2 DX
section
variable {σ : L2.St} {H : Hp} {K : PySem.W.Frag} {x y z w : V}
/-- (a, b), (c, d) = t -/
theorem gtup22 {T A B : Addr} {i j k l : Nat} {N : L2.St → Hp → Prop} {σ' : L2.St} (h : SqT K H T [.ref A, .ref B]) (hA : SqT K H A [x, y]) (hB : SqT K H B [z, w]) (e : (((σ.set i (some x)).set j (some y)).set k (some z)).set l (some w) = σ') (q : N σ' H) :
    gTup K 2 (gCons (gTup K 2 (gCons (gName i) (gCons (gName j) gNil))) (gCons (gTup K 2 (gCons (gName k) (gCons (gName l) gNil))) gNil)) (.ref T) σ H N := by
  subst e
  exact ⟨T, _, rfl, h, rfl, .ref A, [.ref B], rfl, ⟨A, _, rfl, hA, rfl, x, [y], rfl, y, [], rfl, rfl, .ref B, [], rfl, B, _, rfl, hB, rfl, z, [w], rfl, w, [], rfl, rfl, rfl, q⟩⟩
end
end My
namespace My
open PySem PySem.Spec PyProof.Rows L2 DX
def FR3 (vs : List V) (g : TG) (tb : TS) (D : Ends) (σ : L2.St) (H1 : Hp) : Prop := ∃ (i j c : Int) (n : Nat), vs = [.int i, .int j, .int c] ∧ RgC i j c n ∧ ∃ W : Nat → Nat → L2.St → Hp → Prop, (∃ m, W 0 m σ H1) ∧ ∀ i' m σ H, W i' m σ H →
  ((Itc i c n).stop i' H ∧ D.nx σ H) ∨ ((Itc i c n).go i' H ∧ ∃ N : L2.St → Hp → Prop, (∀ σ' H', N σ' H' → ∃ m', m' < m ∧ W (i' + 1) m' σ' H') ∧ ∀ x H', (Itc i c n).yld i' H x H' → g x σ H' fun σ2 H2 => tb { D with nx := N, ct := N, bk := D.nx } σ2 H2)
section
variable {σ : L2.St} {H : Hp} {Q : VK} {K : PySem.W.Frag} {tl : TA} {te : TE} {tt : TT} {D : Ends} {g : TG} {tb : TS}
theorem forR3 (h : tl σ H fun vs H1 => FR3 vs g tb D σ H1) : tFor (iRng3 tl) g tb D σ H := h
/-- for at in range(n - 1, -1, -1) -/
theorem rng3 {n : Nat} {a b : Int} (hn : n ≤ 1000) (ea : a = (n : Int) - 1) (eb : b = -1) (Pv : Nat → L2.St → Hp → Prop) (h0 : Pv 0 σ H)
    (hs : ∀ i σ H, i < n → Pv i σ H → g (.int (((n - 1 - i : Nat)) : Int)) σ H fun σ2 H2 => tb { D with nx := Pv (i + 1), ct := Pv (i + 1), bk := D.nx } σ2 H2) (hd : ∀ σ H, Pv n σ H → D.nx σ H) : FR3 [.int a, .int b, .int (-1)] g tb D σ H := by
  subst ea eb
  have r := RgC.neg (i := (n : Int) - 1) (j := -1) (by omega) (by omega) (by omega) (by omega)
  rw [show (((n : Int) - 1) - (-1)).toNat = n by omega] at r
  refine ⟨_, _, _, n, rfl, r, for_rangeC (lo := (n : Int) - 1) (c := -1) (n := n) Pv h0 (fun i σ H hi p => ?_) hd⟩
  have e : (n : Int) - 1 + (i : Nat) * (-1) = (((n - 1 - i : Nat)) : Int) := by omega
  rw [e]
  exact hs i σ H hi p
def CZ (K : PySem.W.Frag) (us : List V) (g : TG) (tt : TT) (te : TE) (vs : List Nat) (σ : L2.St) (Q : VK) (H1 : Hp) : Prop := ∃ a b xs ys, us = [.ref a, .ref b] ∧ SqL K H1 a xs ∧ SqL K H1 b ys ∧ LJ (Itz K a b) g tt te vs σ Q H1
theorem lcZ1 {vs : List Nat} (h : tl σ H fun us H1 => CZ K us g tt te vs σ Q H1) : tLc (iZip K tl) g tt te vs σ H Q := h
def CE (K : PySem.W.Frag) (us : List V) (g : TG) (tt : TT) (te : TE) (vs : List Nat) (σ : L2.St) (Q : VK) (H1 : Hp) : Prop := ∃ a xs, us = [.ref a] ∧ SqL K H1 a xs ∧ LJ (Ite K a) g tt te vs σ Q H1
theorem ixLast {p : Addr} {xs : List V} {x : V} (h : SqL K H p (xs ++ [x])) (q : Q x H) : rIxL K (.ref p) (.int (-1)) H Q := ⟨p, _, -1, x, rfl, rfl, h, by
  unfold atI ixN
  rw [if_neg (by decide), List.length_append, List.length_singleton, if_pos (by omega)]
  show (xs ++ [x])[((-1 : Int) + ((xs.length + 1 : Nat) : Int)).toNat]? = some x
  rw [show ((-1 : Int) + ((xs.length + 1 : Nat) : Int)).toNat = xs.length by omega]
  simp, q⟩
end
end My
namespace My
open PySem PySem.Spec PyProof.Rows L2 DX
section
variable {σ : L2.St} {H : Hp} {Q : VK} {K : PySem.W.Frag} {td ty tv : TE} {D : Ends} {g : TG} {tb : TS} {n : Nat}
/-- for k, v in d.items(), d locked -/
theorem forItT {d : Addr} {od : Obj} {kvs : List (List L2.Key × V)} (hσ : σ[n]? = some (some (.ref d))) (hd : H d = some (.frz od (.dT kvs))) (Pv : Nat → L2.St → Hp → Prop) (h0 : Pv 0 σ H) (hG : ∀ i σ H, i ≤ kvs.length → Pv i σ H → H d = some (.frz od (.dT kvs)))
    (hs : ∀ i k v q T σ H, kvs[i]? = some (k, v) → H q = some (.tup (k.map kV)) → Pv i σ H → H T = none → g (.ref T) σ (upd H T (.tup [.ref q, v])) fun σ2 H2 => tb { D with nx := Pv (i + 1), ct := Pv (i + 1), bk := D.nx } σ2 H2) (he : ∀ σ H, Pv kvs.length σ H → D.nx σ H) : tFor (iItemsT (tVar n)) g tb D σ H :=
  ⟨_, hσ, d, od, kvs, rfl, hd, for_it walk_itemsT Pv h0 hG (fun i x σ H H' hi p y => by
    obtain ⟨T, k, v, q, e1, rfl, e2, e3, rfl⟩ := y
    exact hs i k v q T σ H e1 e3 p e2) he⟩
theorem dnewT (h : ∀ p, H p = none → Q (.ref p) (upd H p (.dT []))) : tDNewT σ H Q := h
end
end My
namespace My
open PySem PySem.Spec PyProof.Rows L2 DX
section
variable {σ : L2.St} {H : Hp} {Q : VK} {td ty to ti : TE} {v : V} {N : L2.St → Hp → Prop} {ts : TSet}
theorem dnin (h : ty σ H fun y H1 => td σ H1 fun x H2 => ∃ a o, x = .ref a ∧ DGet H2 a y o ∧ Q (.bl (!o.isSome)) H2) : tDNotIn ty td σ H Q := h
theorem gsub (h : to σ H fun o H1 => ti σ H1 fun i H2 => ts o i v H2 fun H3 => N σ H3) : gSub to ti ts v σ H N := h
theorem repL {l : Addr} {xs : List V} {k : Int} (h : H l = some (.lst xs)) (k0 : 0 ≤ k) (k1 : k ≤ 1000) (hz : xs.length ≤ 1000) (q : ∀ p, H p = none → Q (.ref p) (upd H p (.lst (List.replicate k.toNat xs).flatten))) : rRep (.ref l) (.int k) H Q := by
  refine ⟨l, k, xs, rfl, rfl, h, by omega, by omega, ?_, q⟩
  have : xs.length * k.toNat ≤ 1000 * 1000 := Nat.mul_le_mul hz (by omega)
  exact Nat.le_trans this (by decide)
end
end My

set_option Elab.async false
set_option linter.all false
set_option maxRecDepth 100000
set_option maxHeartbeats 4000000
namespace K23
open PySem PySem.Spec PyProof.Rows L2 XV DX
end K23
local macro_rules | `(tactic| walk_at "s") => `(tactic| first
  | with_reducible refine My.seq ?_
  | with_reducible refine My.ifs ?_
  | with_reducible refine My.test ?_
  | with_reducible refine My.testB ?_
  | with_reducible refine My.and_ ?_
  | with_reducible refine My.or_ ?_
  | with_reducible refine My.not_ ?_
  | with_reducible refine My.andV ?_
  | with_reducible refine My.orV ?_
  | with_reducible refine My.notV ?_
  | with_reducible refine My.ifV ?_
  | with_reducible refine My.cst ?_
  | with_reducible refine My.op ?_
  | with_reducible refine My.un ?_
  | with_reducible refine My.callB ?_
  | with_reducible refine My.cons ?_
  | with_reducible refine My.nil ?_
  | with_reducible refine My.dget ?_
  | with_reducible refine My.dput ?_
  | with_reducible refine My.asg ?_
  | with_reducible refine My.drop ?_
  | with_reducible refine My.ret ?_
  | with_reducible refine My.retN ?_
  | with_reducible refine My.call ?_
  | with_reducible refine My.lst_ ?_
  | with_reducible refine My.tup_ ?_
  | with_reducible refine My.next ?_
  | with_reducible refine My.forR1 ?_
  | with_reducible refine My.make ?_
  | with_reducible refine My.yes ?_
  | with_reducible refine My.part ?_
  | with_reducible refine My.partI ?_
  | with_reducible refine My.abs1 ?_
  | with_reducible refine My.sl ?_
  | with_reducible refine My.noPart ?_
  | with_reducible refine My.bm ?_
  | with_reducible refine My.pairs ?_
  | with_reducible refine My.pairs0 ?_
  | with_reducible refine My.forL1 ?_
  | with_reducible refine My.lcR1 ?_
  | with_reducible refine My.lcL1 ?_
  | with_reducible refine My.thenK ?_
  | with_reducible refine My.dget2 ?_
  | with_reducible refine My.chain ?_
  | with_reducible refine My.itemsT ?_
  | with_reducible refine My.callKw ?_
  | ((with_reducible apply My.var); (next => exact rfl))
  | ((with_reducible apply My.name); (next => exact rfl))
  | ((with_reducible apply My.dgetS); (next => with_reducible first | exact L2.upd_same | assumption); (next => with_reducible first | exact K23.hk_left | exact K23.hk_at | exact K23.hk_seed | exact K23.hk_turn | exact K23.hk_cells))
  | ((with_reducible apply My.dputS); (next => with_reducible first | exact L2.upd_same | assumption); (next => exact K23.hk_len); (next => with_reducible first | exact K23.hp_left | exact K23.hp_at | exact K23.hp_seed | exact K23.hp_turn))
  | ((with_reducible apply My.modE); (next => omega))
  | ((with_reducible apply My.mulR); (next => omega); (next => omega))
  | ((with_reducible apply My.mulL); (next => omega); (next => omega))
  | ((with_reducible apply My.divP); (next => omega); (next => omega))
  | ((with_reducible apply My.divWl); (next => first | assumption | omega); (next => first | assumption | decide))
  | ((with_reducible apply My.mulWk); (next => with_reducible assumption); (next => with_reducible assumption); (next => decide))
  | ((with_reducible apply My.powP); (next => exact ⟨by decide, by decide, by decide⟩))
  | ((with_reducible apply My.lenL); (next => with_reducible assumption))
  | with_reducible refine My.forR3 ?_
  | with_reducible refine My.dnin ?_
  | with_reducible refine My.gsub ?_
  | with_reducible refine My.lcZ1 ?_
  | with_reducible refine My.par ?_
  | with_reducible refine My.par2 ?_
  | with_reducible refine My.par3 ?_
  | with_reducible refine My.par33 ?_
  | ((with_reducible apply My.aug); (next => exact rfl))
  | with_reducible refine My.ipA ?_
  | with_reducible refine My.augS ?_
  | with_reducible refine My.rEqI ?_
  | with_reducible refine My.rNeI ?_
  | with_reducible refine My.rI0_ ?_
  | with_reducible refine My.rU_ ?_
  | with_reducible refine My.int1 ?_
  | with_reducible refine My.bl ?_
  | with_reducible refine My.ite_t ?_
  | with_reducible refine My.ite_f ?_
  | with_reducible refine My.ite_nt ?_
  | with_reducible refine My.ite_nf ?_
  | ((with_reducible apply DX.is_t); (next => exact rfl))
  | ((with_reducible apply DX.is_f); (next => exact rfl))
  | ((with_reducible apply DX.is_nt); (next => exact rfl))
  | ((with_reducible apply DX.is_nf); (next => exact rfl))
  | dsimp only)
local macro_rules | `(tactic| walk_at "f") => `(tactic| repeat' (first | walk_at "s" | with_reducible refine My.ite_d (fun _ => ?_) (fun _ => ?_)))
local macro_rules | `(tactic| walk_at "w") => `(tactic| repeat (walk_at "s"))
local macro_rules | `(tactic| walk_at "F") => `(tactic| repeat' (first | ((with_reducible apply My.modA); (next => omega); intro _ _ _) | walk_at "s" | with_reducible refine My.ite_d (fun _ => ?_) (fun _ => ?_)))
local macro_rules | `(tactic| walk_at "g") => `(tactic| repeat' (first | with_reducible refine My.ite_nd (fun _ => ?_) (fun _ => ?_) | with_reducible refine My.ite_d (fun _ => ?_) (fun _ => ?_) | walk_at "s"))
namespace K23
open PySem PySem.Spec PyProof.Rows L2 XV DX
def spAny (K : PySem.W.Frag) : Sp := fun vs H Q _ => ∃ (d c p : Addr) (xs : List V), vs = [.ref d, .ref p] ∧ Hand K H d c ∧ SqL K H p xs ∧ 0 < xs.length ∧ xs.length < 1000 ∧
  ∀ (v : V) (H' : Hp), v ∈ xs → Hand K H' d c → But d H H' → (∀ b, H b = none → H' b = none) → Q v H'
def spHand (K : PySem.W.Frag) : Sp := fun vs H Q _ => ∃ (a : Addr) (ns : List Int), vs = [.ref a] ∧ SqL K H a (ns.map V.int) ∧ ns.length ≤ 63 ∧ ∀ (d c : Addr) (H' : Hp), H d = none → Same H H' → Hand K H' d c → Q (.ref d) H'
theorem cut_ints (ns : List Int) (lo hi : Option Int) : ∃ ms : List Int, cutV (ns.map V.int) lo hi = ms.map V.int :=
  ⟨(ns.drop _).take _, by unfold cutV; rw [← List.map_drop, ← List.map_take]⟩
section
variable {P : Program} {w : World} {K : PySem.W.Frag} {mg : Str → Option Value} {base : Heap}
theorem sc_law_draw : FnScope ["_law_hand_here", "_law_many", "_law_cell", "_law_digit", "_law_number"] ["_law_hand_here", "_law_many"] (defScope s_law_draw) := ⟨rfl, rfl, rfl, by decide +kernel, rfl, by decide +kernel, by decide +kernel⟩
theorem cal_law_draw {f : Addr} {fd : FuncData} (F : FnP K "_law_draw" "_law_draw" s_law_draw f fd) (g : mg "_law_draw" = some (.ref f)) (T : Txt0 mg) : Cal P w K mg base "_law_draw" 1 ["_law_hand_here", "_law_many"] (spDraw K) := by
  refine ⟨f, fd, g, ?_, F.bindsN (fun _ _ _ _ _ _ us hl => match us, hl with | [_, _], _ => rfl), F.kp⟩
  refine F.ok sc_law_draw (fun vs H Q E h => ?_) (fun cdv A outer s H vs Q E hr h => ?_)
  · obtain ⟨d, c, m, rfl, m0, m1, ⟨cs, at_, gr, sd, tn, hd, hc, cd, a0⟩, k⟩ := h
    rfl
  · obtain ⟨d, c, m, rfl, m0, m1, ⟨cs, at_, gr, sd, tn, hd, hc, cd, a0⟩, k⟩ := h
    have hu := hu_of hr
    refine ⟨_, PSs.nox (pss_cons (ps_if (PW.pt (pw_and (pt_cmpR op_eq (pe_dget hu (pv 0) pe_str (fun _ _ => rfl)) pe_int (nomark _)) (pw_and1 (pt_cmpR op_lt (pe_dget hu (pv 0) pe_str (fun _ _ => rfl)) (pe_callB My.c_len (by rfl) T.len PySem.boot_len (pa_cons (pe_dget hu (pv 0) pe_str (fun _ _ => rfl)) pa_nil)) (nomark _)))))
       (pss_cons (ps_set (i := 2) sc_law_draw.nd rfl (Or.inl rfl) (pe_ix ix_list (pe_dget hu (pv 0) pe_str (fun _ _ => rfl)) (pe_dget hu (pv 0) pe_str (fun _ _ => rfl)) (fun _ _ => rfl)))
      (pss_cons (ps_dput hu (pv 0) pe_str (pe_op op_add (pe_dget hu (pv 0) pe_str (fun _ _ => rfl)) pe_int) rfl)
      (pss_cons (ps_dput hu (pv 0) pe_str (pe_op op_mod (pe_callTy My.c_int1 (by rfl) T.int boot_int (pa_cons (pe_op op_add (pe_op op_add (pe_op op_mul (pe_dget hu (pv 0) pe_str (fun _ _ => rfl)) pe_int) (pv 2)) pe_int) pa_nil)) pe_int) rfl)
      (pss_one (ps_dput hu (pv 0) pe_str (pe_ifExp (pt_cmpR op_ge (pv 2) (pe_op op_pow pe_int pe_int) (nomark _)) (pv 2) pe_int) rfl)))))
       pss_nil)
      (pss_cons (ps_if (pt_cmpR op_gt (pe_dget hu (pv 0) pe_str (fun _ _ => rfl)) pe_int (nomark _))
       (pss_cons (ps_set (i := 3) sc_law_draw.nd rfl (Or.inl rfl) (pe_op op_mod (pe_callTy My.c_int1 (by rfl) T.int boot_int (pa_cons (pe_dget hu (pv 0) pe_str (fun _ _ => rfl)) pa_nil)) (pv 1)))
      (pss_cons (ps_dput hu (pv 0) pe_str (pe_op op_fdivW (pe_dget hu (pv 0) pe_str (fun _ _ => rfl)) (pv 1)) rfl)
      (pss_one (ps_ret (pv 3)))))
       pss_nil)
      (pss_cons (ps_dput hu (pv 0) pe_str (pe_op op_add (pe_dget hu (pv 0) pe_str (fun _ _ => rfl)) pe_int) rfl)
      (pss_cons (ps_set (i := 4) sc_law_draw.nd rfl (Or.inl rfl) (pe_op op_mod (pe_callTy My.c_int1 (by rfl) T.int boot_int (pa_cons (pe_op op_mul (pe_callTy My.c_int1 (by rfl) T.int boot_int (pa_cons (pe_op op_add (pe_dget hu (pv 0) pe_str (fun _ _ => rfl)) (pe_op op_mul pe_int (pe_dget hu (pv 0) pe_str (fun _ _ => rfl)))) pa_nil)) pe_int) pa_nil)) pe_int))
      (pss_cons (ps_set (i := 4) sc_law_draw.nd rfl (Or.inl rfl) (pe_op op_mod (pe_callTy My.c_int1 (by rfl) T.int boot_int (pa_cons (pe_op op_mul (pv 4) (pe_op op_add (pe_op op_fdivW (pv 4) pe_int) pe_int)) pa_nil)) pe_int))
      (pss_cons (ps_set (i := 4) sc_law_draw.nd rfl (Or.inl rfl) (pe_op op_mod (pe_callTy My.c_int1 (by rfl) T.int boot_int (pa_cons (pe_op op_add (pe_op op_mul (pv 4) (pe_op op_add (pe_op op_fdivW (pv 4) pe_int) pe_int)) (pe_dget hu (pv 0) pe_str (fun _ _ => rfl))) pa_nil)) pe_int))
      (pss_one (ps_ret (pe_op op_mod (pe_callTy My.c_int1 (by rfl) T.int boot_int (pa_cons (pe_op op_fdivW (pv 4) pe_int) pa_nil)) (pv 1)))))))))), ?_⟩
    try dsimp only [cxOf, Cx.nox, Cx.wish]
    walk_at "F"
    · rename_i h1 h2
      obtain ⟨v, e, hm⟩ := My.atI_of (xs := cs.map V.int) a0 h2
      obtain ⟨z, _, rfl⟩ := List.mem_map.mp hm
      refine My.ixL hc e ?_
      walk_at "F"
      all_goals
        simp only [upd_upd]
        exact draw_q k hd hc cd (by omega) (by assumption) (by assumption)
    all_goals exact draw_q k hd hc cd a0 (by assumption) (by assumption)
theorem sc_law_any : FnScope ["_law_hand_here", "_law_things"] ["_law_hand_here", "_law_things"] (defScope s_law_any) := ⟨rfl, rfl, rfl, by decide +kernel, rfl, by decide +kernel, by decide +kernel⟩
theorem cal_law_any {f : Addr} {fd : FuncData} (F : FnP K "_law_any" "_law_any" s_law_any f fd) (g : mg "_law_any" = some (.ref f)) (T : Txt0 mg) (C_law_draw : Cal P w K mg base "_law_draw" 1 ["_law_hand_here", "_law_many"] (spDraw K)) : Cal P w K mg base "_law_any" 2 ["_law_hand_here", "_law_things"] (spAny K) := by
  obtain ⟨f_law_draw, fd_law_draw, g_law_draw, G_law_draw, b_law_draw, k_law_draw⟩ := C_law_draw
  refine ⟨f, fd, g, ?_, F.bindsN (fun _ _ _ _ _ _ us hl => match us, hl with | [_, _], _ => rfl), F.kp⟩
  refine F.ok sc_law_any (fun vs H Q E h => ?_) (fun cdv A outer s H vs Q E hr h => ?_)
  · obtain ⟨d, c, p, xs, rfl, hh, hl, l0, l1, k⟩ := h
    rfl
  · obtain ⟨d, c, p, xs, rfl, hh, hl, l0, l1, k⟩ := h
    refine ⟨_, PSs.nox (pss_one (ps_ret (pe_ix ix_list (pv 1) (pe_call G_law_draw (hr.mono (by decide)) (by rfl) g_law_draw k_law_draw b_law_draw .nil pass0 (pa_cons (pv 0) (pa_cons (pe_callB My.c_len (by rfl) T.len PySem.boot_len (pa_cons (pv 1) pa_nil)) pa_nil))) (fun _ _ => rfl)))), ?_⟩
    try dsimp only [cxOf, Cx.nox, Cx.wish]
    walk_at "f"
    refine ⟨d, c, xs.length, rfl, by omega, Nat.lt_of_lt_of_le (show ((xs.length : Int)).natAbs < 1000 by omega) (by decide), hh, fun r H' r0 r1 h1 bt fr => ?_⟩
    obtain ⟨v, e, hm⟩ := My.atI_of (xs := xs) r0 r1
    exact My.ixL (bt.list hh hl) e (k v H' hm h1 bt fr)
theorem sc_law_hand : FnScope ["_law_script", "_law_cell", "_law_cells"] ["_law_script"] (defScope s_law_hand) := ⟨rfl, rfl, rfl, by decide +kernel, rfl, by decide +kernel, by decide +kernel⟩
theorem cal_law_hand {f : Addr} {fd : FuncData} (F : FnP K "_law_hand" "_law_hand" s_law_hand f fd) (g : mg "_law_hand" = some (.ref f)) (T : Txt0 mg) : Cal P w K mg base "_law_hand" 1 ["_law_script"] (spHand K) := by
  refine ⟨f, fd, g, ?_, F.bindsN (fun _ _ _ _ _ _ us hl => match us, hl with | [_], _ => rfl), F.kp⟩
  refine F.ok sc_law_hand (fun vs H Q E h => ?_) (fun cdv A outer s H vs Q E hr h => ?_)
  · obtain ⟨a, ns, rfl, hl, h63, k⟩ := h
    rfl
  · obtain ⟨a, ns, rfl, hl, h63, k⟩ := h
    refine ⟨_, PSs.nox (pss_cons (ps_setLc (i := 2) (own := [("_law_cell", 1)]) (tt := tYes) (by rfl) sc_law_hand.nd rfl rfl (sw_true rfl rfl rfl (by decide +kernel)) (pi_list (pe_slice sl_list (pv 0) po_none (po_some pe_int))) (blkOk_by (own := [("_law_cell", 1)]) (N := ["_law_script", "_law_cell", "_law_cells"]) (sc := (defScope s_law_hand)) (by decide +kernel)) (fun _ _ _ _ _ => (pg_name (i := 1) sc_law_hand.nd rfl (Or.inl rfl))) (fun _ _ _ _ _ => pts_nil) (fun _ _ _ _ _ => (pe_callB My.c_abs (by rfl) T.abs boot_abs (pa_cons (pe_callTy My.c_int1 (by rfl) T.int boot_int (pa_cons (pv 1) pa_nil)) pa_nil))))
      (pss_one (ps_ret (pe_disp (pps_cons pe_str (pv 2) (pps_cons pe_str pe_int (pps_cons pe_str pe_int (pps_cons pe_str (pe_op op_add pe_int (pe_callB My.c_len (by rfl) T.len PySem.boot_len (pa_cons (pv 2) pa_nil))) (pps_cons pe_str pe_int pps_nil))))) (by rfl) (by rfl) (fun z => by cases z) (by decide))))), ?_⟩
    try dsimp only [cxOf, Cx.nox, Cx.wish]
    walk_at "f"
    refine My.slL hl fun p1 n1 => ?_
    obtain ⟨ms, em⟩ := cut_ints ns none (some 63)
    have hms : ms.length ≤ 63 := by
      have z := cutV_length (ns.map V.int) none (some 63)
      rw [em, List.length_map, List.length_map] at z
      omega
    rw [em]
    refine My.lcLI (xs := ms.map V.int) (SqL.of upd_same) fun p2 n2 => ?_
    have a1 := same_new (o := HO.lst (ms.map V.int)) n1
    have a2 := same_new (o := HO.lst []) n2
    refine ⟨fun i H' => ∃ cs : List Int, H' p2 = some (.lst (cs.map V.int)) ∧ cs.length = i ∧ Same H H' ∧ H' p1 = some (.lst (ms.map V.int)), ⟨[], upd_same, rfl, a1.trans a2, a2 _ _ upd_same⟩, fun i H' hi ⟨cs, _, _, _, h1⟩ => SqL.of h1, ?_, ?_⟩
    · rintro i x H' hx ⟨cs, h2, rfl, sm, h1⟩
      obtain ⟨z, hz, rfl⟩ : ∃ z, ms[cs.length]? = some z ∧ x = V.int z := by
        rw [List.getElem?_map] at hx
        cases e : ms[cs.length]? with
        | none => rw [e] at hx; cases hx
        | some z => rw [e] at hx; exact ⟨z, rfl, (Option.some.inj hx).symm⟩
      walk_at "f"
      refine ⟨rfl, ?_⟩
      walk_at "f"
      have hlt : cs.length < ms.length := (List.getElem?_eq_some_iff.mp hz).1
      refine ⟨_, h2, by rw [List.length_map]; exact Nat.lt_of_lt_of_le (show cs.length < 1000 by omega) (by decide), cs ++ [if z < 0 then -z else z], ?_, by simp, ?_, ?_⟩
      · rw [upd_same, List.map_append]; rfl
      · exact fun b o e => by
          rw [upd_ne (ne_of_none (a1 _ _ e) n2)]
          exact sm b o e
      · rw [upd_ne (fun z => by rw [z, h2] at h1; have z3 := Option.some.inj h1; exact absurd (ne_of_none (upd_same (H := H) (a := p1) (o := HO.lst (ms.map V.int))) n2) (fun w => w z))]
        exact h1
    · rintro H' ⟨cs, h2, hl2, sm, h1⟩
      walk_at "f"
      refine My.disp fun p3 n3 => ?_
      walk_at "f"
      refine My.lenL (SqL.of (same_new n3 _ _ h2)) ?_
      walk_at "f"
      refine ⟨upd_same, hk p2 0 0 (40961 + ((cs.map V.int).length : Int)) 0, rfl, by show 5 ≤ 15; decide, ?_⟩
      have em2 : mergeK [] (hk p2 0 0 (40961 + ((cs.map V.int).length : Int)) 0) = hk p2 0 0 (40961 + ((cs.map V.int).length : Int)) 0 := rfl
      rw [em2, upd_upd]
      have a3 := same_new (o := HO.dK (hk p2 0 0 (40961 + ((cs.map V.int).length : Int)) 0)) n3
      exact k p3 p2 _ (sm.free n3) (sm.trans a3) ⟨cs, 0, 0, _, 0, upd_same, SqL.of (a3 _ _ h2), (fun z => by rw [z] at h2; rw [h2] at n3; cases n3), Int.le_refl 0⟩
end
end K23

set_option Elab.async false
set_option linter.all false
set_option maxRecDepth 100000
set_option maxHeartbeats 4000000
namespace K23
open PySem PySem.Spec PyProof.Rows L2 XV DX
/-- a fraction as its two items -/
def frB : V → V → Bool
  | .int i, .int j => decide (0 < j) && decide (((Nat.gcd i.natAbs j.natAbs : Nat) : Int) = 1)
  | _, _ => false
def FrI (K : PySem.W.Frag) (H : Hp) (x : V) (b : Bool) : Prop := (∃ t, TgV K H x t ∧ t.is "tuple" = false ∧ b = false) ∨ (∃ a ys, x = .ref a ∧ H a = some (.tup ys) ∧ ys.length ≠ 2 ∧ b = false) ∨ ∃ a u v tu tv, x = .ref a ∧ H a = some (.tup [u, v]) ∧ TgV K H u tu ∧ TgV K H v tv ∧ b = frB u v
def spFrac (K : PySem.W.Frag) : Sp := fun vs H Q _ => ∃ (x : V) (b : Bool), vs = [x] ∧ FrI K H x b ∧ Q (.bl b) H
section
variable {P : Program} {w : World} {K : PySem.W.Frag} {mg : Str → Option Value} {base : Heap}
theorem sc_is_integer : FnScope ["thing"] ["thing"] (defScope s_is_integer) := ⟨rfl, rfl, rfl, by decide +kernel, rfl, by decide +kernel, by decide +kernel⟩
theorem cal_is_integer {f : Addr} {fd : FuncData} (F : FnP K "is_integer" "is_integer" s_is_integer f fd) (g : mg "is_integer" = some (.ref f)) (T : Txt0 mg) : Cal P w K mg base "is_integer" 1 ["thing"] (spIsInt K) := by
  refine ⟨f, fd, g, ?_, F.bindsN (fun _ _ _ _ _ _ us hl => match us, hl with | [_], _ => rfl), F.kp⟩
  refine F.ok sc_is_integer (fun vs H Q E h => ?_) (fun cdv A outer s H vs Q E hr h => ?_)
  · obtain ⟨v, t, rfl, tv, k⟩ := h
    rfl
  · obtain ⟨v, t, rfl, tv, k⟩ := h
    refine ⟨_, PSs.nox (pss_one (ps_ret (pe_and (pe_callB call_isi (by rfl) T.isi (by decide +kernel) (pa_cons (pv 0) (pa_cons (pe_bltn (v := .ty "int") (u := .type "int") (by rfl) T.int (by decide +kernel) rfl) pa_nil))) (pe_one (pe_not (pe_callB call_isi (by rfl) T.isi (by decide +kernel) (pa_cons (pv 0) (pa_cons (pe_bltn (v := .ty "bool") (u := .type "bool") (by rfl) T.bool (by decide +kernel) rfl) pa_nil)))))))), ?_⟩
    try dsimp only [cxOf, Cx.nox, Cx.wish]
    walk_at "f"
    refine tv.isT mem6 ?_
    walk_at "f"
    cases z : t.is "int" with
    | false =>
      have e := tv.isInt
      rw [z, Bool.false_and] at e
      rw [← e] at k
      exact k
    | true =>
      walk_at "f"
      refine tv.isT mem6 ?_
      have e := tv.isInt
      rw [z, Bool.true_and] at e
      rw [← e] at k
      walk_at "f"
      exact k
theorem sc_is_number_to : FnScope ["most", "thing"] ["most", "thing"] (defScope s_is_number_to) := ⟨rfl, rfl, rfl, by decide +kernel, rfl, by decide +kernel, by decide +kernel⟩
theorem cal_is_number_to {f : Addr} {fd : FuncData} (F : FnP K "is_number_to" "is_number_to" s_is_number_to f fd) (g : mg "is_number_to" = some (.ref f)) (T : Txt0 mg) (C_is_integer : Cal P w K mg base "is_integer" 1 ["thing"] (spIsInt K)) : Cal P w K mg base "is_number_to" 2 ["most", "thing"] (spNumTo K) := by
  obtain ⟨f_is_integer, fd_is_integer, g_is_integer, G_is_integer, b_is_integer, k_is_integer⟩ := C_is_integer
  refine ⟨f, fd, g, ?_, F.bindsN (fun _ _ _ _ _ _ us hl => match us, hl with | [_, _], _ => rfl), F.kp⟩
  refine F.ok sc_is_number_to (fun vs H Q E h => ?_) (fun cdv A outer s H vs Q E hr h => ?_)
  · obtain ⟨m, v, t, rfl, tv, k⟩ := h
    rfl
  · obtain ⟨m, v, t, rfl, tv, k⟩ := h
    refine ⟨_, PSs.nox (pss_one (ps_ret (pe_and (pe_call G_is_integer (hr.mono (by decide)) (by rfl) g_is_integer k_is_integer b_is_integer .nil pass0 (pa_cons (pv 1) pa_nil)) (pe_one (pe_chain op_le op_le pe_int (pv 1) (pv 0)))))), ?_⟩
    try dsimp only [cxOf, Cx.nox, Cx.wish]
    walk_at "f"
    refine ⟨v, t, rfl, tv, _, rfl, ?_⟩
    cases v with
    | int i =>
      show (if true = true then _ else _)
      rw [if_pos rfl]
      walk_at "f"
      · rename_i h0
        have k' : Q (.bl (decide (0 ≤ i) && decide (i ≤ m))) H := k
        rw [decide_eq_true h0, Bool.true_and] at k'
        exact k'
      · rename_i h0
        have k' : Q (.bl (decide (0 ≤ i) && decide (i ≤ m))) H := k
        rw [decide_eq_false h0, Bool.false_and] at k'
        exact k'
    | _ => exact k
theorem sc_is_fraction : FnScope ["thing", "over", "under"] ["thing"] (defScope s_is_fraction) := ⟨rfl, rfl, rfl, by decide +kernel, rfl, by decide +kernel, by decide +kernel⟩
theorem cal_is_fraction {f : Addr} {fd : FuncData} (F : FnP K "is_fraction" "is_fraction" s_is_fraction f fd) (g : mg "is_fraction" = some (.ref f)) (T : Txt0 mg) (C_is_integer : Cal P w K mg base "is_integer" 1 ["thing"] (spIsInt K)) : Cal P w K mg base "is_fraction" 2 ["thing"] (spFrac K) := by
  obtain ⟨f_is_integer, fd_is_integer, g_is_integer, G_is_integer, b_is_integer, k_is_integer⟩ := C_is_integer
  refine ⟨f, fd, g, ?_, F.bindsN (fun _ _ _ _ _ _ us hl => match us, hl with | [_], _ => rfl), F.kp⟩
  refine F.ok sc_is_fraction (fun vs H Q E h => ?_) (fun cdv A outer s H vs Q E hr h => ?_)
  · obtain ⟨x, b, rfl, hx, k⟩ := h
    rfl
  · obtain ⟨x, b, rfl, hx, k⟩ := h
    refine ⟨_, PSs.nox (pss_cons (ps_if (PW.pt (pw_or (pt_not (pt_val (pe_callB call_isi (by rfl) T.isi (by decide +kernel) (pa_cons (pv 0) (pa_cons (pe_bltn (v := .ty "tuple") (u := .type "tuple") (by rfl) T.tuple (by decide +kernel) rfl) pa_nil))))) (pw_or1 (pt_cmpR op_ne (pe_callB My.c_len (by rfl) T.len PySem.boot_len (pa_cons (pv 0) pa_nil)) pe_int (nomark _)))))
       (pss_one (ps_ret pe_bl))
       pss_nil)
      (pss_cons (ps_asg (pv 0) (pg_tup (by rfl) (pgs_cons (pg_name (i := 1) sc_is_fraction.nd rfl (Or.inl rfl)) (pgs_cons (pg_name (i := 2) sc_is_fraction.nd rfl (Or.inl rfl)) pgs_nil))))
      (pss_one (ps_ret (pe_and (pe_call G_is_integer (hr.mono (by decide)) (by rfl) g_is_integer k_is_integer b_is_integer .nil pass0 (pa_cons (pv 1) pa_nil)) (pe_and (pe_call G_is_integer (hr.mono (by decide)) (by rfl) g_is_integer k_is_integer b_is_integer .nil pass0 (pa_cons (pv 2) pa_nil)) (pe_and (pe_cmpR op_gt (pv 2) pe_int (nomark _)) (pe_one (pe_cmpR op_eq (pe_callBfun cr_gcd (by rfl) T.gcd (pa_cons (pv 1) (pa_cons (pv 2) pa_nil))) pe_int (nomark _)))))))))), ?_⟩
    try dsimp only [cxOf, Cx.nox, Cx.wish]
    walk_at "f"
    rcases hx with ⟨t, tv, nt, rfl⟩ | ⟨a, ys, rfl, ha, hl, rfl⟩ | ⟨a, u, v, tu, tv, rfl, ha, hu, hv, rfl⟩
    · refine tv.isT mem6 ?_
      rw [nt]
      walk_at "f"
      exact k
    · refine (TgV.tup ha).isT mem6 ?_
      walk_at "f"
      refine My.lenT (SqT.of ha) ?_
      walk_at "f"
      refine My.ite_nd (fun z => ?_) (fun z => absurd (show ys.length = 2 by omega) hl)
      walk_at "f"
      exact k
    · refine (TgV.tup ha).isT mem6 ?_
      walk_at "f"
      refine My.lenT (SqT.of ha) ?_
      walk_at "f"
      refine My.ite_nd (fun z => absurd rfl z) fun _ => ?_
      walk_at "f"
      refine My.gtup2 (SqT.of ha) rfl ?_
      walk_at "f"
      refine ⟨u, tu, rfl, hu, _, rfl, ?_⟩
      cases u with
      | int i =>
        refine My.ite_ct rfl ?_
        walk_at "f"
        refine ⟨v, tv, rfl, hv, _, rfl, ?_⟩
        cases v with
        | int j =>
          refine My.ite_ct rfl ?_
          have k' : Q (.bl (decide (0 < j) && decide (((Nat.gcd i.natAbs j.natAbs : Nat) : Int) = 1))) H := k
          walk_at "f"
          · rename_i z
            rw [decide_eq_true z, Bool.true_and] at k'
            refine ⟨i, j, rfl, ?_⟩
            walk_at "f"
            exact k'
          · rename_i z
            rw [decide_eq_false z, Bool.false_and] at k'
            exact k'
        | _ => exact My.ite_cf rfl k
      | _ => exact My.ite_cf rfl k
theorem sc_is_powers : FnScope ["thing", "high"] ["thing"] (defScope s_is_powers) := ⟨rfl, rfl, rfl, by decide +kernel, rfl, by decide +kernel, by decide +kernel⟩
theorem cal_is_powers {f : Addr} {fd : FuncData} (F : FnP K "is_powers" "is_powers" s_is_powers f fd) (g : mg "is_powers" = some (.ref f)) (T : Txt0 mg) (C_is_number_to : Cal P w K mg base "is_number_to" 2 ["most", "thing"] (spNumTo K)) {tU tP : Tok} (gUNK : mg "UNKNOWNS" = some (.int 4 tU)) (gPOW : mg "MOST_POWER" = some (.int 60 tP)) : Cal P w K mg base "is_powers" 3 ["thing"] (spPowers K) := by
  obtain ⟨f_is_number_to, fd_is_number_to, g_is_number_to, G_is_number_to, b_is_number_to, k_is_number_to⟩ := C_is_number_to
  refine ⟨f, fd, g, ?_, F.bindsN (fun _ _ _ _ _ _ us hl => match us, hl with | [_], _ => rfl), F.kp⟩
  refine F.ok sc_is_powers (fun vs H Q E h => ?_) (fun cdv A outer s H vs Q E hr h => ?_)
  · obtain ⟨q, kk, rfl, hq, h4, hb, k⟩ := h
    rfl
  · obtain ⟨q, kk, rfl, hq, h4, hb, k⟩ := h
    refine ⟨_, PSs.nox (pss_cons (ps_if (PW.pt (pw_or (pt_not (pt_val (pe_callB call_isi (by rfl) T.isi (by decide +kernel) (pa_cons (pv 0) (pa_cons (pe_bltn (v := .ty "tuple") (u := .type "tuple") (by rfl) T.tuple (by decide +kernel) rfl) pa_nil))))) (pw_or1 (pt_cmpR op_ne (pe_callB My.c_len (by rfl) T.len PySem.boot_len (pa_cons (pv 0) pa_nil)) (pe_glob (v := .int 4) (by rfl) gUNK ⟨_, rfl⟩) (nomark _)))))
       (pss_one (ps_ret pe_bl))
       pss_nil)
      (pss_one (ps_ret (pe_callB (cr_all rfl) (by rfl) T.all (by decide +kernel) (pa_cons (pe_lc (own := [("high", 1)]) (tt := tYes) (by rfl) sc_is_powers.nd (pi_tup (pv 0)) (blkOk_by (own := [("high", 1)]) (N := ["thing", "high"]) (sc := (defScope s_is_powers)) (by decide +kernel)) (fun _ _ _ _ _ => (pg_name (i := 1) sc_is_powers.nd rfl (Or.inl rfl))) (fun _ _ _ _ _ => pts_nil) (fun _ _ _ _ _ => (pe_call G_is_number_to (hr.mono (by decide)) (by rfl) g_is_number_to k_is_number_to b_is_number_to .nil pass0 (pa_cons (pe_glob (v := .int 60) (by rfl) gPOW ⟨_, rfl⟩) (pa_cons (pv 1) pa_nil))))) pa_nil))))), ?_⟩
    try dsimp only [cxOf, Cx.nox, Cx.wish]
    walk_at "f"
    refine (TgV.tup hq).isT mem6 ?_
    walk_at "f"
    refine My.lenT (SqT.of hq) ?_
    walk_at "f"
    refine My.ite_nd (fun z => absurd (by rw [List.length_map, h4]; rfl) z) fun _ => ?_
    walk_at "f"
    refine My.lcT rfl (SqT.of hq) (My.lcM (walk_tup (xs := kk.map V.int)) Same (by rw [List.length_map, h4]; decide) (fun D hD => same_new hD) fun D nD => ⟨fun j y H => y = .bl true, fun j y H ys o _ h => h, fun H o s => same_at s nD, fun H2 _ s _ => My.same_seqT s hq, ?_, ?_⟩)
    · rintro i x H2 H3 ys N hi r e l p' ⟨rfl, ex⟩ hN
      rw [List.getElem?_map] at ex
      cases eb : kk[i]? with
      | none => rw [eb] at ex; cases ex
      | some b =>
        rw [eb] at ex
        cases Option.some.inj ex
        walk_at "f"
        refine ⟨rfl, ?_⟩
        walk_at "f"
        refine ⟨60, .int b, .int, rfl, .int b, ?_⟩
        have B := hb b (List.mem_iff_getElem?.mpr ⟨i, eb⟩)
        have z : inTo 60 (.int b) = true := by
          show (decide (0 ≤ b) && decide (b ≤ 60)) = true
          rw [decide_eq_true B.1, decide_eq_true B.2]; rfl
        rw [z]
        exact hN _ _ r e (fun j v hv => p' j v hv) rfl
    · intro H2 ys hD hl2 s2 hy
      have ey : ys = (List.replicate ys.length true).map V.bl := by
        refine List.ext_getElem? fun j => ?_
        rw [List.getElem?_map, List.getElem?_replicate]
        split
        · rename_i z
          rw [List.getElem?_eq_getElem z, hy j _ (List.getElem?_eq_getElem z)]; rfl
        · rw [List.getElem?_eq_none (by omega)]; rfl
      walk_at "f"
      rw [ey] at hD
      refine My.allL (SqL.of hD) ?_
      rw [show (List.replicate ys.length true).all id = true by simp]
      exact k _ s2
theorem sc_is_term : FnScope ["thing", "powers", "count"] ["thing"] (defScope s_is_term) := ⟨rfl, rfl, rfl, by decide +kernel, rfl, by decide +kernel, by decide +kernel⟩
theorem cal_is_term {f : Addr} {fd : FuncData} (F : FnP K "is_term" "is_term" s_is_term f fd) (g : mg "is_term" = some (.ref f)) (T : Txt0 mg) (C_is_powers : Cal P w K mg base "is_powers" 3 ["thing"] (spPowers K)) (C_is_integer : Cal P w K mg base "is_integer" 1 ["thing"] (spIsInt K)) : Cal P w K mg base "is_term" 4 ["thing"] (spTerm K) := by
  obtain ⟨f_is_powers, fd_is_powers, g_is_powers, G_is_powers, b_is_powers, k_is_powers⟩ := C_is_powers
  obtain ⟨f_is_integer, fd_is_integer, g_is_integer, G_is_integer, b_is_integer, k_is_integer⟩ := C_is_integer
  refine ⟨f, fd, g, ?_, F.bindsN (fun _ _ _ _ _ _ us hl => match us, hl with | [_], _ => rfl), F.kp⟩
  refine F.ok sc_is_term (fun vs H Q E h => ?_) (fun cdv A outer s H vs Q E hr h => ?_)
  · obtain ⟨r, q, kk, c, rfl, hr2, hq, h4, hb, hc, k⟩ := h
    rfl
  · obtain ⟨r, q, kk, c, rfl, hr2, hq, h4, hb, hc, k⟩ := h
    refine ⟨_, PSs.nox (pss_cons (ps_if (PW.pt (pw_or (pt_not (pt_val (pe_callB call_isi (by rfl) T.isi (by decide +kernel) (pa_cons (pv 0) (pa_cons (pe_bltn (v := .ty "tuple") (u := .type "tuple") (by rfl) T.tuple (by decide +kernel) rfl) pa_nil))))) (pw_or1 (pt_cmpR op_ne (pe_callB My.c_len (by rfl) T.len PySem.boot_len (pa_cons (pv 0) pa_nil)) pe_int (nomark _)))))
       (pss_one (ps_ret pe_bl))
       pss_nil)
      (pss_cons (ps_asg (pv 0) (pg_tup (by rfl) (pgs_cons (pg_name (i := 1) sc_is_term.nd rfl (Or.inl rfl)) (pgs_cons (pg_name (i := 2) sc_is_term.nd rfl (Or.inl rfl)) pgs_nil))))
      (pss_one (ps_ret (pe_and (pe_call G_is_powers (hr.mono (by decide)) (by rfl) g_is_powers k_is_powers b_is_powers .nil pass0 (pa_cons (pv 1) pa_nil)) (pe_and (pe_call G_is_integer (hr.mono (by decide)) (by rfl) g_is_integer k_is_integer b_is_integer .nil pass0 (pa_cons (pv 2) pa_nil)) (pe_one (pe_cmpR op_ne (pv 2) pe_int (nomark _))))))))), ?_⟩
    try dsimp only [cxOf, Cx.nox, Cx.wish]
    walk_at "f"
    refine (TgV.tup hr2).isT mem6 ?_
    walk_at "f"
    refine My.lenT (SqT.of hr2) ?_
    walk_at "f"
    refine My.ite_nd (fun z => absurd rfl z) fun _ => ?_
    walk_at "f"
    refine My.gtup2 (SqT.of hr2) rfl ?_
    walk_at "f"
    refine ⟨q, kk, rfl, hq, h4, hb, fun H1 s1 => ?_⟩
    refine ⟨_, rfl, ?_⟩
    walk_at "f"
    refine ⟨_, .int, rfl, .int c, ?_⟩
    refine ⟨_, rfl, ?_⟩
    refine My.ite_ct rfl ?_
    walk_at "f"
    rw [decide_eq_false hc]
    exact k _ s1
theorem sc_Poly_init : FnScope ["self", "terms", "index", "term"] ["self", "terms"] (defScope s_Poly_init) := ⟨rfl, rfl, rfl, by decide +kernel, rfl, by decide +kernel, by decide +kernel⟩
theorem ok_Poly_init {f : Addr} {fd : FuncData} {C : Addr} (F : FnP K "__init__" "Poly.__init__" s_Poly_init f fd) (C_is_term : Cal P w K mg base "is_term" 4 ["thing"] (spTerm K)) (T : Txt0 mg) {tM : Tok} (ins : InsT K C) (na : NoAttr K C "terms") (gTRM : mg "MOST_TERMS" = some (.int 300 tM)) : FnOk P w K mg base CX0 5 f fd ["self", "terms"] (spPolyI C) := by
  obtain ⟨f_is_term, fd_is_term, g_is_term, G_is_term, b_is_term, k_is_term⟩ := C_is_term
  refine F.ok sc_Poly_init (fun vs H Q E h => ?_) (fun cdv A outer s H vs Q E hr h => ?_)
  · obtain ⟨p, dx, t, ts, rfl, hp, ht, wf, k⟩ := h
    rfl
  · obtain ⟨p, dx, t, ts, rfl, hp, ht, wf, k⟩ := h
    refine ⟨_, PSs.nox (pss_cons (ps_if (PW.pt (pw_or (pt_not (pt_val (pe_callB call_isi (by rfl) T.isi (by decide +kernel) (pa_cons (pv 1) (pa_cons (pe_bltn (v := .ty "tuple") (u := .type "tuple") (by rfl) T.tuple (by decide +kernel) rfl) pa_nil))))) (pw_or1 (pt_cmpR op_gt (pe_callB My.c_len (by rfl) T.len PySem.boot_len (pa_cons (pv 1) pa_nil)) (pe_glob (v := .int 300) (by rfl) gTRM ⟨_, rfl⟩) (nomark _)))))
       (pss_one ps_never)
       pss_nil)
      (pss_cons (ps_for PassesOwn.never rfl (EnT.pi_enumT (by rfl) T.enum (pa_cons (pv 1) pa_nil)) (pg_tup (by rfl) (pgs_cons (pg_name (i := 2) sc_Poly_init.nd rfl (Or.inl rfl)) (pgs_cons (pg_name (i := 3) sc_Poly_init.nd rfl (Or.inl rfl)) pgs_nil)))
       (pss_one (ps_if (PW.pt (pw_or (pt_not (pt_val (pe_call G_is_term (hr.mono (by decide)) (by rfl) g_is_term k_is_term b_is_term .nil pass0 (pa_cons (pv 3) pa_nil)))) (pw_or1 (PW.pt (pw_and (pt_cmpR op_gt (pv 2) pe_int (nomark _)) (pw_and1 (pt_cmpR (op_leT hr.units0) (pe_ix ix_tup (pv 3) pe_int (fun _ _ => rfl)) (pe_ix ix_tup (pe_ix ix_tup (pv 1) (pe_op op_sub (pv 2) pe_int) (fun _ _ => rfl)) pe_int (fun _ _ => rfl)) (nomark _))))))))
       (pss_one ps_never)
       pss_nil)))
      (pss_one (ps_fld (pv 0) (pv 1) rfl)))), ?_⟩
    try dsimp only [cxOf, Cx.nox, Cx.wish]
    obtain ⟨rs, ht1, ht2⟩ := id ht
    walk_at "f"
    refine (TgV.tup ht1).isT mem6 ?_
    walk_at "f"
    refine My.lenT (SqT.of ht1) ?_
    have hl := wf.few
    have hl2 : rs.length = ts.length := My.plen ht2
    walk_at "f"
    · rename_i z
      rw [List.length_map] at z
      omega
    refine EnT.forT1 ?_
    walk_at "f"
    refine EnT.forT (SqT.of ht1) (fun i σ' H' => Same H H' ∧ ∃ u v, σ' = [some (.ref p), some (.ref t), u, v]) ⟨.refl _, none, none, rfl⟩ (fun _ _ _ _ z => My.same_seqT z.1 ht1) ?_ ?_
    · rintro i x T σ' H1 ex ⟨s1, u, v, rfl⟩ nT
      rw [List.getElem?_map] at ex
      cases er : rs[i]? with
      | none => rw [er] at ex; cases ex
      | some r =>
        rw [er] at ex
        cases Option.some.inj ex
        obtain ⟨⟨kk, c⟩, ep, q, hr1, hr2⟩ := My.pget ht2 er
        have hm : (kk, c) ∈ ts := List.mem_iff_getElem?.mpr ⟨i, ep⟩
        have sT := same_new (o := HO.tup [V.int (i : Nat), V.ref r]) nT
        have s2 := s1.trans sT
        refine My.gtup2 (SqT.of upd_same) rfl ?_
        generalize upd H1 T _ = H2 at s2 ⊢
        walk_at "f"
        refine ⟨r, q, kk, c, rfl, s2 _ _ hr1, s2 _ _ hr2, (wf.ky _ hm).1, (wf.ky _ hm).2, wf.nz _ hm, fun H3 s3 => ?_⟩
        have s3' := s2.trans s3
        walk_at "f"
        · rename_i hpos
          refine My.ixT (SqT.of (s3' _ _ hr1)) (v := .ref q) (by rfl) ?_
          walk_at "f"
          obtain ⟨i0, rfl⟩ : ∃ i0, i = i0 + 1 := ⟨i - 1, by omega⟩
          have hlt : i0 < rs.length := by have := (List.getElem?_eq_some_iff.mp er).1; omega
          have er0 : rs[i0]? = some rs[i0] := List.getElem?_eq_getElem hlt
          obtain ⟨⟨k0, c0⟩, ep0, q0, g1, g2⟩ := My.pget ht2 er0
          have hm0 : (k0, c0) ∈ ts := List.mem_iff_getElem?.mpr ⟨i0, ep0⟩
          have eq0 : ((((i0 + 1 : Nat) : Int)) - 1) = (i0 : Int) := by omega
          rw [eq0]
          refine My.ixT (SqT.of (s3' _ _ ht1)) (atI_nat (by rw [List.getElem?_map, er0]; rfl)) ?_
          walk_at "f"
          refine My.ixT (SqT.of (s3' _ _ g1)) (v := .ref q0) (by rfl) ?_
          refine ⟨q, q0, kk, k0, rfl, rfl, SqT.of (s3' _ _ hr2), SqT.of (s3' _ _ g2), ?_⟩
          have asc : TS.code 64 k0 < TS.code 64 kk := by
            have l1 := (List.getElem?_eq_some_iff.mp ep).1
            have l0 := (List.getElem?_eq_some_iff.mp ep0).1
            have z := (List.pairwise_iff_getElem.mp wf.asc) i0 (i0 + 1) l0 l1 (by omega)
            rw [(List.getElem?_eq_some_iff.mp ep).2, (List.getElem?_eq_some_iff.mp ep0).2] at z
            exact z
          rw [le_no (wf.ky _ hm0).1 (wf.ky _ hm).1 (wf.ky _ hm0).2 (wf.ky _ hm).2 asc]
          walk_at "f"
          exact ⟨s3', _, _, rfl⟩
        · exact ⟨s3', _, _, rfl⟩
    · rintro σ' H' ⟨s1, u, v, rfl⟩
      exact My.fldS (s1 _ _ hp) ins.cl na (by decide) rfl rfl (k _ s1)
theorem sc_greatest_powers : FnScope ["terms", "k", "powers", "_"] ["terms"] (defScope s_greatest_powers) := ⟨rfl, rfl, rfl, by decide +kernel, rfl, by decide +kernel, by decide +kernel⟩
theorem cal_greatest_powers {f : Addr} {fd : FuncData} (F : FnP K "greatest_powers" "greatest_powers" s_greatest_powers f fd) (g : mg "greatest_powers" = some (.ref f)) (T : Txt0 mg) {tU : Tok} (gUNK : mg "UNKNOWNS" = some (.int 4 tU)) : Cal P w K mg base "greatest_powers" 1 ["terms"] spGreat := by
  refine ⟨f, fd, g, ?_, F.bindsN (fun _ _ _ _ _ _ us hl => match us, hl with | [_], _ => rfl), F.kp⟩
  refine F.ok sc_greatest_powers (fun vs H Q E h => ?_) (fun cdv A outer s H vs Q E hr h => ?_)
  · obtain ⟨t, ts, rfl, ht, h4, hl, k⟩ := h
    rfl
  · obtain ⟨t, ts, rfl, ht, h4, hl, k⟩ := h
    refine ⟨_, PSs.nox (pss_one (ps_ret (pe_lc (own := [("k", 1)]) (tt := tYes) (te := tCKw (rMaxDf K) (tCons (tLc (iTup K (tVar 0)) (gTup K 2 (gCons (gName 2) (gCons (gName 3) gNil))) tYes (tOp (rIxT K) (tVar 2) (tVar 1)) [2, 3]) tNil) (tCons (tC (.int 0)) tNil)) (by rfl) sc_greatest_powers.nd (pi_range1 (by rfl) T.range (pa_cons (pe_glob (v := .int 4) (by rfl) gUNK ⟨_, rfl⟩) pa_nil)) (blkOk_by (own := [("k", 1)]) (N := ["terms", "k", "powers", "_"]) (sc := (defScope s_greatest_powers)) (by decide +kernel)) (fun _ _ _ _ _ => (pg_name (i := 1) sc_greatest_powers.nd rfl (Or.inr rfl))) (fun _ _ _ _ _ => pts_nil) (fun _ _ _ _ _ => (pe_callBK (DX.cr_maxDf rfl (Nat.lt_of_le_of_lt (Nat.add_le_add_left (by decide) _) hr.units)) (by rfl) T.max (by decide +kernel) (pa_cons (pe_lc (own := [("powers", 2), ("_", 3)]) (tt := tYes) (te := tOp (rIxT K) (tVar 2) (tVar 1)) (wi := iTup K (tVar 0)) (g := gTup K 2 (gCons (gName 2) (gCons (gName 3) gNil))) (by rfl) sc_greatest_powers.nd (pi_tup (pv 0)) (blkOk_by (own := [("powers", 2), ("_", 3)]) (N := ["terms", "k", "powers", "_"]) (sc := gpS) (by decide +kernel)) (fun _ _ _ _ _ => (pg_tup (by rfl) (pgs_cons (pg_name (i := 2) sc_greatest_powers.nd rfl (Or.inl rfl)) (pgs_cons (pg_name (i := 3) sc_greatest_powers.nd rfl (Or.inl rfl)) pgs_nil)))) (fun _ _ _ _ _ => pts_nil) (fun _ _ _ _ _ => (pe_ix ix_tup (pv 2) (pv 1) (fun _ _ => rfl)))) pa_nil) (pk_cons pe_int pk_nil)))))), ?_⟩
    try dsimp only [cxOf, Cx.nox, Cx.wish]
    obtain ⟨rs, ht1, ht2⟩ := id ht
    have hrl := My.plen ht2
    walk_at "f"
    refine ⟨4, rfl, by decide, by decide, My.lcM walk_range Same (by decide) (fun D hD => same_new hD) fun D nD => ⟨fun j y H => y = .int (mx 0 (colP ts j)), fun j y H ys o _ h => h, fun H o s => same_at s nD, fun _ _ _ _ => trivial, ?_, ?_⟩⟩
    · rintro i x H2 H3 ys N hi r e l p' ⟨rfl, rfl⟩ hN
      walk_at "f"
      refine ⟨rfl, ?_⟩
      walk_at "f"
      refine My.lcT rfl (SqT.of (r _ _ ht1)) (My.lcM (walk_tup (xs := rs.map V.ref)) Same (by rw [List.length_map]; omega) (fun D hD => same_new hD) fun D2 nD2 => ⟨fun j y H => ∃ p, ts[j]? = some p ∧ y = .int (p.1.getD i 0), fun j y H ys o _ h => h, fun H o s => same_at s nD2, fun H2 _ s _ => My.same_seqT (r.trans s) ht1, ?_, ?_⟩)
      · rintro j x H4 H5 zs N2 hj r2 e2 l2 p2 ⟨rfl, ex⟩ hN2
        rw [List.getElem?_map] at ex
        cases er : rs[j]? with
        | none => rw [er] at ex; cases ex
        | some a =>
          rw [er] at ex
          cases Option.some.inj ex
          obtain ⟨⟨kk, c⟩, ep, q, g1, g2⟩ := My.pget ht2 er
          have s4 := r.trans r2
          refine My.gtup2 (SqT.of (s4 _ _ g1)) rfl ?_
          refine ⟨rfl, ?_⟩
          walk_at "f"
          have hk4 := h4 _ (List.mem_iff_getElem?.mpr ⟨j, ep⟩)
          have hik : (kk.map V.int)[i]? = some (V.int (kk.getD i 0)) := by
            rw [List.getElem?_map, List.getElem?_eq_getElem (show i < kk.length by rw [hk4]; exact hi), List.getD_eq_getElem?_getD, List.getElem?_eq_getElem (show i < kk.length by rw [hk4]; exact hi)]
            rfl
          have ei : (0 + (i : Int)) = (i : Int) := by omega
          rw [ei]
          refine My.ixT (SqT.of (s4 _ _ g2)) (atI_nat hik) ?_
          exact hN2 _ _ r2 e2 p2 ⟨_, ep, rfl⟩
      · intro H4 zs hD2 hl2 r2 hz
        have ez : zs = (colP ts i).map V.int := by
          refine List.ext_getElem? fun j => ?_
          rw [List.getElem?_map, colP, List.getElem?_map]
          by_cases hj : j < zs.length
          · obtain ⟨p, e1, e2⟩ := hz j _ (List.getElem?_eq_getElem hj)
            rw [List.getElem?_eq_getElem hj, e1, e2]; rfl
          · rw [List.getElem?_eq_none (by omega), List.getElem?_eq_none (by rw [List.length_map] at hl2; omega)]; rfl
        walk_at "f"
        rw [ez] at hD2
        refine ⟨D2, colP ts i, 0, rfl, rfl, SqL.of hD2, ?_⟩
        exact hN _ _ (r.trans r2) (r2 _ _ e) p' rfl
    · intro H2 ys hD hl2 s2 hy
      refine k D _ nD s2 ?_
      rw [hD, map_of hl2 hy, greatP, List.map_map]
      rfl
/-- the last unknown that stands in it -/
def topP (ts : Pol) : Option Nat := (List.range 4).foldl (fun acc j => if 0 < mx 0 (colP ts j) then some j else acc) none
def topV (ts : Pol) : V := match topP ts with
  | none => .non
  | some j => .int (j : Nat)
/-- are all unknowns below many -/
def inP (many : Int) (ts : Pol) : Bool := match topP ts with
  | none => true
  | some j => decide ((j : Int) < many)
def spTop (C : Addr) : Sp := fun vs H Q _ => ∃ (a : Addr) (ts : Pol), vs = [.ref a] ∧ PolyAt C H a ts ∧ (∀ p ∈ ts, p.1.length = 4) ∧ ts.length ≤ 1000 ∧ ∀ H', Same H H' → Q (topV ts) H'
/-- an item of a tuple: a polynomial, or none -/
def Itm (K : PySem.W.Frag) (C : Addr) (H : Hp) (v : V) : Option Pol → Prop
  | some ts => ∃ a, v = .ref a ∧ PolyAt C H a ts ∧ (∀ p ∈ ts, p.1.length = 4) ∧ ts.length ≤ 1000
  | none => ∃ t, TgV K H v t ∧ (∀ D, t = .ins D → D ≠ C ∧ PySem.W.kitOne K (.ref D) (.ref C) = some false)
def inO (many : Int) : Option Pol → Bool
  | some ts => inP many ts
  | none => false
def spStands (K : PySem.W.Frag) (C : Addr) : Sp := fun vs H Q _ => ∃ (many : Int) (v : V) (o : Option Pol), vs = [.int many, v] ∧ Itm K C H v o ∧ ∀ H', Same H H' → Q (.bl (inO many o)) H'

theorem sc_top : FnScope ["poly", "found", "k", "high"] ["poly"] (defScope s_top) := ⟨rfl, rfl, rfl, by decide +kernel, rfl, by decide +kernel, by decide +kernel⟩
theorem cal_top {f : Addr} {fd : FuncData} {C fI fE : Addr} (F : FnP K "top" "top" s_top f fd) (g : mg "top" = some (.ref f)) (T : Txt0 mg) (C_greatest_powers : Cal P w K mg base "greatest_powers" 1 ["terms"] spGreat) (PT : PolF K mg C fI fE) : Cal P w K mg base "top" 2 ["poly"] (spTop C) := by
  obtain ⟨f_greatest_powers, fd_greatest_powers, g_greatest_powers, G_greatest_powers, b_greatest_powers, k_greatest_powers⟩ := C_greatest_powers
  refine ⟨f, fd, g, ?_, F.bindsN (fun _ _ _ _ _ _ us hl => match us, hl with | [_], _ => rfl), F.kp⟩
  refine F.ok sc_top (fun vs H Q E h => ?_) (fun cdv A outer s H vs Q E hr h => ?_)
  · obtain ⟨a, ts, rfl, hp, h4, hl, k⟩ := h
    rfl
  · obtain ⟨a, ts, rfl, hp, h4, hl, k⟩ := h
    refine ⟨_, PSs.nox (pss_cons (ps_set (i := 1) sc_top.nd rfl (Or.inl rfl) pe_non)
      (pss_cons (ps_for PassesOwn.never rfl (pi_enum (by rfl) T.enum (pa_cons (pe_call G_greatest_powers (hr.mono (by decide)) (by rfl) g_greatest_powers k_greatest_powers b_greatest_powers .nil pass0 (pa_cons (pe_fld (pv 0) rfl) pa_nil)) pa_nil)) (pg_tup (by rfl) (pgs_cons (pg_name (i := 2) sc_top.nd rfl (Or.inl rfl)) (pgs_cons (pg_name (i := 3) sc_top.nd rfl (Or.inl rfl)) pgs_nil)))
       (pss_one (ps_if (pt_cmpR op_gt (pv 3) pe_int (nomark _))
       (pss_one (ps_set (i := 1) sc_top.nd rfl (Or.inl rfl) (pv 2)))
       pss_nil)))
      (pss_one (ps_ret (pv 1))))), ?_⟩
    try dsimp only [cxOf, Cx.nox, Cx.wish]
    obtain ⟨dx, t, ha, ht⟩ := id hp
    walk_at "f"
    refine My.forEn1 ?_
    walk_at "f"
    have lk : ∀ v : V, ([("terms", v)] : List (Str × V)).lookup ("terms" : Str) = some v := fun v => by simp [List.lookup]
    refine My.fld ha PT.ins.cl PT.na (lk _) rfl ?_
    walk_at "f"
    refine ⟨t, ts, rfl, ht, h4, hl, fun g H1 ng s1 hg => ?_⟩
    have e4 : (greatP ts).map V.int = (List.range 4).map fun j => V.int (mx 0 (colP ts j)) := by rw [greatP, List.map_map]; rfl
    walk_at "f"
    refine My.forEn (SqL.of hg) (fun i σ' H' => Same H H' ∧ H' g = some (.lst ((greatP ts).map V.int)) ∧ ∃ u v, σ' = [some (.ref a), some (match (List.range i).foldl (fun acc j => if 0 < mx 0 (colP ts j) then some j else acc) none with | none => .non | some j => .int (j : Nat)), u, v]) ⟨s1, hg, none, none, rfl⟩ (fun _ _ _ _ z => SqL.of z.2.1) ?_ ?_
    · rintro i x T σ' H2 ex ⟨s2, hg2, u, v, rfl⟩ nT
      rw [e4, List.getElem?_map] at ex
      cases er : (List.range 4)[i]? with
      | none => rw [er] at ex; cases ex
      | some j =>
        rw [er] at ex
        cases Option.some.inj ex
        obtain ⟨hi4, rfl⟩ : i < 4 ∧ j = i := by
          have z := List.getElem?_eq_some_iff.mp er
          exact ⟨by simpa using z.1, by simpa using z.2.symm⟩
        have sT := same_new (o := HO.tup [V.int (j : Nat), V.int (mx 0 (colP ts j))]) nT
        refine My.gtup2 (SqT.of upd_same) rfl ?_
        have s3 := s2.trans sT
        have hg3 := sT _ _ hg2
        generalize upd H2 T _ = H3 at s3 hg3 ⊢
        walk_at "f"
        · rename_i hpos
          refine ⟨s3, hg3, some (.int (j : Nat)), some (.int (mx 0 (colP ts j))), ?_⟩
          rw [List.range_succ, List.foldl_append]
          simp only [List.foldl_cons, List.foldl_nil, if_pos hpos]
          rfl
        · rename_i hpos
          refine ⟨s3, hg3, some (.int (j : Nat)), some (.int (mx 0 (colP ts j))), ?_⟩
          rw [List.range_succ, List.foldl_append]
          simp only [List.foldl_cons, List.foldl_nil, if_neg hpos]
          rfl
    · rintro σ' H2 ⟨s2, hg2, u, v, rfl⟩
      rw [e4, List.length_map]
      walk_at "f"
      exact k _ s2
theorem sc_stands_in : FnScope ["many", "thing", "highest"] ["many", "thing"] (defScope s_stands_in) := ⟨rfl, rfl, rfl, by decide +kernel, rfl, by decide +kernel, by decide +kernel⟩
theorem cal_stands_in {f : Addr} {fd : FuncData} {C fI fE : Addr} (F : FnP K "stands_in" "stands_in" s_stands_in f fd) (g : mg "stands_in" = some (.ref f)) (T : Txt0 mg) (C_top : Cal P w K mg base "top" 2 ["poly"] (spTop C)) (PT : PolF K mg C fI fE) : Cal P w K mg base "stands_in" 3 ["many", "thing"] (spStands K C) := by
  obtain ⟨f_top, fd_top, g_top, G_top, b_top, k_top⟩ := C_top
  refine ⟨f, fd, g, ?_, F.bindsN (fun _ _ _ _ _ _ us hl => match us, hl with | [_, _], _ => rfl), F.kp⟩
  refine F.ok sc_stands_in (fun vs H Q E h => ?_) (fun cdv A outer s H vs Q E hr h => ?_)
  · obtain ⟨many, v, o, rfl, hv, k⟩ := h
    rfl
  · obtain ⟨many, v, o, rfl, hv, k⟩ := h
    have gPoly := PT.g
    refine ⟨_, PSs.nox (pss_cons (ps_if (pt_not (pt_val (pe_callB call_isi (by rfl) T.isi (by decide +kernel) (pa_cons (pv 1) (pa_cons (pe_glob (v := .ref C) (by rfl) gPoly rfl) pa_nil)))))
       (pss_one (ps_ret pe_bl))
       pss_nil)
      (pss_cons (ps_set (i := 2) sc_stands_in.nd rfl (Or.inl rfl) (pe_call G_top (hr.mono (by decide)) (by rfl) g_top k_top b_top .nil pass0 (pa_cons (pv 1) pa_nil)))
      (pss_one (ps_ret (pe_or (pe_cmpR DX.op_isNn (pv 2) pe_non (nomark _)) (pe_one (pe_cmpR op_lt (pv 2) (pv 0) (nomark _)))))))), ?_⟩
    try dsimp only [cxOf, Cx.nox, Cx.wish]
    walk_at "f"
    cases o with
    | none =>
      obtain ⟨t, tv, ne⟩ := hv
      have z : t.isC C = false := decide_eq_false fun e => (ne C e).1 rfl
      refine tv.isOwn PT.cn (fun D e => .inr (ne D e).2) ?_
      rw [z]
      walk_at "f"
      exact k _ (.refl _)
    | some ts =>
      obtain ⟨a, rfl, hp, h4, hl⟩ := hv
      obtain ⟨dx, t, ha, ht⟩ := id hp
      refine (TgV.ins ha PT.ins).isOwn PT.cn (fun D e => by injection e with e; exact .inl e.symm) ?_
      rw [show (Tg.ins C).isC C = true from decide_eq_true rfl]
      walk_at "f"
      refine ⟨a, ts, rfl, hp, h4, hl, fun H1 s1 => ?_⟩
      have kk := k _ s1
      have e : inO many (some ts) = (match topP ts with | none => true | some j => decide ((j : Int) < many)) := rfl
      rw [e] at kk
      unfold topV
      walk_at "f"
      refine ⟨rfl, ?_⟩
      cases e2 : topP ts with
      | none =>
        rw [e2] at kk
        walk_at "f"
        · exact kk
        · rename_i z
          exact absurd rfl z
      | some j =>
        rw [e2] at kk
        walk_at "f"
        · rename_i z
          cases z
        · exact kk
end
end K23

/-! counts of polynomials over stretches: two ways to write them -/
set_option linter.all false
namespace BM
/-- how many ways -/
def ch : Nat → Nat → Int
  | _, 0 => 1
  | 0, _ + 1 => 0
  | n + 1, k + 1 => ch n (k + 1) + ch n k
theorem ch_zero (n : Nat) : ch n 0 = 1 := by cases n <;> rfl
theorem ch_succ (n k : Nat) : ch (n + 1) (k + 1) = ch n (k + 1) + ch n k := rfl
theorem ch_above : ∀ {n k : Nat}, n < k → ch n k = 0
  | 0, k + 1, _ => rfl
  | n + 1, k + 1, h => by rw [ch_succ, ch_above (by omega : n < k + 1), ch_above (by omega : n < k)]; rfl
theorem ch_nonneg : ∀ (n k : Nat), 0 ≤ ch n k
  | _, 0 => by rw [ch_zero]; decide
  | 0, _ + 1 => Int.le_refl 0
  | n + 1, k + 1 => by
    have h1 := ch_nonneg n (k + 1)
    have h2 := ch_nonneg n k
    rw [ch_succ]; omega
theorem ch_pos : ∀ {n k : Nat}, k ≤ n → 0 < ch n k
  | _, 0, _ => by rw [ch_zero]; decide
  | 0, _ + 1, h => absurd h (by omega)
  | n + 1, k + 1, h => by
    have h1 := ch_nonneg n (k + 1)
    have h2 := ch_pos (n := n) (k := k) (by omega)
    rw [ch_succ]; omega
/-- made from one less: as the loop does it -/
theorem ch_step : ∀ (n k : Nat), ((k : Int) + 1) * ch n (k + 1) = ((n : Int) - k) * ch n k
  | 0, 0 => by simp [ch]
  | 0, k + 1 => by simp [ch]
  | n + 1, 0 => by
    have h := ch_step n 0
    rw [ch_succ, ch_zero, ch_zero] at *
    simp at h ⊢
    omega
  | n + 1, k + 1 => by
    have h1 := ch_step n (k + 1)
    have h2 := ch_step n k
    rw [ch_succ n (k + 1), ch_succ n k]
    push_cast at *
    grind
def sm : Nat → (Nat → Int) → Int
  | 0, _ => 0
  | n + 1, f => sm n f + f n
theorem sm_front (f : Nat → Int) : ∀ n, sm (n + 1) f = f 0 + sm n fun t => f (t + 1)
  | 0 => by simp [sm]
  | n + 1 => by
    have h := sm_front f n
    rw [show sm (n + 1 + 1) f = sm (n + 1) f + f (n + 1) from rfl, h]
    show _ = f 0 + (sm n (fun t => f (t + 1)) + f (n + 1))
    omega
theorem sm_congr {f g : Nat → Int} : ∀ {n : Nat}, (∀ t, t < n → f t = g t) → sm n f = sm n g
  | 0, _ => rfl
  | n + 1, h => by
    show sm n f + f n = sm n g + g n
    rw [sm_congr fun t ht => h t (by omega), h n (by omega)]
theorem sm_add (f g : Nat → Int) : ∀ n, sm n (fun t => f t + g t) = sm n f + sm n g
  | 0 => rfl
  | n + 1 => by
    have := sm_add f g n
    simp only [sm]
    omega
theorem sm_mul (c : Int) (f : Nat → Int) : ∀ n, sm n (fun t => c * f t) = c * sm n f
  | 0 => by simp [sm]
  | n + 1 => by
    have := sm_mul c f n
    simp only [sm, this, Int.mul_add]
theorem sm_zero {f : Nat → Int} : ∀ {n : Nat}, (∀ t, t < n → f t = 0) → sm n f = 0
  | 0, _ => rfl
  | n + 1, h => by
    show sm n f + f n = 0
    rw [sm_zero fun t ht => h t (by omega), h n (by omega)]; rfl
section
variable (L H : Int)
/-- the law's sum -/
def qt (i m j : Nat) (t : Nat) : Int := ch i t * ch m (j - t) * (H ^ t * L ^ (j - t))
def q (i m j : Nat) : Int := sm (j + 1) (qt L H i m j)
theorem q_i0 (i m : Nat) : q L H i m 0 = 1 := by simp [q, sm, qt, ch_zero]
theorem q_left (i m j : Nat) : q L H (i + 1) m (j + 1) = q L H i m (j + 1) + H * q L H i m j := by
  unfold q
  rw [sm_front _ (j + 1), sm_front _ (j + 1)]
  have e0 : qt L H (i + 1) m (j + 1) 0 = qt L H i m (j + 1) 0 := by simp [qt, ch_zero]
  have e : sm (j + 1) (fun t => qt L H (i + 1) m (j + 1) (t + 1)) = sm (j + 1) (fun t => qt L H i m (j + 1) (t + 1) + H * qt L H i m j t) := by
    refine sm_congr fun t ht => ?_
    simp only [qt, ch_succ, Nat.add_sub_add_right, Int.pow_succ]
    grind
  rw [e0, e, sm_add, sm_mul]
  omega
theorem q_right (i m j : Nat) : q L H i (m + 1) (j + 1) = q L H i m (j + 1) + L * q L H i m j := by
  unfold q
  show sm (j + 1) (qt L H i (m + 1) (j + 1)) + qt L H i (m + 1) (j + 1) (j + 1) = (sm (j + 1) (qt L H i m (j + 1)) + qt L H i m (j + 1) (j + 1)) + L * sm (j + 1) (qt L H i m j)
  have e : sm (j + 1) (qt L H i (m + 1) (j + 1)) = sm (j + 1) (fun t => qt L H i m (j + 1) t + L * qt L H i m j t) := by
    refine sm_congr fun t ht => ?_
    simp only [qt]
    rw [show j + 1 - t = (j - t) + 1 by omega, ch_succ, Int.pow_succ]
    grind
  have e1 : qt L H i (m + 1) (j + 1) (j + 1) = qt L H i m (j + 1) (j + 1) := by simp [qt, ch_zero]
  rw [e, e1, sm_add, sm_mul]
  omega
/-- the coefficient at i of (L + H t) ^ j (1 + t) ^ n -/
def cg : Nat → Nat → Nat → Int
  | n, 0, i => ch n i
  | n, j + 1, 0 => L * cg n j 0
  | n, j + 1, i + 1 => L * cg n j (i + 1) + H * cg n j i
theorem cg_n (n : Nat) : ∀ (j i : Nat), cg L H (n + 1) j (i + 1) = cg L H n j (i + 1) + cg L H n j i
  | 0, i => by simp only [cg, ch_succ]
  | j + 1, 0 => by
    have h0 := cg_n n j 0
    have z : cg L H (n + 1) j 0 = cg L H n j 0 := by
      clear h0
      induction j with
      | zero => simp [cg, ch_zero]
      | succ j ih => simp only [cg, ih]
    simp only [cg, h0, z]
    grind
  | j + 1, i + 1 => by
    have h0 := cg_n n j (i + 1)
    have h1 := cg_n n j i
    simp only [cg, h0, h1]
    grind
theorem cg_n0 (n j : Nat) : cg L H (n + 1) j 0 = cg L H n j 0 := by
  induction j with
  | zero => simp [cg, ch_zero]
  | succ j ih => simp only [cg, ih]
theorem cg_above : ∀ {n j i : Nat}, n + j < i → cg L H n j i = 0
  | n, 0, i, h => ch_above h
  | n, j + 1, 0, h => absurd h (by omega)
  | n, j + 1, i + 1, h => by
    simp only [cg]
    rw [cg_above (by omega : n + j < i + 1), cg_above (by omega : n + j < i)]
    simp
/-- both ways -/
theorem two_ways : ∀ (D i j : Nat), i ≤ D → j ≤ D → ch D j * cg L H (D - j) j i = ch D i * q L H i (D - i) j
  | 0, i, j, hi, hj => by
    obtain rfl : i = 0 := by omega
    obtain rfl : j = 0 := by omega
    simp [cg, q, sm, qt, ch]
  | D + 1, 0, 0, _, _ => by simp [cg, q_i0, ch_zero]
  | D + 1, i + 1, 0, _, _ => by simp [cg, q_i0, ch_zero]
  | D + 1, 0, j + 1, _, hj => by
    have e1 : D + 1 - (j + 1) = D - j := by omega
    rw [e1, ch_zero, ch_succ, Nat.sub_zero, q_right]
    have hB := two_ways D 0 j (Nat.zero_le _) (by omega)
    rw [ch_zero, Nat.sub_zero] at hB
    simp only [cg] at *
    rcases Nat.lt_or_ge j D with g | g
    · have hA := two_ways D 0 (j + 1) (Nat.zero_le _) (by omega)
      rw [ch_zero, Nat.sub_zero] at hA
      simp only [cg] at hA
      rw [show D - j = D - (j + 1) + 1 by omega, cg_n0] at *
      grind
    · have hA : q L H 0 D (j + 1) = 0 := by
        refine sm_zero fun t ht => ?_
        rcases t with _ | t
        · simp only [qt, Nat.sub_zero, ch_above (by omega : D < j + 1)]; simp
        · simp [qt, ch]
      rw [ch_above (by omega : D < j + 1), hA]
      grind
  | D + 1, i + 1, j + 1, hi, hj => by
    have e1 : D + 1 - (j + 1) = D - j := by omega
    have e2 : D + 1 - (i + 1) = D - i := by omega
    rw [e1, e2, ch_succ D j, ch_succ D i]
    -- the four neighbours
    have hB := two_ways D i j (by omega) (by omega)
    have key1 : ch D (j + 1) * cg L H (D - j) (j + 1) (i + 1) = (if j + 1 ≤ D then ch D (j + 1) * cg L H (D - (j + 1)) (j + 1) (i + 1) + ch D (j + 1) * cg L H (D - (j + 1)) (j + 1) i else 0) := by
      split
      · rename_i g
        rw [show D - j = D - (j + 1) + 1 by omega, cg_n]
        grind
      · rw [ch_above (by omega : D < j + 1)]; simp
    have key2 : ch D (i + 1) * q L H (i + 1) (D - i) (j + 1) = (if i + 1 ≤ D then ch D (i + 1) * q L H (i + 1) (D - (i + 1)) (j + 1) + L * (ch D (i + 1) * q L H (i + 1) (D - (i + 1)) j) else 0) := by
      split
      · rename_i g
        rw [show D - i = D - (i + 1) + 1 by omega, q_right]
        grind
      · rw [ch_above (by omega : D < i + 1)]; simp
    have key3 : ch D i * q L H (i + 1) (D - i) (j + 1) = ch D i * q L H i (D - i) (j + 1) + H * (ch D i * q L H i (D - i) j) := by
      rw [q_left]; grind
    have key4 : ch D j * cg L H (D - j) (j + 1) (i + 1) = L * (ch D j * cg L H (D - j) j (i + 1)) + H * (ch D j * cg L H (D - j) j i) := by
      simp only [cg]; grind
    have l1 : (ch D j + 0) = ch D j := by omega
    -- what is above
    have o1 : D < j + 1 → ch D i * q L H i (D - i) (j + 1) = 0 := fun g => by
      have : q L H i (D - i) (j + 1) = 0 := by
        refine sm_zero fun t ht => ?_
        simp only [qt]
        rcases Nat.lt_or_ge i t with z | z
        · rw [ch_above z]; simp
        · rw [ch_above (by omega : D - i < j + 1 - t)]; simp
      rw [this]; simp
    have o2 : D < i + 1 → ch D j * cg L H (D - j) j (i + 1) = 0 := fun g => by rw [cg_above L H (by omega)]; simp
    have n1 : j + 1 ≤ D → ch D (j + 1) * cg L H (D - (j + 1)) (j + 1) i = ch D i * q L H i (D - i) (j + 1) := fun g => two_ways D i (j + 1) (by omega) g
    have n2 : i + 1 ≤ D → ch D j * cg L H (D - j) j (i + 1) = ch D (i + 1) * q L H (i + 1) (D - (i + 1)) j := fun g => two_ways D (i + 1) j g (by omega)
    have n3 : j + 1 ≤ D → i + 1 ≤ D → ch D (j + 1) * cg L H (D - (j + 1)) (j + 1) (i + 1) = ch D (i + 1) * q L H (i + 1) (D - (i + 1)) (j + 1) := fun g g' => two_ways D (i + 1) (j + 1) g' g
    have o3 : D < i + 1 → j + 1 ≤ D → ch D (j + 1) * cg L H (D - (j + 1)) (j + 1) (i + 1) = 0 := fun g g' => by rw [cg_above L H (by omega)]; simp
    have o4 : D < j + 1 → i + 1 ≤ D → ch D (i + 1) * q L H (i + 1) (D - (i + 1)) (j + 1) = 0 := fun g g' => by
      have : q L H (i + 1) (D - (i + 1)) (j + 1) = 0 := by
        refine sm_zero fun t ht => ?_
        simp only [qt]
        rcases Nat.lt_or_ge (i + 1) t with z | z
        · rw [ch_above z]; simp
        · rw [ch_above (by omega : D - (i + 1) < j + 1 - t)]; simp
      rw [this]; simp
    rw [Int.add_mul, Int.add_mul, key1, key2, key3, key4]
    by_cases g1 : j + 1 ≤ D <;> by_cases g2 : i + 1 ≤ D
    · rw [if_pos g1, if_pos g2, n1 g1, n2 g2, n3 g1 g2, hB]; omega
    · rw [if_pos g1, if_neg g2, n1 g1, o2 (by omega), o3 (by omega) g1, hB]; omega
    · rw [if_neg g1, if_pos g2, o1 (by omega), n2 g2, o4 (by omega) g2, hB]; omega
    · rw [if_neg g1, if_neg g2, o1 (by omega), o2 (by omega), hB]; omega
end
theorem cg_scale (c L H : Int) : ∀ (n j i : Nat), cg (c * L) (c * H) n j i = c ^ j * cg L H n j i
  | n, 0, i => by simp [cg]
  | n, j + 1, 0 => by
    simp only [cg, cg_scale c L H n j 0, Int.pow_succ]
    grind
  | n, j + 1, i + 1 => by
    simp only [cg, cg_scale c L H n j i, cg_scale c L H n j (i + 1), Int.pow_succ]
    grind
end BM

set_option linter.all false
namespace BM
/-- one stretch: how high, the ends over a common bottom as one takes them and as the other -/
structure Dm where
  D : Nat
  L : Int
  H : Int
  U : Int
  l : Int
  h : Int
  u : Int
structure Dm.Ok (d : Dm) : Prop where
  U : 0 < d.U
  u : 0 < d.u
  eL : d.L * d.u = d.l * d.U
  eH : d.H * d.u = d.h * d.U
/-- the weight of a power at a place of the row -/
def wt (d : Dm) (j i : Nat) : Int := d.U ^ (d.D - j) * cg d.L d.H (d.D - j) j i
/-- what the law multiplies: above, below -/
def pa (d : Dm) (j i : Nat) : Int := q d.l d.h i (d.D - i) j
def pb (d : Dm) (j : Nat) : Int := d.u ^ j * ch d.D j
def kap (d : Dm) (i : Nat) : Int := d.U ^ d.D * ch d.D i
theorem pow_pos {a : Int} (h : 0 < a) : ∀ n : Nat, 0 < a ^ n
  | 0 => by simp
  | n + 1 => by rw [Int.pow_succ]; exact Int.mul_pos (pow_pos h n) h
theorem pow_nonneg {a : Int} (h : 0 ≤ a) : ∀ n : Nat, 0 ≤ a ^ n
  | 0 => by simp
  | n + 1 => by rw [Int.pow_succ]; exact Int.mul_nonneg (pow_nonneg h n) h
theorem mul_pow (a b : Int) : ∀ n : Nat, (a * b) ^ n = a ^ n * b ^ n
  | 0 => by simp
  | n + 1 => by rw [Int.pow_succ, Int.pow_succ, Int.pow_succ, mul_pow a b n]; grind
theorem one_dim {d : Dm} (ok : d.Ok) {i j : Nat} (hi : i ≤ d.D) (hj : j ≤ d.D) : wt d j i * pb d j = kap d i * pa d j i := by
  have t := two_ways d.l d.h d.D i j hi hj
  have s1 := cg_scale d.u d.L d.H (d.D - j) j i
  have s2 := cg_scale d.U d.l d.h (d.D - j) j i
  rw [show d.u * d.L = d.U * d.l by rw [Int.mul_comm, ok.eL, Int.mul_comm], show d.u * d.H = d.U * d.h by rw [Int.mul_comm, ok.eH, Int.mul_comm]] at s1
  have e : d.U ^ d.D = d.U ^ (d.D - j) * d.U ^ j := by rw [← Int.pow_add]; congr 1; omega
  unfold wt pb kap pa
  rw [e]
  have e2 : d.u ^ j * cg d.L d.H (d.D - j) j i = d.U ^ j * cg d.l d.h (d.D - j) j i := by rw [← s1, s2]
  calc d.U ^ (d.D - j) * cg d.L d.H (d.D - j) j i * (d.u ^ j * ch d.D j)
      = d.U ^ (d.D - j) * ch d.D j * (d.u ^ j * cg d.L d.H (d.D - j) j i) := by grind
    _ = d.U ^ (d.D - j) * ch d.D j * (d.U ^ j * cg d.l d.h (d.D - j) j i) := by rw [e2]
    _ = d.U ^ (d.D - j) * d.U ^ j * (ch d.D j * cg d.l d.h (d.D - j) j i) := by grind
    _ = _ := by rw [t]; grind
theorem pb_pos {d : Dm} (ok : d.Ok) {j : Nat} (hj : j ≤ d.D) : 0 < pb d j := Int.mul_pos (pow_pos ok.u _) (ch_pos hj)
theorem kap_pos {d : Dm} (ok : d.Ok) {i : Nat} (hi : i ≤ d.D) : 0 < kap d i := Int.mul_pos (pow_pos ok.U _) (ch_pos hi)
/-! ### all stretches -/
def wtA : List Dm → List Nat → List Nat → Int
  | d :: ds, J, I => wt d (J.headD 0) (I.headD 0) * wtA ds J.tail I.tail
  | [], _, _ => 1
def paA : List Dm → List Nat → List Nat → Int
  | d :: ds, J, I => pa d (J.headD 0) (I.headD 0) * paA ds J.tail I.tail
  | [], _, _ => 1
def pbA : List Dm → List Nat → Int
  | d :: ds, J => pb d (J.headD 0) * pbA ds J.tail
  | [], _ => 1
def kapA : List Dm → List Nat → Int
  | d :: ds, I => kap d (I.headD 0) * kapA ds I.tail
  | [], _ => 1
/-- not above the degrees -/
def Wi : List Dm → List Nat → Prop
  | d :: ds, J => J.headD 0 ≤ d.D ∧ Wi ds J.tail
  | [], _ => True
theorem all_dim : ∀ {ds : List Dm} {J I : List Nat}, (∀ d ∈ ds, d.Ok) → Wi ds J → Wi ds I → wtA ds J I * pbA ds J = kapA ds I * paA ds J I
  | [], _, _, _, _, _ => rfl
  | d :: ds, J, I, ok, hJ, hI => by
    have h1 := one_dim (ok d List.mem_cons_self) hI.1 hJ.1
    have h2 := all_dim (fun d hd => ok d (List.mem_cons_of_mem _ hd)) hJ.2 hI.2
    simp only [wtA, pbA, kapA, paA]
    calc wt d (J.headD 0) (I.headD 0) * wtA ds J.tail I.tail * (pb d (J.headD 0) * pbA ds J.tail)
        = (wt d (J.headD 0) (I.headD 0) * pb d (J.headD 0)) * (wtA ds J.tail I.tail * pbA ds J.tail) := by grind
      _ = _ := by rw [h1, h2]; grind
theorem pbA_pos : ∀ {ds : List Dm} {J : List Nat}, (∀ d ∈ ds, d.Ok) → Wi ds J → 0 < pbA ds J
  | [], _, _, _ => show (0 : Int) < 1 by decide
  | d :: ds, J, ok, h => Int.mul_pos (pb_pos (ok d List.mem_cons_self) h.1) (pbA_pos (fun d hd => ok d (List.mem_cons_of_mem _ hd)) h.2)
theorem kapA_pos : ∀ {ds : List Dm} {I : List Nat}, (∀ d ∈ ds, d.Ok) → Wi ds I → 0 < kapA ds I
  | [], _, _, _ => show (0 : Int) < 1 by decide
  | d :: ds, J, ok, h => Int.mul_pos (kap_pos (ok d List.mem_cons_self) h.1) (kapA_pos (fun d hd => ok d (List.mem_cons_of_mem _ hd)) h.2)
abbrev PolN := List (List Nat × Int)
/-- the row's count -/
def rowV (ds : List Dm) (m : PolN) (I : List Nat) : Int := (m.map fun p => p.2 * wtA ds p.1 I).sum
/-- sums of fractions as the law makes them -/
def fr (l : List (Int × Int)) : Int × Int := l.foldl (fun a p => (a.1 * p.2 + p.1 * a.2, a.2 * p.2)) (0, 1)
theorem fr_rel {α : Type} (k : Int) (r : α → Int) (f : α → Int × Int) : ∀ (l : List α) (R : Int) (a : Int × Int), R * a.2 = k * a.1 → 0 < a.2 → (∀ x ∈ l, r x * (f x).2 = k * (f x).1 ∧ 0 < (f x).2) →
    let z := (l.map f).foldl (fun a p => (a.1 * p.2 + p.1 * a.2, a.2 * p.2)) a
    (R + (l.map r).sum) * z.2 = k * z.1 ∧ 0 < z.2
  | [], R, a, h, h0, _ => by simpa using ⟨h, h0⟩
  | x :: l, R, a, h, h0, hx => by
    obtain ⟨h1, h2⟩ := hx x List.mem_cons_self
    have z := fr_rel k r f l (R + r x) (a.1 * (f x).2 + (f x).1 * a.2, a.2 * (f x).2) (by
      show (R + r x) * (a.2 * (f x).2) = k * (a.1 * (f x).2 + (f x).1 * a.2)
      calc (R + r x) * (a.2 * (f x).2) = (R * a.2) * (f x).2 + a.2 * (r x * (f x).2) := by grind
        _ = _ := by rw [h, h1]; grind) (Int.mul_pos h0 h2) fun y hy => hx y (List.mem_cons_of_mem _ hy)
    simp only [List.map_cons, List.foldl_cons, List.sum_cons]
    rw [show R + (r x + (l.map r).sum) = R + r x + (l.map r).sum by omega]
    exact z
/-- the law's count at I: above, below -/
def lawC (ds : List Dm) (m : PolN) (I : List Nat) : Int × Int := fr (m.map fun p => (p.2 * paA ds p.1 I, pbA ds p.1))
theorem lawC_row {ds : List Dm} {m : PolN} {I : List Nat} (ok : ∀ d ∈ ds, d.Ok) (hm : ∀ p ∈ m, Wi ds p.1) (hI : Wi ds I) : rowV ds m I * (lawC ds m I).2 = kapA ds I * (lawC ds m I).1 ∧ 0 < (lawC ds m I).2 := by
  have z := fr_rel (kapA ds I) (fun p : List Nat × Int => p.2 * wtA ds p.1 I) (fun p => (p.2 * paA ds p.1 I, pbA ds p.1)) m 0 (0, 1) (by simp) (by decide) fun p hp => by
    refine ⟨?_, pbA_pos ok (hm p hp)⟩
    have e := all_dim ok (hm p hp) hI
    show p.2 * wtA ds p.1 I * pbA ds p.1 = kapA ds I * (p.2 * paA ds p.1 I)
    calc p.2 * wtA ds p.1 I * pbA ds p.1 = p.2 * (wtA ds p.1 I * pbA ds p.1) := by grind
      _ = _ := by rw [e]; grind
  rw [Int.zero_add] at z
  exact z
theorem pos_of {a b c d : Int} (e : a * b = c * d) (hb : 0 < b) (hc : 0 < c) : (0 < a ↔ 0 < d) ∧ (a < 0 ↔ d < 0) := by
  have p1 : 0 < a → 0 < d := fun h => by
    have : 0 < c * d := by rw [← e]; exact Int.mul_pos h hb
    rw [Int.mul_comm] at this
    exact Int.pos_of_mul_pos_left this hc
  have p2 : a < 0 → d < 0 := fun h => by
    have h1 : 0 < (-a) * b := Int.mul_pos (by omega) hb
    have h2 : 0 < c * (-d) := by rw [Int.mul_neg, ← e, ← Int.neg_mul]; exact h1
    rw [Int.mul_comm] at h2
    have := Int.pos_of_mul_pos_left h2 hc
    omega
  have p3 : a = 0 → d = 0 := fun h => by
    rw [h, Int.zero_mul] at e
    rcases Int.mul_eq_zero.mp e.symm with z | z
    · omega
    · exact z
  refine ⟨⟨p1, fun h => ?_⟩, ⟨p2, fun h => ?_⟩⟩
  · rcases Int.lt_trichotomy a 0 with g | g | g
    · have := p2 g; omega
    · have := p3 g; omega
    · exact g
  · rcases Int.lt_trichotomy a 0 with g | g | g
    · exact g
    · have := p3 g; omega
    · have := p1 g; omega
theorem lawC_sign {ds : List Dm} {m : PolN} {I : List Nat} (ok : ∀ d ∈ ds, d.Ok) (hm : ∀ p ∈ m, Wi ds p.1) (hI : Wi ds I) : (0 < rowV ds m I ↔ 0 < (lawC ds m I).1) ∧ (rowV ds m I < 0 ↔ (lawC ds m I).1 < 0) :=
  pos_of (lawC_row ok hm hI).1 (lawC_row ok hm hI).2 (kapA_pos ok hI)
end BM

set_option linter.all false
namespace BM
/-! ### at points -/
theorem dim_sum (L H s t : Int) : ∀ (j n : Nat), sm (n + j + 1) (fun i => cg L H n j i * (s ^ i * t ^ (n + j - i))) = (L * t + H * s) ^ j * (t + s) ^ n
  | 0, n => by
    rw [Int.pow_zero, Int.one_mul]
    induction n with
    | zero => simp [sm, cg, ch]
    | succ n ih =>
      show sm (n + 1 + 1) (fun i => cg L H (n + 1) 0 i * (s ^ i * t ^ (n + 1 - i))) = _
      rw [sm_front]
      have e : sm (n + 1) (fun i => cg L H (n + 1) 0 (i + 1) * (s ^ (i + 1) * t ^ (n + 1 - (i + 1)))) = s * sm (n + 1) (fun i => cg L H n 0 i * (s ^ i * t ^ (n + 0 - i))) + sm (n + 1) (fun i => cg L H n 0 (i + 1) * (s ^ (i + 1) * t ^ (n - i))) := by
        rw [← sm_mul, ← sm_add]
        refine sm_congr fun i hi => ?_
        rw [cg_n, Nat.add_sub_add_right, Int.pow_succ]
        grind
      have e2 : cg L H (n + 1) 0 0 * (s ^ 0 * t ^ (n + 1 - 0)) + sm (n + 1) (fun i => cg L H n 0 (i + 1) * (s ^ (i + 1) * t ^ (n - i))) = t * sm (n + 1) (fun i => cg L H n 0 i * (s ^ i * t ^ (n + 0 - i))) := by
        have fr := sm_front (fun i => cg L H n 0 i * (s ^ i * t ^ (n + 0 - i))) n
        have l : sm (n + 1) (fun i => cg L H n 0 (i + 1) * (s ^ (i + 1) * t ^ (n - i))) = sm n (fun i => cg L H n 0 (i + 1) * (s ^ (i + 1) * t ^ (n - i))) := by
          show sm n _ + cg L H n 0 (n + 1) * _ = _
          rw [cg_above L H (by omega)]; simp
        have f : sm n (fun i => cg L H n 0 (i + 1) * (s ^ (i + 1) * t ^ (n - i))) = sm n (fun i => t * (cg L H n 0 (i + 1) * (s ^ (i + 1) * t ^ (n + 0 - (i + 1))))) := by
          refine sm_congr fun i hi => ?_
          rw [show n - i = (n + 0 - (i + 1)) + 1 by omega, Int.pow_succ]
          grind
        rw [l, fr, f, sm_mul, cg_n0, show n + 1 - 0 = (n + 0 - 0) + 1 by omega, Int.pow_succ]
        grind
      rw [e, Int.pow_succ, ← ih]
      have : (fun i => cg L H n 0 i * (s ^ i * t ^ (n + 0 - i))) = fun i => cg L H n 0 i * (s ^ i * t ^ (n + 0 - i)) := rfl
      grind
  | j + 1, n => by
    have ih := dim_sum L H s t j n
    show sm (n + j + 1 + 1) (fun i => cg L H n (j + 1) i * (s ^ i * t ^ (n + (j + 1) - i))) = _
    rw [sm_front]
    have e : sm (n + j + 1) (fun i => cg L H n (j + 1) (i + 1) * (s ^ (i + 1) * t ^ (n + (j + 1) - (i + 1)))) = H * s * sm (n + j + 1) (fun i => cg L H n j i * (s ^ i * t ^ (n + j - i))) + L * sm (n + j + 1) (fun i => cg L H n j (i + 1) * (s ^ (i + 1) * t ^ (n + j - i))) := by
      rw [← sm_mul, ← sm_mul, ← sm_add]
      refine sm_congr fun i hi => ?_
      simp only [cg]
      rw [show n + (j + 1) - (i + 1) = n + j - i by omega, Int.pow_succ]
      grind
    have l : sm (n + j + 1) (fun i => cg L H n j (i + 1) * (s ^ (i + 1) * t ^ (n + j - i))) = sm (n + j) (fun i => cg L H n j (i + 1) * (s ^ (i + 1) * t ^ (n + j - i))) := by
      show sm (n + j) _ + cg L H n j (n + j + 1) * _ = _
      rw [cg_above L H (by omega)]; simp
    have f : sm (n + j) (fun i => cg L H n j (i + 1) * (s ^ (i + 1) * t ^ (n + j - i))) = sm (n + j) (fun i => t * (cg L H n j (i + 1) * (s ^ (i + 1) * t ^ (n + j - (i + 1))))) := by
      refine sm_congr fun i hi => ?_
      rw [show n + j - i = (n + j - (i + 1)) + 1 by omega, Int.pow_succ]
      grind
    have g : sm (n + j + 1) (fun i => cg L H n j i * (s ^ i * t ^ (n + j - i))) = cg L H n j 0 * (s ^ 0 * t ^ (n + j - 0)) + sm (n + j) (fun i => cg L H n j (i + 1) * (s ^ (i + 1) * t ^ (n + j - (i + 1)))) := sm_front _ _
    rw [e, l, f, sm_mul]
    simp only [cg]
    rw [show n + (j + 1) - 0 = (n + j - 0) + 1 by omega, Int.pow_succ, Int.pow_succ]
    have ih2 := ih
    rw [g] at ih2 ⊢
    calc L * cg L H n j 0 * (s ^ 0 * (t ^ (n + j - 0) * t)) + (H * s * (cg L H n j 0 * (s ^ 0 * t ^ (n + j - 0)) + sm (n + j) (fun i => cg L H n j (i + 1) * (s ^ (i + 1) * t ^ (n + j - (i + 1))))) + L * (t * sm (n + j) (fun i => cg L H n j (i + 1) * (s ^ (i + 1) * t ^ (n + j - (i + 1))))))
        = (L * t + H * s) * (cg L H n j 0 * (s ^ 0 * t ^ (n + j - 0)) + sm (n + j) (fun i => cg L H n j (i + 1) * (s ^ (i + 1) * t ^ (n + j - (i + 1))))) := by grind
      _ = _ := by rw [ih2]; grind
/-- a place in a stretch: s parts of m; the place itself n by b -/
structure Pt where
  s : Int
  m : Int
  n : Int
  b : Int
structure Pt.Ok (p : Pt) (d : Dm) : Prop where
  s0 : 0 ≤ p.s
  s1 : p.s ≤ p.m
  m : 0 < p.m
  b : 0 < p.b
  e : p.n * (d.u * p.m) = p.b * (d.l * (p.m - p.s) + d.h * p.s)
/-- the same by the other bottom -/
theorem Pt.Ok.e' {p : Pt} {d : Dm} (h : p.Ok d) (ok : d.Ok) : p.n * (d.U * p.m) = p.b * (d.L * (p.m - p.s) + d.H * p.s) := by
  have z : d.u * (p.n * (d.U * p.m)) = d.u * (p.b * (d.L * (p.m - p.s) + d.H * p.s)) := by
    calc d.u * (p.n * (d.U * p.m)) = d.U * (p.n * (d.u * p.m)) := by grind
      _ = p.b * ((d.l * d.U) * (p.m - p.s) + (d.h * d.U) * p.s) := by rw [h.e]; grind
      _ = _ := by rw [← ok.eL, ← ok.eH]; grind
  exact Int.eq_of_mul_eq_mul_left (by have := ok.u; omega) z
def xs (d : Dm) (p : Pt) : Int := d.L * (p.m - p.s) + d.H * p.s
/-- how much a count weighs at the place -/
def sh (d : Dm) (p : Pt) (i : Nat) : Int := p.s ^ i * (p.m - p.s) ^ (d.D - i)
theorem sm_wt {d : Dm} {p : Pt} {j : Nat} (hj : j ≤ d.D) : sm (d.D + 1) (fun i => wt d j i * sh d p i) = xs d p ^ j * (d.U * p.m) ^ (d.D - j) := by
  have z := dim_sum d.L d.H p.s (p.m - p.s) j (d.D - j)
  rw [show d.D - j + j + 1 = d.D + 1 by omega, show d.D - j + j = d.D by omega] at z
  have e : sm (d.D + 1) (fun i => wt d j i * sh d p i) = d.U ^ (d.D - j) * sm (d.D + 1) (fun i => cg d.L d.H (d.D - j) j i * (p.s ^ i * (p.m - p.s) ^ (d.D - i))) := by
    rw [← sm_mul]
    refine sm_congr fun i _ => ?_
    unfold wt sh
    grind
  rw [e, z, mul_pow, show p.m - p.s + p.s = p.m by omega]
  unfold xs
  grind
/-- all places of the row -/
def idx : List Dm → List (List Nat)
  | [] => [[]]
  | d :: ds => (List.range (d.D + 1)).flatMap fun i => (idx ds).map (i :: ·)
theorem idx_wi : ∀ {ds : List Dm} {I : List Nat}, I ∈ idx ds → Wi ds I ∧ I.length = ds.length
  | [], I, h => by simp [idx] at h; subst h; exact ⟨True.intro, rfl⟩
  | d :: ds, I, h => by
    simp only [idx, List.mem_flatMap, List.mem_range, List.mem_map] at h
    obtain ⟨i, hi, J, hJ, rfl⟩ := h
    obtain ⟨h1, h2⟩ := idx_wi hJ
    exact ⟨⟨Nat.le_of_lt_succ hi, h1⟩, by rw [List.length_cons, List.length_cons, h2]⟩
theorem idx_of : ∀ {ds : List Dm} {I : List Nat}, Wi ds I → I.length = ds.length → I ∈ idx ds
  | [], [], _, _ => by simp [idx]
  | d :: ds, i :: I, h, l => by
    simp only [idx, List.mem_flatMap, List.mem_range, List.mem_map]
    exact ⟨i, Nat.lt_succ_of_le h.1, I, idx_of h.2 (Nat.succ.inj l), rfl⟩
  | [], _ :: _, _, l => by cases l
  | _ :: _, [], _, l => by cases l
def shA : List Dm → List Pt → List Nat → Int
  | d :: ds, p :: ps, I => sh d p (I.headD 0) * shA ds ps I.tail
  | _, _, _ => 1
def evA : List Dm → List Pt → List Nat → Int
  | d :: ds, p :: ps, J => xs d p ^ (J.headD 0) * (d.U * p.m) ^ (d.D - J.headD 0) * evA ds ps J.tail
  | _, _, _ => 1
theorem sum_range (f : Nat → Int) : ∀ n, ((List.range n).map f).sum = sm n f
  | 0 => rfl
  | n + 1 => by rw [List.range_succ, List.map_append, List.sum_append, sum_range f n]; simp [sm]
theorem sum_mul (c : Int) {α : Type} (f : α → Int) : ∀ l : List α, (l.map fun x => c * f x).sum = c * (l.map f).sum
  | [] => by simp
  | x :: l => by simp only [List.map_cons, List.sum_cons, sum_mul c f l]; grind
theorem sum_flat {α β : Type} (f : β → Int) (g : α → List β) : ∀ l : List α, ((l.flatMap g).map f).sum = (l.map fun x => ((g x).map f).sum).sum
  | [] => rfl
  | x :: l => by rw [List.flatMap_cons, List.map_append, List.sum_append, sum_flat f g l]; rfl
theorem sum_idx : ∀ {ds : List Dm} {ps : List Pt} {J : List Nat}, ps.length = ds.length → Wi ds J → ((idx ds).map fun I => wtA ds J I * shA ds ps I).sum = evA ds ps J
  | [], [], J, _, _ => by simp [idx, wtA, shA, evA]
  | d :: ds, p :: ps, J, l, h => by
    have ih := sum_idx (ds := ds) (ps := ps) (J := J.tail) (Nat.succ.inj l) h.2
    simp only [idx, sum_flat, List.map_map]
    have e : ∀ i : Nat, ((idx ds).map ((fun I => wtA (d :: ds) J I * shA (d :: ds) (p :: ps) I) ∘ (i :: ·))).sum = evA ds ps J.tail * (wt d (J.headD 0) i * sh d p i) := fun i => by
      rw [← ih, Int.mul_comm, ← sum_mul]
      congr 1
      refine List.map_congr_left fun I _ => ?_
      simp only [Function.comp, wtA, shA, List.headD_cons, List.tail_cons]
      grind
    rw [show (List.range (d.D + 1)).map (fun i => ((idx ds).map ((fun I => wtA (d :: ds) J I * shA (d :: ds) (p :: ps) I) ∘ (i :: ·))).sum) = (List.range (d.D + 1)).map (fun i => evA ds ps J.tail * (wt d (J.headD 0) i * sh d p i)) from List.map_congr_left fun i _ => e i]
    rw [sum_range, sm_mul, sm_wt h.1]
    simp only [evA]
    grind
  | [], _ :: _, _, l, _ => by cases l
  | _ :: _, [], _, l, _ => by cases l
theorem sum_zero {α : Type} (l : List α) : (l.map fun _ => (0 : Int)).sum = 0 := by
  induction l with
  | nil => rfl
  | cons x l ih => rw [List.map_cons, List.sum_cons, ih]; rfl
theorem sum_add {α : Type} (f g : α → Int) : ∀ l : List α, (l.map fun x => f x + g x).sum = (l.map f).sum + (l.map g).sum
  | [] => rfl
  | x :: l => by simp only [List.map_cons, List.sum_cons, sum_add f g l]; omega
theorem sum_row {ds : List Dm} {ps : List Pt} (l : ps.length = ds.length) : ∀ {m : PolN}, (∀ p ∈ m, Wi ds p.1) → ((idx ds).map fun I => rowV ds m I * shA ds ps I).sum = (m.map fun p => p.2 * evA ds ps p.1).sum
  | [], _ => by
    simp only [rowV, List.map_nil, List.sum_nil, Int.zero_mul]
    exact sum_zero _
  | p :: m, h => by
    have ih := sum_row l (m := m) fun q hq => h q (List.mem_cons_of_mem _ hq)
    have z := sum_idx l (h p List.mem_cons_self)
    rw [List.map_cons, List.sum_cons, ← ih, ← z, ← sum_mul, ← sum_add]
    congr 1
    refine List.map_congr_left fun I _ => ?_
    simp only [rowV, List.map_cons, List.sum_cons]
    grind
theorem sh_nonneg {d : Dm} {p : Pt} (h : p.Ok d) (i : Nat) : 0 ≤ sh d p i := Int.mul_nonneg (pow_nonneg h.s0 _) (pow_nonneg (by have := h.s1; omega) _)
theorem shA_nonneg : ∀ {ds : List Dm} {ps : List Pt} (I : List Nat), (∀ x ∈ ds.zip ps, x.2.Ok x.1) → 0 ≤ shA ds ps I
  | d :: ds, p :: ps, I, h => Int.mul_nonneg (sh_nonneg (h (d, p) List.mem_cons_self) _) (shA_nonneg I.tail fun x hx => h x (List.mem_cons_of_mem _ hx))
  | [], _, _, _ => (by decide : (0 : Int) ≤ 1)
  | _ :: _, [], _, _ => (by decide : (0 : Int) ≤ 1)
/-- some count weighs -/
theorem sh_some {d : Dm} {p : Pt} (h : p.Ok d) : ∃ i, i ≤ d.D ∧ 0 < sh d p i := by
  rcases Int.lt_or_le 0 p.s with g | g
  · exact ⟨d.D, Nat.le_refl _, by unfold sh; rw [Nat.sub_self, Int.pow_zero, Int.mul_one]; exact pow_pos g _⟩
  · refine ⟨0, Nat.zero_le _, ?_⟩
    unfold sh
    rw [Int.pow_zero, Int.one_mul]
    exact pow_pos (by have := h.m; have := h.s0; omega) _
theorem shA_some : ∀ {ds : List Dm} {ps : List Pt}, ps.length = ds.length → (∀ x ∈ ds.zip ps, x.2.Ok x.1) → ∃ I, I ∈ idx ds ∧ 0 < shA ds ps I
  | [], [], _, _ => ⟨[], by simp [idx], (by decide : (0 : Int) < 1)⟩
  | d :: ds, p :: ps, l, h => by
    obtain ⟨i, hi, pi⟩ := sh_some (h (d, p) List.mem_cons_self)
    obtain ⟨I, hI, pI⟩ := shA_some (Nat.succ.inj l) fun x hx => h x (List.mem_cons_of_mem _ hx)
    refine ⟨i :: I, ?_, Int.mul_pos pi pI⟩
    simp only [idx, List.mem_flatMap, List.mem_range, List.mem_map]
    exact ⟨i, Nat.lt_succ_of_le hi, I, hI, rfl⟩
  | [], _ :: _, l, _ => by cases l
  | _ :: _, [], l, _ => by cases l
theorem sum_nonneg {α : Type} {f : α → Int} : ∀ {l : List α}, (∀ x ∈ l, 0 ≤ f x) → 0 ≤ (l.map f).sum
  | [], _ => Int.le_refl 0
  | x :: l, h => by
    have := sum_nonneg (l := l) fun y hy => h y (List.mem_cons_of_mem _ hy)
    have := h x List.mem_cons_self
    rw [List.map_cons, List.sum_cons]; omega
theorem sum_pos {α : Type} {f : α → Int} : ∀ {l : List α}, (∀ x ∈ l, 0 ≤ f x) → (∃ x, x ∈ l ∧ 0 < f x) → 0 < (l.map f).sum
  | [], _, ⟨x, h, _⟩ => by cases h
  | x :: l, h, ⟨y, hy, py⟩ => by
    have h1 := sum_nonneg (l := l) fun y hy => h y (List.mem_cons_of_mem _ hy)
    have h2 := h x List.mem_cons_self
    rw [List.map_cons, List.sum_cons]
    rcases List.mem_cons.mp hy with rfl | hy
    · omega
    · have := sum_pos (l := l) (fun z hz => h z (List.mem_cons_of_mem _ hz)) ⟨y, hy, py⟩
      omega
/-- all counts above 0: so is it at the place -/
theorem ev_pos {ds : List Dm} {ps : List Pt} {m : PolN} (l : ps.length = ds.length) (hp : ∀ x ∈ ds.zip ps, x.2.Ok x.1) (hm : ∀ p ∈ m, Wi ds p.1) (h : ∀ I ∈ idx ds, 0 < rowV ds m I) : 0 < (m.map fun p => p.2 * evA ds ps p.1).sum := by
  rw [← sum_row l hm]
  refine sum_pos (fun I hI => Int.mul_nonneg (Int.le_of_lt (h I hI)) (shA_nonneg I hp)) ?_
  obtain ⟨I, hI, pI⟩ := shA_some l hp
  exact ⟨I, hI, Int.mul_pos (h I hI) pI⟩
/-! ### worth, as the law makes it -/
def wn : List Pt → List Nat → Int
  | p :: ps, J => p.n ^ (J.headD 0) * wn ps J.tail
  | [], _ => 1
def wb : List Pt → List Nat → Int
  | p :: ps, J => p.b ^ (J.headD 0) * wb ps J.tail
  | [], _ => 1
def yA : List Dm → List Pt → Int
  | d :: ds, p :: ps => (d.U * p.m) ^ d.D * yA ds ps
  | _, _ => 1
theorem ev_wn : ∀ {ds : List Dm} {ps : List Pt} {J : List Nat}, (∀ d ∈ ds, d.Ok) → ps.length = ds.length → (∀ x ∈ ds.zip ps, x.2.Ok x.1) → Wi ds J → evA ds ps J * wb ps J = yA ds ps * wn ps J
  | [], [], _, _, _, _, _ => rfl
  | d :: ds, p :: ps, J, ok, l, hp, h => by
    have ih := ev_wn (J := J.tail) (fun d hd => ok d (List.mem_cons_of_mem _ hd)) (Nat.succ.inj l) (fun x hx => hp x (List.mem_cons_of_mem _ hx)) h.2
    have e := (hp (d, p) List.mem_cons_self).e' (ok d List.mem_cons_self)
    have e1 : xs d p ^ (J.headD 0) * p.b ^ (J.headD 0) = (d.U * p.m) ^ (J.headD 0) * p.n ^ (J.headD 0) := by
      rw [← mul_pow, ← mul_pow]
      congr 1
      have e := e
      simp only at e
      unfold xs
      grind
    have e2 : (d.U * p.m) ^ d.D = (d.U * p.m) ^ (d.D - J.headD 0) * (d.U * p.m) ^ (J.headD 0) := by rw [← Int.pow_add]; congr 1; have := h.1; omega
    simp only [evA, wb, yA, wn]
    rw [e2]
    calc xs d p ^ (J.headD 0) * (d.U * p.m) ^ (d.D - J.headD 0) * evA ds ps J.tail * (p.b ^ (J.headD 0) * wb ps J.tail)
        = (xs d p ^ (J.headD 0) * p.b ^ (J.headD 0)) * (d.U * p.m) ^ (d.D - J.headD 0) * (evA ds ps J.tail * wb ps J.tail) := by grind
      _ = _ := by rw [e1, ih]; grind
  | [], _ :: _, _, _, l, _, _ => by cases l
  | _ :: _, [], _, _, l, _, _ => by cases l
theorem wb_pos : ∀ {ds : List Dm} {ps : List Pt} {J : List Nat}, ps.length = ds.length → (∀ x ∈ ds.zip ps, x.2.Ok x.1) → 0 < wb ps J
  | [], [], _, _, _ => (by decide : (0 : Int) < 1)
  | d :: ds, p :: ps, J, l, h => Int.mul_pos (pow_pos (h (d, p) List.mem_cons_self).b _) (wb_pos (ds := ds) (Nat.succ.inj l) fun x hx => h x (List.mem_cons_of_mem _ hx))
  | [], _ :: _, _, l, _ => by cases l
  | _ :: _, [], _, l, _ => by cases l
theorem yA_pos : ∀ {ds : List Dm} {ps : List Pt}, (∀ d ∈ ds, d.Ok) → (∀ x ∈ ds.zip ps, x.2.Ok x.1) → 0 < yA ds ps
  | d :: ds, p :: ps, ok, h => Int.mul_pos (pow_pos (Int.mul_pos (ok d List.mem_cons_self).U (h (d, p) List.mem_cons_self).m) _) (yA_pos (fun d hd => ok d (List.mem_cons_of_mem _ hd)) fun x hx => h x (List.mem_cons_of_mem _ hx))
  | [], _, _, _ => (by decide : (0 : Int) < 1)
  | _ :: _, [], _, _ => (by decide : (0 : Int) < 1)
def worthP (ps : List Pt) (m : PolN) : Int × Int := fr (m.map fun p => (p.2 * wn ps p.1, wb ps p.1))
theorem worth_row {ds : List Dm} {ps : List Pt} {m : PolN} (ok : ∀ d ∈ ds, d.Ok) (l : ps.length = ds.length) (hp : ∀ x ∈ ds.zip ps, x.2.Ok x.1) (hm : ∀ p ∈ m, Wi ds p.1) :
    (m.map fun p => p.2 * evA ds ps p.1).sum * (worthP ps m).2 = yA ds ps * (worthP ps m).1 ∧ 0 < (worthP ps m).2 := by
  have z := fr_rel (yA ds ps) (fun p : List Nat × Int => p.2 * evA ds ps p.1) (fun p => (p.2 * wn ps p.1, wb ps p.1)) m 0 (0, 1) (by simp) (by decide) fun p hpm => by
    refine ⟨?_, wb_pos l hp⟩
    have e := ev_wn ok l hp (hm p hpm)
    show p.2 * evA ds ps p.1 * wb ps p.1 = yA ds ps * (p.2 * wn ps p.1)
    calc p.2 * evA ds ps p.1 * wb ps p.1 = p.2 * (evA ds ps p.1 * wb ps p.1) := by grind
      _ = _ := by rw [e]; grind
  rw [Int.zero_add] at z
  exact z
theorem worth_pos {ds : List Dm} {ps : List Pt} {m : PolN} (ok : ∀ d ∈ ds, d.Ok) (l : ps.length = ds.length) (hp : ∀ x ∈ ds.zip ps, x.2.Ok x.1) (hm : ∀ p ∈ m, Wi ds p.1) (h : ∀ I ∈ idx ds, 0 < rowV ds m I) : 0 < (worthP ps m).1 :=
  (pos_of (worth_row ok l hp hm).1 (worth_row ok l hp hm).2 (yA_pos ok hp)).1.mp (ev_pos l hp hm h)
theorem row_neg (ds : List Dm) (m : PolN) (I : List Nat) : rowV ds (m.map fun p => (p.1, -p.2)) I = -rowV ds m I := by
  unfold rowV
  rw [List.map_map]
  induction m with
  | nil => rfl
  | cons p m ih =>
    simp only [List.map_cons, List.sum_cons, ih, Function.comp]
    grind
theorem ev_neg (ds : List Dm) (ps : List Pt) (m : PolN) : ((m.map fun p => (p.1, -p.2)).map fun p => p.2 * evA ds ps p.1).sum = -(m.map fun p => p.2 * evA ds ps p.1).sum := by
  rw [List.map_map]
  induction m with
  | nil => rfl
  | cons p m ih =>
    simp only [List.map_cons, List.sum_cons, ih, Function.comp]
    grind
theorem worth_neg {ds : List Dm} {ps : List Pt} {m : PolN} (ok : ∀ d ∈ ds, d.Ok) (l : ps.length = ds.length) (hp : ∀ x ∈ ds.zip ps, x.2.Ok x.1) (hm : ∀ p ∈ m, Wi ds p.1) (h : ∀ I ∈ idx ds, rowV ds m I < 0) : (worthP ps m).1 < 0 := by
  refine (pos_of (worth_row ok l hp hm).1 (worth_row ok l hp hm).2 (yA_pos ok hp)).2.mp ?_
  have z := ev_pos (m := m.map fun p => (p.1, -p.2)) l hp (fun p hpm => by
    obtain ⟨q, hq, rfl⟩ := List.mem_map.mp hpm
    exact hm q hq) fun I hI => by rw [row_neg]; have := h I hI; omega
  rw [ev_neg] at z
  omega
end BM

set_option Elab.async false
set_option linter.all false
set_option maxRecDepth 100000
set_option maxHeartbeats 4000000
/-! math.comb -/
namespace DX
open PySem PySem.Spec PyProof.Rows L2
theorem fp_ch (n : Nat) : ∀ k : Nat, k ≤ n → Builtin.Math.fallingProduct (n : Int) k = Builtin.Math.fallingProduct (k : Int) k * BM.ch n k := by
  have self : ∀ k : Nat, Builtin.Math.fallingProduct ((k + 1 : Nat) : Int) (k + 1) = ((k : Int) + 1) * Builtin.Math.fallingProduct (k : Int) k := fun k => by
    have key : ∀ j : Nat, j ≤ k → Builtin.Math.fallingProduct ((k + 1 : Nat) : Int) (j + 1) = ((k : Int) + 1) * Builtin.Math.fallingProduct (k : Int) j := by
      intro j
      induction j with
      | zero => intro _; rw [PySem.W.mc_fp_one, PySem.W.mc_fp_zero]; omega
      | succ j ih =>
        intro hj
        rw [PySem.W.mc_fp_succ, ih (by omega), PySem.W.mc_fp_succ, Int.mul_assoc]
        congr 2
        omega
    exact key k (Nat.le_refl k)
  intro k
  induction k with
  | zero => intro _; rw [PySem.W.mc_fp_zero, PySem.W.mc_fp_zero, BM.ch_zero]; rfl
  | succ k ih =>
    intro hk
    rw [PySem.W.mc_fp_succ, ih (by omega), self]
    have := BM.ch_step n k
    calc Builtin.Math.fallingProduct (k : Int) k * BM.ch n k * ((n : Int) - k) = Builtin.Math.fallingProduct (k : Int) k * (((n : Int) - k) * BM.ch n k) := by grind
      _ = _ := by rw [← this]; grind
theorem ch_self : ∀ n : Nat, BM.ch n n = 1
  | 0 => rfl
  | n + 1 => by rw [BM.ch_succ, BM.ch_above (by omega), ch_self n]; rfl
theorem ch_sym : ∀ (n k : Nat), k ≤ n → BM.ch n k = BM.ch n (n - k)
  | n, 0, _ => by rw [BM.ch_zero, Nat.sub_zero, ch_self]
  | 0, k + 1, h => by omega
  | n + 1, k + 1, h => by
    by_cases e : k = n
    · subst e; rw [ch_self, Nat.sub_self, BM.ch_zero]
    · have h1 := ch_sym n (k + 1) (by omega)
      have h2 := ch_sym n k (by omega)
      rw [BM.ch_succ, h1, h2, show n + 1 - (k + 1) = (n - (k + 1)) + 1 by omega, BM.ch_succ, show n - (k + 1) + 1 = n - k by omega, Int.add_comm]
theorem comb_ch {n k : Nat} (h : k ≤ n) : PySem.W.mcComb (n : Int) (k : Int) = BM.ch n k := by
  obtain ⟨m, hm, e⟩ : ∃ m : Nat, m ≤ n ∧ min (k : Int) ((n : Int) - k) = (m : Int) ∧ BM.ch n m = BM.ch n k := by
    by_cases z : (k : Int) ≤ (n : Int) - k
    · exact ⟨k, h, by omega, rfl⟩
    · exact ⟨n - k, by omega, by omega, (ch_sym n k h).symm⟩
  rw [PySem.W.mcComb_at (by omega) (by omega) e.1, Int.toNat_natCast, fp_ch n m hm, e.2]
  have p := PySem.W.mc_fp_pos (n := (m : Int)) m (Int.le_refl _)
  exact Int.mul_ediv_cancel_left _ (by omega)
def rComb : List V → Hp → VK → Prop := fun vs H Q => ∃ n k : Nat, vs = [.int (n : Int), .int (k : Int)] ∧ k ≤ n ∧ n ≤ 9000 ∧ Q (.int (BM.ch n k)) H
theorem cr_comb {X : Cx} : CallR X (.builtin "math.comb") rComb := by
  intro pins s σ H vs us Q I r h
  obtain ⟨n, k, rfl, hk, hn, q⟩ := h
  obtain ⟨t, u, rfl⟩ := Vals.int2 r
  exact PySem.W.mc_comb_v (by omega) (by omega) (by omega) (.inr (by omega)) (comb_ch hk) ⟨.int _, H, I.tok _, ⟨_, rfl⟩, q⟩
end DX

set_option Elab.async false
set_option linter.all false
set_option maxRecDepth 100000
set_option maxHeartbeats 4000000
namespace K23
open PySem PySem.Spec PyProof.Rows L2 XV DX
abbrev Fra := Int × Int
abbrev Str2 := Fra × Fra
def FraAt (H : Hp) (a : Addr) (f : Fra) : Prop := H a = some (.tup [.int f.1, .int f.2])
def StrAt (H : Hp) (a : Addr) (s : Str2) : Prop := ∃ p q, H a = some (.tup [.ref p, .ref q]) ∧ FraAt H p s.1 ∧ FraAt H q s.2
def BoxAt (H : Hp) (a : Addr) (b : List Str2) : Prop := ∃ rs : List Addr, H a = some (.tup (rs.map V.ref)) ∧ Paired (StrAt H) rs b
theorem FraAt.same {H H' : Hp} {a : Addr} {f : Fra} (s : Same H H') (h : FraAt H a f) : FraAt H' a f := s _ _ h
theorem StrAt.same {H H' : Hp} {a : Addr} {f : Str2} (s : Same H H') (h : StrAt H a f) : StrAt H' a f := by
  obtain ⟨p, q, h1, h2, h3⟩ := h
  exact ⟨p, q, s _ _ h1, h2.same s, h3.same s⟩
theorem BoxAt.same {H H' : Hp} {a : Addr} {b : List Str2} (s : Same H H') (h : BoxAt H a b) : BoxAt H' a b := by
  obtain ⟨rs, h1, h2⟩ := h
  exact ⟨rs, s _ _ h1, Paired.mapP h2 fun _ _ z => z.same s⟩
structure FraOk (f : Fra) : Prop where
  pos : 0 < f.2
  red : Nat.gcd f.1.natAbs f.2.natAbs = 1
  b1 : My.Bd 150 f.1
  b2 : My.Bd 150 f.2
structure StrOk (s : Str2) : Prop where
  lo : FraOk s.1
  hi : FraOk s.2
  lt : s.1.1 * s.2.2 < s.2.1 * s.1.2
def spLess : Sp := fun vs H Q _ => ∃ (a b : Addr) (f g : Fra), vs = [.ref a, .ref b] ∧ FraAt H a f ∧ FraAt H b g ∧ FraOk f ∧ FraOk g ∧ Q (.bl (decide (f.1 * g.2 < g.1 * f.2))) H
def spStrT (K : PySem.W.Frag) : Sp := fun vs H Q _ => ∃ (a : Addr) (s : Str2), vs = [.ref a] ∧ StrAt H a s ∧ StrOk s ∧ Q (.bl true) H
def spBoxT (K : PySem.W.Frag) : Sp := fun vs H Q _ => ∃ (a : Addr) (b : List Str2), vs = [.ref a] ∧ BoxAt H a b ∧ (∀ s ∈ b, StrOk s) ∧ b.length ≤ 3 ∧ ∀ H', Same H H' → Q (.bl true) H'
theorem frI_of {K : PySem.W.Frag} {H : Hp} {a : Addr} {f : Fra} (h : FraAt H a f) (o : FraOk f) : FrI K H (.ref a) true := by
  refine .inr (.inr ⟨a, .int f.1, .int f.2, _, _, rfl, h, .int _, .int _, ?_⟩)
  show true = (decide (0 < f.2) && decide (((Nat.gcd f.1.natAbs f.2.natAbs : Nat) : Int) = 1))
  rw [decide_eq_true o.pos, o.red]
  rfl
/-- in lowest terms -/
def low (t b : Int) : Fra := (t / ((Nat.gcd t.natAbs b.natAbs : Nat) : Int), b / ((Nat.gcd t.natAbs b.natAbs : Nat) : Int))
def spLow : Sp := fun vs H Q _ => ∃ (t b : Int), vs = [.int t, .int b] ∧ 0 < b ∧ My.Bd 8990 b ∧ ∀ p, H p = none → Q (.ref p) (upd H p (.tup [.int (low t b).1, .int (low t b).2]))
def spPow : Sp := fun vs H Q _ => ∃ (x : Int) (n B : Nat), vs = [.int x, .int (n : Int)] ∧ My.Bd B x ∧ (n + 1) * B ≤ 900000 ∧ n ≤ 1000 ∧ Q (.int (x ^ n)) H
def spBin : Sp := fun vs H Q _ => ∃ (n s : Nat), vs = [.int (n : Int), .int (s : Int)] ∧ n ≤ 60 ∧ s ≤ 60 ∧ Q (.int (BM.ch n s)) H
section
variable {P : Program} {w : World} {K : PySem.W.Frag} {mg : Str → Option Value} {base : Heap}
theorem sc_is_less : FnScope ["one", "other"] ["one", "other"] (defScope s_is_less) := ⟨rfl, rfl, rfl, by decide +kernel, rfl, by decide +kernel, by decide +kernel⟩
theorem cal_is_less {f : Addr} {fd : FuncData} (F : FnP K "is_less" "is_less" s_is_less f fd) (g : mg "is_less" = some (.ref f)) (T : Txt0 mg) : Cal P w K mg base "is_less" 1 ["one", "other"] spLess := by
  refine ⟨f, fd, g, ?_, F.bindsN (fun _ _ _ _ _ _ us hl => match us, hl with | [_, _], _ => rfl), F.kp⟩
  refine F.ok sc_is_less (fun vs H Q E h => ?_) (fun cdv A outer s H vs Q E hr h => ?_)
  · obtain ⟨a, b, f, g, rfl, ha, hb, oa, ob, k⟩ := h
    rfl
  · obtain ⟨a, b, f, g, rfl, ha, hb, oa, ob, k⟩ := h
    refine ⟨_, PSs.nox (pss_one (ps_ret (pe_cmpR op_lt (pe_op op_mulW (pe_ix ix_tup (pv 0) pe_int (fun _ _ => rfl)) (pe_ix ix_tup (pv 1) pe_int (fun _ _ => rfl))) (pe_op op_mulW (pe_ix ix_tup (pv 1) pe_int (fun _ _ => rfl)) (pe_ix ix_tup (pv 0) pe_int (fun _ _ => rfl))) (nomark _)))), ?_⟩
    try dsimp only [cxOf, Cx.nox, Cx.wish]
    walk_at "f"
    refine My.ixT (SqT.of ha) (v := .int f.1) (by rfl) ?_
    walk_at "f"
    refine My.ixT (SqT.of hb) (v := .int g.2) (by rfl) ?_
    refine My.mulW oa.b1 ob.b2 (by decide) ?_
    walk_at "f"
    refine My.ixT (SqT.of hb) (v := .int g.1) (by rfl) ?_
    walk_at "f"
    refine My.ixT (SqT.of ha) (v := .int f.2) (by rfl) ?_
    refine My.mulW ob.b1 oa.b2 (by decide) ?_
    walk_at "f"
    exact k
theorem sc_is_stretch : FnScope ["thing"] ["thing"] (defScope s_is_stretch) := ⟨rfl, rfl, rfl, by decide +kernel, rfl, by decide +kernel, by decide +kernel⟩
theorem cal_is_stretch {f : Addr} {fd : FuncData} (F : FnP K "is_stretch" "is_stretch" s_is_stretch f fd) (g : mg "is_stretch" = some (.ref f)) (T : Txt0 mg) (C_is_fraction : Cal P w K mg base "is_fraction" 2 ["thing"] (spFrac K)) (C_is_less : Cal P w K mg base "is_less" 1 ["one", "other"] spLess) : Cal P w K mg base "is_stretch" 3 ["thing"] (spStrT K) := by
  obtain ⟨f_is_fraction, fd_is_fraction, g_is_fraction, G_is_fraction, b_is_fraction, k_is_fraction⟩ := C_is_fraction
  obtain ⟨f_is_less, fd_is_less, g_is_less, G_is_less, b_is_less, k_is_less⟩ := C_is_less
  refine ⟨f, fd, g, ?_, F.bindsN (fun _ _ _ _ _ _ us hl => match us, hl with | [_], _ => rfl), F.kp⟩
  refine F.ok sc_is_stretch (fun vs H Q E h => ?_) (fun cdv A outer s H vs Q E hr h => ?_)
  · obtain ⟨a, s, rfl, ⟨p, q, ha, hp, hq⟩, o, k⟩ := h
    rfl
  · obtain ⟨a, s, rfl, ⟨p, q, ha, hp, hq⟩, o, k⟩ := h
    refine ⟨_, PSs.nox (pss_cons (ps_if (PW.pt (pw_or (pt_not (pt_val (pe_callB call_isi (by rfl) T.isi (by decide +kernel) (pa_cons (pv 0) (pa_cons (pe_bltn (v := .ty "tuple") (u := .type "tuple") (by rfl) T.tuple (by decide +kernel) rfl) pa_nil))))) (pw_or1 (pt_cmpR op_ne (pe_callB My.c_len (by rfl) T.len PySem.boot_len (pa_cons (pv 0) pa_nil)) pe_int (nomark _)))))
       (pss_one (ps_ret pe_bl))
       pss_nil)
      (pss_one (ps_ret (pe_and (pe_call G_is_fraction (hr.mono (by decide)) (by rfl) g_is_fraction k_is_fraction b_is_fraction .nil pass0 (pa_cons (pe_ix ix_tup (pv 0) pe_int (fun _ _ => rfl)) pa_nil)) (pe_and (pe_call G_is_fraction (hr.mono (by decide)) (by rfl) g_is_fraction k_is_fraction b_is_fraction .nil pass0 (pa_cons (pe_ix ix_tup (pv 0) pe_int (fun _ _ => rfl)) pa_nil)) (pe_one (pe_call G_is_less (hr.mono (by decide)) (by rfl) g_is_less k_is_less b_is_less .nil pass0 (pa_cons (pe_ix ix_tup (pv 0) pe_int (fun _ _ => rfl)) (pa_cons (pe_ix ix_tup (pv 0) pe_int (fun _ _ => rfl)) pa_nil))))))))), ?_⟩
    try dsimp only [cxOf, Cx.nox, Cx.wish]
    walk_at "f"
    refine (TgV.tup ha).isT mem6 ?_
    walk_at "f"
    refine My.lenT (SqT.of ha) ?_
    walk_at "f"
    refine My.ite_nd (fun z => absurd rfl z) fun _ => ?_
    walk_at "f"
    refine My.ixT (SqT.of ha) (v := .ref p) (by rfl) ?_
    walk_at "f"
    refine ⟨.ref p, true, rfl, frI_of hp o.lo, _, rfl, ?_⟩
    refine My.ite_ct rfl ?_
    walk_at "f"
    refine My.ixT (SqT.of ha) (v := .ref q) (by rfl) ?_
    walk_at "f"
    refine ⟨.ref q, true, rfl, frI_of hq o.hi, _, rfl, ?_⟩
    refine My.ite_ct rfl ?_
    walk_at "f"
    refine My.ixT (SqT.of ha) (v := .ref p) (by rfl) ?_
    walk_at "f"
    refine My.ixT (SqT.of ha) (v := .ref q) (by rfl) ?_
    walk_at "f"
    refine ⟨p, q, s.1, s.2, rfl, hp, hq, o.lo, o.hi, ?_⟩
    rw [decide_eq_true o.lt]
    exact k
theorem sc_is_box : FnScope ["thing", "part"] ["thing"] (defScope s_is_box) := ⟨rfl, rfl, rfl, by decide +kernel, rfl, by decide +kernel, by decide +kernel⟩
theorem cal_is_box {f : Addr} {fd : FuncData} (F : FnP K "is_box" "is_box" s_is_box f fd) (g : mg "is_box" = some (.ref f)) (T : Txt0 mg) (C_is_stretch : Cal P w K mg base "is_stretch" 3 ["thing"] (spStrT K)) {tS : Tok} (gSTR : mg "MOST_STRETCHES" = some (.int 3 tS)) : Cal P w K mg base "is_box" 4 ["thing"] (spBoxT K) := by
  obtain ⟨f_is_stretch, fd_is_stretch, g_is_stretch, G_is_stretch, b_is_stretch, k_is_stretch⟩ := C_is_stretch
  refine ⟨f, fd, g, ?_, F.bindsN (fun _ _ _ _ _ _ us hl => match us, hl with | [_], _ => rfl), F.kp⟩
  refine F.ok sc_is_box (fun vs H Q E h => ?_) (fun cdv A outer s H vs Q E hr h => ?_)
  · obtain ⟨a, b, rfl, ⟨rs, ha, hp⟩, o, hl, k⟩ := h
    rfl
  · obtain ⟨a, b, rfl, ⟨rs, ha, hp⟩, o, hl, k⟩ := h
    refine ⟨_, PSs.nox (pss_one (ps_ret (pe_and (pe_callB call_isi (by rfl) T.isi (by decide +kernel) (pa_cons (pv 0) (pa_cons (pe_bltn (v := .ty "tuple") (u := .type "tuple") (by rfl) T.tuple (by decide +kernel) rfl) pa_nil))) (pe_and (pe_cmpR op_le (pe_callB My.c_len (by rfl) T.len PySem.boot_len (pa_cons (pv 0) pa_nil)) (pe_glob (v := .int 3) (by rfl) gSTR ⟨_, rfl⟩) (nomark _)) (pe_one (pe_callB (cr_all rfl) (by rfl) T.all (by decide +kernel) (pa_cons (pe_lc (own := [("part", 1)]) (tt := tYes) (by rfl) sc_is_box.nd (pi_tup (pv 0)) (blkOk_by (own := [("part", 1)]) (N := ["thing", "part"]) (sc := (defScope s_is_box)) (by decide +kernel)) (fun _ _ _ _ _ => (pg_name (i := 1) sc_is_box.nd rfl (Or.inl rfl))) (fun _ _ _ _ _ => pts_nil) (fun _ _ _ _ _ => (pe_call G_is_stretch (hr.mono (by decide)) (by rfl) g_is_stretch k_is_stretch b_is_stretch .nil pass0 (pa_cons (pv 1) pa_nil)))) pa_nil))))))), ?_⟩
    try dsimp only [cxOf, Cx.nox, Cx.wish]
    have hrl := My.plen hp
    walk_at "f"
    refine (TgV.tup ha).isT mem6 ?_
    walk_at "f"
    refine My.lenT (SqT.of ha) ?_
    walk_at "f"
    rotate_left
    · rename_i z
      exact absurd (show ((rs.map V.ref).length : Int) ≤ 3 by rw [List.length_map]; omega) z
    refine My.lcT rfl (SqT.of ha) (My.lcM (walk_tup (xs := rs.map V.ref)) Same (by rw [List.length_map]; omega) (fun D hD => same_new hD) fun D nD => ⟨fun j y H => y = .bl true, fun j y H ys o _ h => h, fun H o s => same_at s nD, fun H2 _ s _ => My.same_seqT s ha, ?_, ?_⟩)
    · rintro i x H2 H3 ys N hi r e l p' ⟨rfl, ex⟩ hN
      rw [List.getElem?_map] at ex
      cases eb : rs[i]? with
      | none => rw [eb] at ex; cases ex
      | some b1 =>
        rw [eb] at ex
        cases Option.some.inj ex
        obtain ⟨s1, es, hs⟩ := My.pget hp eb
        walk_at "f"
        refine ⟨rfl, ?_⟩
        walk_at "f"
        refine ⟨b1, s1, rfl, hs.same r, o _ (List.mem_iff_getElem?.mpr ⟨i, es⟩), ?_⟩
        exact hN _ _ r e (fun j v hv => p' j v hv) rfl
    · intro H2 ys hD hl2 s2 hy
      have ey : ys = (List.replicate ys.length true).map V.bl := by
        refine List.ext_getElem? fun j => ?_
        rw [List.getElem?_map, List.getElem?_replicate]
        split
        · rename_i z
          rw [List.getElem?_eq_getElem z, hy j _ (List.getElem?_eq_getElem z)]; rfl
        · rw [List.getElem?_eq_none (by omega)]; rfl
      walk_at "f"
      rw [ey] at hD
      refine My.allL (SqL.of hD) ?_
      rw [show (List.replicate ys.length true).all id = true by simp]
      exact k _ s2
end
end K23

set_option Elab.async false
set_option linter.all false
set_option maxRecDepth 100000
set_option maxHeartbeats 4000000
namespace K23
open PySem PySem.Spec PyProof.Rows L2 XV DX
theorem abs_if (x : Int) : (if x < 0 then -x else x) = (x.natAbs : Int) := by
  split <;> omega
theorem gcd_ne {t b : Int} (h : 0 < b) : 0 < ((Nat.gcd t.natAbs b.natAbs : Nat) : Int) := by
  have : 0 < Nat.gcd t.natAbs b.natAbs := Nat.gcd_pos_of_pos_right _ (by omega)
  omega
theorem gcd_le {t b : Int} (h : 0 < b) : Nat.gcd t.natAbs b.natAbs ≤ b.natAbs := Nat.le_of_dvd (by omega) (Nat.gcd_dvd_right _ _)
theorem ch_le : ∀ (n k : Nat), BM.ch n k ≤ 2 ^ n
  | n, 0 => by
    rw [BM.ch_zero]
    have := BM.pow_pos (a := 2) (by decide) n
    omega
  | 0, k + 1 => by simp [BM.ch]
  | n + 1, k + 1 => by
    have h1 := ch_le n (k + 1)
    have h2 := ch_le n k
    rw [BM.ch_succ, Int.pow_succ]
    omega
theorem ch_bd {n k : Nat} (h : n ≤ 60) : My.Bd 64 (BM.ch n k) := by
  have h1 := ch_le n k
  have h2 := BM.ch_nonneg n k
  have e : (2 : Int) ^ n = ((2 ^ n : Nat) : Int) := by push_cast; rfl
  have h3 : 2 ^ n < 2 ^ 64 := Nat.pow_lt_pow_right (by decide) (by omega)
  show (BM.ch n k).natAbs < 2 ^ 64
  omega
section
variable {P : Program} {w : World} {K : PySem.W.Frag} {mg : Str → Option Value} {base : Heap}
theorem sc_law_low : FnScope ["_law_top", "_law_bottom", "_law_one", "_law_other"] ["_law_top", "_law_bottom"] (defScope s_law_low) := ⟨rfl, rfl, rfl, by decide +kernel, rfl, by decide +kernel, by decide +kernel⟩
theorem cal_law_low {f : Addr} {fd : FuncData} (F : FnP K "_law_low" "_law_low" s_law_low f fd) (g : mg "_law_low" = some (.ref f)) (T : Txt0 mg) : Cal P w K mg base "_law_low" 1 ["_law_top", "_law_bottom"] spLow := by
  refine ⟨f, fd, g, ?_, F.bindsN (fun _ _ _ _ _ _ us hl => match us, hl with | [_, _], _ => rfl), F.kp⟩
  refine F.ok sc_law_low (fun vs H Q E h => ?_) (fun cdv A outer s H vs Q E hr h => ?_)
  · obtain ⟨t, b, rfl, hb, bb, k⟩ := h
    rfl
  · obtain ⟨t, b, rfl, hb, bb, k⟩ := h
    refine ⟨_, PSs.nox (pss_cons (ps_par (i := 2) (j := 3) (by rfl) sc_law_low.nd rfl rfl (by decide) rfl rfl (pa_cons (pe_callB My.c_abs (by rfl) T.abs boot_abs (pa_cons (pv 0) pa_nil)) (pa_cons (pe_callB My.c_abs (by rfl) T.abs boot_abs (pa_cons (pv 1) pa_nil)) pa_nil)) (by rfl))
      (pss_cons (ps_while PassesOwn.never (pt_cmpR op_gt (pv 3) pe_int (nomark _))
       (pss_one (ps_par (i := 2) (j := 3) (by rfl) sc_law_low.nd rfl rfl (by decide) rfl rfl (pa_cons (pv 3) (pa_cons (pe_op op_mod (pe_callTy My.c_int1 (by rfl) T.int boot_int (pa_cons (pv 2) pa_nil)) (pv 3)) pa_nil)) (by rfl))))
      (pss_cons (ps_set (i := 2) sc_law_low.nd rfl (Or.inl rfl) (pe_ifExp (pt_cmpR op_gt (pv 1) pe_int (nomark _)) (pv 2) (pe_un un_neg (pv 2))))
      (pss_one (ps_ret (pe_tup (pa_cons (pe_op op_fdivW (pv 0) (pv 2)) (pa_cons (pe_op op_fdivW (pv 1) (pv 2)) pa_nil)))))))), ?_⟩
    try dsimp only [cxOf, Cx.nox, Cx.wish]
    walk_at "f"
    rw [abs_if, abs_if]
    refine My.whileM (fun m σ' H' => ∃ x y : Nat, m = y ∧ H' = H ∧ Nat.gcd x y = Nat.gcd t.natAbs b.natAbs ∧ σ' = [some (.int t), some (.int b), some (.int (x : Int)), some (.int (y : Int))]) b.natAbs ⟨t.natAbs, b.natAbs, rfl, rfl, rfl, rfl⟩ ?_
    rintro m σ' H' ⟨x, y, rfl, rfl, eg, rfl⟩
    walk_at "f"
    · rename_i hy
      refine ⟨_, fun _ _ z => z, ?_⟩
      walk_at "f"
      refine ⟨_, ?_, m, x % m, rfl, rfl, ?_, rfl⟩
      · exact Nat.mod_lt _ (by omega)
      · rw [← eg, Nat.gcd_comm x m, Nat.gcd_rec m x, Nat.gcd_comm]
    · rename_i hy hz
      obtain rfl : m = 0 := by omega
      rw [Nat.gcd_zero_right] at eg
      subst eg
      have g0 := gcd_ne (t := t) hb
      have gb : My.Bd 8990 ((Nat.gcd t.natAbs b.natAbs : Nat) : Int) := bb.of_le (by rw [Int.natAbs_natCast]; exact gcd_le hb)
      refine My.divW (n := 8990) g0 gb (by decide) ?_
      walk_at "f"
      refine My.divW (n := 8990) g0 gb (by decide) ?_
      walk_at "f"
      exact My.new (My.sz (by simp)) k
    · rename_i hy hz
      exact absurd hb hz
theorem sc_law_power : FnScope ["_law_number", "_law_many", "_law_found", "_law_turn"] ["_law_number", "_law_many"] (defScope s_law_power) := ⟨rfl, rfl, rfl, by decide +kernel, rfl, by decide +kernel, by decide +kernel⟩
theorem cal_law_power {f : Addr} {fd : FuncData} (F : FnP K "_law_power" "_law_power" s_law_power f fd) (g : mg "_law_power" = some (.ref f)) (T : Txt0 mg) : Cal P w K mg base "_law_power" 1 ["_law_number", "_law_many"] spPow := by
  refine ⟨f, fd, g, ?_, F.bindsN (fun _ _ _ _ _ _ us hl => match us, hl with | [_, _], _ => rfl), F.kp⟩
  refine F.ok sc_law_power (fun vs H Q E h => ?_) (fun cdv A outer s H vs Q E hr h => ?_)
  · obtain ⟨x, n, B, rfl, bx, hB, hn, k⟩ := h
    rfl
  · obtain ⟨x, n, B, rfl, bx, hB, hn, k⟩ := h
    refine ⟨_, PSs.nox (pss_cons (ps_set (i := 2) sc_law_power.nd rfl (Or.inl rfl) pe_int)
      (pss_cons (ps_for PassesOwn.never rfl (pi_range1 (by rfl) T.range (pa_cons (pv 1) pa_nil)) (pg_name (i := 3) sc_law_power.nd rfl (Or.inl rfl))
       (pss_one (ps_set (i := 2) sc_law_power.nd rfl (Or.inl rfl) (pe_op op_mulW (pv 2) (pv 0)))))
      (pss_one (ps_ret (pv 2))))), ?_⟩
    try dsimp only [cxOf, Cx.nox, Cx.wish]
    walk_at "f"
    refine My.rngI (by omega) (by omega) (fun i σ' H' => H' = H ∧ ∃ u, σ' = [some (.int x), some (.int (n : Int)), some (.int (x ^ i)), u] ∧ My.Bd (i * B + 1) (x ^ i)) ⟨rfl, none, by rw [Int.pow_zero]; rfl, by rw [Int.pow_zero, Nat.zero_mul]; exact (by decide : (1 : Int).natAbs < 2 ^ 1)⟩ ?_ ?_
    · rintro i σ' H' hi ⟨rfl, u, rfl, bi⟩
      walk_at "f"
      have l : i * B + 1 + B ≤ 999990 := by
        have : i * B ≤ n * B := Nat.mul_le_mul_right _ (by omega)
        have : (n + 1) * B = n * B + B := Nat.succ_mul _ _
        omega
      refine My.mulW bi bx l ?_
      walk_at "f"
      refine ⟨rfl, some (.int (0 + (i : Int))), by rw [Int.pow_succ]; rfl, ?_⟩
      rw [Int.pow_succ]
      exact (bi.mul bx).mono (by rw [Nat.succ_mul]; omega)
    · rintro σ' H' ⟨rfl, u, rfl, bi⟩
      walk_at "f"
      exact k
theorem sc_law_binomial : FnScope ["_law_many", "_law_some", "_law_found", "_law_k"] ["_law_many", "_law_some"] (defScope s_law_binomial) := ⟨rfl, rfl, rfl, by decide +kernel, rfl, by decide +kernel, by decide +kernel⟩
theorem cal_law_binomial {f : Addr} {fd : FuncData} (F : FnP K "_law_binomial" "_law_binomial" s_law_binomial f fd) (g : mg "_law_binomial" = some (.ref f)) (T : Txt0 mg) : Cal P w K mg base "_law_binomial" 1 ["_law_many", "_law_some"] spBin := by
  refine ⟨f, fd, g, ?_, F.bindsN (fun _ _ _ _ _ _ us hl => match us, hl with | [_, _], _ => rfl), F.kp⟩
  refine F.ok sc_law_binomial (fun vs H Q E h => ?_) (fun cdv A outer s H vs Q E hr h => ?_)
  · obtain ⟨n, s, rfl, hn, hs, k⟩ := h
    rfl
  · obtain ⟨n, s, rfl, hn, hs, k⟩ := h
    refine ⟨_, PSs.nox (pss_cons (ps_set (i := 2) sc_law_binomial.nd rfl (Or.inl rfl) pe_int)
      (pss_cons (ps_for PassesOwn.never rfl (pi_range1 (by rfl) T.range (pa_cons (pv 1) pa_nil)) (pg_name (i := 3) sc_law_binomial.nd rfl (Or.inl rfl))
       (pss_one (ps_set (i := 2) sc_law_binomial.nd rfl (Or.inl rfl) (pe_op op_fdivW (pe_op op_mulW (pv 2) (pe_op op_sub (pv 0) (pv 3))) (pe_op op_add (pv 3) pe_int)))))
      (pss_one (ps_ret (pe_ifExp (pt_chain op_le op_le pe_int (pv 1) (pv 0)) (pv 2) pe_int))))), ?_⟩
    try dsimp only [cxOf, Cx.nox, Cx.wish]
    walk_at "f"
    have le : ∀ i, i ≤ s → My.Bd 64 (BM.ch n i) := fun i _ => ch_bd hn
    refine My.rngI (by omega) (by omega) (fun i σ' H' => H' = H ∧ ∃ u, σ' = [some (.int (n : Int)), some (.int (s : Int)), some (.int (BM.ch n i)), u]) ⟨rfl, none, by rw [BM.ch_zero]; rfl⟩ ?_ ?_
    · rintro i σ' H' hi ⟨rfl, u, rfl⟩
      have hi' : i < s := by omega
      walk_at "f"
      have bn : My.Bd 64 ((n : Int) - (0 + (i : Int))) := Nat.lt_of_lt_of_le (show _ < 200 by omega) (by decide)
      refine My.mulW (le i (by omega)) bn (by decide) ?_
      walk_at "f"
      refine My.divW (n := 64) (by omega) (Nat.lt_of_lt_of_le (show (0 + (i : Int) + 1).natAbs < 200 by omega) (by decide)) (by decide) ?_
      walk_at "f"
      refine ⟨rfl, some (.int (0 + (i : Int))), ?_⟩
      have e := BM.ch_step n i
      have e2 : BM.ch n i * ((n : Int) - (0 + (i : Int))) / (0 + (i : Int) + 1) = BM.ch n (i + 1) := by
        rw [show BM.ch n i * ((n : Int) - (0 + (i : Int))) = (0 + (i : Int) + 1) * BM.ch n (i + 1) by rw [Int.mul_comm, show (n : Int) - (0 + (i : Int)) = n - i by omega, ← e, show (0 + (i : Int) + 1) = (i : Int) + 1 by omega]]
        exact Int.mul_ediv_cancel_left _ (by omega)
      rw [e2]
      rfl
    · rintro σ' H' ⟨rfl, u, rfl⟩
      walk_at "f"
      · exact k
      · rename_i z
        rw [BM.ch_above (by omega)] at k
        exact k
      · rename_i z
        omega
end
end K23

set_option Elab.async false
set_option linter.all false
set_option maxRecDepth 100000
set_option maxHeartbeats 4000000
namespace K23
open PySem PySem.Spec PyProof.Rows L2 XV DX
/-- a stretch, as the program takes it and as the law does -/
def mkDm (D : Nat) (s : Str2) : BM.Dm where
  D := D
  U := ((Nat.lcm s.1.2.natAbs s.2.2.natAbs : Nat) : Int)
  L := s.1.1 * (((Nat.lcm s.1.2.natAbs s.2.2.natAbs : Nat) : Int) / s.1.2)
  H := s.2.1 * (((Nat.lcm s.1.2.natAbs s.2.2.natAbs : Nat) : Int) / s.2.2)
  l := s.1.1 * s.2.2
  h := s.2.1 * s.1.2
  u := s.1.2 * s.2.2
theorem lcm_div {a b : Int} (h : 0 < a) (g : 0 < b) : a * (((Nat.lcm a.natAbs b.natAbs : Nat) : Int) / a) = ((Nat.lcm a.natAbs b.natAbs : Nat) : Int) := by
  refine Int.mul_ediv_cancel' ?_
  have z := Nat.dvd_lcm_left a.natAbs b.natAbs
  have := Int.natCast_dvd_natCast.mpr z
  rw [Int.natAbs_of_nonneg (by omega)] at this
  exact this
theorem lcm_div' {a b : Int} (h : 0 < a) (g : 0 < b) : b * (((Nat.lcm a.natAbs b.natAbs : Nat) : Int) / b) = ((Nat.lcm a.natAbs b.natAbs : Nat) : Int) := by
  rw [Nat.lcm_comm]
  exact lcm_div g h
theorem lcm_pos {a b : Int} (h : 0 < a) (g : 0 < b) : 0 < ((Nat.lcm a.natAbs b.natAbs : Nat) : Int) := by
  have := Nat.lcm_pos (m := a.natAbs) (n := b.natAbs) (by omega) (by omega)
  omega
theorem mkDm_ok {D : Nat} {s : Str2} (o : StrOk s) : (mkDm D s).Ok := by
  have h1 := o.lo.pos
  have h2 := o.hi.pos
  have e1 := lcm_div h1 h2
  have e2 := lcm_div' h1 h2
  refine ⟨lcm_pos h1 h2, Int.mul_pos h1 h2, ?_, ?_⟩
  · show s.1.1 * _ * (s.1.2 * s.2.2) = s.1.1 * s.2.2 * _
    calc s.1.1 * (((Nat.lcm s.1.2.natAbs s.2.2.natAbs : Nat) : Int) / s.1.2) * (s.1.2 * s.2.2) = s.1.1 * s.2.2 * (s.1.2 * (((Nat.lcm s.1.2.natAbs s.2.2.natAbs : Nat) : Int) / s.1.2)) := by grind
      _ = _ := by rw [e1]; rfl
  · show s.2.1 * _ * (s.1.2 * s.2.2) = s.2.1 * s.1.2 * _
    calc s.2.1 * (((Nat.lcm s.1.2.natAbs s.2.2.natAbs : Nat) : Int) / s.2.2) * (s.1.2 * s.2.2) = s.2.1 * s.1.2 * (s.2.2 * (((Nat.lcm s.1.2.natAbs s.2.2.natAbs : Nat) : Int) / s.2.2)) := by grind
      _ = _ := by rw [e2]; rfl
theorem lcm_bd {a b : Int} (ha : My.Bd 150 a) (hb : My.Bd 150 b) : My.Bd 300 ((Nat.lcm a.natAbs b.natAbs : Nat) : Int) := by
  show (((Nat.lcm a.natAbs b.natAbs : Nat) : Int)).natAbs < 2 ^ 300
  rw [Int.natAbs_natCast, show 300 = 150 + 150 by rfl, Nat.pow_add]
  have h1 : a.natAbs.lcm b.natAbs ≤ a.natAbs * b.natAbs := Nat.div_le_self _ _
  have h2 : a.natAbs * b.natAbs < 2 ^ 150 * 2 ^ 150 := Nat.mul_lt_mul'' ha hb
  omega
theorem quo_bd {n : Nat} {a b : Int} (ha : My.Bd n a) (h0 : 0 < a) (hb : 0 < b) : My.Bd n (a / b) := by
  refine ha.of_le ?_
  have h1 : 0 ≤ a / b := Int.ediv_nonneg (by omega) (by omega)
  have h2 : a / b ≤ a := Int.ediv_le_self b (by omega)
  omega
theorem mkDm_bd {D : Nat} {s : Str2} (o : StrOk s) : My.Bd 450 (mkDm D s).L ∧ My.Bd 450 (mkDm D s).H ∧ My.Bd 450 (mkDm D s).U := by
  have h1 := o.lo.pos
  have h2 := o.hi.pos
  have b := lcm_bd o.lo.b2 o.hi.b2
  have p := lcm_pos h1 h2
  exact ⟨(o.lo.b1.mul (quo_bd b p h1)).mono (by decide), (o.hi.b1.mul (quo_bd b p h2)).mono (by decide), b.mono (by decide)⟩
def spShared : Sp := fun vs H Q _ => ∃ (a : Addr) (s : Str2), vs = [.ref a] ∧ StrAt H a s ∧ StrOk s ∧ ∀ p, H p = none → Q (.ref p) (upd H p (.tup [.int (mkDm 0 s).L, .int (mkDm 0 s).H, .int (mkDm 0 s).U]))
/-- a line times L + H t -/
def tl (xs : List Int) (L Hh : Int) : List Int := (List.range (xs.length + 1)).map fun j => xs.getD j 0 * L + (if j = 0 then 0 else xs.getD (j - 1) 0 * Hh)
def spTimes : Sp := fun vs H Q _ => ∃ (l : Addr) (xs : List Int) (L Hh : Int) (B C : Nat), vs = [.ref l, .int L, .int Hh] ∧ H l = some (.lst (xs.map V.int)) ∧ xs.length ≤ 100 ∧ (∀ x ∈ xs, My.Bd B x) ∧ My.Bd C L ∧ My.Bd C Hh ∧ B + C ≤ 100000 ∧
  ∀ p H', H p = none → Same H H' → H' p = some (.lst ((tl xs L Hh).map V.int)) → Q (.ref p) H'
section
variable {P : Program} {w : World} {K : PySem.W.Frag} {mg : Str → Option Value} {base : Heap}
theorem sc_shared_bottom : FnScope ["stretch", "low", "one", "high", "other", "under"] ["stretch"] (defScope s_shared_bottom) := ⟨rfl, rfl, rfl, by decide +kernel, rfl, by decide +kernel, by decide +kernel⟩
theorem cal_shared_bottom {f : Addr} {fd : FuncData} (F : FnP K "shared_bottom" "shared_bottom" s_shared_bottom f fd) (g : mg "shared_bottom" = some (.ref f)) (T : Txt0 mg) : Cal P w K mg base "shared_bottom" 1 ["stretch"] spShared := by
  refine ⟨f, fd, g, ?_, F.bindsN (fun _ _ _ _ _ _ us hl => match us, hl with | [_], _ => rfl), F.kp⟩
  refine F.ok sc_shared_bottom (fun vs H Q E h => ?_) (fun cdv A outer s H vs Q E hr h => ?_)
  · obtain ⟨a, s, rfl, ⟨p, q, ha, hp, hq⟩, o, k⟩ := h
    rfl
  · obtain ⟨a, s, rfl, ⟨p, q, ha, hp, hq⟩, o, k⟩ := h
    refine ⟨_, PSs.nox (pss_cons (ps_asg (pv 0) (pg_tup (by rfl) (pgs_cons (pg_tup (by rfl) (pgs_cons (pg_name (i := 1) sc_shared_bottom.nd rfl (Or.inl rfl)) (pgs_cons (pg_name (i := 2) sc_shared_bottom.nd rfl (Or.inl rfl)) pgs_nil))) (pgs_cons (pg_tup (by rfl) (pgs_cons (pg_name (i := 3) sc_shared_bottom.nd rfl (Or.inl rfl)) (pgs_cons (pg_name (i := 4) sc_shared_bottom.nd rfl (Or.inl rfl)) pgs_nil))) pgs_nil))))
      (pss_cons (ps_set (i := 5) sc_shared_bottom.nd rfl (Or.inl rfl) (pe_callBfun DX.cr_lcm (by rfl) T.lcm (pa_cons (pv 2) (pa_cons (pv 4) pa_nil))))
      (pss_one (ps_ret (pe_tup (pa_cons (pe_op op_mulW (pv 1) (pe_op op_fdivW (pv 5) (pv 2))) (pa_cons (pe_op op_mulW (pv 3) (pe_op op_fdivW (pv 5) (pv 4))) (pa_cons (pv 5) pa_nil)))))))), ?_⟩
    try dsimp only [cxOf, Cx.nox, Cx.wish]
    walk_at "f"
    refine My.gtup22 (SqT.of ha) (SqT.of hp) (SqT.of hq) rfl ?_
    have h1 := o.lo.pos
    have h2 := o.hi.pos
    have b := lcm_bd o.lo.b2 o.hi.b2
    have pp := lcm_pos h1 h2
    walk_at "f"
    refine ⟨_, _, rfl, o.lo.b2.mono (by decide), o.hi.b2.mono (by decide), ?_⟩
    walk_at "f"
    refine My.divW (n := 150) h1 o.lo.b2 (by decide) ?_
    refine My.mulW o.lo.b1 (quo_bd b pp h1) (by decide) ?_
    walk_at "f"
    refine My.divW (n := 150) h2 o.hi.b2 (by decide) ?_
    refine My.mulW o.hi.b1 (quo_bd b pp h2) (by decide) ?_
    walk_at "f"
    exact My.new (My.sz (by simp)) k
theorem sc_times_line : FnScope ["line", "low", "high", "count", "found", "at"] ["line", "low", "high"] (defScope s_times_line) := ⟨rfl, rfl, rfl, by decide +kernel, rfl, by decide +kernel, by decide +kernel⟩
theorem cal_times_line {f : Addr} {fd : FuncData} (F : FnP K "times_line" "times_line" s_times_line f fd) (g : mg "times_line" = some (.ref f)) (T : Txt0 mg) : Cal P w K mg base "times_line" 1 ["line", "low", "high"] spTimes := by
  refine ⟨f, fd, g, ?_, F.bindsN (fun _ _ _ _ _ _ us hl => match us, hl with | [_, _, _], _ => rfl), F.kp⟩
  refine F.ok sc_times_line (fun vs H Q E h => ?_) (fun cdv A outer s H vs Q E hr h => ?_)
  · obtain ⟨l, xs, L, Hh, B, C, rfl, hl, h100, hb, bL, bH, hBC, k⟩ := h
    rfl
  · obtain ⟨l, xs, L, Hh, B, C, rfl, hl, h100, hb, bL, bH, hBC, k⟩ := h
    refine ⟨_, PSs.nox (pss_cons (ps_set (i := 4) sc_times_line.nd rfl (Or.inl rfl) (pe_op op_cat (pe_lc (own := [("count", 3)]) (tt := tYes) (by rfl) sc_times_line.nd (pi_list (pv 0)) (blkOk_by (own := [("count", 3)]) (N := ["line", "low", "high", "count", "found", "at"]) (sc := (defScope s_times_line)) (by decide +kernel)) (fun _ _ _ _ _ => (pg_name (i := 3) sc_times_line.nd rfl (Or.inl rfl))) (fun _ _ _ _ _ => pts_nil) (fun _ _ _ _ _ => (pe_op op_mulW (pv 3) (pv 1)))) (pe_lst (pa_cons pe_int pa_nil))))
      (pss_cons (ps_for PassesOwn.never rfl (pi_enum (by rfl) T.enum (pa_cons (pv 0) pa_nil)) (pg_tup (by rfl) (pgs_cons (pg_name (i := 5) sc_times_line.nd rfl (Or.inl rfl)) (pgs_cons (pg_name (i := 3) sc_times_line.nd rfl (Or.inl rfl)) pgs_nil)))
       (pss_one (ps_augS (pv 4) (pe_op op_add (pv 5) pe_int) DX.get_list (pe_op op_mulW (pv 3) (pv 2)) ip_add set_list)))
      (pss_one (ps_ret (pv 4))))), ?_⟩
    try dsimp only [cxOf, Cx.nox, Cx.wish]
    have bz : ∀ j, My.Bd B (xs.getD j 0) := fun j => by
      rw [List.getD_eq_getElem?_getD]
      cases e : xs[j]? with
      | none => exact .zero
      | some x => exact hb x (List.mem_iff_getElem?.mpr ⟨j, e⟩)
    walk_at "f"
    refine ⟨l, rfl, ⟨_, SqL.of hl⟩, My.lcM (walk_list (xs := xs.map V.int)) Same (by rw [List.length_map]; omega) (fun D hD => same_new hD) fun D nD => ⟨fun j y H => y = .int (xs.getD j 0 * L), fun j y H ys o _ h => h, fun H o s => same_at s nD, fun H2 _ s _ => SqL.of (s _ _ hl), ?_, ?_⟩⟩
    · rintro i x H2 H3 ys N hi r e l' p' ⟨rfl, ex⟩ hN
      rw [List.getElem?_map] at ex
      cases eb : xs[i]? with
      | none => rw [eb] at ex; cases ex
      | some b =>
        rw [eb] at ex
        cases Option.some.inj ex
        have eg : xs.getD i 0 = b := by rw [List.getD_eq_getElem?_getD, eb]; rfl
        walk_at "f"
        refine ⟨rfl, ?_⟩
        walk_at "f"
        refine My.mulW (hb b (List.mem_iff_getElem?.mpr ⟨i, eb⟩)) bL (by omega) ?_
        exact hN _ _ r e (fun j v hv => p' j v hv) (by show V.int _ = V.int (xs.getD i 0 * L); rw [eg])
    · intro H2 ys hD hl2 s2 hy
      rw [List.length_map] at hl2
      have ey : ys = (List.range xs.length).map fun j => V.int (xs.getD j 0 * L) := map_of hl2 hy
      walk_at "f"
      refine My.new (My.sz (by simp)) fun p1 n1 => ?_
      have hD1 := same_new (o := HO.lst [V.int 0]) n1 _ _ hD
      refine My.cat hD1 upd_same (by rw [hl2]; show xs.length + 1 ≤ 1000; omega) fun p2 n2 => ?_
      have s12 := (s2.trans (same_new (o := HO.lst [V.int 0]) n1)).trans (same_new (o := HO.lst (ys ++ [V.int 0])) n2)
      have np2 : H p2 = none := (s2.trans (same_new (o := HO.lst [V.int 0]) n1)).free n2
      have e2 := upd_same (H := upd H2 p1 (HO.lst [V.int 0])) (a := p2) (o := HO.lst (ys ++ [V.int 0]))
      have hl3 := s12 _ _ hl
      generalize upd (upd H2 p1 (HO.lst [V.int 0])) p2 (HO.lst (ys ++ [V.int 0])) = H3 at s12 e2 hl3 ⊢
      walk_at "f"
      refine My.forEn1 ?_
      walk_at "f"
      have lp2 : l ≠ p2 := fun z => by rw [z, np2] at hl; cases hl
      refine My.forEn (SqL.of hl3) (fun i σ' H' => ∃ u v, σ' = [some (.ref l), some (.int L), some (.int Hh), u, some (.ref p2), v] ∧ Same H H' ∧ H' p2 = some (.lst ((List.range (xs.length + 1)).map fun j => V.int (xs.getD j 0 * L + (if j = 0 then 0 else if j ≤ i then xs.getD (j - 1) 0 * Hh else 0)))) ∧ H' l = some (.lst (xs.map V.int))) ⟨_, _, rfl, s12, ?_, hl3⟩ (fun _ _ _ _ ⟨_, _, _, _, _, z⟩ => SqL.of z) ?_ ?_
      · rw [e2, ey]
        congr 2
        rw [List.range_succ, List.map_append]
        congr 1
        · refine List.map_congr_left fun j hj => ?_
          have : (if j = 0 then 0 else if j ≤ 0 then xs.getD (j - 1) 0 * Hh else 0) = 0 := by
            split
            · rfl
            · rw [if_neg (by omega)]
          rw [this, Int.add_zero]
        · have : xs.getD xs.length 0 = 0 := by rw [List.getD_eq_getElem?_getD, List.getElem?_eq_none (Nat.le_refl _)]; rfl
          simp only [List.map_cons, List.map_nil, this, Int.zero_mul, Int.zero_add]
          congr 1
          congr 1
          split
          · rfl
          · rw [if_neg (by omega)]
      · rintro i x T σ' H4 ex ⟨u, v, rfl, s4, e4, l4⟩ nT
        rw [List.getElem?_map] at ex
        cases eb : xs[i]? with
        | none => rw [eb] at ex; cases ex
        | some b =>
          rw [eb] at ex
          cases Option.some.inj ex
          have hi : i < xs.length := (List.getElem?_eq_some_iff.mp eb).1
          have eg : xs.getD i 0 = b := by rw [List.getD_eq_getElem?_getD, eb]; rfl
          have sT := same_new (o := HO.tup [V.int (i : Nat), V.int b]) nT
          refine My.gtup2 (SqT.of upd_same) rfl ?_
          have s5 := s4.trans sT
          have e5 := sT _ _ e4
          have l5 := sT _ _ l4
          generalize upd H4 T _ = H5 at s5 e5 l5 ⊢
          walk_at "f"
          rw [show (i : Int) + 1 = ((i + 1 : Nat) : Int) by omega]
          refine My.getL (SqL.of e5) (n := i + 1) (v := .int (xs.getD (i + 1) 0 * L)) ?_ ?_
          · rw [List.getElem?_map, List.getElem?_range (by omega)]
            show some (V.int (_ + if i + 1 = 0 then 0 else if i + 1 ≤ i then _ else 0)) = _
            rw [if_neg (by omega), if_neg (by omega), Int.add_zero]
          walk_at "f"
          refine My.mulW (hb b (List.mem_iff_getElem?.mpr ⟨i, eb⟩)) bH (by omega) ?_
          walk_at "f"
          refine My.setL e5 (by rw [List.length_map, List.length_range]; omega) ?_
          refine ⟨_, _, rfl, fun b o eo => ?_, ?_, ?_⟩
          · rw [upd_ne (ne_of_none eo np2)]
            exact s5 _ _ eo
          · rw [upd_same]
            congr 2
            refine List.ext_getElem? fun j => ?_
            rw [List.getElem?_set, List.getElem?_map]
            split
            · rename_i ej
              subst ej
              rw [if_pos (by rw [List.length_map, List.length_range]; omega), List.getElem?_map, List.getElem?_range (by omega)]
              show _ = some (V.int (_ + if i + 1 = 0 then 0 else if i + 1 ≤ i + 1 then _ else 0))
              rw [if_neg (by omega), if_pos (Nat.le_refl _), show i + 1 - 1 = i by omega, eg]
            · rename_i ej
              rw [List.getElem?_map]
              by_cases hj : j < xs.length + 1
              · rw [List.getElem?_range hj]
                simp only [Option.map_some]
                congr 3
                by_cases j0 : j = 0
                · rw [if_pos j0, if_pos j0]
                · rw [if_neg j0, if_neg j0]
                  by_cases ji : j ≤ i
                  · rw [if_pos ji, if_pos (by omega)]
                  · rw [if_neg ji, if_neg (by omega)]
              · rw [List.getElem?_eq_none (by rw [List.length_range]; omega)]; rfl
          · rw [upd_ne lp2]; exact l5
      · rintro σ' H4 ⟨u, v, rfl, s4, e4, l4⟩
        walk_at "f"
        refine k p2 _ np2 s4 ?_
        rw [e4, tl, List.map_map]
        congr 2
        rw [List.length_map]
        refine List.map_congr_left fun j hj => ?_
        have hj' : j < xs.length + 1 := List.mem_range.mp hj
        show V.int _ = V.int _
        congr 2
        split
        · rfl
        · rw [if_pos (by omega)]
end
end K23

set_option linter.all false
namespace BM
/-- what has come from the power a on -/
def Fs (xs : List Int) (L H U : Int) (n a i : Nat) : Int := sm (n - a + 1) fun d => xs.getD (a + d) 0 * (U ^ (n - a - d) * cg L H (n - a - d) d i)
def prev (f : Nat → Int) (i : Nat) : Int := if i = 0 then 0 else f (i - 1)
theorem Fs_last (xs : List Int) (L H U : Int) (n i : Nat) : Fs xs L H U n n i = xs.getD n 0 * ch 0 i := by
  unfold Fs
  rw [Nat.sub_self]
  simp [sm, cg]
theorem Fs_step (xs : List Int) (L H U : Int) {n a : Nat} (h : a < n) (i : Nat) :
    Fs xs L H U n a i = (Fs xs L H U n (a + 1) i * L + prev (Fs xs L H U n (a + 1)) i * H) + xs.getD a 0 * (U ^ (n - a) * ch (n - a) i) := by
  unfold Fs
  rw [sm_front]
  have e0 : xs.getD (a + 0) 0 * (U ^ (n - a - 0) * cg L H (n - a - 0) 0 i) = xs.getD a 0 * (U ^ (n - a) * ch (n - a) i) := by simp [cg]
  rw [e0, show n - (a + 1) + 1 = n - a by omega]
  have e : sm (n - a) (fun t => xs.getD (a + (t + 1)) 0 * (U ^ (n - a - (t + 1)) * cg L H (n - a - (t + 1)) (t + 1) i)) =
      L * sm (n - a) (fun d => xs.getD (a + 1 + d) 0 * (U ^ (n - (a + 1) - d) * cg L H (n - (a + 1) - d) d i)) + H * prev (fun i => sm (n - a) (fun d => xs.getD (a + 1 + d) 0 * (U ^ (n - (a + 1) - d) * cg L H (n - (a + 1) - d) d i))) i := by
    cases i with
    | zero =>
      simp only [prev, if_true, Int.mul_zero, Int.add_zero]
      rw [← sm_mul]
      refine sm_congr fun t ht => ?_
      rw [show a + (t + 1) = a + 1 + t by omega, show n - a - (t + 1) = n - (a + 1) - t by omega]
      simp only [cg]
      grind
    | succ i =>
      simp only [prev, Nat.succ_ne_zero, if_false, Nat.add_sub_cancel]
      rw [← sm_mul, ← sm_mul, ← sm_add]
      refine sm_congr fun t ht => ?_
      rw [show a + (t + 1) = a + 1 + t by omega, show n - a - (t + 1) = n - (a + 1) - t by omega]
      simp only [cg]
      grind
  rw [e]
  grind
theorem Fs_above (xs : List Int) (L H U : Int) {n a i : Nat} (h : n - a < i) : Fs xs L H U n a i = 0 := by
  unfold Fs
  refine sm_zero fun t ht => ?_
  rw [cg_above L H (by omega)]
  simp
/-- all of it: the weights -/
theorem Fs_all (xs : List Int) (d : Dm) (i : Nat) : Fs xs d.L d.H d.U d.D 0 i = sm (d.D + 1) fun j => xs.getD j 0 * wt d j i := by
  unfold Fs wt
  rw [Nat.sub_zero]
  refine sm_congr fun j hj => ?_
  rw [Nat.zero_add]
end BM

set_option Elab.async false
set_option linter.all false
set_option maxRecDepth 100000
set_option maxHeartbeats 4000000
namespace K23
open PySem PySem.Spec PyProof.Rows L2 XV DX
/-- a list by its items -/
def lsF (n : Nat) (f : Nat → Int) : List V := (List.range n).map fun j => V.int (f j)
theorem lsF_get {n i : Nat} {f : Nat → Int} (h : i < n) : (lsF n f)[i]? = some (V.int (f i)) := by
  unfold lsF
  rw [List.getElem?_map, List.getElem?_range h]; rfl
theorem lsF_len {n : Nat} {f : Nat → Int} : (lsF n f).length = n := by
  unfold lsF
  rw [List.length_map, List.length_range]
theorem lsF_eq {n : Nat} {f g : Nat → Int} (h : ∀ i, i < n → f i = g i) : lsF n f = lsF n g := by
  unfold lsF
  exact List.map_congr_left fun i hi => by rw [h i (List.mem_range.mp hi)]
theorem lsF_ints (n : Nat) (f : Nat → Int) : lsF n f = ((List.range n).map f).map V.int := by
  unfold lsF
  rw [List.map_map]; rfl
/-- the powers of U + U t -/
def whI (U : Int) (m : Nat) : Nat → Int := fun i => U ^ m * BM.ch m i
def Wholes (H : Hp) (ws : List Addr) (U : Int) : Prop := ∀ (m : Nat) (w : Addr), ws[m]? = some w → H w = some (.lst (lsF (m + 1) (whI U m)))
theorem Wholes.same {H H' : Hp} {ws : List Addr} {U : Int} (s : Same H H') (h : Wholes H ws U) : Wholes H' ws U := fun m w e => s _ _ (h m w e)
def spTurned : Sp := fun vs H Q _ => ∃ (l W : Addr) (xs : List Int) (L Hh U : Int) (ws : List Addr) (n B C : Nat), vs = [.ref l, .int L, .int Hh, .ref W] ∧ H l = some (.lst (xs.map V.int)) ∧ xs.length = n + 1 ∧ n ≤ 60 ∧ H W = some (.lst (ws.map V.ref)) ∧ ws.length = n + 1 ∧ Wholes H ws U ∧
  (∀ x ∈ xs, My.Bd B x) ∧ My.Bd C L ∧ My.Bd C Hh ∧ My.Bd C U ∧ B + 62 * (C + 4) ≤ 90000 ∧ ∀ p H', H p = none → Same H H' → H' p = some (.lst (lsF (n + 1) (BM.Fs xs L Hh U n 0))) → Q (.ref p) H'
theorem pow_bd {C : Nat} {x : Int} (h : My.Bd C x) : ∀ n : Nat, My.Bd (n * C + 1) (x ^ n)
  | 0 => by rw [Int.pow_zero, Nat.zero_mul]; exact (by decide : (1 : Int).natAbs < 2 ^ 1)
  | n + 1 => by
    rw [Int.pow_succ]
    exact ((pow_bd h n).mul h).mono (by rw [Nat.succ_mul]; omega)
theorem ch_bdn (n k : Nat) : My.Bd (n + 1) (BM.ch n k) := by
  have h1 := ch_le n k
  have h2 := BM.ch_nonneg n k
  have e : (2 : Int) ^ n = ((2 ^ n : Nat) : Int) := by push_cast; rfl
  have h3 : 2 ^ n < 2 ^ (n + 1) := Nat.pow_lt_pow_right (by decide) (by omega)
  show (BM.ch n k).natAbs < 2 ^ (n + 1)
  omega
theorem whI_bd {C : Nat} {U : Int} (h : My.Bd C U) (m i : Nat) : My.Bd (m * C + m + 2) (whI U m i) := ((pow_bd h m).mul (ch_bdn m i)).mono (by omega)
theorem getD_bd {B : Nat} {xs : List Int} (h : ∀ x ∈ xs, My.Bd B x) (j : Nat) : My.Bd B (xs.getD j 0) := by
  rw [List.getD_eq_getElem?_getD]
  cases e : xs[j]? with
  | none => exact .zero
  | some x => exact h x (List.mem_iff_getElem?.mpr ⟨j, e⟩)
theorem prev_bd {B : Nat} {f : Nat → Int} (h : ∀ i, My.Bd B (f i)) (i : Nat) : My.Bd B (BM.prev f i) := by
  unfold BM.prev
  split
  · exact .zero
  · exact h _
theorem Fs_bd {B C n : Nat} {xs : List Int} {L Hh U : Int} (hb : ∀ x ∈ xs, My.Bd B x) (bL : My.Bd C L) (bH : My.Bd C Hh) (bU : My.Bd C U) : ∀ (m a : Nat), a + m = n → ∀ i, My.Bd (B + m * (C + 4) + 2) (BM.Fs xs L Hh U n a i)
  | 0, a, e, i => by
    obtain rfl : a = n := by omega
    rw [BM.Fs_last]
    exact My.Bd.mono (n := B + (0 + 1)) (m := B + 0 * (C + 4) + 2) ((getD_bd hb a).mul (ch_bdn 0 i)) (by omega)
  | m + 1, a, e, i => by
    have ih := fun i => Fs_bd (n := n) hb bL bH bU m (a + 1) (by omega) i
    rw [BM.Fs_step xs L Hh U (n := n) (a := a) (by omega)]
    rw [show n - a = m + 1 by omega]
    have h1 := ((ih i).mul bL).add ((prev_bd ih i).mul bH)
    have h2 := (getD_bd hb a).mul (whI_bd bU (m + 1) i)
    have h3 : (m + 1) * (C + 4) = m * (C + 4) + (C + 4) := Nat.succ_mul _ _
    have h4 : (m + 1) * (C + 4) = (m + 1) * C + (m + 1) * 4 := Nat.mul_add _ _ _
    exact My.Bd.mono (n := B + (m + 1) * (C + 4) + 1 + 1) (m := B + (m + 1) * (C + 4) + 2) (My.Bd.add (h1.mono (m := B + (m + 1) * (C + 4) + 1) (by omega)) (h2.mono (m := B + (m + 1) * (C + 4) + 1) (by omega))) (by omega)
theorem tl_Fs {n a : Nat} {xs : List Int} {L Hh U : Int} (h : a < n) : (tl ((List.range (n - a)).map (BM.Fs xs L Hh U n (a + 1))) L Hh).map V.int = lsF (n - a + 1) fun i => BM.Fs xs L Hh U n (a + 1) i * L + BM.prev (BM.Fs xs L Hh U n (a + 1)) i * Hh := by
  unfold tl lsF
  rw [List.length_map, List.length_range, List.map_map]
  have g : ∀ j, ((List.range (n - a)).map (BM.Fs xs L Hh U n (a + 1))).getD j 0 = BM.Fs xs L Hh U n (a + 1) j := fun j => by
    rw [List.getD_eq_getElem?_getD, List.getElem?_map]
    by_cases hj : j < n - a
    · rw [List.getElem?_range hj]; rfl
    · rw [List.getElem?_eq_none (by rw [List.length_range]; omega), BM.Fs_above (h := by omega)]; rfl
  refine List.map_congr_left fun j _ => ?_
  simp only [Function.comp, g]
  unfold BM.prev
  congr 2
  split
  · rw [Int.zero_mul]
  · rfl
section
variable {P : Program} {w : World} {K : PySem.W.Frag} {mg : Str → Option Value} {base : Heap}
theorem sc_turned : FnScope ["line", "low", "high", "wholes", "found", "at", "count", "whole"] ["line", "low", "high", "wholes"] (defScope s_turned) := ⟨rfl, rfl, rfl, by decide +kernel, rfl, by decide +kernel, by decide +kernel⟩
theorem cal_turned {f : Addr} {fd : FuncData} (F : FnP K "turned" "turned" s_turned f fd) (g : mg "turned" = some (.ref f)) (T : Txt0 mg) (C_times_line : Cal P w K mg base "times_line" 1 ["line", "low", "high"] spTimes) : Cal P w K mg base "turned" 2 ["line", "low", "high", "wholes"] spTurned := by
  obtain ⟨f_times_line, fd_times_line, g_times_line, G_times_line, b_times_line, k_times_line⟩ := C_times_line
  refine ⟨f, fd, g, ?_, F.bindsN (fun _ _ _ _ _ _ us hl => match us, hl with | [_, _, _, _], _ => rfl), F.kp⟩
  refine F.ok sc_turned (fun vs H Q E h => ?_) (fun cdv A outer s H vs Q E hr h => ?_)
  · obtain ⟨l, W, xs, L, Hh, U, ws, n, B, C, rfl, hl, hx, hn, hW, hwl, hw, hb, bL, bH, bU, hBC, k⟩ := h
    rfl
  · obtain ⟨l, W, xs, L, Hh, U, ws, n, B, C, rfl, hl, hx, hn, hW, hwl, hw, hb, bL, bH, bU, hBC, k⟩ := h
    refine ⟨_, PSs.nox (pss_cons (ps_set (i := 4) sc_turned.nd rfl (Or.inl rfl) (pe_lst (pa_cons (pe_ix ix_list (pv 0) (pe_un un_neg pe_int) (fun _ _ => rfl)) pa_nil)))
      (pss_cons (ps_for PassesOwn.never rfl (pi_range3 (by rfl) T.range (pa_cons (pe_op op_sub (pe_callB My.c_len (by rfl) T.len PySem.boot_len (pa_cons (pv 0) pa_nil)) pe_int) (pa_cons (pe_un un_neg pe_int) (pa_cons (pe_un un_neg pe_int) pa_nil)))) (pg_name (i := 5) sc_turned.nd rfl (Or.inr rfl))
       (pss_cons (ps_set (i := 4) sc_turned.nd rfl (Or.inl rfl) (pe_call G_times_line (hr.mono (by decide)) (by rfl) g_times_line k_times_line b_times_line .nil pass0 (pa_cons (pv 4) (pa_cons (pv 1) (pa_cons (pv 2) pa_nil)))))
      (pss_one (ps_if (pt_cmpR op_ne (pe_ix ix_list (pv 0) (pv 5) (fun _ _ => rfl)) pe_int (nomark _))
       (pss_one (ps_setLc (i := 4) (own := [("count", 6), ("whole", 7)]) (tt := tYes) (te := tOp (rI0 fun i j => .int (i + j)) (tVar 6) (tOp (rI CMulW fun i j => .int (i * j)) (tOp (rIxL K) (tVar 0) (tVar 5)) (tVar 7))) (g := gTup K 2 (gCons (gName 6) (gCons (gName 7) gNil))) (by rfl) sc_turned.nd rfl rfl (sw_true rfl rfl rfl (by decide +kernel)) (pi_zip (by rfl) T.zip (pa_cons (pv 4) (pa_cons (pe_ix ix_list (pv 3) (pe_op op_sub (pe_op op_sub (pe_callB My.c_len (by rfl) T.len PySem.boot_len (pa_cons (pv 0) pa_nil)) pe_int) (pv 5)) (fun _ _ => rfl)) pa_nil))) (blkOk_by (own := [("count", 6), ("whole", 7)]) (N := ["line", "low", "high", "wholes", "found", "at", "count", "whole"]) (sc := (defScope s_turned)) (by decide +kernel)) (fun _ _ _ _ _ => (pg_tup (by rfl) (pgs_cons (pg_name (i := 6) sc_turned.nd rfl (Or.inl rfl)) (pgs_cons (pg_name (i := 7) sc_turned.nd rfl (Or.inl rfl)) pgs_nil)))) (fun _ _ _ _ _ => pts_nil) (fun _ _ _ _ _ => (pe_op op_add (pv 6) (pe_op op_mulW (pe_ix ix_list (pv 0) (pv 5) (fun _ _ => rfl)) (pv 7))))))
       pss_nil))))
      (pss_one (ps_ret (pv 4))))), ?_⟩
    try dsimp only [cxOf, Cx.nox, Cx.wish]
    have xe : ∃ ys y, xs = ys ++ [y] ∧ ys.length = n := by
      rcases List.eq_nil_or_concat xs with e | ⟨ys, y, e⟩
      · rw [e] at hx; cases hx
      · rw [List.concat_eq_append] at e
        exact ⟨ys, y, e, by rw [e, List.length_append] at hx; simpa using hx⟩
    obtain ⟨ys, y, ey, hys⟩ := xe
    have ylast : xs.getD n 0 = y := by
      rw [ey, List.getD_eq_getElem?_getD, List.getElem?_append_right (by omega), hys, Nat.sub_self]; rfl
    walk_at "f"
    refine My.ixLast (xs := ys.map V.int) (x := .int y) (by rw [show ys.map V.int ++ [V.int y] = xs.map V.int by rw [ey, List.map_append]; rfl]; exact SqL.of hl) ?_
    refine My.new (My.sz (by simp)) fun p1 n1 => ?_
    have s1 := same_new (o := HO.lst [V.int y]) n1
    walk_at "f"
    refine My.lenL (SqL.of (s1 _ _ hl)) ?_
    walk_at "f"
    refine My.rng3 (n := n) (by omega) (by rw [List.length_map]; omega) rfl (fun i σ' H' => ∃ fp u v x, σ' = [some (.ref l), some (.int L), some (.int Hh), some (.ref W), some (.ref fp), u, v, x] ∧ H fp = none ∧ Same H H' ∧ H' fp = some (.lst (lsF (i + 1) (BM.Fs xs L Hh U n (n - i))))) ⟨p1, none, none, none, rfl, n1, s1, ?_⟩ ?_ ?_
    · rw [upd_same]
      show some (HO.lst [V.int y]) = some (HO.lst [V.int (BM.Fs xs L Hh U n (n - 0) 0)])
      rw [Nat.sub_zero, BM.Fs_last, ylast, BM.ch_zero, Int.mul_one]
    · rintro i σ' H1 hi ⟨fp, u, v, x, rfl, nf, s2, hf⟩
      have ea : n - i = n - 1 - i + 1 := by omega
      have ena : i + 1 = n - (n - 1 - i) := by omega
      have fb := Fs_bd (n := n) hb bL bH bU
      walk_at "f"
      refine ⟨fp, (List.range (i + 1)).map (BM.Fs xs L Hh U n (n - i)), L, Hh, B + i * (C + 4) + 2, C, rfl, by rw [← lsF_ints]; exact hf, by rw [List.length_map, List.length_range]; omega, fun z hz => ?_, bL, bH, ?_, fun p2 H2 np2 s3 hp2 => ?_⟩
      · obtain ⟨j, _, rfl⟩ := List.mem_map.mp hz
        exact fb i (n - i) (by omega) j
      · have : i * (C + 4) ≤ 60 * (C + 4) := Nat.mul_le_mul_right _ (by omega)
        have : 62 * (C + 4) = 60 * (C + 4) + 2 * (C + 4) := by rw [← Nat.add_mul]
        omega
      rw [ena, ea, tl_Fs (by omega)] at hp2
      have s4 := s2.trans s3
      have np2' : H p2 = none := s2.free np2
      have hxi : xs[n - 1 - i]? = some (xs.getD (n - 1 - i) 0) := by
        rw [List.getD_eq_getElem?_getD, List.getElem?_eq_getElem (by omega)]; rfl
      have hxv : (xs.map V.int)[n - 1 - i]? = some (.int (xs.getD (n - 1 - i) 0)) := by rw [List.getElem?_map, hxi]; rfl
      walk_at "f"
      refine My.ixL (SqL.of (s4 _ _ hl)) (atI_nat hxv) ?_
      walk_at "g"
      rotate_left
      · rename_i z0
        refine ⟨p2, _, _, _, rfl, np2', s4, ?_⟩
        rw [hp2, ← ena]
        refine congrArg (fun z => some (HO.lst z)) (lsF_eq fun j hj => ?_)
        rw [show n - (i + 1) = n - 1 - i by omega, BM.Fs_step xs L Hh U (n := n) (a := n - 1 - i) (by omega), z0, Int.zero_mul, Int.add_zero]
      · refine My.lenL (SqL.of (s4 _ _ hl)) ?_
        walk_at "f"
        have hwi : ∃ wa, ws[i + 1]? = some wa := ⟨ws[i + 1], List.getElem?_eq_getElem (by omega)⟩
        obtain ⟨wa, hwa⟩ := hwi
        have ei : (((xs.map V.int).length : Int) - 1 - ((n - 1 - i : Nat) : Int)) = ((i + 1 : Nat) : Int) := by rw [List.length_map]; omega
        rw [ei]
        refine My.ixL (SqL.of (s4 _ _ hW)) (atI_nat (by rw [List.getElem?_map, hwa]; rfl)) ?_
        have hwo := s4 _ _ (hw _ _ hwa)
        refine ⟨p2, wa, _, _, rfl, SqL.of hp2, SqL.of hwo, My.lcM (walk_zip (n := i + 2) (by rw [lsF_len, lsF_len]; omega)) Same (by omega) (fun D hD => same_new hD) fun D nD => ⟨fun j y H => y = .int (BM.Fs xs L Hh U n (n - 1 - i) j), fun j y H ys o _ h => h, fun H o s => same_at s nD, fun H2 _ s _ => ⟨SqL.of (s _ _ hp2), SqL.of (s _ _ hwo)⟩, ?_, ?_⟩⟩
        · rintro j x H4 H5 zs N hj r e l' p' ⟨T, a, b, rfl, nT, rfl, ea1, eb1⟩ hN
          cases Option.some.inj ((lsF_get (by omega)).symm.trans ea1)
          cases Option.some.inj ((lsF_get (by omega)).symm.trans eb1)
          have sT := same_new (o := HO.tup [V.int (BM.Fs xs L Hh U n (n - 1 - i + 1) j * L + BM.prev (BM.Fs xs L Hh U n (n - 1 - i + 1)) j * Hh), V.int (whI U (i + 1) j)]) nT
          refine My.gtup2 (SqT.of upd_same) rfl ?_
          have r5 := r.trans sT
          have e5 := sT _ _ e
          generalize upd H4 T _ = H6 at r5 e5 ⊢
          refine ⟨rfl, ?_⟩
          walk_at "f"
          refine My.ixL (SqL.of ((s4.trans r5) _ _ hl)) (atI_nat hxv) ?_
          have bw := whI_bd bU (i + 1) j
          have l1 : (i + 1) * C ≤ 60 * C := Nat.mul_le_mul_right _ (by omega)
          have l2 : 62 * (C + 4) = 62 * C + 62 * 4 := Nat.mul_add _ _ _
          walk_at "f"
          refine My.mulW (getD_bd hb _) bw (by omega) ?_
          walk_at "f"
          refine hN _ _ r5 e5 (fun j v hv => p' j v hv) ?_
          show V.int _ = V.int _
          rw [BM.Fs_step xs L Hh U (n := n) (a := n - 1 - i) (by omega), show n - (n - 1 - i) = i + 1 by omega]
          rfl
        · intro H4 zs hD hl2 s5 hz
          walk_at "f"
          refine ⟨D, _, _, _, rfl, s4.free nD, s4.trans s5, ?_⟩
          rw [hD, map_of hl2 hz, show n - (i + 1) = n - 1 - i by omega]
          rfl
    · rintro σ' H1 ⟨fp, u, v, x, rfl, nf, s2, hf⟩
      walk_at "f"
      rw [Nat.sub_self] at hf
      exact k fp H1 nf s2 hf
end
end K23

set_option Elab.async false
set_option linter.all false
set_option maxRecDepth 100000
set_option maxHeartbeats 4000000
/-! rows of counts by their keys: one power taken out, put in -/
namespace K23
open PySem PySem.Spec PyProof.Rows L2 DX
def del (k : Nat) (l : List Int) : List Int := l.take k ++ l.drop (k + 1)
def ins (k : Nat) (l : List Int) (a : Int) : List Int := l.take k ++ a :: l.drop k
theorem del_len {k : Nat} {l : List Int} (h : k < l.length) : (del k l).length + 1 = l.length := by
  unfold del
  rw [List.length_append, List.length_take, List.length_drop]
  omega
theorem ins_len {k : Nat} {l : List Int} {a : Int} (h : k ≤ l.length) : (ins k l a).length = l.length + 1 := by
  unfold ins
  rw [List.length_append, List.length_take, List.length_cons, List.length_drop]
  omega
theorem ins_at {k : Nat} {l : List Int} {a : Int} (h : k ≤ l.length) : (ins k l a).getD k 0 = a := by
  unfold ins
  rw [List.getD_eq_getElem?_getD, List.getElem?_append_right (by rw [List.length_take]; omega), List.length_take, Nat.min_eq_left h, Nat.sub_self]; rfl
theorem del_ins {k : Nat} {l : List Int} {a : Int} (h : k ≤ l.length) : del k (ins k l a) = l := by
  unfold del ins
  rw [List.take_append_of_le_length (by rw [List.length_take]; omega), List.take_take, Nat.min_self, List.drop_append]
  rw [List.drop_eq_nil_of_le (by rw [List.length_take]; omega), List.nil_append, List.length_take, Nat.min_eq_left h, show k + 1 - k = 1 by omega]
  show _ ++ l.drop k = l
  exact List.take_append_drop k l
theorem ins_del {k : Nat} {l : List Int} (h : k < l.length) : ins k (del k l) (l.getD k 0) = l := by
  unfold del ins
  have e1 : (l.take k ++ l.drop (k + 1)).take k = l.take k := by
    rw [List.take_append_of_le_length (by rw [List.length_take]; omega), List.take_take, Nat.min_self]
  have e2 : (l.take k ++ l.drop (k + 1)).drop k = l.drop (k + 1) := by
    rw [List.drop_append, List.drop_eq_nil_of_le (by rw [List.length_take]; omega), List.nil_append, List.length_take, Nat.min_eq_left (by omega), Nat.sub_self]; rfl
  rw [e1, e2]
  have e3 : l.getD k 0 :: l.drop (k + 1) = l.drop k := by
    rw [List.drop_eq_getElem_cons h, List.getD_eq_getElem?_getD, List.getElem?_eq_getElem h]; rfl
  rw [e3]
  exact List.take_append_drop k l
theorem ins_inj {k : Nat} {l m : List Int} {a b : Int} (hl : k ≤ l.length) (hm : k ≤ m.length) (e : ins k l a = ins k m b) : l = m ∧ a = b := by
  have h1 : del k (ins k l a) = del k (ins k m b) := by rw [e]
  have h2 : (ins k l a).getD k 0 = (ins k m b).getD k 0 := by rw [e]
  rw [del_ins hl, del_ins hm] at h1
  rw [ins_at hl, ins_at hm] at h2
  exact ⟨h1, h2⟩
/-- what stands at a key -/
def val (m : Pol) (k : List Int) : Int := (getP m k).getD 0
theorem getP_none {m : Pol} {k : List Int} (h : k ∉ keysP m) : getP m k = none := by
  unfold getP
  cases e : m.find? (fun p => decide (p.1 = k)) with
  | none => rfl
  | some p =>
    exact absurd (List.mem_map.mpr ⟨p, List.mem_of_find?_eq_some e, of_decide_eq_true (List.find?_some (p := fun p : List Int × Int => decide (p.1 = k)) e)⟩) h
theorem val_off {m : Pol} {k : List Int} (h : k ∉ keysP m) : val m k = 0 := by
  unfold val; rw [getP_none h]; rfl
theorem val_of {m : Pol} (nd : (keysP m).Nodup) {p : List Int × Int} (h : p ∈ m) : val m p.1 = p.2 := by
  obtain ⟨i, hi⟩ := List.mem_iff_getElem?.mp h
  unfold val
  rw [getP_at nd (l := p.1) (c := p.2) hi]; rfl
theorem val_snoc {m : Pol} {p : List Int × Int} (h : p.1 ∉ keysP m) (k : List Int) : val (m ++ [p]) k = if k = p.1 then p.2 else val m k := by
  unfold val getP
  rw [List.find?_append]
  by_cases e : k = p.1
  · subst e
    have : m.find? (fun q => decide (q.1 = p.1)) = none := by
      have z := getP_none h
      unfold getP at z
      exact Option.map_eq_none_iff.mp z
    rw [this, if_pos rfl]
    simp
  · rw [if_neg e]
    cases m.find? (fun q => decide (q.1 = k)) with
    | none =>
      have : decide (p.1 = k) = false := decide_eq_false fun z => e z.symm
      simp [this]
    | some q => rfl
abbrev Lns := List (List Int × List Int)
def lineStep (k high : Nat) (ls : Lns) (p : List Int × Int) : Lns :=
  (if (ls.any fun e => decide (e.1 = del k p.1)) = true then ls else ls ++ [(del k p.1, List.replicate (high + 1) 0)]).map fun e => if e.1 = del k p.1 then (e.1, e.2.set (p.1.getD k 0).toNat p.2) else e
def linesP (k high : Nat) (m : Pol) : Lns := m.foldl (lineStep k high) []
theorem linesP_snoc (k high : Nat) (m : Pol) (p : List Int × Int) : linesP k high (m ++ [p]) = lineStep k high (linesP k high m) p := by
  unfold linesP
  rw [List.foldl_append]; rfl
structure LnsOk (k high N : Nat) (m : Pol) (ls : Lns) : Prop where
  nd : (ls.map (·.1)).Nodup
  len : ∀ e ∈ ls, e.2.length = high + 1 ∧ e.1.length + 1 = N
  key : ∀ r, r ∈ ls.map (·.1) ↔ ∃ p ∈ m, del k p.1 = r
  at_ : ∀ e ∈ ls, ∀ j : Nat, j ≤ high → e.2.getD j 0 = val m (ins k e.1 (j : Int))
structure RowOk (k high N : Nat) (m : Pol) : Prop where
  nd : (keysP m).Nodup
  len : ∀ p ∈ m, p.1.length = N ∧ 0 ≤ p.1.getD k 0 ∧ p.1.getD k 0 ≤ (high : Int)
theorem RowOk.front {k high N : Nat} {m : Pol} {p : List Int × Int} (h : RowOk k high N (m ++ [p])) : RowOk k high N m ∧ p.1 ∉ keysP m := by
  have nd := h.nd
  unfold keysP at nd
  rw [List.map_append, List.nodup_append] at nd
  exact ⟨⟨nd.1, fun q hq => h.len q (List.mem_append_left _ hq)⟩, fun z => nd.2.2 _ z p.1 (by simp) rfl⟩
theorem getD_set {xs : List Int} {i j : Nat} {c : Int} (h : i < xs.length) : (xs.set i c).getD j 0 = if j = i then c else xs.getD j 0 := by
  rw [List.getD_eq_getElem?_getD, List.getElem?_set, List.getD_eq_getElem?_getD]
  by_cases e : i = j
  · subst e; rw [if_pos rfl, if_pos h, if_pos rfl]; rfl
  · rw [if_neg e, if_neg fun z => e z.symm]
theorem lineStep_map (k high : Nat) (ls : Lns) (p : List Int × Int) : (lineStep k high ls p).map (·.1) = if del k p.1 ∈ ls.map (·.1) then ls.map (·.1) else ls.map (·.1) ++ [del k p.1] := by
  have key : (ls.any fun e => decide (e.1 = del k p.1)) = true ↔ del k p.1 ∈ ls.map (·.1) := by
    rw [List.any_eq_true, List.mem_map]
    exact ⟨fun ⟨e, h1, h2⟩ => ⟨e, h1, of_decide_eq_true h2⟩, fun ⟨e, h1, h2⟩ => ⟨e, h1, decide_eq_true h2⟩⟩
  unfold lineStep
  rw [List.map_map]
  have e1 : ((fun e : List Int × List Int => e.1) ∘ fun e => if e.1 = del k p.1 then (e.1, e.2.set (p.1.getD k 0).toNat p.2) else e) = fun e => e.1 := by
    funext e
    show (if _ then _ else _ : List Int × List Int).1 = e.1
    split <;> rfl
  rw [e1]
  by_cases z : (ls.any fun e => decide (e.1 = del k p.1)) = true
  · rw [if_pos z, if_pos (key.mp z)]
  · rw [if_neg z, if_neg (fun g => z (key.mpr g)), List.map_append]
    rfl
theorem lines_ok {k high N : Nat} (hk : k < N) : ∀ (n : Nat) (m : Pol), m.length = n → RowOk k high N m → LnsOk k high N m (linesP k high m)
  | 0, m, l, _ => by
    obtain rfl : m = [] := List.eq_nil_of_length_eq_zero l
    exact ⟨List.nodup_nil, (fun e he => nomatch he), (fun r => by simp [linesP]), (fun e he => nomatch he)⟩
  | n + 1, m, l, h => by
    obtain ⟨m, p, rfl⟩ : ∃ m' p, m = m' ++ [p] := by
      rcases List.eq_nil_or_concat m with e | ⟨a, b, e⟩
      · rw [e] at l; cases l
      · exact ⟨a, b, by rw [e, List.concat_eq_append]⟩
    obtain ⟨h1, hp⟩ := h.front
    have ih := lines_ok hk n m (by rw [List.length_append] at l; simpa using l) h1
    rw [linesP_snoc]
    have hl := h.len p (List.mem_append_right _ List.mem_cons_self)
    have hdl : (del k p.1).length + 1 = N := by rw [del_len (by omega), hl.1]
    have hj : (p.1.getD k 0).toNat < high + 1 := by omega
    have mem : ∀ e ∈ lineStep k high (linesP k high m) p, (e.1 ≠ del k p.1 ∧ e ∈ linesP k high m) ∨ (e.1 = del k p.1 ∧ ∃ xs : List Int, e.2 = xs.set (p.1.getD k 0).toNat p.2 ∧ xs.length = high + 1 ∧ ∀ j : Nat, j ≤ high → xs.getD j 0 = val m (ins k (del k p.1) (j : Int))) := by
      intro e he
      unfold lineStep at he
      obtain ⟨e0, h0, rfl⟩ := List.mem_map.mp he
      by_cases ee : e0.1 = del k p.1
      · rw [if_pos ee]
        refine .inr ⟨ee, e0.2, rfl, ?_⟩
        split at h0
        · exact ⟨(ih.len e0 h0).1, fun j hj => by rw [← ee]; exact ih.at_ e0 h0 j hj⟩
        · rename_i nz
          rcases List.mem_append.mp h0 with g | g
          · exact ⟨(ih.len e0 g).1, fun j hj => by rw [← ee]; exact ih.at_ e0 g j hj⟩
          · rw [List.mem_singleton.mp g]
            refine ⟨List.length_replicate .., fun j hj => ?_⟩
            rw [List.getD_eq_getElem?_getD, List.getElem?_replicate, if_pos (by omega), val_off]
            · rfl
            · intro z
              obtain ⟨q, hq, eq⟩ := List.mem_map.mp z
              refine nz (List.any_eq_true.mpr ?_)
              have : del k p.1 ∈ (linesP k high m).map (·.1) := (ih.key _).mpr ⟨q, hq, by rw [eq, del_ins (by omega)]⟩
              obtain ⟨e, h1, h2⟩ := List.mem_map.mp this
              exact ⟨e, h1, decide_eq_true h2⟩
      · rw [if_neg ee]
        refine .inl ⟨ee, ?_⟩
        split at h0
        · exact h0
        · rcases List.mem_append.mp h0 with g | g
          · exact g
          · rw [List.mem_singleton.mp g] at ee
            exact absurd rfl ee
    refine ⟨?_, fun e he => ?_, fun r => ?_, fun e he j hjh => ?_⟩
    · rw [lineStep_map]
      split
      · exact ih.nd
      · rename_i z
        exact List.nodup_append.mpr ⟨ih.nd, List.nodup_cons.mpr ⟨by simp, List.nodup_nil⟩, fun a ha b hb e => z (by rw [List.mem_singleton.mp hb] at e; rw [← e]; exact ha)⟩
    · rcases mem e he with ⟨_, g⟩ | ⟨g1, xs, g2, g3, _⟩
      · exact ih.len e g
      · exact ⟨by rw [g2, List.length_set, g3], by rw [g1]; exact hdl⟩
    · rw [lineStep_map]
      constructor
      · intro z
        have z' : r ∈ (linesP k high m).map (·.1) ∨ r = del k p.1 := by
          split at z
          · exact .inl z
          · rcases List.mem_append.mp z with g | g
            · exact .inl g
            · exact .inr (List.mem_singleton.mp g)
        rcases z' with g | g
        · obtain ⟨q, hq, e⟩ := (ih.key r).mp g
          exact ⟨q, List.mem_append_left _ hq, e⟩
        · exact ⟨p, List.mem_append_right _ List.mem_cons_self, g.symm⟩
      · rintro ⟨q, hq, e⟩
        rcases List.mem_append.mp hq with g | g
        · have := (ih.key r).mpr ⟨q, g, e⟩
          split
          · exact this
          · exact List.mem_append_left _ this
        · rw [List.mem_singleton.mp g] at e
          subst e
          split
          · assumption
          · exact List.mem_append_right _ List.mem_cons_self
    · rw [val_snoc hp]
      rcases mem e he with ⟨g1, g2⟩ | ⟨g1, xs, g2, g3, g4⟩
      · rw [if_neg fun z => ?_]
        · exact ih.at_ e g2 j hjh
        · refine g1 ?_
          have hle : k ≤ e.1.length := by have := (ih.len e g2).2; omega
          rw [← z, del_ins hle]
      · rw [g2, getD_set (by omega), g1]
        by_cases ej : j = (p.1.getD k 0).toNat
        · rw [if_pos ej, if_pos]
          rw [ej, Int.toNat_of_nonneg hl.2.1, ins_del (by omega)]
        · rw [if_neg ej, if_neg fun z => ?_]
          · exact g4 j hjh
          · have := (ins_inj (k := k) (by omega) (by omega) (z.trans (ins_del (l := p.1) (by omega)).symm)).2
            omega
end K23

set_option Elab.async false
set_option linter.all false
set_option maxRecDepth 100000
set_option maxHeartbeats 4000000
namespace K23
open PySem PySem.Spec PyProof.Rows L2 DX
theorem cut_take {xs : List V} {k : Nat} (h : k ≤ xs.length) : cutV xs none (some (k : Int)) = xs.take k := by
  unfold cutV
  rw [HT.sIx_none, HT.sIx_nat, List.drop_zero, Nat.sub_zero, Nat.min_eq_left h]
theorem cut_drop {xs : List V} {k : Nat} (h : k ≤ xs.length) : cutV xs (some (k : Int)) none = xs.drop k := by
  unfold cutV
  rw [HT.sIx_none, HT.sIx_nat, Nat.min_eq_left h, List.take_of_length_le (by rw [List.length_drop]; omega)]
def ent (k high : Nat) (d : BM.Dm) (e : List Int × List Int) : Pol := (List.range (high + 1)).map fun a : Nat => (ins k e.1 (a : Int), BM.Fs e.2 d.L d.H d.U high 0 a)
def ents (k high : Nat) (d : BM.Dm) (ls : Lns) : Pol := ls.flatMap (ent k high d)
def spreadP (k high : Nat) (d : BM.Dm) (m : Pol) : Pol := ents k high d (linesP k high m)
theorem ent_mem {k high : Nat} {d : BM.Dm} {e : List Int × List Int} {p : List Int × Int} : p ∈ ent k high d e ↔ ∃ a : Nat, a ≤ high ∧ p = (ins k e.1 (a : Int), BM.Fs e.2 d.L d.H d.U high 0 a) := by
  unfold ent
  rw [List.mem_map]
  exact ⟨fun ⟨a, h1, h2⟩ => ⟨a, Nat.le_of_lt_succ (List.mem_range.mp h1), h2.symm⟩, fun ⟨a, h1, h2⟩ => ⟨a, List.mem_range.mpr (Nat.lt_succ_of_le h1), h2.symm⟩⟩
theorem ents_nd {k high : Nat} {d : BM.Dm} : ∀ {ls : Lns}, (ls.map (·.1)).Nodup → (∀ e ∈ ls, k ≤ e.1.length) → (keysP (ents k high d ls)).Nodup
  | [], _, _ => List.nodup_nil
  | e :: ls, nd, hk => by
    rw [List.map_cons, List.nodup_cons] at nd
    have ih := ents_nd (d := d) (high := high) nd.2 fun x hx => hk x (List.mem_cons_of_mem _ hx)
    unfold ents keysP
    rw [List.flatMap_cons, List.map_append]
    refine List.nodup_append.mpr ⟨?_, ih, fun a ha b hb eq => ?_⟩
    · unfold ent
      rw [List.map_map]
      refine List.Pairwise.map _ (fun x y (h : x ≠ y) z => h ?_) List.nodup_range
      have := (ins_inj (hk e List.mem_cons_self) (hk e List.mem_cons_self) z).2
      omega
    · subst eq
      obtain ⟨p, hp, rfl⟩ := List.mem_map.mp ha
      obtain ⟨q, hq, e2⟩ := List.mem_map.mp hb
      obtain ⟨x, _, rfl⟩ := ent_mem.mp hp
      obtain ⟨e', he', hq'⟩ := List.mem_flatMap.mp hq
      obtain ⟨y, _, rfl⟩ := ent_mem.mp hq'
      have := (ins_inj (hk e' (List.mem_cons_of_mem _ he')) (hk e List.mem_cons_self) e2).1
      exact nd.1 (List.mem_map.mpr ⟨e', he', this⟩)
section
variable {k high N : Nat} {d : BM.Dm} {m : Pol}
theorem spread_nd (hk : k < N) (h : RowOk k high N m) : (keysP (spreadP k high d m)).Nodup := by
  have o := lines_ok hk _ m rfl h
  exact ents_nd o.nd fun e he => by have := (o.len e he).2; omega
/-- the keys -/
theorem spread_key (hk : k < N) (h : RowOk k high N m) {I : List Int} : I ∈ keysP (spreadP k high d m) ↔ I.length = N ∧ 0 ≤ I.getD k 0 ∧ I.getD k 0 ≤ (high : Int) ∧ ∃ p ∈ m, del k p.1 = del k I := by
  have o := lines_ok hk _ m rfl h
  constructor
  · intro z
    obtain ⟨p, hp, rfl⟩ := List.mem_map.mp z
    obtain ⟨e, he, hp'⟩ := List.mem_flatMap.mp hp
    obtain ⟨a, ha, rfl⟩ := ent_mem.mp hp'
    have l := (o.len e he).2
    have hle : k ≤ e.1.length := by omega
    show (ins k e.1 (a : Int)).length = N ∧ 0 ≤ (ins k e.1 (a : Int)).getD k 0 ∧ (ins k e.1 (a : Int)).getD k 0 ≤ (high : Int) ∧ ∃ p ∈ m, del k p.1 = del k (ins k e.1 (a : Int))
    rw [ins_len hle, ins_at hle, del_ins hle]
    exact ⟨l, by omega, by omega, (o.key e.1).mp (List.mem_map.mpr ⟨e, he, rfl⟩)⟩
  · rintro ⟨l, h0, h1, z⟩
    obtain ⟨e, he, ee⟩ := List.mem_map.mp ((o.key _).mpr z)
    refine List.mem_map.mpr ⟨(ins k e.1 (((I.getD k 0).toNat : Nat) : Int), _), List.mem_flatMap.mpr ⟨e, he, ent_mem.mpr ⟨(I.getD k 0).toNat, by omega, rfl⟩⟩, ?_⟩
    show ins k e.1 (((I.getD k 0).toNat : Nat) : Int) = I
    rw [ee, Int.toNat_of_nonneg h0, ins_del (by omega)]
/-- what stands there -/
theorem spread_val (hk : k < N) (h : RowOk k high N m) (hD : d.D = high) {I : List Int} (hI : I ∈ keysP (spreadP k high d m)) :
    val (spreadP k high d m) I = BM.sm (high + 1) fun j => val m (ins k (del k I) (j : Int)) * BM.wt d j (I.getD k 0).toNat := by
  have o := lines_ok hk _ m rfl h
  have nd := spread_nd (d := d) hk h
  obtain ⟨p, hp, rfl⟩ := List.mem_map.mp hI
  rw [val_of nd hp]
  obtain ⟨e, he, hp'⟩ := List.mem_flatMap.mp hp
  obtain ⟨a, ha, rfl⟩ := ent_mem.mp hp'
  have l := (o.len e he).2
  have hle : k ≤ e.1.length := by omega
  show BM.Fs e.2 d.L d.H d.U high 0 a = _
  have z := BM.Fs_all e.2 d a
  rw [hD] at z
  rw [z]
  refine BM.sm_congr fun j hj => ?_
  show _ = val m (ins k (del k (ins k e.1 (a : Int))) (j : Int)) * BM.wt d j ((ins k e.1 (a : Int)).getD k 0).toNat
  rw [del_ins hle, ins_at hle, Int.toNat_natCast, o.at_ e he j (by omega)]
theorem flat_len {α β : Type} {f : α → List β} {c : Nat} (hf : ∀ x, (f x).length = c) : ∀ l : List α, (l.flatMap f).length = l.length * c
  | [] => by simp
  | x :: l => by rw [List.flatMap_cons, List.length_append, flat_len hf l, hf, List.length_cons, Nat.succ_mul, Nat.add_comm]
theorem ents_len (ls : Lns) : (ents k high d ls).length = ls.length * (high + 1) := flat_len (fun e => by unfold ent; rw [List.length_map, List.length_range]) ls
theorem lines_len : ∀ (m : Pol), (linesP k high m).length ≤ m.length := by
  intro m
  have key : ∀ (m : Pol) (ls : Lns), (m.foldl (lineStep k high) ls).length ≤ ls.length + m.length := by
    intro m
    induction m with
    | nil => intro ls; exact Nat.le_refl _
    | cons p m ih =>
      intro ls
      have h1 := ih (lineStep k high ls p)
      have h2 : (lineStep k high ls p).length ≤ ls.length + 1 := by
        unfold lineStep
        rw [List.length_map]
        split
        · omega
        · rw [List.length_append, List.length_singleton]; omega
      rw [List.foldl_cons, List.length_cons]
      omega
  have := key m []
  rw [List.length_nil, Nat.zero_add] at this
  exact this
theorem spread_len : (spreadP k high d m).length ≤ m.length * (high + 1) := by
  unfold spreadP
  rw [ents_len]
  exact Nat.mul_le_mul_right _ (lines_len m)
theorem line_bd {B : Nat} (hk : k < N) (h : RowOk k high N m) (hb : ∀ p ∈ m, My.Bd B p.2) : ∀ e ∈ linesP k high m, ∀ x ∈ e.2, My.Bd B x := by
  have o := lines_ok hk _ m rfl h
  intro e he x hx
  obtain ⟨j, hj⟩ := List.mem_iff_getElem?.mp hx
  have hlt := (List.getElem?_eq_some_iff.mp hj).1
  have e1 := o.at_ e he j (by have := (o.len e he).1; omega)
  rw [List.getD_eq_getElem?_getD, hj] at e1
  have e1 : x = val m (ins k e.1 (j : Int)) := e1
  rw [e1]
  by_cases z : ins k e.1 (j : Int) ∈ keysP m
  · obtain ⟨p, hp, ep⟩ := List.mem_map.mp z
    rw [← ep, val_of h.nd hp]
    exact hb p hp
  · rw [val_off z]; exact .zero
theorem spread_bd {B C : Nat} (hk : k < N) (h : RowOk k high N m) (h60 : high ≤ 60) (hb : ∀ p ∈ m, My.Bd B p.2) (b1 : My.Bd C d.L) (b2 : My.Bd C d.H) (b3 : My.Bd C d.U) : ∀ p ∈ spreadP k high d m, My.Bd (B + 60 * (C + 4) + 2) p.2 := by
  intro p hp
  obtain ⟨e, he, hp'⟩ := List.mem_flatMap.mp hp
  obtain ⟨a, ha, rfl⟩ := ent_mem.mp hp'
  refine (Fs_bd (n := high) (line_bd hk h hb e he) b1 b2 b3 high 0 (by omega) a).mono ?_
  have : high * (C + 4) ≤ 60 * (C + 4) := Nat.mul_le_mul_right _ h60
  omega
end
end K23

set_option Elab.async false
set_option linter.all false
set_option maxRecDepth 100000
set_option maxHeartbeats 4000000
namespace K23
open PySem PySem.Spec PyProof.Rows L2 XV DX
def spSpreadBy : Sp := fun vs H Q _ => ∃ (r s : Addr) (st : Str2) (m : Pol) (k high B N : Nat), vs = [.ref r, .int (k : Int), .int (high : Int), .ref s] ∧ PolD H r m ∧ StrAt H s st ∧ StrOk st ∧ RowOk k high N m ∧ k < N ∧ N ≤ 4 ∧ high ≤ 60 ∧ m.length ≤ 500 ∧ m.length * (high + 1) ≤ 5000 ∧ (∀ p ∈ m, My.Bd B p.2) ∧ B ≤ 60000 ∧
  ∀ p H', H p = none → Same H H' → PolD H' p (spreadP k high (mkDm high st) m) → Q (.ref p) H'
theorem tl_wh (U : Int) (m : Nat) : (tl ((List.range (m + 1)).map (whI U m)) U U).map V.int = lsF (m + 1 + 1) (whI U (m + 1)) := by
  unfold tl lsF
  rw [List.length_map, List.length_range, List.map_map]
  have g : ∀ j, ((List.range (m + 1)).map (whI U m)).getD j 0 = whI U m j := fun j => by
    rw [List.getD_eq_getElem?_getD, List.getElem?_map]
    by_cases hj : j < m + 1
    · rw [List.getElem?_range hj]; rfl
    · rw [List.getElem?_eq_none (by rw [List.length_range]; omega)]
      show 0 = U ^ m * BM.ch m j
      rw [BM.ch_above (by omega), Int.mul_zero]
  refine List.map_congr_left fun j _ => ?_
  simp only [Function.comp, g]
  congr 1
  unfold whI
  cases j with
  | zero => simp [BM.ch_zero, Int.pow_succ]
  | succ j =>
    rw [if_neg (by omega), BM.ch_succ, Int.pow_succ, Nat.add_sub_cancel]
    grind
/-- the lines' dict: keys, places -/
def dkK (ks : List (List Int)) (as : List Addr) : List (List L2.Key × V) := List.zipWith (fun k a => (ik k, V.ref a)) ks as
theorem dkK_get : ∀ {ks : List (List Int)} {as : List Addr} {i : Nat} {k : List Int} {a : Addr}, ks.Nodup → ks[i]? = some k → as[i]? = some a → valV (dkK ks as) (ik k) = some (.ref a)
  | [], _, _, _, _, _, h, _ => by simp at h
  | _ :: _, [], _, _, _, _, _, h => by simp at h
  | x :: ks, b :: as, 0, k, a, _, h1, h2 => by
    cases Option.some.inj h1
    cases Option.some.inj h2
    exact valV_pos rfl
  | x :: ks, b :: as, i + 1, k, a, nd, h1, h2 => by
    rw [List.nodup_cons] at nd
    have h1' : ks[i]? = some k := h1
    have ne : x ≠ k := fun z => nd.1 (by rw [z]; exact List.mem_iff_getElem?.mpr ⟨i, h1'⟩)
    show valV ((ik x, V.ref b) :: dkK ks as) (ik k) = _
    rw [valV_neg (fun z => ne (ik_inj z))]
    exact dkK_get nd.2 h1' h2
theorem dkK_none : ∀ {ks : List (List Int)} {as : List Addr} {k : List Int}, k ∉ ks → valV (dkK ks as) (ik k) = none
  | [], _, _, _ => rfl
  | _ :: _, [], _, _ => rfl
  | x :: ks, b :: as, k, h => by
    rw [List.mem_cons, not_or] at h
    show valV ((ik x, V.ref b) :: dkK ks as) (ik k) = _
    rw [valV_neg (fun z => h.1 (ik_inj z).symm)]
    exact dkK_none h.2
theorem putK_off {κ : Type} [DecidableEq κ] {kvs : List (κ × V)} {k : κ} {v : V} (h : ∀ p ∈ kvs, p.1 ≠ k) : putK kvs k v = kvs ++ [(k, v)] := by
  unfold putK
  rw [if_neg]
  intro z
  obtain ⟨p, h1, h2⟩ := List.any_eq_true.mp z
  exact h p h1 (of_decide_eq_true h2)
theorem dkK_put {ks : List (List Int)} {as : List Addr} {k : List Int} {a : Addr} (l : as.length = ks.length) (h : k ∉ ks) : putK (dkK ks as) (ik k) (.ref a) = dkK (ks ++ [k]) (as ++ [a]) := by
  rw [putK_off]
  · unfold dkK
    rw [List.zipWith_append (by omega)]; rfl
  · intro p hp e
    obtain ⟨i, hi⟩ := List.mem_iff_getElem?.mp hp
    unfold dkK at hi
    rw [List.getElem?_zipWith] at hi
    cases e1 : ks[i]? with
    | none => rw [e1] at hi; cases hi
    | some x =>
      cases e2 : as[i]? with
      | none => rw [e1, e2] at hi; cases hi
      | some y =>
        rw [e1, e2] at hi
        cases Option.some.inj hi
        exact h (by rw [← ik_inj e]; exact List.mem_iff_getElem?.mpr ⟨i, e1⟩)
/-- the lines stand -/
structure LnAt (H0 H : Hp) (ld : Addr) (ls : Lns) (as : List Addr) : Prop where
  d : H ld = some (.dT (dkK (ls.map (·.1)) as))
  len : as.length = ls.length
  nd : as.Nodup
  new : ∀ a ∈ as, H0 a = none
  at_ : ∀ (i : Nat) e a, ls[i]? = some e → as[i]? = some a → H a = some (.lst (e.2.map V.int))
theorem LnAt.same {H0 H H' : Hp} {ld : Addr} {ls : Lns} {as : List Addr} (h : LnAt H0 H ld ls as) (s : Same H H') : LnAt H0 H' ld ls as := ⟨s _ _ h.d, h.len, h.nd, h.new, fun i e a h1 h2 => s _ _ (h.at_ i e a h1 h2)⟩
theorem LnAt.set {H0 H : Hp} {ld a : Addr} {ls : Lns} {as : List Addr} {j n : Nat} {c : Int} {e : List Int × List Int} (h : LnAt H0 H ld ls as) (nd : (ls.map (·.1)).Nodup) (ej : ls[j]? = some e) (ea : as[j]? = some a) (ne : a ≠ ld) :
    LnAt H0 (upd H a (.lst ((e.2.map V.int).set n (.int c)))) ld (ls.map fun x => if x.1 = e.1 then (x.1, x.2.set n c) else x) as := by
  have ek : (ls.map fun x => if x.1 = e.1 then (x.1, x.2.set n c) else x).map (·.1) = ls.map (·.1) := by
    rw [List.map_map]
    refine List.map_congr_left fun x _ => ?_
    show (if _ then _ else _ : List Int × List Int).1 = x.1
    split <;> rfl
  refine ⟨by rw [ek, upd_ne ne.symm]; exact h.d, by rw [List.length_map]; exact h.len, h.nd, h.new, fun i x b hx hb => ?_⟩
  rw [List.getElem?_map] at hx
  cases e0 : ls[i]? with
  | none => rw [e0] at hx; cases hx
  | some x0 =>
    rw [e0] at hx
    cases Option.some.inj hx
    by_cases eij : i = j
    · subst eij
      rw [ej] at e0
      cases Option.some.inj e0
      rw [ea] at hb
      cases Option.some.inj hb
      show _ = some (HO.lst ((if e.1 = e.1 then (e.1, e.2.set n c) else e).2.map V.int))
      rw [upd_same, if_pos rfl, List.map_set]
    · have hne : x0.1 ≠ e.1 := fun z => eij (by
        have h1 : (ls.map (·.1))[i]? = some x0.1 := by rw [List.getElem?_map, e0]; rfl
        have h2 : (ls.map (·.1))[j]? = some e.1 := by rw [List.getElem?_map, ej]; rfl
        exact (List.getElem?_inj (List.getElem?_eq_some_iff.mp h1).1 nd).mp (by rw [h1, h2, z]))
      have hba : b ≠ a := fun z => eij (by
        rw [z] at hb
        exact (List.getElem?_inj (List.getElem?_eq_some_iff.mp hb).1 h.nd).mp (by rw [hb, ea]))
      show _ = some (HO.lst ((if x0.1 = e.1 then (x0.1, x0.2.set n c) else x0).2.map V.int))
      rw [upd_ne hba, if_neg hne]
      exact h.at_ i x0 b e0 hb
theorem LnAt.push {H0 H : Hp} {ld p : Addr} {ls : Lns} {as : List Addr} {r zs : List Int} (h : LnAt H0 H ld ls as) (hp : H p = none) (hp0 : H0 p = none) (hr : r ∉ ls.map (·.1)) :
    LnAt H0 (upd (upd H p (.lst (zs.map V.int))) ld (.dT (putK (dkK (ls.map (·.1)) as) (ik r) (.ref p)))) ld (ls ++ [(r, zs)]) (as ++ [p]) := by
  have npl : p ≠ ld := fun z => by rw [z, h.d] at hp; cases hp
  have na : p ∉ as := fun z => by
    obtain ⟨i, hi⟩ := List.mem_iff_getElem?.mp z
    have hl := (List.getElem?_eq_some_iff.mp hi).1
    obtain ⟨e, he⟩ : ∃ e, ls[i]? = some e := ⟨_, List.getElem?_eq_getElem (by rw [← h.len]; exact hl)⟩
    have := h.at_ i e p he hi
    rw [hp] at this; cases this
  refine ⟨by rw [upd_same, dkK_put (by rw [h.len, List.length_map]) hr, List.map_append]; rfl, by rw [List.length_append, List.length_append, h.len]; rfl, ?_, fun a ha => ?_, fun i e a h1 h2 => ?_⟩
  · exact List.nodup_append.mpr ⟨h.nd, List.nodup_cons.mpr ⟨by simp, List.nodup_nil⟩, fun a ha b hb e => na (by rw [List.mem_singleton.mp hb] at e; rw [← e]; exact ha)⟩
  · rcases List.mem_append.mp ha with g | g
    · exact h.new a g
    · rw [List.mem_singleton.mp g]; exact hp0
  · by_cases hi : i < ls.length
    · rw [List.getElem?_append_left hi] at h1
      rw [List.getElem?_append_left (by rw [h.len]; exact hi)] at h2
      have z := h.at_ i e a h1 h2
      rw [upd_ne (fun g => by rw [g, h.d] at z; cases z), upd_ne (ne_of_none z hp)]
      exact z
    · rw [List.getElem?_append_right (by omega)] at h1
      rw [List.getElem?_append_right (by rw [h.len]; omega), h.len] at h2
      cases z : i - ls.length with
      | zero =>
        rw [z] at h1 h2
        cases Option.some.inj h1
        cases Option.some.inj h2
        rw [upd_ne npl, upd_same]
      | succ y => rw [z] at h1; cases h1
theorem flat0 (n : Nat) : (List.replicate n [V.int 0]).flatten = (List.replicate n (0 : Int)).map V.int := by
  induction n with
  | zero => rfl
  | succ n ih => rw [List.replicate_succ, List.flatten_cons, ih, List.replicate_succ]; rfl
theorem line_in {k high : Nat} {ls : Lns} {p : List Int × Int} (h : del k p.1 ∈ ls.map (·.1)) : lineStep k high ls p = ls.map fun x : List Int × List Int => if x.1 = del k p.1 then (x.1, x.2.set (p.1.getD k 0).toNat p.2) else x := by
  unfold lineStep
  rw [if_pos]
  obtain ⟨e, h1, h2⟩ := List.mem_map.mp h
  exact List.any_eq_true.mpr ⟨e, h1, decide_eq_true h2⟩
theorem line_out {k high : Nat} {ls : Lns} {p : List Int × Int} (h : del k p.1 ∉ ls.map (·.1)) : lineStep k high ls p = (ls ++ [(del k p.1, List.replicate (high + 1) 0)]).map fun x : List Int × List Int => if x.1 = del k p.1 then (x.1, x.2.set (p.1.getD k 0).toNat p.2) else x := by
  unfold lineStep
  rw [if_neg]
  intro z
  obtain ⟨e, h1, h2⟩ := List.any_eq_true.mp z
  exact h (List.mem_map.mpr ⟨e, h1, of_decide_eq_true h2⟩)
theorem atI_key {l : List Int} {k : Nat} (h : k < l.length) : atI ((ik l).map kV) (k : Int) = some (.int (l.getD k 0)) := by
  rw [ik_kV]
  refine atI_nat ?_
  rw [List.getElem?_map, List.getD_eq_getElem?_getD, List.getElem?_eq_getElem h]; rfl
theorem tup_ins {l : List Int} {k : Nat} {a : Int} (h : k ≤ l.length) : cutV ((ik l).map kV) none (some (k : Int)) ++ [V.int a] ++ cutV ((ik l).map kV) (some (k : Int)) none = (ik (ins k l a)).map kV := by
  rw [ik_kV, ik_kV, cut_take (by rw [List.length_map]; omega), cut_drop (by rw [List.length_map]; omega), ← List.map_take, ← List.map_drop]
  unfold ins
  rw [List.map_append, List.map_cons, List.append_assoc]; rfl
theorem putP_new {m : Pol} {k : List Int} {v : Int} (h : (keysP (m ++ [(k, v)])).Nodup) : putP m k v = m ++ [(k, v)] := by
  unfold putP
  rw [if_neg]
  intro z
  obtain ⟨p, h1, h2⟩ := List.any_eq_true.mp z
  unfold keysP at h
  rw [List.map_append] at h
  exact (List.nodup_append.mp h).2.2 p.1 (List.mem_map.mpr ⟨p, h1, rfl⟩) k (List.mem_singleton.mpr rfl) (of_decide_eq_true h2)
theorem tup_del {l : List Int} {k : Nat} (h : k < l.length) : cutV ((ik l).map kV) none (some (k : Int)) ++ cutV ((ik l).map kV) (some ((k : Int) + 1)) none = (ik (del k l)).map kV := by
  rw [ik_kV, ik_kV, cut_take (by rw [List.length_map]; omega), show (k : Int) + 1 = ((k + 1 : Nat) : Int) by omega, cut_drop (by rw [List.length_map]; omega), ← List.map_take, ← List.map_drop, ← List.map_append]
  rfl
section
variable {P : Program} {w : World} {K : PySem.W.Frag} {mg : Str → Option Value} {base : Heap}
theorem sc_spread_by : FnScope ["rows", "k", "high", "stretch", "low", "top", "under", "wholes", "_", "lines", "powers", "count", "rest", "found", "line", "at"] ["rows", "k", "high", "stretch"] (defScope s_spread_by) := ⟨rfl, rfl, rfl, by decide +kernel, rfl, by decide +kernel, by decide +kernel⟩
theorem cal_spread_by {f : Addr} {fd : FuncData} (F : FnP K "spread_by" "spread_by" s_spread_by f fd) (g : mg "spread_by" = some (.ref f)) (T : Txt0 mg) (C_shared_bottom : Cal P w K mg base "shared_bottom" 1 ["stretch"] spShared) (C_times_line : Cal P w K mg base "times_line" 1 ["line", "low", "high"] spTimes) (C_turned : Cal P w K mg base "turned" 2 ["line", "low", "high", "wholes"] spTurned) : Cal P w K mg base "spread_by" 3 ["rows", "k", "high", "stretch"] spSpreadBy := by
  obtain ⟨f_shared_bottom, fd_shared_bottom, g_shared_bottom, G_shared_bottom, b_shared_bottom, k_shared_bottom⟩ := C_shared_bottom
  obtain ⟨f_times_line, fd_times_line, g_times_line, G_times_line, b_times_line, k_times_line⟩ := C_times_line
  obtain ⟨f_turned, fd_turned, g_turned, G_turned, b_turned, k_turned⟩ := C_turned
  refine ⟨f, fd, g, ?_, F.bindsN (fun _ _ _ _ _ _ us hl => match us, hl with | [_, _, _, _], _ => rfl), F.kp⟩
  refine F.ok sc_spread_by (fun vs H Q E h => ?_) (fun cdv A outer s H vs Q E hr h => ?_)
  · obtain ⟨r, s, st, m, k, high, B, N, rfl, hr0, hs, so, ro, hk, hN, h60, hm, hm2, hb, hB, q⟩ := h
    rfl
  · obtain ⟨r, s, st, m, k, high, B, N, rfl, hr0, hs, so, ro, hk, hN, h60, hm, hm2, hb, hB, q⟩ := h
    have hu := hu_of hr
    refine ⟨_, PSs.nox (pss_cons (ps_asg (pe_call G_shared_bottom (hr.mono (by decide)) (by rfl) g_shared_bottom k_shared_bottom b_shared_bottom .nil pass0 (pa_cons (pv 3) pa_nil)) (pg_tup (by rfl) (pgs_cons (pg_name (i := 4) sc_spread_by.nd rfl (Or.inl rfl)) (pgs_cons (pg_name (i := 5) sc_spread_by.nd rfl (Or.inl rfl)) (pgs_cons (pg_name (i := 6) sc_spread_by.nd rfl (Or.inl rfl)) pgs_nil)))))
      (pss_cons (ps_set (i := 7) sc_spread_by.nd rfl (Or.inl rfl) (pe_lst (pa_cons (pe_lst (pa_cons pe_int pa_nil)) pa_nil)))
      (pss_cons (ps_for PassesOwn.never rfl (pi_range1 (by rfl) T.range (pa_cons (pv 2) pa_nil)) (pg_name (i := 8) sc_spread_by.nd rfl (Or.inl rfl))
       (pss_one (ps_expr (pe_bm PySem.F.plainAttrs_list PySem.F.slot_list_append PySem.F.type_list_append mt_append (pv 7) (pa_cons (pe_call G_times_line (hr.mono (by decide)) (by rfl) g_times_line k_times_line b_times_line .nil pass0 (pa_cons (pe_ix ix_list (pv 7) (pe_un un_neg pe_int) (fun _ _ => rfl)) (pa_cons (pv 6) (pa_cons (pv 6) pa_nil)))) pa_nil)))))
      (pss_cons (ps_set (i := 9) sc_spread_by.nd rfl (Or.inl rfl) pe_dnewT)
      (pss_cons (ps_lock (ps_for PassesOwn.never rfl (DX.pi_itemsT (pv 0)) (pg_tup (by rfl) (pgs_cons (pg_name (i := 10) sc_spread_by.nd rfl (Or.inl rfl)) (pgs_cons (pg_name (i := 11) sc_spread_by.nd rfl (Or.inl rfl)) pgs_nil)))
       (pss_cons (ps_set (i := 12) sc_spread_by.nd rfl (Or.inl rfl) (pe_op op_catA (pe_slice sl_tupA (pv 10) po_none (po_some (pv 1))) (pe_slice sl_tupA (pv 10) (po_some (pe_op op_add (pv 1) pe_int)) po_none)))
      (pss_cons (ps_if (pt_cmp (pc_dnotin hu (pv 12) (pv 9)))
       (pss_one (ps_dput hu (pv 9) (pv 12) (pe_op op_rep (pe_lst (pa_cons pe_int pa_nil)) (pe_op op_add (pv 2) pe_int)) rfl))
       pss_nil)
      (pss_one (ps_asg (pv 11) (pg_sub (pe_dget hu (pv 9) (pv 12) (fun _ _ => rfl)) (pe_ix ix_tup (pv 10) (pv 1) (fun _ _ => rfl)) set_list)))))))
      (pss_cons (ps_set (i := 13) sc_spread_by.nd rfl (Or.inl rfl) pe_dnewT)
      (pss_cons (ps_lock (ps_for PassesOwn.never rfl (DX.pi_itemsT (pv 9)) (pg_tup (by rfl) (pgs_cons (pg_name (i := 12) sc_spread_by.nd rfl (Or.inl rfl)) (pgs_cons (pg_name (i := 14) sc_spread_by.nd rfl (Or.inl rfl)) pgs_nil)))
       (pss_one (ps_for PassesOwn.never rfl (pi_enum (by rfl) T.enum (pa_cons (pe_call G_turned (hr.mono (by decide)) (by rfl) g_turned k_turned b_turned .nil pass0 (pa_cons (pv 14) (pa_cons (pv 4) (pa_cons (pv 5) (pa_cons (pv 7) pa_nil))))) pa_nil)) (pg_tup (by rfl) (pgs_cons (pg_name (i := 15) sc_spread_by.nd rfl (Or.inl rfl)) (pgs_cons (pg_name (i := 11) sc_spread_by.nd rfl (Or.inl rfl)) pgs_nil)))
       (pss_one (ps_dput hu (pv 13) (pe_op op_catA (pe_op op_catA (pe_slice sl_tupA (pv 12) po_none (po_some (pv 1))) (pe_tup (pa_cons (pv 15) pa_nil))) (pe_slice sl_tupA (pv 12) (po_some (pv 1)) po_none)) (pv 11) rfl))))))
      (pss_one (ps_ret (pv 13)))))))))), ?_⟩
    try dsimp only [cxOf, Cx.nox, Cx.wish]
    obtain ⟨bL, bH, bU⟩ := mkDm_bd (D := high) so
    walk_at "f"
    refine ⟨s, st, rfl, hs, so, fun T nT => ?_⟩
    have sT := same_new (o := HO.tup [.int (mkDm 0 st).L, .int (mkDm 0 st).H, .int (mkDm 0 st).U]) nT
    refine My.gtup3 (SqT.of upd_same) rfl ?_
    generalize upd H T _ = H1 at sT ⊢
    walk_at "f"
    refine My.new (My.sz (by simp)) fun p1 n1 => ?_
    walk_at "f"
    refine My.new (My.sz (by simp)) fun W nW => ?_
    have s1 := same_new (o := HO.lst [V.int 1]) n1
    have s2 := same_new (o := HO.lst [V.ref p1]) nW
    have np1 : H p1 = none := sT.free n1
    have nW0 : H W = none := (sT.trans s1).free nW
    have o1 := s2 _ _ (upd_same (H := H1) (a := p1) (o := HO.lst [V.int 1]))
    have oW := upd_same (H := upd H1 p1 (HO.lst [V.int 1])) (a := W) (o := HO.lst [V.ref p1])
    have s3 := (sT.trans s1).trans s2
    generalize upd (upd H1 p1 (HO.lst [V.int 1])) W (HO.lst [V.ref p1]) = H2 at s3 o1 oW ⊢
    walk_at "f"
    refine My.rngI (by omega) (by omega) (fun i σ' H' => ∃ (ws : List Addr) (u : Option V), σ' = [some (.ref r), some (.int (k : Int)), some (.int (high : Int)), some (.ref s), some (.int (mkDm high st).L), some (.int (mkDm high st).H), some (.int (mkDm high st).U), some (.ref W), u, none, none, none, none, none, none, none] ∧ Same H H' ∧ H' W = some (.lst (ws.map V.ref)) ∧ ws.length = i + 1 ∧ W ∉ ws ∧ Wholes H' ws (mkDm high st).U) ⟨[p1], none, rfl, s3, oW, rfl, ?_, ?_⟩ ?_ ?_
    · exact fun z => by rw [List.mem_singleton.mp z, o1] at oW; cases oW
    · intro j w e
      cases j with
      | zero =>
        cases Option.some.inj e
        rw [o1]
        show some (HO.lst [V.int 1]) = some (HO.lst [V.int ((mkDm high st).U ^ 0 * BM.ch 0 0)])
        rw [Int.pow_zero, BM.ch_zero]; rfl
      | succ j => cases e
    · rintro i σ' H3 hi ⟨ws, u, rfl, s4, hW, hl, nin, hw⟩
      obtain ⟨ws', wl, rfl, hl'⟩ : ∃ a b, ws = a ++ [b] ∧ a.length = i := by
        rcases List.eq_nil_or_concat ws with e | ⟨a, b, e⟩
        · rw [e] at hl; cases hl
        · rw [List.concat_eq_append] at e
          exact ⟨a, b, e, by rw [e, List.length_append] at hl; simpa using hl⟩
      have hwl := hw i wl (by rw [List.getElem?_append_right (by omega), hl', Nat.sub_self]; rfl)
      walk_at "f"
      refine My.tyL (SqL.of hW) ?_
      walk_at "f"
      refine My.ixLast (xs := ws'.map V.ref) (x := .ref wl) (by rw [List.map_append] at hW; exact SqL.of hW) ?_
      walk_at "f"
      refine ⟨wl, (List.range (i + 1)).map (whI (mkDm high st).U i), (mkDm high st).U, (mkDm high st).U, 60 * 450 + 62, 450, rfl, by rw [← lsF_ints]; exact hwl, by rw [List.length_map, List.length_range]; omega, fun z hz => ?_, bU, bU, by decide, fun p2 H4 np2 s5 hp2 => ?_⟩
      · obtain ⟨j, _, rfl⟩ := List.mem_map.mp hz
        refine (whI_bd bU i j).mono ?_
        have : i * 450 ≤ 60 * 450 := Nat.mul_le_mul_right _ (by omega)
        omega
      rw [tl_wh] at hp2
      walk_at "f"
      refine My.app (s5 _ _ hW) (by rw [List.length_map, List.length_append]; simp; omega) ?_
      have nW3 : W ≠ p2 := fun z => by rw [← z, hW] at np2; cases np2
      have keep : ∀ b o, b ≠ W → H4 b = some o → upd H4 W (.lst (List.map V.ref (ws' ++ [wl]) ++ [V.ref p2])) b = some o := fun b o nb e => by rw [upd_ne nb]; exact e
      refine ⟨ws' ++ [wl] ++ [p2], _, rfl, fun b o e => keep _ _ (ne_of_none e nW0) (s5 _ _ (s4 _ _ e)), ?_, by rw [List.length_append, hl]; rfl, ?_, ?_⟩
      · rw [upd_same, List.map_append (l₂ := [p2])]; rfl
      · intro z
        rcases List.mem_append.mp z with z | z
        · exact nin z
        · exact nW3 (List.mem_singleton.mp z)
      · intro j w e
        by_cases hj : j < i + 1
        · rw [List.getElem?_append_left (by rw [hl]; exact hj)] at e
          have := hw j w e
          exact keep _ _ (fun z => nin (by rw [← z]; exact List.mem_iff_getElem?.mpr ⟨j, e⟩)) (s5 _ _ this)
        · rw [List.getElem?_append_right (by rw [hl]; omega), hl] at e
          cases z : j - (i + 1) with
          | zero =>
            rw [z] at e
            cases Option.some.inj e
            obtain rfl : j = i + 1 := by omega
            exact keep _ _ nW3.symm hp2
          | succ y => rw [z] at e; cases e
    · rintro σ' H3 ⟨ws, u, rfl, s4, hW, hl, nin, hw⟩
      walk_at "f"
      refine My.dnewT fun ld nld => ?_
      have sl := same_new (o := HO.dT []) nld
      have s5 := s4.trans sl
      have old := upd_same (H := H3) (a := ld) (o := HO.dT [])
      have hW' := sl _ _ hW
      have hw' := hw.same sl
      have nld0 : H ld = none := s4.free nld
      have neW : W ≠ ld := fun z => by rw [z, nld] at hW; cases hW
      generalize upd H3 ld (HO.dT []) = H4 at s5 old hW' hw' ⊢
      walk_at "f"
      have hr4 := s5 _ _ hr0
      have ner : r ≠ ld := fun z => by have e : H r = _ := hr0; rw [z, nld0] at e; cases e
      refine My.lockS hr4 True.intro fun od => ?_
      -- the heap while the rows are locked
      have lk := upd_same (H := H4) (a := r) (o := HO.frz od (.dT (kvI m)))
      have keep : ∀ b o, b ≠ r → H4 b = some o → upd H4 r (.frz od (.dT (kvI m))) b = some o := fun b o nb e => by rw [upd_ne nb]; exact e
      have old5 := keep ld _ ner.symm old
      have nkeep : ∀ b, upd H4 r (.frz od (.dT (kvI m))) b = none → H b = none := fun b e => by
        by_cases z : b = r
        · rw [z, lk] at e; cases e
        · rw [upd_ne z] at e; exact s5.free e
      have back : ∀ b o, H b = some o → b ≠ r → upd H4 r (.frz od (.dT (kvI m))) b = some o := fun b o e z => keep b o z (s5 _ _ e)
      have hW5 := keep W _ (fun z => by rw [z, hr4] at hW'; cases hW') hW'
      have hw5 : Wholes (upd H4 r (.frz od (.dT (kvI m)))) ws (mkDm high st).U := fun j w e => keep _ _ (fun z => by have := hw' j w e; rw [z, hr4] at this; cases this) (hw' j w e)
      generalize upd H4 r (.frz od (.dT (kvI m))) = H5 at lk old5 nkeep back hW5 hw5 ⊢
      refine My.forItT rfl lk (fun i σ' H' => ∃ (as : List Addr) (x y z : Option V), σ' = [some (.ref r), some (.int (k : Int)), some (.int (high : Int)), some (.ref s), some (.int (mkDm high st).L), some (.int (mkDm high st).H), some (.int (mkDm high st).U), some (.ref W), u, some (.ref ld), x, y, z, none, none, none] ∧ But ld H5 H' ∧ LnAt H5 H' ld (linesP k high (m.take i)) as) ⟨[], none, none, none, rfl, .refl _ _, ⟨old5, rfl, List.nodup_nil, (fun a ha => by cases ha), fun i e a h => by simp [linesP] at h⟩⟩ (fun i σ' H' _ ⟨as, _, _, _, _, b, _⟩ => b _ _ ner lk) ?_ ?_
      · rintro i key v qa T σ' H6 ekv hqa ⟨as, x, y, z, rfl, b6, ln⟩ nT
        obtain ⟨l, c, em, rfl, rfl⟩ := kvI_get ekv
        have hml := ro.len (l, c) (List.mem_iff_getElem?.mpr ⟨i, em⟩)
        have hkl : k < l.length := by have z : l.length = N := hml.1; omega
        refine My.gtup2 (SqT.of upd_same) rfl ?_
        have sT2 := same_new (o := HO.tup [V.ref qa, V.int c]) nT
        have b7 := b6.trans (Same.but sT2)
        have ln7 := ln.same sT2
        have hq7 := sT2 _ _ hqa
        generalize upd H6 T _ = H7 at b7 ln7 hq7 ⊢
        walk_at "f"
        refine My.slA hq7 fun q1 H8 s8 h8 => ?_
        walk_at "f"
        refine My.slA (s8 _ _ hq7) fun q2 H9 s9 h9 => ?_
        have zl : l.length ≤ 4 := by have z : l.length = N := hml.1; omega
        refine My.catA (s9 _ _ h8) h9 (by have z1 := cutV_length ((ik l).map kV) none (some (k : Int)); have z2 := cutV_length ((ik l).map kV) (some ((k : Int) + 1)) none; rw [ik_kV, List.length_map] at z1 z2; rw [ik_kV]; omega) fun q3 H10 s10 h10 => ?_
        rw [tup_del hkl] at h10
        have s7 := (s8.trans s9).trans s10
        have b10 := b7.trans (Same.but s7)
        have ln10 := ln7.same s7
        have hq10 := s7 _ _ hq7
        have o := lines_ok (k := k) (high := high) hk _ (m.take i) rfl ⟨List.Nodup.sublist (List.Sublist.map _ (List.take_sublist i m)) ro.nd, fun p hp => ro.len p (List.mem_of_mem_take hp)⟩
        have etake : m.take (i + 1) = m.take i ++ [(l, c)] := by
          rw [List.take_succ, em]; rfl
        have eld : ∀ {a : Addr}, H5 a = none → a ≠ ld := fun e z => by rw [z, old5] at e; cases e
        have en : l.getD k 0 = (((l.getD k 0).toNat : Nat) : Int) := (Int.toNat_of_nonneg hml.2.1).symm
        have nh : (l.getD k 0).toNat < high + 1 := by have z := hml.2.2; have z2 := hml.2.1; simp only at z z2; omega
        walk_at "f"
        refine ⟨ld, _, rfl, DGet.t ln10.d h10, ?_⟩
        refine ⟨_, rfl, ?_⟩
        rw [etake, linesP_snoc]
        have ll : (linesP k high (m.take i)).length ≤ 500 := Nat.le_trans (lines_len _) (by rw [List.length_take]; omega)
        generalize linesP k high (m.take i) = ls at ln10 o ll ⊢
        by_cases hin : del k l ∈ ls.map (·.1)
        · obtain ⟨e, he, ee⟩ := List.mem_map.mp hin
          obtain ⟨j, ej⟩ := List.mem_iff_getElem?.mp he
          obtain ⟨a, ea⟩ : ∃ a, as[j]? = some a := ⟨_, List.getElem?_eq_getElem (by rw [ln10.len]; exact (List.getElem?_eq_some_iff.mp ej).1)⟩
          have eg : valV (dkK (ls.map (·.1)) as) (ik (del k l)) = some (.ref a) := by
            rw [← ee]
            exact dkK_get o.nd (by rw [List.getElem?_map, ej]; rfl) ea
          have an := ln10.new a (List.mem_iff_getElem?.mpr ⟨j, ea⟩)
          rw [line_in (p := (l, c)) hin, eg, Option.isSome_some]
          refine My.ite_nt ?_
          walk_at "f"
          refine ⟨ld, .ref a, rfl, by rw [← eg]; exact DGet.t ln10.d h10, ?_⟩
          walk_at "f"
          refine My.ixT (SqT.of hq10) (atI_key hkl) ?_
          rw [en]
          refine My.setL (ln10.at_ j e a ej ea) (by rw [List.length_map, (o.len e he).1]; exact nh) ?_
          refine ⟨as, _, _, _, rfl, fun b ob nb eb => by rw [upd_ne (ne_of_none eb an)]; exact b10 _ _ nb eb, ?_⟩
          have z := ln10.set (n := (l.getD k 0).toNat) (c := c) o.nd ej ea (eld an)
          rw [ee] at z
          exact z
        · have eg := dkK_none (as := as) hin
          rw [line_out (p := (l, c)) hin, eg]
          refine My.ite_nf ?_
          walk_at "f"
          refine My.new (My.sz (by simp)) fun z1 nz1 => ?_
          walk_at "f"
          refine My.repL upd_same (by omega) (by omega) (by simp) fun z2 nz2 => ?_
          walk_at "f"
          rw [flat0, show ((high : Int) + 1).toNat = high + 1 by omega] at *
          have sz1 := same_new (o := HO.lst [V.int 0]) nz1
          have b11 := b10.trans (Same.but sz1)
          have ln11 := ln10.same sz1
          have sz2 := sz1.trans (same_new (o := HO.lst ((List.replicate (high + 1) 0).map V.int)) nz2)
          have hq11 := sz2 _ _ hq10
          have h11 := sz2 _ _ h10
          have hp11 := (same_new (o := HO.lst ((List.replicate (high + 1) 0).map V.int)) nz2) _ _ ln11.d
          have zld : z2 ≠ ld := fun z => by rw [z, ln11.d] at nz2; cases nz2
          have z0 : H5 z2 = none := by
            cases e : H5 z2 with
            | none => rfl
            | some o => rw [b11 _ _ zld e] at nz2; cases nz2
          have ln12 := ln11.push (zs := List.replicate (high + 1) 0) nz2 z0 hin
          refine ⟨ld, _, rfl, DPut.t hp11 h11 (by unfold dkK; rw [List.length_zipWith, List.length_map, sizeLine_eq]; omega), ?_⟩
          have hq12 : upd (upd (upd H10 z1 (HO.lst [V.int 0])) z2 (HO.lst ((List.replicate (high + 1) 0).map V.int))) ld (.dT (putK (dkK (ls.map (·.1)) as) (ik (del k l)) (.ref z2))) qa = some (HO.tup ((ik l).map kV)) := by
            rw [upd_ne (fun z => by rw [z, hp11] at hq11; cases hq11)]; exact hq11
          have h12 : upd (upd (upd H10 z1 (HO.lst [V.int 0])) z2 (HO.lst ((List.replicate (high + 1) 0).map V.int))) ld (.dT (putK (dkK (ls.map (·.1)) as) (ik (del k l)) (.ref z2))) q3 = some (HO.tup ((ik (del k l)).map kV)) := by
            rw [upd_ne (fun z => by rw [z, hp11] at h11; cases h11)]; exact h11
          have b12 : But ld H5 (upd (upd (upd H10 z1 (HO.lst [V.int 0])) z2 (HO.lst ((List.replicate (high + 1) 0).map V.int))) ld (.dT (putK (dkK (ls.map (·.1)) as) (ik (del k l)) (.ref z2)))) := fun b ob nb eb => by
            rw [upd_ne nb]; exact same_new nz2 _ _ (b11 _ _ nb eb)
          generalize upd (upd (upd H10 z1 (HO.lst [V.int 0])) z2 (HO.lst ((List.replicate (high + 1) 0).map V.int))) ld (.dT (putK (dkK (ls.map (·.1)) as) (ik (del k l)) (.ref z2))) = H12 at ln12 hq12 h12 b12 ⊢
          have nd2 : ((ls ++ [((del k l, List.replicate (high + 1) 0) : List Int × List Int)]).map (·.1)).Nodup := by
            rw [List.map_append]
            exact List.nodup_append.mpr ⟨o.nd, List.nodup_cons.mpr ⟨by simp, List.nodup_nil⟩, fun x hx y hy e => hin (by rw [List.mem_singleton.mp hy] at e; have e : x = del k l := e; rw [← e]; exact hx)⟩
          have eg2 : valV (dkK ((ls ++ [((del k l, List.replicate (high + 1) 0) : List Int × List Int)]).map (·.1)) (as ++ [z2])) (ik (del k l)) = some (.ref z2) :=
            dkK_get (i := ls.length) nd2 (by rw [List.getElem?_map, List.getElem?_append_right (Nat.le_refl _), Nat.sub_self]; rfl) (by rw [← ln10.len, List.getElem?_append_right (Nat.le_refl _), Nat.sub_self]; rfl)
          walk_at "f"
          refine ⟨ld, .ref z2, rfl, by rw [← eg2]; exact DGet.t ln12.d h12, ?_⟩
          walk_at "f"
          refine My.ixT (SqT.of hq12) (atI_key hkl) ?_
          rw [en]
          have ej2 : (ls ++ [(del k l, List.replicate (high + 1) (0 : Int))])[ls.length]? = some (del k l, List.replicate (high + 1) 0) := by rw [List.getElem?_append_right (Nat.le_refl _), Nat.sub_self]; rfl
          have ea2 : (as ++ [z2])[ls.length]? = some z2 := by rw [← ln10.len, List.getElem?_append_right (Nat.le_refl _), Nat.sub_self]; rfl
          refine My.setL (ln12.at_ _ _ _ ej2 ea2) (by rw [List.length_map, List.length_replicate]; exact nh) ?_
          exact ⟨_, _, _, _, rfl, fun b ob nb eb => by rw [upd_ne (ne_of_none eb z0)]; exact b12 _ _ nb eb, ln12.set (n := (l.getD k 0).toNat) (c := c) nd2 ej2 ea2 (eld z0)⟩
      · rintro σ' H6 ⟨as, x, y, z, rfl, b6, ln⟩
        rw [show m.take (kvI m).length = m by rw [kvI_len]; exact List.take_length] at ln
        refine ⟨b6 _ _ ner lk, ?_⟩
        have o := lines_ok (k := k) (high := high) hk _ m rfl ro
        have nds := spread_nd (d := mkDm high st) hk ro
        have lbd := line_bd hk ro hb
        have ll : (linesP k high m).length ≤ 500 := Nat.le_trans (lines_len _) hm
        have lsp : (spreadP k high (mkDm high st) m).length ≤ 5000 := Nat.le_trans spread_len hm2
        unfold spreadP at q nds lsp
        generalize linesP k high m = ls at *
        have bk7 : ∀ b ob, b ≠ r → H6 b = some ob → upd H6 r (.dT (kvI m)) b = some ob := fun b ob nb e => by rw [upd_ne nb]; exact e
        have s7 : Same H (upd H6 r (.dT (kvI m))) := fun b ob e => by
          by_cases z : b = r
          · rw [z, upd_same]
            have e' : H b = _ := e
            rw [z, hr0] at e'
            exact e'
          · exact bk7 _ _ z (b6 _ _ (ne_of_none e nld0) (back _ _ e z))
        have hW7 := bk7 W _ (fun z => by rw [z, lk] at hW5; cases hW5) (b6 _ _ neW hW5)
        have hw7 : Wholes (upd H6 r (.dT (kvI m))) ws (mkDm high st).U := fun j w e => by
          have z := hw5 j w e
          exact bk7 _ _ (fun g => by rw [g, lk] at z; cases z) (b6 _ _ (fun g => by rw [g, old5] at z; cases z) z)
        have hd7 := bk7 _ _ ner.symm ln.d
        have ha7 : ∀ (i : Nat) e a, ls[i]? = some e → as[i]? = some a → upd H6 r (.dT (kvI m)) a = some (.lst (e.2.map V.int)) ∧ a ≠ ld := fun i e a h1 h2 => by
          have an := ln.new a (List.mem_iff_getElem?.mpr ⟨i, h2⟩)
          exact ⟨bk7 _ _ (fun g => by rw [g, lk] at an; cases an) (ln.at_ i e a h1 h2), fun g => by rw [g, old5] at an; cases an⟩
        have wnl : ∀ j w, ws[j]? = some w → w ≠ ld := fun j w e g => by
          have z := hw5 j w e
          rw [g, old5] at z; cases z
        have asl := ln.len
        generalize upd H6 r (.dT (kvI m)) = H7 at s7 hW7 hw7 hd7 ha7 ⊢
        walk_at "f"
        refine My.dnewT fun fd nfd => ?_
        have s8 := s7.trans (same_new (o := HO.dT []) nfd)
        have nfd0 : H fd = none := s7.free nfd
        have hf8 := upd_same (H := H7) (a := fd) (o := HO.dT [])
        have hW8 := same_new (o := HO.dT []) nfd _ _ hW7
        have hw8 := hw7.same (same_new (o := HO.dT []) nfd)
        have hd8 := same_new (o := HO.dT []) nfd _ _ hd7
        have nfl : fd ≠ ld := fun g => by rw [g, hd7] at nfd; cases nfd
        have ha8 : ∀ (i : Nat) e a, ls[i]? = some e → as[i]? = some a → upd H7 fd (.dT []) a = some (.lst (e.2.map V.int)) ∧ a ≠ ld ∧ a ≠ fd := fun i e a h1 h2 => ⟨same_new nfd _ _ (ha7 i e a h1 h2).1, (ha7 i e a h1 h2).2, ne_of_none (ha7 i e a h1 h2).1 nfd⟩
        have wnf : ∀ j w, ws[j]? = some w → w ≠ fd := fun j w e => ne_of_none (hw7 j w e) nfd
        have Wnf : W ≠ fd := ne_of_none hW7 nfd
        generalize upd H7 fd (HO.dT []) = H8 at s8 hf8 hW8 hw8 hd8 ha8 ⊢
        walk_at "f"
        refine My.lockS hd8 True.intro fun od2 => ?_
        have lk2 := upd_same (H := H8) (a := ld) (o := HO.frz od2 (.dT (dkK (ls.map (·.1)) as)))
        have bk9 : ∀ b ob, b ≠ ld → H8 b = some ob → upd H8 ld (.frz od2 (.dT (dkK (ls.map (·.1)) as))) b = some ob := fun b ob nb e => by rw [upd_ne nb]; exact e
        have hf9 := bk9 _ _ nfl hf8
        have hW9 := bk9 _ _ neW hW8
        have hw9 : Wholes (upd H8 ld (.frz od2 (.dT (dkK (ls.map (·.1)) as)))) ws (mkDm high st).U := fun j w e => bk9 _ _ (wnl j w e) (hw8 j w e)
        have ha9 : ∀ (i : Nat) e a, ls[i]? = some e → as[i]? = some a → upd H8 ld (.frz od2 (.dT (dkK (ls.map (·.1)) as))) a = some (.lst (e.2.map V.int)) ∧ a ≠ fd := fun i e a h1 h2 => ⟨bk9 _ _ (ha8 i e a h1 h2).2.1 (ha8 i e a h1 h2).1, (ha8 i e a h1 h2).2.2⟩
        have s9 : ∀ b ob, H b = some ob → b ≠ ld → upd H8 ld (.frz od2 (.dT (dkK (ls.map (·.1)) as))) b = some ob := fun b ob e nb => bk9 b ob nb (s8 _ _ e)
        generalize upd H8 ld (.frz od2 (.dT (dkK (ls.map (·.1)) as))) = H9 at lk2 hf9 hW9 hw9 ha9 s9 ⊢
        have dkl : (dkK (ls.map (·.1)) as).length = ls.length := by unfold dkK; rw [List.length_zipWith, List.length_map, asl, Nat.min_self]
        refine My.forItT rfl lk2 (fun i σ' H' => ∃ (x y z v v2 : Option V), σ' = [some (.ref r), some (.int (k : Int)), some (.int (high : Int)), some (.ref s), some (.int (mkDm high st).L), some (.int (mkDm high st).H), some (.int (mkDm high st).U), some (.ref W), u, some (.ref ld), x, y, z, some (.ref fd), v, v2] ∧ But fd H9 H' ∧ PolD H' fd (ents k high (mkDm high st) (ls.take i))) ⟨_, _, _, _, _, rfl, .refl _ _, hf9⟩ (fun i σ' H' _ ⟨_, _, _, _, _, _, b, _⟩ => b _ _ nfl.symm lk2) ?_ ?_
        · rintro i key v qa T σ' H10 ekv hqa ⟨x, y, z, v', v2, rfl, b10, hf10⟩ nT
          unfold dkK at ekv
          rw [List.getElem?_zipWith, List.getElem?_map] at ekv
          cases e1 : ls[i]? with
          | none => rw [e1] at ekv; cases ekv
          | some e =>
            cases e2 : as[i]? with
            | none => rw [e1, e2] at ekv; cases ekv
            | some a =>
              rw [e1, e2] at ekv
              cases Option.some.inj ekv
              have em : e ∈ ls := List.mem_iff_getElem?.mpr ⟨i, e1⟩
              have ol := o.len e em
              have hle : k ≤ e.1.length := by omega
              refine My.gtup2 (SqT.of upd_same) rfl ?_
              have sT2 := same_new (o := HO.tup [V.ref qa, V.ref a]) nT
              have b11 := b10.trans (Same.but sT2)
              have hf11 := sT2 _ _ hf10
              have hq11 := sT2 _ _ hqa
              generalize upd H10 T _ = H11 at b11 hf11 hq11 ⊢
              have qnf : qa ≠ fd := fun g => by rw [g, hf11] at hq11; cases hq11
              walk_at "f"
              refine My.forEn1 ?_
              walk_at "f"
              refine ⟨a, W, e.2, _, _, _, ws, high, B, 450, rfl, b11 _ _ (ha9 i e a e1 e2).2 (ha9 i e a e1 e2).1, ol.1, h60, b11 _ _ Wnf hW9, hl, fun j w ej => b11 _ _ (wnf j w ej) (hw9 j w ej), lbd e em, bL, bH, bU, by omega, fun p H12 np sp hp => ?_⟩
              have pnf : p ≠ fd := (ne_of_none hf11 np).symm
              have etake : ls.take (i + 1) = ls.take i ++ [e] := by rw [List.take_succ, e1]; rfl
              have eall : ents k high (mkDm high st) (ls.take (i + 1)) = ents k high (mkDm high st) (ls.take i) ++ ent k high (mkDm high st) e := by
                rw [etake]; unfold ents; rw [List.flatMap_append, List.flatMap_cons, List.flatMap_nil, List.append_nil]
              have subl : (ents k high (mkDm high st) (ls.take (i + 1))).Sublist (ents k high (mkDm high st) ls) := by
                have z : ents k high (mkDm high st) (ls.take (i + 1)) ++ ents k high (mkDm high st) (ls.drop (i + 1)) = ents k high (mkDm high st) ls := by
                  unfold ents; rw [← List.flatMap_append, List.take_append_drop]
                rw [← z]
                exact List.sublist_append_left _ _
              refine My.forEn (SqL.of hp) (fun j σ' H' => ∃ (x1 y1 : Option V), σ' = [some (.ref r), some (.int (k : Int)), some (.int (high : Int)), some (.ref s), some (.int (mkDm high st).L), some (.int (mkDm high st).H), some (.int (mkDm high st).U), some (.ref W), u, some (.ref ld), x, x1, some (.ref qa), some (.ref fd), some (.ref a), y1] ∧ But fd H12 H' ∧ PolD H' fd (ents k high (mkDm high st) (ls.take i) ++ (ent k high (mkDm high st) e).take j)) ⟨_, _, rfl, .refl _ _, by rw [List.take_zero, List.append_nil]; exact sp _ _ hf11⟩ (fun j σ' H' _ ⟨_, _, _, b, _⟩ => SqL.of (b _ _ pnf hp)) ?_ ?_
              · rintro j x T σ' H13 ex ⟨_, _, rfl, b13, hf13⟩ nT
                unfold lsF at ex
                rw [List.getElem?_map] at ex
                cases er : (List.range (high + 1))[j]? with
                | none => rw [er] at ex; cases ex
                | some j' =>
                  rw [er] at ex
                  cases Option.some.inj ex
                  obtain ⟨hj, ej⟩ := List.getElem?_eq_some_iff.mp er
                  rw [List.length_range] at hj
                  rw [List.getElem_range] at ej
                  subst ej
                  refine My.gtup2 (SqT.of upd_same) rfl ?_
                  have sT3 := same_new (o := HO.tup [V.int (j : Nat), V.int (BM.Fs e.2 (mkDm high st).L (mkDm high st).H (mkDm high st).U high 0 j)]) nT
                  have b14 := b13.trans (Same.but sT3)
                  have hf14 := sT3 _ _ hf13
                  generalize upd H13 T _ = H14 at b14 hf14 ⊢
                  have hq14 := b14 _ _ qnf (sp _ _ hq11)
                  walk_at "f"
                  refine My.slA hq14 fun q1 H15 s15 h15 => ?_
                  walk_at "f"
                  refine ⟨My.sz (by simp), fun p1 np1 => ?_⟩
                  have s16 := s15.trans (same_new (o := HO.tup [V.int (j : Nat)]) np1)
                  refine My.catA (same_new np1 _ _ h15) upd_same (by rw [ik_kV, cut_take (by rw [List.length_map]; omega), List.length_take, List.length_map]; simp; omega) fun q2 H17 s17 h17 => ?_
                  have s18 := s16.trans s17
                  walk_at "f"
                  refine My.slA (s18 _ _ hq14) fun q3 H19 s19 h19 => ?_
                  walk_at "f"
                  refine My.catA (s19 _ _ h17) h19 (by rw [ik_kV, cut_take (by rw [List.length_map]; omega), cut_drop (by rw [List.length_map]; omega), List.length_append, List.length_take, List.length_drop, List.length_map]; simp; omega) fun q4 H20 s20 h20 => ?_
                  rw [tup_ins hle] at h20
                  have s21 := (s18.trans s19).trans s20
                  have hf20 := s21 _ _ hf14
                  have pj : (ent k high (mkDm high st) e).take (j + 1) = (ent k high (mkDm high st) e).take j ++ [(ins k e.1 (j : Int), BM.Fs e.2 (mkDm high st).L (mkDm high st).H (mkDm high st).U high 0 j)] := by
                    rw [List.take_succ]
                    congr 1
                    unfold ent
                    rw [List.getElem?_map, List.getElem?_range hj]; rfl
                  have ndj : (keysP (ents k high (mkDm high st) (ls.take i) ++ (ent k high (mkDm high st) e).take (j + 1))).Nodup := by
                    refine List.Nodup.sublist (List.Sublist.map _ ?_) nds
                    refine List.Sublist.trans (List.Sublist.append (List.Sublist.refl _) (List.take_sublist _ _)) (eall ▸ subl)
                  have lj : (ents k high (mkDm high st) (ls.take i) ++ (ent k high (mkDm high st) e).take (j + 1)).length ≤ 5000 := by
                    refine Nat.le_trans (List.Sublist.length_le ?_) lsp
                    refine List.Sublist.trans (List.Sublist.append (List.Sublist.refl _) (List.take_sublist _ _)) (eall ▸ subl)
                  rw [pj, ← List.append_assoc] at ndj lj
                  refine ⟨fd, _, rfl, DPut.t hf20 h20 (by rw [kvI_len, sizeLine_eq]; rw [List.length_append] at lj; simp at lj ⊢; omega), ?_⟩
                  refine ⟨_, _, rfl, fun b ob nb eb => by rw [upd_ne nb]; exact s21 _ _ (b14 _ _ nb eb), ?_⟩
                  rw [PolD, upd_same, kvI_put, putP_new ndj, pj, ← List.append_assoc]
              · rintro σ' H13 ⟨_, _, rfl, b13, hf13⟩
                rw [show (lsF (high + 1) (BM.Fs e.2 (mkDm high st).L (mkDm high st).H (mkDm high st).U high 0)).length = high + 1 by unfold lsF; rw [List.length_map, List.length_range], List.take_of_length_le (l := ent k high (mkDm high st) e) (by unfold ent; rw [List.length_map, List.length_range]; exact Nat.le_refl _), ← eall] at hf13
                exact ⟨_, _, _, _, _, rfl, fun b ob nb eb => b13 _ _ nb (sp _ _ (b11 _ _ nb eb)), hf13⟩
        · rintro σ' H10 ⟨x, y, z, v', v2, rfl, b10, hf10⟩
          refine ⟨b10 _ _ nfl.symm lk2, ?_⟩
          rw [dkl, List.take_length] at hf10
          walk_at "f"
          refine q fd _ nfd0 (fun b ob e => ?_) (by rw [PolD, upd_ne nfl]; exact hf10)
          rw [upd_ne (ne_of_none e nld0)]
          exact b10 _ _ (ne_of_none e nfd0) (s9 _ _ e (ne_of_none e nld0))
end
end K23

set_option Elab.async false
set_option linter.all false
set_option maxRecDepth 100000
set_option maxHeartbeats 4000000
/-! the rows while they are spread, one unknown after another -/
namespace K23
open PySem PySem.Spec PyProof.Rows L2 DX
theorem ins_del_set {k : Nat} {I : List Int} {a : Int} (h : k < I.length) : ins k (del k I) a = I.set k a := by
  have e := ins_del (k := k) (l := I.set k a) (by rw [List.length_set]; exact h)
  rw [getD_set h, if_pos rfl] at e
  rw [← e]
  congr 1
  unfold del
  rw [List.take_set_of_le (Nat.le_refl _), List.drop_set_of_lt (Nat.lt_succ_self _)]
theorem del_set {k : Nat} {I : List Int} {a : Int} : del k (I.set k a) = del k I := by
  unfold del
  rw [List.take_set_of_le (Nat.le_refl _), List.drop_set_of_lt (Nat.lt_succ_self _)]
theorem del_eq {k : Nat} {I J : List Int} (hI : k < I.length) (hJ : k < J.length) (e : del k J = del k I) {j : Nat} (n : j ≠ k) : J.getD j 0 = I.getD j 0 := by
  have h1 := ins_del hJ
  rw [e, ins_del_set hI] at h1
  rw [← h1, getD_set hI, if_neg n]
def wtK : List BM.Dm → Nat → List Int → List Int → Int
  | _ :: ds, 0, J, I => (if J.headD 0 = I.headD 0 then 1 else 0) * wtK ds 0 J.tail I.tail
  | d :: ds, k + 1, J, I => BM.wt d (J.headD 0).toNat (I.headD 0).toNat * wtK ds k J.tail I.tail
  | [], _, _, _ => 1
theorem sm_ind (f : Nat → Int) (c : Int) {n : Nat} (h0 : 0 ≤ c) (h1 : c < n) : BM.sm n (fun j => (if c = (j : Int) then 1 else 0) * f j) = f c.toNat := by
  induction n with
  | zero => omega
  | succ n ih =>
    show BM.sm n _ + (if c = (n : Int) then 1 else 0) * f n = _
    by_cases e : c = (n : Int)
    · rw [if_pos e, BM.sm_zero fun t ht => by rw [if_neg (by omega), Int.zero_mul], Int.zero_add, Int.one_mul, e]; rfl
    · rw [if_neg e, Int.zero_mul, Int.add_zero]
      exact ih (by omega)
theorem headD_getD (l : List Int) : l.headD 0 = l.getD 0 0 := by cases l <;> rfl
theorem tail_getD (l : List Int) (k : Nat) : l.tail.getD k 0 = l.getD (k + 1) 0 := by cases l <;> rfl
theorem wtK_step : ∀ {k : Nat} {ds : List BM.Dm} {d : BM.Dm} {J I : List Int} {high : Nat}, ds[k]? = some d → I.length = ds.length → 0 ≤ J.getD k 0 → J.getD k 0 ≤ (high : Int) →
    BM.sm (high + 1) (fun j => wtK ds k J (I.set k (j : Int)) * BM.wt d j (I.getD k 0).toNat) = wtK ds (k + 1) J I
  | 0, [], _, _, _, _, h, _, _, _ => by cases h
  | _ + 1, [], _, _, _, _, h, _, _, _ => by cases h
  | _, _ :: _, _, _, [], _, _, l, _, _ => by cases l
  | 0, d :: ds, d', J, i :: I, high, h, l, h0, h1 => by
    cases Option.some.inj h
    show BM.sm (high + 1) (fun j => ((if J.headD 0 = (j : Int) then 1 else 0) * wtK ds 0 J.tail I) * BM.wt d j i.toNat) = BM.wt d (J.headD 0).toNat i.toNat * wtK ds 0 J.tail I
    rw [headD_getD]
    rw [show (fun j : Nat => ((if J.getD 0 0 = (j : Int) then 1 else 0) * wtK ds 0 J.tail I) * BM.wt d j i.toNat) = fun j : Nat => (if J.getD 0 0 = (j : Int) then 1 else 0) * (wtK ds 0 J.tail I * BM.wt d j i.toNat) from funext fun j => Int.mul_assoc _ _ _]
    rw [sm_ind (fun j => wtK ds 0 J.tail I * BM.wt d j i.toNat) _ h0 (by omega), Int.mul_comm]
  | k + 1, d :: ds, d', J, i :: I, high, h, l, h0, h1 => by
    have ih := wtK_step (k := k) (ds := ds) (d := d') (J := J.tail) (I := I) (high := high) h (Nat.succ.inj l) (by rw [tail_getD]; exact h0) (by rw [tail_getD]; exact h1)
    show BM.sm (high + 1) (fun j => (BM.wt d (J.headD 0).toNat i.toNat * wtK ds k J.tail (I.set k (j : Int))) * BM.wt d' j (I.getD k 0).toNat) = BM.wt d (J.headD 0).toNat i.toNat * wtK ds (k + 1) J.tail I
    rw [← ih]
    rw [show (fun j : Nat => (BM.wt d (J.headD 0).toNat i.toNat * wtK ds k J.tail (I.set k (j : Int))) * BM.wt d' j (I.getD k 0).toNat) = fun j : Nat => BM.wt d (J.headD 0).toNat i.toNat * (wtK ds k J.tail (I.set k (j : Int)) * BM.wt d' j (I.getD k 0).toNat) from funext fun j => Int.mul_assoc _ _ _]
    exact BM.sm_mul _ _ _
theorem wtK_zero : ∀ {k : Nat} {ds : List BM.Dm} {J I : List Int} {j : Nat}, k ≤ j → j < ds.length → J.getD j 0 ≠ I.getD j 0 → wtK ds k J I = 0
  | _, [], _, _, _, _, h, _ => by cases h
  | 0, d :: ds, J, I, 0, _, _, n => by
    show (if _ then (1 : Int) else 0) * _ = 0
    rw [headD_getD, headD_getD, if_neg n, Int.zero_mul]
  | 0, d :: ds, J, I, j + 1, _, h, n => by
    show (if _ then (1 : Int) else 0) * wtK ds 0 J.tail I.tail = 0
    rw [wtK_zero (j := j) (Nat.zero_le _) (by simpa using h) (by rw [tail_getD, tail_getD]; exact n), Int.mul_zero]
  | k + 1, d :: ds, J, I, 0, h, _, _ => by omega
  | k + 1, d :: ds, J, I, j + 1, h1, h, n => by
    show _ * wtK ds k J.tail I.tail = 0
    rw [wtK_zero (j := j) (by omega) (by simpa using h) (by rw [tail_getD, tail_getD]; exact n), Int.mul_zero]
theorem wtK_same : ∀ {ds : List BM.Dm} {I : List Int}, wtK ds 0 I I = 1
  | [], _ => rfl
  | _ :: ds, I => by
    show (if _ then (1 : Int) else 0) * wtK ds 0 I.tail I.tail = 1
    rw [if_pos rfl, wtK_same]; rfl
theorem wtK_all : ∀ {ds : List BM.Dm} {J I : List Int}, wtK ds ds.length J I = BM.wtA ds (J.map Int.toNat) (I.map Int.toNat)
  | [], _, _ => rfl
  | d :: ds, J, I => by
    show BM.wt d (J.headD 0).toNat (I.headD 0).toNat * wtK ds ds.length J.tail I.tail = BM.wt d ((J.map Int.toNat).headD 0) ((I.map Int.toNat).headD 0) * BM.wtA ds (J.map Int.toNat).tail (I.map Int.toNat).tail
    rw [wtK_all, List.map_tail, List.map_tail]
    congr 1
    cases J <;> cases I <;> rfl
/-- the rows behind k unknowns -/
structure RowsAt (ds : List BM.Dm) (ts : Pol) (k : Nat) (rows : Pol) : Prop where
  nd : (keysP rows).Nodup
  key : ∀ I, I ∈ keysP rows ↔ I.length = ds.length ∧ (∀ j d, j < k → ds[j]? = some d → 0 ≤ I.getD j 0 ∧ I.getD j 0 ≤ (d.D : Int)) ∧ ∃ p ∈ ts, ∀ j, k ≤ j → j < ds.length → p.1.getD j 0 = I.getD j 0
  val : ∀ I, I.length = ds.length → (∀ j d, j < k → ds[j]? = some d → 0 ≤ I.getD j 0 ∧ I.getD j 0 ≤ (d.D : Int)) → val rows I = (ts.map fun p => p.2 * wtK ds k p.1 I).sum
/-- what the terms keep -/
structure TsOk (ds : List BM.Dm) (ts : Pol) : Prop where
  nd : (keysP ts).Nodup
  len : ∀ p ∈ ts, p.1.length = ds.length
  wi : ∀ p ∈ ts, ∀ j d, ds[j]? = some d → 0 ≤ p.1.getD j 0 ∧ p.1.getD j 0 ≤ (d.D : Int)
theorem list_ext {I J : List Int} (l : I.length = J.length) (h : ∀ j, j < I.length → I.getD j 0 = J.getD j 0) : I = J := by
  refine List.ext_getElem l fun j h1 h2 => ?_
  have := h j h1
  rwa [List.getD_eq_getElem?_getD, List.getD_eq_getElem?_getD, List.getElem?_eq_getElem h1, List.getElem?_eq_getElem h2] at this
theorem rows_start {ds : List BM.Dm} {ts : Pol} (o : TsOk ds ts) : RowsAt ds ts 0 ts := by
  refine ⟨o.nd, fun I => ⟨fun h => ?_, ?_⟩, fun I l _ => ?_⟩
  · obtain ⟨p, hp, rfl⟩ := List.mem_map.mp h
    exact ⟨o.len p hp, fun j d h => by omega, p, hp, fun _ _ _ => rfl⟩
  · rintro ⟨l, _, p, hp, e⟩
    have : p.1 = I := list_ext (by rw [o.len p hp, l]) fun j hj => e j (Nat.zero_le _) (by rw [← o.len p hp]; exact hj)
    exact List.mem_map.mpr ⟨p, hp, this⟩
  · have nd := o.nd
    have hl := o.len
    clear o
    induction ts with
    | nil => rfl
    | cons p ts ih =>
      rw [keysP, List.map_cons, List.nodup_cons] at nd
      have ih := ih nd.2 fun q hq => hl q (List.mem_cons_of_mem _ hq)
      rw [List.map_cons, List.sum_cons, ← ih]
      by_cases e : p.1 = I
      · have z : val ts I = 0 := val_off (by rw [← e]; exact nd.1)
        rw [z, Int.add_zero, e, wtK_same, Int.mul_one]
        unfold val getP
        rw [List.find?_cons, decide_eq_true e]; rfl
      · obtain ⟨j, hj, n⟩ : ∃ j, j < ds.length ∧ p.1.getD j 0 ≠ I.getD j 0 := Classical.byContradiction fun z => e (list_ext (by rw [hl p List.mem_cons_self, l]) fun j hj => Classical.byContradiction fun n => z ⟨j, by rw [← hl p List.mem_cons_self]; exact hj, n⟩)
        rw [wtK_zero (Nat.zero_le _) hj n, Int.mul_zero, Int.zero_add]
        unfold val getP
        rw [List.find?_cons, decide_eq_false e]
theorem sum_sm {α : Type} (f : α → Nat → Int) (n : Nat) : ∀ l : List α, BM.sm n (fun j => (l.map fun a => f a j).sum) = (l.map fun a => BM.sm n (f a)).sum
  | [] => BM.sm_zero fun _ _ => rfl
  | a :: l => by
    rw [List.map_cons, List.sum_cons, ← sum_sm f n l, ← BM.sm_add]
    exact BM.sm_congr fun t _ => by rw [List.map_cons, List.sum_cons]
theorem sum_mulr {α : Type} (f : α → Int) (c : Int) : ∀ l : List α, (l.map f).sum * c = (l.map fun a => f a * c).sum
  | [] => Int.zero_mul c
  | a :: l => by rw [List.map_cons, List.sum_cons, List.map_cons, List.sum_cons, Int.add_mul, sum_mulr f c l]
theorem sum_all0 {α : Type} {f : α → Int} : ∀ {l : List α}, (∀ a ∈ l, f a = 0) → (l.map f).sum = 0
  | [], _ => rfl
  | a :: l, h => by rw [List.map_cons, List.sum_cons, h a List.mem_cons_self, sum_all0 fun b hb => h b (List.mem_cons_of_mem _ hb)]; rfl
theorem RowsAt.ok {ds : List BM.Dm} {ts rows : Pol} {k : Nat} {d : BM.Dm} (o : TsOk ds ts) (h : RowsAt ds ts k rows) (hd : ds[k]? = some d) : RowOk k d.D ds.length rows := by
  refine ⟨h.nd, fun p hp => ?_⟩
  have kl := (List.getElem?_eq_some_iff.mp hd).1
  obtain ⟨l, _, t, ht, e⟩ := (h.key p.1).mp (List.mem_map.mpr ⟨p, hp, rfl⟩)
  have w := o.wi t ht k d hd
  rw [e k (Nat.le_refl _) kl] at w
  exact ⟨l, w⟩
theorem RowsAt.step {ds : List BM.Dm} {ts rows : Pol} {k : Nat} {d : BM.Dm} (o : TsOk ds ts) (h : RowsAt ds ts k rows) (hd : ds[k]? = some d) : RowsAt ds ts (k + 1) (spreadP k d.D d rows) := by
  have kl := (List.getElem?_eq_some_iff.mp hd).1
  have ro := h.ok o hd
  have hkey : ∀ I, I ∈ keysP (spreadP k d.D d rows) ↔ I.length = ds.length ∧ (∀ j e, j < k + 1 → ds[j]? = some e → 0 ≤ I.getD j 0 ∧ I.getD j 0 ≤ (e.D : Int)) ∧ ∃ p ∈ ts, ∀ j, k + 1 ≤ j → j < ds.length → p.1.getD j 0 = I.getD j 0 := by
    intro I
    rw [spread_key kl ro]
    constructor
    · rintro ⟨l, h0, h1, p, hp, e⟩
      obtain ⟨lp, wi, t, ht, et⟩ := (h.key p.1).mp (List.mem_map.mpr ⟨p, hp, rfl⟩)
      have same : ∀ j, j ≠ k → p.1.getD j 0 = I.getD j 0 := fun j n => del_eq (by omega) (by omega) e n
      refine ⟨l, fun j e hj he => ?_, t, ht, fun j h1 h2 => ?_⟩
      · by_cases z : j = k
        · subst z
          rw [hd] at he
          cases he
          exact ⟨h0, h1⟩
        · rw [← same j z]
          exact wi j e (by omega) he
      · rw [et j (by omega) h2, same j (by omega)]
    · rintro ⟨l, wi, t, ht, et⟩
      have w := wi k d (Nat.lt_succ_self _) hd
      refine ⟨l, w.1, w.2, ?_⟩
      have hm : I.set k (t.1.getD k 0) ∈ keysP rows := by
        refine (h.key _).mpr ⟨by rw [List.length_set]; exact l, fun j e hj he => ?_, t, ht, fun j h1 h2 => ?_⟩
        · rw [getD_set (by omega), if_neg (by omega)]
          exact wi j e (by omega) he
        · rw [getD_set (by omega)]
          by_cases z : j = k
          · rw [if_pos z, z]
          · rw [if_neg z]
            exact et j (by omega) h2
      obtain ⟨p, hp, ep⟩ := List.mem_map.mp hm
      exact ⟨p, hp, by rw [ep, del_set]⟩
  refine ⟨spread_nd kl ro, hkey, fun I l wi => ?_⟩
  have w := wi k d (Nat.lt_succ_self _) hd
  by_cases hI : I ∈ keysP (spreadP k d.D d rows)
  · rw [spread_val kl ro rfl hI]
    have e : ∀ t, t < d.D + 1 → K23.val rows (ins k (del k I) (t : Int)) * BM.wt d t (I.getD k 0).toNat = (ts.map fun p => (p.2 * wtK ds k p.1 (I.set k (t : Int))) * BM.wt d t (I.getD k 0).toNat).sum := fun t ht => by
      rw [ins_del_set (by omega), h.val _ (by rw [List.length_set]; exact l) fun j e hj he => by rw [getD_set (by omega), if_neg (by omega)]; exact wi j e (by omega) he, sum_mulr]
    rw [BM.sm_congr e, sum_sm (fun (p : List Int × Int) (t : Nat) => (p.2 * wtK ds k p.1 (I.set k (t : Int))) * BM.wt d t (I.getD k 0).toNat)]
    congr 1
    refine List.map_congr_left fun p hp => ?_
    have wp := o.wi p hp k d hd
    rw [← wtK_step (J := p.1) hd l wp.1 wp.2, ← BM.sm_mul]
    exact BM.sm_congr fun t _ => Int.mul_assoc _ _ _
  · rw [val_off hI, sum_all0 fun p hp => ?_]
    obtain ⟨j, h1, h2, n⟩ : ∃ j, k + 1 ≤ j ∧ j < ds.length ∧ p.1.getD j 0 ≠ I.getD j 0 := Classical.byContradiction fun z => hI ((hkey I).mpr ⟨l, wi, p, hp, fun j h1 h2 => Classical.byContradiction fun n => z ⟨j, h1, h2, n⟩⟩)
    rw [wtK_zero h1 h2 n, Int.mul_zero]
theorem wtK_skip : ∀ {k : Nat} {ds : List BM.Dm} {d : BM.Dm} {J I : List Int}, ds[k]? = some d → d.D = 0 → J.getD k 0 = 0 → I.getD k 0 = 0 → wtK ds (k + 1) J I = wtK ds k J I
  | _, [], _, _, _, h, _, _, _ => by simp at h
  | 0, d :: ds, d', J, I, h, hD, hJ, hI => by
    cases Option.some.inj h
    show BM.wt d (J.headD 0).toNat (I.headD 0).toNat * wtK ds 0 J.tail I.tail = (if J.headD 0 = I.headD 0 then 1 else 0) * wtK ds 0 J.tail I.tail
    rw [headD_getD, headD_getD, hJ, hI, if_pos rfl]
    congr 1
    unfold BM.wt
    rw [hD]
    show d.U ^ 0 * BM.ch 0 0 = 1
    rw [BM.ch_zero, Int.pow_zero]; rfl
  | k + 1, d :: ds, d', J, I, h, hD, hJ, hI => by
    show _ * wtK ds (k + 1) J.tail I.tail = _ * wtK ds k J.tail I.tail
    rw [wtK_skip (k := k) (d := d') h hD (by rw [tail_getD]; exact hJ) (by rw [tail_getD]; exact hI)]
theorem RowsAt.skip {ds : List BM.Dm} {ts rows : Pol} {k : Nat} {d : BM.Dm} (o : TsOk ds ts) (h : RowsAt ds ts k rows) (hd : ds[k]? = some d) (h0 : d.D = 0) : RowsAt ds ts (k + 1) rows := by
  have kl := (List.getElem?_eq_some_iff.mp hd).1
  have tz : ∀ p ∈ ts, p.1.getD k 0 = 0 := fun p hp => by
    have w := o.wi p hp k d hd
    rw [h0] at w
    omega
  refine ⟨h.nd, fun I => ?_, fun I l wi => ?_⟩
  · rw [h.key]
    constructor
    · rintro ⟨l, wi, p, hp, e⟩
      refine ⟨l, fun j x hj hx => ?_, p, hp, fun j h1 h2 => e j (by omega) h2⟩
      by_cases z : j = k
      · subst z
        rw [hd] at hx
        cases hx
        rw [← e j (Nat.le_refl _) kl, tz p hp]
        exact ⟨Int.le_refl _, by omega⟩
      · exact wi j x (by omega) hx
    · rintro ⟨l, wi, p, hp, e⟩
      refine ⟨l, fun j x hj hx => wi j x (by omega) hx, p, hp, fun j h1 h2 => ?_⟩
      by_cases z : j = k
      · have w := wi k d (Nat.lt_succ_self _) hd
        rw [h0] at w
        rw [z, tz p hp]
        omega
      · exact e j (by omega) h2
  · have w := wi k d (Nat.lt_succ_self _) hd
    rw [h0] at w
    rw [h.val I l fun j x hj hx => wi j x (by omega) hx]
    congr 1
    refine List.map_congr_left fun p hp => ?_
    rw [wtK_skip hd h0 (tz p hp) (by omega)]
/-! ### the sign of all rows -/
def natP (ts : Pol) : BM.PolN := ts.map fun p => (p.1.map Int.toNat, p.2)
def rowSg (ds : List BM.Dm) (m : BM.PolN) : Int := if m.isEmpty = true then 0 else if ((BM.idx ds).all fun I => decide (0 < BM.rowV ds m I)) = true then 1 else if ((BM.idx ds).all fun I => decide (BM.rowV ds m I < 0)) = true then -1 else 0
def cntP : List BM.Dm → Nat
  | [] => 1
  | d :: ds => (d.D + 1) * cntP ds
theorem idx_len : ∀ ds : List BM.Dm, (BM.idx ds).length = cntP ds
  | [] => rfl
  | d :: ds => by
    show (List.flatMap _ _).length = (d.D + 1) * cntP ds
    rw [flat_len (c := cntP ds) (fun i => by rw [List.length_map, idx_len ds]), List.length_range]
theorem idx_nd : ∀ ds : List BM.Dm, (BM.idx ds).Nodup
  | [] => List.nodup_cons.mpr ⟨by simp, List.nodup_nil⟩
  | d :: ds => by
    show (List.flatMap _ _).Pairwise _
    rw [List.pairwise_flatMap]
    refine ⟨fun i _ => List.Pairwise.map _ (fun a b h e => h (List.cons.inj e).2) (idx_nd ds), ?_⟩
    refine List.Pairwise.imp (fun {i j} (n : i ≠ j) x hx y hy e => ?_) List.nodup_range
    obtain ⟨a, _, rfl⟩ := List.mem_map.mp hx
    obtain ⟨b, _, rfl⟩ := List.mem_map.mp hy
    exact n (List.cons.inj e).1
theorem toInt_nat {I : List Int} (h : ∀ j, j < I.length → 0 ≤ I.getD j 0) : (I.map Int.toNat).map Int.ofNat = I := by
  rw [List.map_map]
  conv => rhs; rw [← List.map_id I]
  refine List.map_congr_left fun x hx => ?_
  obtain ⟨j, hj⟩ := List.mem_iff_getElem?.mp hx
  have z := h j (List.getElem?_eq_some_iff.mp hj).1
  rw [List.getD_eq_getElem?_getD, hj] at z
  exact Int.toNat_of_nonneg z
theorem wi_iff : ∀ {ds : List BM.Dm} {I : List Nat}, BM.Wi ds I ↔ ∀ j d, ds[j]? = some d → I.getD j 0 ≤ d.D
  | [], I => ⟨fun _ j d h => by simp at h, fun _ => True.intro⟩
  | d :: ds, I => by
    have ih := wi_iff (ds := ds) (I := I.tail)
    have t0 : I.headD 0 = I.getD 0 0 := by cases I <;> rfl
    have tt : ∀ j, I.tail.getD j 0 = I.getD (j + 1) 0 := fun j => by cases I <;> rfl
    constructor
    · rintro ⟨h1, h2⟩ j e he
      cases j with
      | zero => cases Option.some.inj he; rw [← t0]; exact h1
      | succ j => rw [← tt]; exact ih.mp h2 j e he
    · intro h
      exact ⟨by rw [t0]; exact h 0 d rfl, ih.mpr fun j e he => by rw [tt]; exact h (j + 1) e he⟩
theorem getD_toNat (I : List Int) (j : Nat) : (I.map Int.toNat).getD j 0 = (I.getD j 0).toNat := by
  rw [List.getD_eq_getElem?_getD, List.getD_eq_getElem?_getD, List.getElem?_map]
  cases I[j]? <;> rfl
theorem getD_ofNat (I : List Nat) (j : Nat) : (I.map Int.ofNat).getD j 0 = ((I.getD j 0 : Nat) : Int) := by
  rw [List.getD_eq_getElem?_getD, List.getD_eq_getElem?_getD, List.getElem?_map]
  cases I[j]? <;> rfl
theorem rowV_val {ds : List BM.Dm} {ts rows : Pol} (h : RowsAt ds ts ds.length rows) {p : List Int × Int} (hp : p ∈ rows) : p.2 = BM.rowV ds (natP ts) (p.1.map Int.toNat) := by
  obtain ⟨l, wi, _⟩ := (h.key p.1).mp (List.mem_map.mpr ⟨p, hp, rfl⟩)
  have v := h.val p.1 l wi
  rw [val_of h.nd hp] at v
  rw [v]
  unfold BM.rowV natP
  rw [List.map_map]
  congr 1
  exact List.map_congr_left fun t _ => by
    show t.2 * wtK ds ds.length t.1 p.1 = t.2 * BM.wtA ds (t.1.map Int.toNat) (p.1.map Int.toNat)
    rw [wtK_all]
theorem rows_perm {ds : List BM.Dm} {ts rows : Pol} (h : RowsAt ds ts ds.length rows) (ne : ts ≠ []) : (keysP rows).Perm ((BM.idx ds).map fun I => I.map Int.ofNat) := by
  refine (List.perm_ext_iff_of_nodup h.nd ?_).mpr fun I => ?_
  · exact List.Pairwise.map _ (fun a b n e => n (map_inj (fun x y z => Int.ofNat.inj z) e)) (idx_nd ds)
  · rw [h.key, List.mem_map]
    constructor
    · rintro ⟨l, wi, _⟩
      have wi' : ∀ j, j < I.length → 0 ≤ I.getD j 0 := fun j hj => (wi j _ (by omega) (List.getElem?_eq_getElem (by omega))).1
      refine ⟨I.map Int.toNat, BM.idx_of (wi_iff.mpr fun j d hd => ?_) (by rw [List.length_map]; exact l), toInt_nat wi'⟩
      have := wi j d (List.getElem?_eq_some_iff.mp hd).1 hd
      rw [getD_toNat]; omega
    · rintro ⟨J, hJ, rfl⟩
      obtain ⟨w, l⟩ := BM.idx_wi hJ
      obtain ⟨t, ht⟩ : ∃ t, t ∈ ts := List.exists_mem_of_ne_nil ts ne
      refine ⟨by rw [List.length_map]; exact l, fun j d hj hd => ?_, t, ht, fun j h1 h2 => by omega⟩
      have := wi_iff.mp w j d hd
      rw [getD_ofNat]; omega
theorem rows_sign {ds : List BM.Dm} {ts rows : Pol} (h : RowsAt ds ts ds.length rows) :
    (if rows.length < cntP ds then (0 : Int) else if ((rows.map (·.2)).all fun c => decide (0 < c)) = true then 1 else if ((rows.map (·.2)).all fun c => decide (c < 0)) = true then -1 else 0) = rowSg ds (natP ts) := by
  unfold rowSg
  by_cases ne : ts = []
  · subst ne
    have : rows = [] := by
      cases rows with
      | nil => rfl
      | cons p r =>
        obtain ⟨_, _, t, ht, _⟩ := (h.key p.1).mp (List.mem_map.mpr ⟨p, List.mem_cons_self, rfl⟩)
        cases ht
    have c1 : 0 < cntP ds := by
      clear h this
      induction ds with
      | nil => exact Nat.zero_lt_one
      | cons d ds ih => exact Nat.mul_pos (Nat.succ_pos _) ih
    rw [this, if_pos (show ([] : Pol).length < _ from c1), if_pos (show (natP []).isEmpty = true from rfl)]
  · have pm := rows_perm h ne
    have hl : rows.length = cntP ds := by
      have := pm.length_eq
      rw [keysP, List.length_map, List.length_map, idx_len] at this
      exact this
    have e0 : ¬ (natP ts).isEmpty = true := by
      cases ts with
      | nil => exact absurd rfl ne
      | cons a b => exact fun z => nomatch z
    have al : ∀ f : Int → Bool, ((rows.map (·.2)).all f) = ((BM.idx ds).all fun I => f (BM.rowV ds (natP ts) I)) := fun f => by
      rw [Bool.eq_iff_iff, List.all_eq_true, List.all_eq_true]
      constructor
      · intro z I hI
        have hm : I.map Int.ofNat ∈ keysP rows := pm.mem_iff.mpr (List.mem_map.mpr ⟨I, hI, rfl⟩)
        obtain ⟨p, hp, ep⟩ := List.mem_map.mp hm
        have v := rowV_val h hp
        have e : p.1.map Int.toNat = I := by
          rw [ep, List.map_map]
          conv => rhs; rw [← List.map_id I]
          exact List.map_congr_left fun x _ => rfl
        rw [e] at v
        rw [← v]
        exact z _ (List.mem_map.mpr ⟨p, hp, rfl⟩)
      · intro z c hc
        obtain ⟨p, hp, rfl⟩ := List.mem_map.mp hc
        obtain ⟨I, hI, eI⟩ := List.mem_map.mp (pm.mem_iff.mp (List.mem_map.mpr ⟨p, hp, rfl⟩))
        have eI : I.map Int.ofNat = p.1 := eI
        have e : p.1.map Int.toNat = I := by
          rw [← eI, List.map_map]
          conv => rhs; rw [← List.map_id I]
          exact List.map_congr_left fun x _ => rfl
        rw [rowV_val h hp, e]
        exact z I hI
    rw [if_neg (by omega), if_neg e0, al fun c => decide (0 < c), al fun c => decide (c < 0)]
end K23

set_option Elab.async false
set_option linter.all false
set_option maxRecDepth 100000
set_option maxHeartbeats 4000000
namespace My
open PySem PySem.Spec PyProof.Rows L2 DX
section
variable {X : Cx} {σ : L2.St} {H1 : Hp} {Q : VK} {K : PySem.W.Frag} {te tk tv : TE} {g : TG} {tt : TT} {vs : List Nat}
/-- the turns of a dict comprehension -/
def DJ (kd : DKind X) (J : It) (g : TG) (tt : TT) (tk tv : TE) (vs : List Nat) (σ : L2.St) (Q : VK) (H1 : Hp) : Prop := ∀ D, H1 D = none → ∃ W : Nat → Nat → Hp → Prop, (∃ m, W 0 m (upd H1 D kd.new)) ∧ ∀ i m H, W i m H →
  (J.stop i H ∧ Q (.ref D) H) ∨ (J.go i H ∧ ∃ N : Hp → Prop, (∀ H', N H' → ∃ m', m' < m ∧ W (i + 1) m' H') ∧ ∀ x H', J.yld i H x H' → g x (wipe σ vs) H' fun σ2 H2 => wipe σ2 vs = wipe σ vs ∧ tt σ2 H2 fun b H3 =>
    if b = true then tk σ2 H3 fun y H4 => tv σ2 H4 fun z H5 => ∃ H6, kd.put H5 D y z H6 ∧ N H6 else N H3)
def DTp (kd : DKind X) (K : PySem.W.Frag) (x : V) (g : TG) (tt : TT) (tk tv : TE) (vs : List Nat) (σ : L2.St) (Q : VK) (H1 : Hp) : Prop := ∃ a, x = .ref a ∧ (∃ xs, SqT K H1 a xs) ∧ DJ kd (Itt K a) g tt tk tv vs σ Q H1
theorem dcT1 {kd : DKind X} (h : te σ H1 fun x H2 => DTp kd K x g tt tk tv vs σ Q H2) : tDcG kd (iTup K te) g tt tk tv vs σ H1 Q := h
theorem dcT2 {kd : DKind X} {a : Addr} {xs : List V} (ha : SqT K H1 a xs) (h : DJ kd (Itt K a) g tt tk tv vs σ Q H1) : DTp kd K (.ref a) g tt tk tv vs σ Q H1 := ⟨a, rfl, ⟨_, ha⟩, h⟩
theorem dj {kd : DKind X} {J : It} {n : Nat} {G : Hp → Prop} {Y : Nat → Hp → V → Hp → Prop} (w : Walk J n G Y)
    (h : ∀ D, H1 D = none → ∃ Pv : Nat → Hp → Prop, Pv 0 (upd H1 D kd.new) ∧ (∀ i H, i ≤ n → Pv i H → G H) ∧
      (∀ i x H H', i < n → Pv i H → Y i H x H' → g x (wipe σ vs) H' fun σ2 H2 => wipe σ2 vs = wipe σ vs ∧ tt σ2 H2 fun b H3 =>
        if b = true then tk σ2 H3 fun y H4 => tv σ2 H4 fun z H5 => ∃ H6, kd.put H5 D y z H6 ∧ Pv (i + 1) H6 else Pv (i + 1) H3) ∧ ∀ H, Pv n H → Q (.ref D) H) : DJ kd J g tt tk tv vs σ Q H1 := by
  intro D hD
  obtain ⟨Pv, h0, hG, hs, hd⟩ := h D hD
  refine ⟨fun i m H => m + i = n ∧ Pv i H, ⟨n, rfl, h0⟩, fun i m H ⟨e, p⟩ => ?_⟩
  have q := hG i H (by omega) p
  by_cases hi : i < n
  · exact .inr ⟨w.goes i H hi q, Pv (i + 1), fun H' p' => ⟨n - (i + 1), by omega, by omega, p'⟩, fun x H' y => hs i x H H' hi p (w.yields i H x H' hi q y)⟩
  · obtain rfl : i = n := by omega
    exact .inl ⟨w.stops H q, hd H p⟩
end
end My
namespace K23
open PySem PySem.Spec PyProof.Rows L2 XV DX
/-- the stretches with the degrees -/
def dmsP (ts : Pol) (b : List Str2) : List BM.Dm := List.zipWith (fun (D : Int) s => mkDm D.toNat s) (greatP ts) b
/-- a polynomial that is spread -/
structure Spr (ts : Pol) (b : List Str2) : Prop where
  nd : (keysP ts).Nodup
  len : ∀ p ∈ ts, p.1.length = 4
  wi : ∀ p ∈ ts, ∀ j, 0 ≤ p.1.getD j 0 ∧ p.1.getD j 0 ≤ 60
  off : ∀ p ∈ ts, ∀ j, b.length ≤ j → p.1.getD j 0 = 0
  few : ts.length ≤ 7
  bd : ∀ p ∈ ts, My.Bd 1000 p.2
  ok : ∀ s ∈ b, StrOk s
  b3 : b.length ≤ 3
  cnt : cntP (dmsP ts b) ≤ 64
def cutP (n : Nat) (ts : Pol) : Pol := ts.map fun p => (p.1.take n, p.2)
def spSpread (C : Addr) : Sp := fun vs H Q _ => ∃ (a b : Addr) (ts : Pol) (sts : List Str2), vs = [.ref a, .ref b] ∧ PolyAt C H a ts ∧ BoxAt H b sts ∧ Spr ts sts ∧
  ∀ T h r rows H', H T = none → Same H H' → H' T = some (.tup [.ref h, .ref r]) → H' h = some (.lst (((greatP ts).take sts.length).map V.int)) → PolD H' r rows → RowsAt (dmsP ts sts) (cutP sts.length ts) (dmsP ts sts).length rows → rows.length ≤ 1000 → Q (.ref T) H'
theorem cut_keys {ts : Pol} {b : List Str2} (o : Spr ts b) : (keysP (cutP b.length ts)).Nodup := by
  have e : keysP (cutP b.length ts) = (keysP ts).map (List.take b.length) := by
    unfold keysP cutP
    rw [List.map_map, List.map_map]; rfl
  rw [e]
  unfold List.Nodup
  rw [List.pairwise_map]
  refine List.Pairwise.imp_of_mem (fun {x y} hx hy n z => n ?_) o.nd
  obtain ⟨p, hp, rfl⟩ := List.mem_map.mp hx
  obtain ⟨q, hq, rfl⟩ := List.mem_map.mp hy
  refine list_ext (by rw [o.len p hp, o.len q hq]) fun j _ => ?_
  by_cases h : j < b.length
  · have g : ∀ l : List Int, (l.take b.length).getD j 0 = l.getD j 0 := fun l => by
      rw [List.getD_eq_getElem?_getD, List.getD_eq_getElem?_getD, List.getElem?_take_of_lt h]
    rw [← g p.1, ← g q.1, z]
  · rw [o.off p hp j (by omega), o.off q hq j (by omega)]
theorem greatP_get {ts : Pol} {j : Nat} (h : j < 4) : (greatP ts)[j]? = some (mx 0 (colP ts j)) := by
  unfold greatP
  rw [List.getElem?_map, List.getElem?_range h]; rfl
theorem dms_get {ts : Pol} {b : List Str2} (hb : b.length ≤ 3) {j : Nat} {s : Str2} (h : b[j]? = some s) : (dmsP ts b)[j]? = some (mkDm (mx 0 (colP ts j)).toNat s) := by
  have := (List.getElem?_eq_some_iff.mp h).1
  unfold dmsP
  rw [List.getElem?_zipWith, greatP_get (by omega), h]
theorem dms_len {ts : Pol} {b : List Str2} (hb : b.length ≤ 3) : (dmsP ts b).length = b.length := by
  unfold dmsP
  rw [List.length_zipWith]
  unfold greatP
  rw [List.length_map, List.length_range]; omega
theorem dms_of {ts : Pol} {b : List Str2} (hb : b.length ≤ 3) {j : Nat} {d : BM.Dm} (h : (dmsP ts b)[j]? = some d) : j < b.length ∧ d.D = (mx 0 (colP ts j)).toNat := by
  have l := (List.getElem?_eq_some_iff.mp h).1
  rw [dms_len hb] at l
  rw [dms_get hb (List.getElem?_eq_getElem l)] at h
  cases h
  exact ⟨l, rfl⟩
theorem mx_up {a : Int} {l : List Int} (h0 : 0 ≤ a) (h : ∀ x ∈ l, x ≤ a) : mx 0 l ≤ a := by
  cases l with
  | nil => exact h0
  | cons n r =>
    show r.foldl max n ≤ a
    rcases DX.fold_mem r n with e | e
    · rw [e]; exact h n List.mem_cons_self
    · exact h _ (List.mem_cons_of_mem _ e)
theorem mx_ge {l : List Int} {x : Int} (h : x ∈ l) : x ≤ mx 0 l := by
  cases l with
  | nil => cases h
  | cons n r =>
    show x ≤ r.foldl max n
    have g := DX.fold_ge r n
    rcases List.mem_cons.mp h with e | e
    · rw [e]; exact g.1
    · exact g.2 x e
theorem spr_ok {ts : Pol} {b : List Str2} (o : Spr ts b) : TsOk (dmsP ts b) (cutP b.length ts) := by
  refine ⟨cut_keys o, fun p hp => ?_, fun p hp j d hd => ?_⟩
  · obtain ⟨q, hq, rfl⟩ := List.mem_map.mp hp
    show (q.1.take b.length).length = _
    rw [List.length_take, o.len q hq, dms_len o.b3]
    have := o.b3
    omega
  · obtain ⟨q, hq, rfl⟩ := List.mem_map.mp hp
    obtain ⟨hj, e⟩ := dms_of o.b3 hd
    have g : (q.1.take b.length).getD j 0 = q.1.getD j 0 := by
      rw [List.getD_eq_getElem?_getD, List.getD_eq_getElem?_getD, List.getElem?_take_of_lt hj]
    show 0 ≤ (q.1.take b.length).getD j 0 ∧ (q.1.take b.length).getD j 0 ≤ (d.D : Int)
    have h0 := (o.wi q hq j).1
    have hm : q.1.getD j 0 ≤ mx 0 (colP ts j) := mx_ge (List.mem_map.mpr ⟨q, hq, rfl⟩)
    rw [g, e]
    omega
theorem cntP_snoc (d : BM.Dm) : ∀ l : List BM.Dm, cntP (l ++ [d]) = cntP l * (d.D + 1)
  | [] => by show (d.D + 1) * 1 = 1 * (d.D + 1); omega
  | e :: l => by
    show (e.D + 1) * cntP (l ++ [d]) = (e.D + 1) * cntP l * (d.D + 1)
    rw [cntP_snoc d l, Nat.mul_assoc]
theorem cntP_pos : ∀ ds : List BM.Dm, 0 < cntP ds
  | [] => Nat.zero_lt_one
  | d :: ds => Nat.mul_pos (Nat.succ_pos _) (cntP_pos ds)
theorem cntP_step {ds : List BM.Dm} {i : Nat} {d : BM.Dm} (h : ds[i]? = some d) : cntP (ds.take (i + 1)) = cntP (ds.take i) * (d.D + 1) := by
  rw [List.take_succ, h]
  exact cntP_snoc _ _
theorem cntP_take (ds : List BM.Dm) : ∀ i, cntP (ds.take i) ≤ cntP ds := fun i => by
  have key : ∀ (a b : List BM.Dm), cntP a ≤ cntP (a ++ b) := by
    intro a b
    induction a with
    | nil => exact cntP_pos b
    | cons d a ih => exact Nat.mul_le_mul_left _ ih
  have := key (ds.take i) (ds.drop i)
  rwa [List.take_append_drop] at this
section
variable {P : Program} {w : World} {K : PySem.W.Frag} {mg : Str → Option Value} {base : Heap}
theorem sc_spread : FnScope ["poly", "box", "many", "highs", "powers", "count", "rows", "k", "high"] ["poly", "box"] (defScope s_spread) := ⟨rfl, rfl, rfl, by decide +kernel, rfl, by decide +kernel, by decide +kernel⟩
theorem cal_spread {f : Addr} {fd : FuncData} {C fI fE : Addr} (F : FnP K "spread" "spread" s_spread f fd) (g : mg "spread" = some (.ref f)) (T : Txt0 mg) (C_greatest_powers : Cal P w K mg base "greatest_powers" 1 ["terms"] spGreat) (C_spread_by : Cal P w K mg base "spread_by" 3 ["rows", "k", "high", "stretch"] spSpreadBy) (PT : PolF K mg C fI fE) : Cal P w K mg base "spread" 4 ["poly", "box"] (spSpread C) := by
  obtain ⟨f_greatest_powers, fd_greatest_powers, g_greatest_powers, G_greatest_powers, b_greatest_powers, k_greatest_powers⟩ := C_greatest_powers
  obtain ⟨f_spread_by, fd_spread_by, g_spread_by, G_spread_by, b_spread_by, k_spread_by⟩ := C_spread_by
  refine ⟨f, fd, g, ?_, F.bindsN (fun _ _ _ _ _ _ us hl => match us, hl with | [_, _], _ => rfl), F.kp⟩
  refine F.ok sc_spread (fun vs H Q E h => ?_) (fun cdv A outer s H vs Q E hr h => ?_)
  · obtain ⟨a, b, ts, sts, rfl, hp, hb, sp, q⟩ := h
    rfl
  · obtain ⟨a, b, ts, sts, rfl, hp, hb, sp, q⟩ := h
    refine ⟨_, PSs.nox (pss_cons (ps_set (i := 2) sc_spread.nd rfl (Or.inr rfl) (pe_callB My.c_len (by rfl) T.len PySem.boot_len (pa_cons (pv 1) pa_nil)))
      (pss_cons (ps_set (i := 3) sc_spread.nd rfl (Or.inl rfl) (pe_slice sl_list (pe_call G_greatest_powers (hr.mono (by decide)) (by rfl) g_greatest_powers k_greatest_powers b_greatest_powers .nil pass0 (pa_cons (pe_fld (pv 0) rfl) pa_nil)) po_none (po_some (pv 2))))
      (pss_cons (DX.ps_dcG (i := 6) (own := [("powers", 4), ("count", 5)]) (tt := tYes) (g := gTup K 2 (gCons (gName 4) (gCons (gName 5) gNil))) (tk := tSl (rSlA K) (tVar 4) tNoPart (tPart (tVar 2))) (DX.kindT hr.units0) (by rfl) sc_spread.nd rfl rfl (DX.sw_dc rfl rfl rfl (by decide +kernel)) (pi_tup (pe_fld (pv 0) rfl)) (blkOk_by (own := [("powers", 4), ("count", 5)]) (N := ["poly", "box", "many", "highs", "powers", "count", "rows", "k", "high"]) (sc := (defScope s_spread)) (by decide +kernel)) (fun _ _ _ _ _ => (pg_tup (by rfl) (pgs_cons (pg_name (i := 4) sc_spread.nd rfl (Or.inl rfl)) (pgs_cons (pg_name (i := 5) sc_spread.nd rfl (Or.inl rfl)) pgs_nil)))) (fun _ _ _ _ _ => pts_nil) (fun _ _ _ _ _ => (pe_slice (DX.sl_tupK (K := K) rfl) (pv 4) po_none (po_some (pv 2)))) (fun _ _ _ _ _ => (pv 5)))
      (pss_cons (ps_for PassesOwn.never rfl (pi_enum (by rfl) T.enum (pa_cons (pv 3) pa_nil)) (pg_tup (by rfl) (pgs_cons (pg_name (i := 7) sc_spread.nd rfl (Or.inl rfl)) (pgs_cons (pg_name (i := 8) sc_spread.nd rfl (Or.inl rfl)) pgs_nil)))
       (pss_one (ps_if (pt_cmpR op_gt (pv 8) pe_int (nomark _))
       (pss_one (ps_set (i := 6) sc_spread.nd rfl (Or.inl rfl) (pe_call G_spread_by (hr.mono (by decide)) (by rfl) g_spread_by k_spread_by b_spread_by .nil pass0 (pa_cons (pv 6) (pa_cons (pv 7) (pa_cons (pv 8) (pa_cons (pe_ix ix_tup (pv 1) (pv 7) (fun _ _ => rfl)) pa_nil)))))))
       pss_nil)))
      (pss_one (ps_ret (pe_tup (pa_cons (pv 3) (pa_cons (pv 6) pa_nil))))))))), ?_⟩
    try dsimp only [cxOf, Cx.nox, Cx.wish]
    obtain ⟨dx, t, ha, ht⟩ := id hp
    walk_at "f"
    have hbl := sp.b3
    obtain ⟨bs, hb1, hb2⟩ := id hb
    have bl : bs.length = sts.length := My.plen hb2
    refine My.lenT (SqT.of hb1) ?_
    rw [List.length_map, bl]
    walk_at "f"
    refine My.fld ha PT.ins.cl PT.na (by rfl) rfl ?_
    walk_at "f"
    refine ⟨t, ts, rfl, ht, sp.len, Nat.le_trans sp.few (by decide), fun g1 H1 ng s1 hg1 => ?_⟩
    walk_at "f"
    refine My.slL (SqL.of hg1) fun g2 ng2 => ?_
    have gl : (greatP ts).length = 4 := by unfold greatP; rw [List.length_map, List.length_range]
    rw [cut_take (by rw [List.length_map, gl]; omega), ← List.map_take]
    have s2 := s1.trans (same_new (o := HO.lst (((greatP ts).take sts.length).map V.int)) ng2)
    have ng20 : H g2 = none := s1.free ng2
    have hg2 := upd_same (H := H1) (a := g2) (o := HO.lst (((greatP ts).take sts.length).map V.int))
    generalize upd H1 g2 _ = H2 at s2 hg2 ⊢
    walk_at "f"
    refine My.dcT1 ?_
    refine My.fld (s2 _ _ ha) PT.ins.cl PT.na (by rfl) rfl ?_
    obtain ⟨rs, hrs, hpr⟩ := ht.same s2
    have rl : rs.length = ts.length := My.plen hpr
    refine My.dcT2 (SqT.of hrs) (My.dj walk_tup fun D nD => ⟨fun i H' => But D H2 H' ∧ PolD H' D (cutP sts.length (ts.take i)), ⟨Same.but (same_new nD), upd_same⟩, fun i H' _ ⟨b, _⟩ => SqT.of (b _ _ (fun z => by rw [z, nD] at hrs; cases hrs) hrs), ?_, ?_⟩)
    · rintro i x H3 H4 hi ⟨b3, hD3⟩ ⟨rfl, ex⟩
      rw [List.getElem?_map] at ex
      cases er : rs[i]? with
      | none => rw [er] at ex; cases ex
      | some r =>
        rw [er] at ex
        cases Option.some.inj ex
        obtain ⟨p, ep, q0, hr, hq0⟩ := My.pget hpr er
        have keep : ∀ b o, H2 b = some o → H4 b = some o := fun b o e => b3 _ _ (ne_of_none e nD) e
        refine My.gtup2 (SqT.of (keep _ _ hr)) rfl ?_
        refine ⟨rfl, ?_⟩
        walk_at "f"
        refine My.slA (keep _ _ hq0) fun q1 H5 s5 h5 => ?_
        rw [cut_take (by rw [List.length_map, sp.len p (List.mem_iff_getElem?.mpr ⟨i, ep⟩)]; omega), ← List.map_take] at h5
        walk_at "f"
        have et : cutP sts.length (ts.take (i + 1)) = cutP sts.length (ts.take i) ++ [(p.1.take sts.length, p.2)] := by
          unfold cutP
          rw [List.take_succ, ep, List.map_append]; rfl
        have sub : (cutP sts.length (ts.take (i + 1))).Sublist (cutP sts.length ts) := List.Sublist.map _ (List.take_sublist _ _)
        have nd1 : (keysP (cutP sts.length (ts.take (i + 1)))).Nodup := List.Nodup.sublist (List.Sublist.map _ sub) (cut_keys sp)
        rw [et] at nd1
        have len1 : (cutP sts.length (ts.take i)).length ≤ 7 := by
          unfold cutP
          rw [List.length_map, List.length_take]
          have := sp.few
          omega
        refine ⟨_, ⟨_, ik (p.1.take sts.length), q1, ⟨rfl, by rw [ik_kV]; exact h5⟩, s5 _ _ hD3, by rw [kvI_len, sizeLine_eq]; omega, rfl⟩, fun b o nb e => by rw [upd_ne nb]; exact s5 _ _ (b3 _ _ nb e), ?_⟩
        rw [PolD, upd_same, kvI_put, putP_new nd1, et]
    · rintro H3 ⟨b3, hD3⟩
      rw [List.length_map, rl, List.take_length] at hD3
      have s3 : Same H H3 := fun b o e => b3 _ _ (ne_of_none (s2 _ _ e) nD) (s2 _ _ e)
      have hg3 : H3 g2 = some (.lst (((greatP ts).take sts.length).map V.int)) := b3 _ _ (ne_of_none hg2 nD) hg2
      have dl := dms_len (ts := ts) hbl
      have cl0 : (cutP sts.length ts).length ≤ 7 := by unfold cutP; rw [List.length_map]; exact sp.few
      have cb0 : ∀ p ∈ cutP sts.length ts, My.Bd 1000 p.2 := fun p hp => by
        obtain ⟨q', hq', rfl⟩ := List.mem_map.mp hp
        exact sp.bd q' hq'
      have to := spr_ok sp
      have st := rows_start to
      have ct : ∀ i, cntP ((dmsP ts sts).take i) ≤ 64 := fun i => Nat.le_trans (cntP_take _ i) sp.cnt
      have mx3 : ∀ j, 0 ≤ mx 0 (colP ts j) ∧ mx 0 (colP ts j) ≤ 60 := fun j => ⟨DX.mx_le (fun x hx => by
        obtain ⟨q', hq', rfl⟩ := List.mem_map.mp hx
        exact (sp.wi q' hq' j).1) (Int.le_refl 0), mx_up (by decide) fun x hx => by
        obtain ⟨q', hq', rfl⟩ := List.mem_map.mp hx
        exact (sp.wi q' hq' j).2⟩
      walk_at "f"
      refine My.forEn1 ?_
      walk_at "f"
      refine My.forEn (SqL.of hg3) (fun i σ' H' => ∃ (rd : Addr) (rows : Pol) (u v : Option V), σ' = [some (.ref a), some (.ref b), some (.int (sts.length : Nat)), some (.ref g2), none, none, some (.ref rd), u, v] ∧ Same H3 H' ∧ PolD H' rd rows ∧ RowsAt (dmsP ts sts) (cutP sts.length ts) i rows ∧ (∀ p ∈ rows, My.Bd (1000 + i * 27242) p.2) ∧ rows.length ≤ 7 * cntP ((dmsP ts sts).take i)) ⟨D, _, none, none, rfl, .refl _, hD3, st, cb0, cl0⟩ (fun i σ' H' _ ⟨_, _, _, _, _, s', _⟩ => SqL.of (s' _ _ hg3)) ?_ ?_
      · rintro i x T σ' H4 ex ⟨rd, rows, u, v, rfl, s4, hrd, ra, bd, rln⟩ nT
        rw [List.getElem?_map] at ex
        cases e1 : ((greatP ts).take sts.length)[i]? with
        | none => rw [e1] at ex; cases ex
        | some hi =>
          rw [e1] at ex
          cases Option.some.inj ex
          have il : i < sts.length := by
            have := (List.getElem?_eq_some_iff.mp e1).1
            rw [List.length_take] at this
            omega
          rw [List.getElem?_take_of_lt il, greatP_get (by omega)] at e1
          cases Option.some.inj e1
          have sT := same_new (o := HO.tup [V.int (i : Nat), V.int (mx 0 (colP ts i))]) nT
          refine My.gtup2 (SqT.of upd_same) rfl ?_
          have s5 := s4.trans sT
          have hrd5 := sT _ _ hrd
          generalize upd H4 T _ = H5 at s5 hrd5 ⊢
          have es : sts[i]? = some sts[i] := List.getElem?_eq_getElem il
          have ed := dms_get (ts := ts) hbl es
          obtain ⟨h0, h3⟩ := mx3 i
          have p4 := ct i
          have p5 := ct (i + 1)
          rw [cntP_step ed] at p5
          walk_at "f"
          · rename_i hpos
            have hb5 := hb.same ((s3.trans s5))
            obtain ⟨bs', hb1', hb2'⟩ := hb5
            obtain ⟨sa, ea⟩ : ∃ sa, bs'[i]? = some sa := ⟨_, List.getElem?_eq_getElem (by rw [My.plen hb2']; exact il)⟩
            obtain ⟨s0, es0, hs0⟩ := My.pget hb2' ea
            rw [es] at es0
            cases Option.some.inj es0
            refine My.ixT (SqT.of hb1') (atI_nat (by rw [List.getElem?_map, ea]; rfl)) ?_
            walk_at "f"
            have ro := ra.ok to ed
            have en : mx 0 (colP ts i) = (((mx 0 (colP ts i)).toNat : Nat) : Int) := (Int.toNat_of_nonneg h0).symm
            have ok := sp.ok _ (List.getElem_mem il)
            obtain ⟨bL, bH, bU⟩ := mkDm_bd (D := (mx 0 (colP ts i)).toNat) ok
            have d3 : (mx 0 (colP ts i)).toNat ≤ 60 := by omega
            have rr : rows.length * ((mx 0 (colP ts i)).toNat + 1) ≤ 7 * cntP ((dmsP ts sts).take i) * ((mx 0 (colP ts i)).toNat + 1) := Nat.mul_le_mul_right _ rln
            rw [Nat.mul_assoc] at rr
            have p5 : cntP ((dmsP ts sts).take i) * ((mx 0 (colP ts i)).toNat + 1) ≤ 64 := p5
            refine ⟨rd, sa, _, rows, i, (mx 0 (colP ts i)).toNat, 1000 + i * 27242, _, by rw [← en]; rfl, hrd5, hs0, ok, ro, by rw [dl]; exact il, by rw [dl]; omega, by omega, by omega, by omega, bd, by omega, fun rd2 H6 n6 s6 h6 => ?_⟩
            have sb := spread_bd (d := mkDm (mx 0 (colP ts i)).toNat sts[i]) (by rw [dl]; exact il) ro (show (mx 0 (colP ts i)).toNat ≤ 60 by omega) bd bL bH bU
            have sl := spread_len (k := i) (high := (mx 0 (colP ts i)).toNat) (d := mkDm (mx 0 (colP ts i)).toNat sts[i]) (m := rows)
            walk_at "f"
            refine ⟨rd2, _, _, _, rfl, s5.trans s6, h6, ra.step to ed, fun p hp => (sb p hp).mono (by omega), ?_⟩
            rw [cntP_step ed]
            exact Nat.le_trans sl rr
          · rename_i hpos
            have z0 : mx 0 (colP ts i) = 0 := by omega
            refine ⟨rd, rows, _, _, rfl, s5, hrd5, ra.skip to ed (by show (mx 0 (colP ts i)).toNat = 0; rw [z0]; rfl), fun p hp => (bd p hp).mono (by omega), by rw [cntP_step ed, show (mkDm (mx 0 (colP ts i)).toNat sts[i]).D = 0 by show (mx 0 (colP ts i)).toNat = 0; rw [z0]; rfl, Nat.zero_add, Nat.mul_one]; exact rln⟩
      · rintro σ' H4 ⟨rd, rows, u, v, rfl, s4, hrd, ra, bd, rln⟩
        rw [List.length_map, List.length_take, gl, Nat.min_eq_left (by omega)] at ra rln
        walk_at "f"
        refine ⟨My.sz (by simp), fun p np => ?_⟩
        have p4 := ct sts.length
        exact q p g2 rd rows _ ((s3.trans s4).free np) ((s3.trans s4).trans (same_new np)) upd_same (same_new np _ _ (s4 _ _ hg3)) (same_new np _ _ hrd) (by rw [dl]; exact ra) (by omega)
end
end K23

set_option Elab.async false
set_option linter.all false
set_option maxRecDepth 100000
set_option maxHeartbeats 4000000
namespace K23
open PySem PySem.Spec PyProof.Rows L2 XV DX
def spBoxFor (C : Addr) : Sp := fun vs H Q _ => ∃ (a b : Addr) (ts : Pol) (sts : List Str2), vs = [.ref a, .ref b] ∧ PolyAt C H a ts ∧ BoxAt H b sts ∧ Spr ts sts ∧ ∀ H', Same H H' → Q (.bl true) H'
theorem top_low {ts : Pol} {n : Nat} (h : ∀ j, n ≤ j → mx 0 (colP ts j) = 0) : ∀ (l : List Nat) (acc : Option Nat), (∀ j, acc = some j → j < n) → ∀ j, l.foldl (fun acc j => if 0 < mx 0 (colP ts j) then some j else acc) acc = some j → j < n
  | [], acc, ha, j, e => ha j e
  | x :: l, acc, ha, j, e => by
    rw [List.foldl_cons] at e
    refine top_low h l _ (fun k hk => ?_) j e
    by_cases z : 0 < mx 0 (colP ts x)
    · rw [if_pos z] at hk
      cases hk
      refine Nat.lt_of_not_le fun g => ?_
      rw [h x g] at z
      exact absurd z (by decide)
    · rw [if_neg z] at hk
      exact ha k hk
theorem inP_spr {ts : Pol} {b : List Str2} (o : Spr ts b) : inP (b.length : Nat) ts = true := by
  unfold inP
  cases e : topP ts with
  | none => rfl
  | some j =>
    refine decide_eq_true ?_
    have := top_low (n := b.length) (ts := ts) (fun j hj => ?_) (List.range 4) none (fun j e => by cases e) j e
    · omega
    · refine (DX.mx_zero fun x hx => ?_).mpr fun x hx => ?_
      · obtain ⟨q, hq, rfl⟩ := List.mem_map.mp hx
        exact (o.wi q hq j).1
      · obtain ⟨q, hq, rfl⟩ := List.mem_map.mp hx
        exact o.off q hq j hj
section
variable {P : Program} {w : World} {K : PySem.W.Frag} {mg : Str → Option Value} {base : Heap}
theorem sc_is_box_for : FnScope ["poly", "thing"] ["poly", "thing"] (defScope s_is_box_for) := ⟨rfl, rfl, rfl, by decide +kernel, rfl, by decide +kernel, by decide +kernel⟩
theorem cal_is_box_for {f : Addr} {fd : FuncData} {C : Addr} (F : FnP K "is_box_for" "is_box_for" s_is_box_for f fd) (g : mg "is_box_for" = some (.ref f)) (T : Txt0 mg) (C_is_box : Cal P w K mg base "is_box" 4 ["thing"] (spBoxT K)) (C_stands_in : Cal P w K mg base "stands_in" 3 ["many", "thing"] (spStands K C)) : Cal P w K mg base "is_box_for" 5 ["poly", "thing"] (spBoxFor C) := by
  obtain ⟨f_is_box, fd_is_box, g_is_box, G_is_box, b_is_box, k_is_box⟩ := C_is_box
  obtain ⟨f_stands_in, fd_stands_in, g_stands_in, G_stands_in, b_stands_in, k_stands_in⟩ := C_stands_in
  refine ⟨f, fd, g, ?_, F.bindsN (fun _ _ _ _ _ _ us hl => match us, hl with | [_, _], _ => rfl), F.kp⟩
  refine F.ok sc_is_box_for (fun vs H Q E h => ?_) (fun cdv A outer s H vs Q E hr h => ?_)
  · obtain ⟨a, b, ts, sts, rfl, hp, hb, sp, q⟩ := h
    rfl
  · obtain ⟨a, b, ts, sts, rfl, hp, hb, sp, q⟩ := h
    refine ⟨_, PSs.nox (pss_one (ps_ret (pe_and (pe_call G_is_box (hr.mono (by decide)) (by rfl) g_is_box k_is_box b_is_box .nil pass0 (pa_cons (pv 1) pa_nil)) (pe_one (pe_call G_stands_in (hr.mono (by decide)) (by rfl) g_stands_in k_stands_in b_stands_in .nil pass0 (pa_cons (pe_callB My.c_len (by rfl) T.len PySem.boot_len (pa_cons (pv 1) pa_nil)) (pa_cons (pv 0) pa_nil))))))), ?_⟩
    try dsimp only [cxOf, Cx.nox, Cx.wish]
    walk_at "f"
    refine ⟨b, sts, rfl, hb, sp.ok, sp.b3, fun H1 s1 => ?_⟩
    walk_at "f"
    obtain ⟨bs, hb1, hb2⟩ := hb.same s1
    refine My.lenT (SqT.of hb1) ?_
    rw [List.length_map, My.plen hb2]
    walk_at "f"
    refine ⟨(sts.length : Nat), .ref a, some ts, rfl, ⟨a, rfl, hp.same s1, sp.len, Nat.le_trans sp.few (by decide)⟩, fun H2 s2 => ?_⟩
    rw [show inO (sts.length : Nat) (some ts) = true from inP_spr sp]
    exact q _ (s1.trans s2)
end
end K23

set_option Elab.async false
set_option linter.all false
set_option maxRecDepth 100000
set_option maxHeartbeats 4000000
namespace K23
open PySem PySem.Spec PyProof.Rows L2 XV DX
def tsOf (m : Pol) (ks : List (List Int)) : Pol := ks.map fun k => (k, (getP m k).getD 0)
def nzP (m : Pol) : Pol := m.filter fun p => !decide (p.2 = 0)
/-- what the law's parts keep -/
structure Lp (m : Pol) : Prop where
  nd : (keysP m).Nodup
  len : ∀ p ∈ m, p.1.length = 4
  wi : ∀ p ∈ m, ∀ e ∈ p.1, 0 ≤ e ∧ e ≤ 60
  few : m.length ≤ 7
  bd : ∀ p ∈ m, My.Bd 1000 p.2
theorem code_inj {k l : List Int} (hk : k.length = 4) (hl : l.length = 4) (bk : ∀ e ∈ k, 0 ≤ e ∧ e ≤ 60) (bl : ∀ e ∈ l, 0 ≤ e ∧ e ≤ 60) (h : TS.code 64 k = TS.code 64 l) : k = l := by
  obtain ⟨a, b, c, d, rfl⟩ := four hk
  obtain ⟨a', b', c', d', rfl⟩ := four hl
  have A := bk a (by simp); have B := bk b (by simp); have C := bk c (by simp); have D := bk d (by simp)
  have A' := bl a' (by simp); have B' := bl b' (by simp); have C' := bl c' (by simp); have D' := bl d' (by simp)
  have e : a * 262144 + b * 4096 + c * 64 + d = a' * 262144 + b' * 4096 + c' * 64 + d' := by
    simp [TS.code] at h
    omega
  obtain rfl : a = a' := by omega
  obtain rfl : b = b' := by omega
  obtain rfl : c = c' := by omega
  obtain rfl : d = d' := by omega
  rfl
theorem tsOf_keys {m : Pol} (h : (keysP m).Nodup) : tsOf m (keysP m) = m := by
  unfold tsOf keysP
  rw [List.map_map]
  refine List.ext_getElem? fun i => ?_
  rw [List.getElem?_map]
  cases e : m[i]? with
  | none => rfl
  | some p =>
    obtain ⟨l, c⟩ := p
    show some (l, (getP m l).getD 0) = _
    rw [getP_at h e]; rfl
theorem nz_perm {m : Pol} {ks : List (List Int)} (o : Lp m) (pe : ks.Perm (keysP m)) : (nzP (tsOf m ks)).Perm (nzP m) := by
  have z := pe.map fun k => (k, (getP m k).getD 0)
  have e := tsOf_keys (m := m) o.nd
  unfold tsOf at e
  rw [e] at z
  exact z.filter _
theorem nz_wft {m : Pol} {ks : List (List Int)} (o : Lp m) (pe : ks.Perm (keysP m)) (pw : ks.Pairwise fun k l => TS.code 64 k ≤ TS.code 64 l) : WFt (nzP (tsOf m ks)) := by
  have pm := nz_perm o pe
  have sub : ∀ p ∈ nzP (tsOf m ks), p ∈ m ∧ p.2 ≠ 0 := fun p hp => by
    have z := List.mem_filter.mp (pm.mem_iff.mp hp)
    exact ⟨z.1, by simpa using z.2⟩
  refine ⟨fun p hp => ⟨o.len p (sub p hp).1, fun e he => by have := o.wi p (sub p hp).1 e he; omega⟩, fun p hp => (sub p hp).2, ?_, ?_⟩
  · rw [pm.length_eq]
    have := List.length_filter_le (fun p : List Int × Int => !decide (p.2 = 0)) m
    have f := o.few
    show (List.filter _ m).length ≤ 300
    omega
  · refine List.Pairwise.sublist List.filter_sublist ?_
    unfold tsOf
    rw [List.pairwise_map]
    have nd : ks.Nodup := pe.symm.nodup o.nd
    have hk : ∀ k ∈ ks, k.length = 4 ∧ ∀ e ∈ k, 0 ≤ e ∧ e ≤ 60 := fun k hk => by
      obtain ⟨p, hp, rfl⟩ := List.mem_map.mp (pe.mem_iff.mp hk)
      exact ⟨o.len p hp, o.wi p hp⟩
    refine List.Pairwise.imp_of_mem ?_ (List.Pairwise.and pw nd)
    rintro k l h1 h2 ⟨h3, h4⟩
    have : TS.code 64 k ≠ TS.code 64 l := fun e => h4 (code_inj (hk k h1).1 (hk l h2).1 (hk k h1).2 (hk l h2).2 e)
    show TS.code 64 k < TS.code 64 l
    omega
theorem made_same {H1 H' : Hp} {x dx : Addr} {o1 o2 o3 : HO} (nx : H1 x = none) (nd : H1 dx = none) (s : Same (upd (upd H1 dx o1) x o2) H') : Same H1 (upd H' x o3) := fun b o e => by
  rw [upd_ne (ne_of_none e nx)]
  refine s _ _ ?_
  rw [upd_ne (ne_of_none e nx), upd_ne (ne_of_none e nd)]
  exact e
theorem ne_of_none' {H : Hp} {b t : Addr} {o : HO} (e : H b = some o) (n : H t = none) : t ≠ b := fun z => by rw [z, e] at n; cases n
theorem papp {α β : Type} {F : α → β → Prop} : ∀ {a c : List α} {b d : List β}, Paired F a b → Paired F c d → Paired F (a ++ c) (b ++ d)
  | _, _, _, _, .nil, h => h
  | _, _, _, _, .cons x t, h => .cons x (papp t h)
def spLPoly (C : Addr) : Sp := fun vs H Q _ => ∃ (d : Addr) (m : Pol), vs = [.ref d] ∧ PolD H d m ∧ Lp m ∧ ∀ a H' ts, Same H H' → PolyAt C H' a ts → ts.Perm (nzP m) → Q (.ref a) H'
section
variable {P : Program} {w : World} {K : PySem.W.Frag} {mg : Str → Option Value} {base : Heap}
theorem sc_law_poly : FnScope ["_law_parts_here", "_law_powers"] ["_law_parts_here"] (defScope s_law_poly) := ⟨rfl, rfl, rfl, by decide +kernel, rfl, by decide +kernel, by decide +kernel⟩
theorem cal_law_poly {f : Addr} {fd : FuncData} {C fI fE : Addr} {fdI : FuncData} (F : FnP K "_law_poly" "_law_poly" s_law_poly f fd) (g : mg "_law_poly" = some (.ref f)) (T : Txt0 mg) (PT : PolF K mg C fI fE) (G_Poly : FnOk P w K mg base CX0 5 fI fdI ["self", "terms"] (spPolyI C)) (b_Poly : L2.Binds K fdI ["self", "terms"] []) : Cal P w K mg base "_law_poly" 7 ["_law_parts_here"] (spLPoly C) := by
  refine ⟨f, fd, g, ?_, F.bindsN (fun _ _ _ _ _ _ us hl => match us, hl with | [_], _ => rfl), F.kp⟩
  refine F.ok sc_law_poly (fun vs H Q E h => ?_) (fun cdv A outer s H vs Q E hr h => ?_)
  · obtain ⟨d, m, rfl, hd, lp, q⟩ := h
    rfl
  · obtain ⟨d, m, rfl, hd, lp, q⟩ := h
    have hu := hu_of hr
    refine ⟨_, PSs.nox (pss_one (ps_ret (pe_make PT.mkr G_Poly (hr.mono (by decide)) (by rfl) PT.g b_Poly .nil pass0 (pa_cons (pe_tupleOf (by rfl) T.tuple (pe_lc (own := [("_law_powers", 1)]) (te := tTup (tCons (tVar 1) (tCons (tDGet (tVar 0) (tVar 1)) tNil))) (by rfl) sc_law_poly.nd (pi_list (pe_callB (DX.cr_sortDT rfl (d := 4) (B := 64) (by decide)) (by rfl) T.sorted (by decide +kernel) (pa_cons (pv 0) pa_nil))) (blkOk_by (own := [("_law_powers", 1)]) (N := ["_law_parts_here", "_law_powers"]) (sc := (defScope s_law_poly)) (by decide +kernel)) (fun _ _ _ _ _ => (pg_name (i := 1) sc_law_poly.nd rfl (Or.inl rfl))) (fun _ _ _ _ _ => (pts_one (pt_cmpR op_ne (pe_dget hu (pv 0) (pv 1) (fun _ _ => rfl)) pe_int (nomark _)))) (fun _ _ _ _ _ => (pe_tup (pa_cons (pv 1) (pa_cons (pe_dget hu (pv 0) (pv 1) (fun _ _ => rfl)) pa_nil)))))) pa_nil)))), ?_⟩
    try dsimp only [cxOf, Cx.nox, Cx.wish]
    walk_at "f"
    have few := lp.few
    refine ⟨d, kvI m, keysP m, rfl, .inl hd, ?_, by unfold keysP; rw [List.length_map]; omega, fun kk hk => ?_, fun bs ks' p pe pw pr np => ?_⟩
    · unfold kvI keysP
      rw [List.map_map, List.map_map]; rfl
    · obtain ⟨q', hq, rfl⟩ := List.mem_map.mp hk
      exact ⟨lp.len q' hq, fun x hx => by have := lp.wi q' hq x hx; omega⟩
    have sp := same_new (o := HO.lst (bs.map V.ref)) np
    have hp := upd_same (H := H) (a := p) (o := HO.lst (bs.map V.ref))
    have hbk := My.plen pr
    have hkm : ks'.length = m.length := by rw [pe.length_eq]; unfold keysP; rw [List.length_map]
    generalize upd H p _ = H1 at sp hp ⊢
    refine My.lcLI (SqL.of hp) fun A nA => ⟨fun i H' => ∃ rs : List Addr, H' A = some (.lst (rs.map V.ref)) ∧ But A H1 H' ∧ rs.length ≤ i ∧ Paired (fun r (p : List Int × Int) => ∃ q, H' r = some (.tup [.ref q, .int p.2]) ∧ KAt H' q p.1) rs (nzP (tsOf m (ks'.take i))), ⟨[], upd_same, Same.but (same_new nA), Nat.le_refl _, .nil⟩, fun i H' _ ⟨_, _, b, _⟩ => SqL.of (b _ _ (ne_of_none hp nA) hp), ?_, ?_⟩
    · rintro i x H2 ex ⟨rs, hA, b2, rl, pp⟩
      rw [List.getElem?_map] at ex
      cases eb : bs[i]? with
      | none => rw [eb] at ex; cases ex
      | some q1 =>
        rw [eb] at ex
        cases Option.some.inj ex
        obtain ⟨kk, ek, hq⟩ := My.pget pr eb
        have hkin : kk ∈ keysP m := pe.mem_iff.mp (List.mem_iff_getElem?.mpr ⟨i, ek⟩)
        obtain ⟨pp1, hpp, rfl⟩ := List.mem_map.mp hkin
        obtain ⟨jj, hjj⟩ := List.mem_iff_getElem?.mp hpp
        have eg : getP m pp1.1 = some pp1.2 := getP_at lp.nd (c := pp1.2) (l := pp1.1) hjj
        have i5 : i < 7 := by
          have := (List.getElem?_eq_some_iff.mp ek).1
          omega
        have keep : ∀ b o, H b = some o → H2 b = some o := fun b o e => b2 _ _ (ne_of_none (sp _ _ e) nA) (sp _ _ e)
        have et : nzP (tsOf m (ks'.take (i + 1))) = nzP (tsOf m (ks'.take i)) ++ if pp1.2 = 0 then [] else [(pp1.1, pp1.2)] := by
          unfold nzP tsOf
          rw [List.take_succ, ek, List.map_append, List.filter_append]
          congr 1
          show List.filter _ [(pp1.1, (getP m pp1.1).getD 0)] = _
          rw [eg]
          by_cases z : pp1.2 = 0
          · rw [if_pos z, List.filter_cons_of_neg (by simp [z])]; rfl
          · rw [if_neg z, List.filter_cons_of_pos (by simp [z])]; rfl
        have gv : ∀ H', Same H2 H' → DGet H' d (.ref q1) (some (.int pp1.2)) := fun H' s' => by
          have z := DGet.t (k := ik pp1.1) (s' _ _ (keep _ _ hd)) (b := q1) (by rw [ik_kV]; exact s' _ _ (keep _ _ hq))
          rw [valV_kvI, eg] at z
          exact z
        walk_at "f"
        refine ⟨rfl, ?_⟩
        walk_at "f"
        refine ⟨d, .int pp1.2, rfl, gv _ (.refl _), ?_⟩
        walk_at "f"
        rw [et]
        by_cases z0 : pp1.2 = 0
        · rw [if_neg (by simp [z0]), if_pos z0, List.append_nil]
          exact ⟨rs, hA, b2, by omega, pp⟩
        · rw [if_pos (by simp [z0]), if_neg z0]
          walk_at "f"
          refine ⟨d, .int pp1.2, rfl, gv _ (.refl _), ?_⟩
          walk_at "f"
          refine ⟨My.sz (by simp), fun t nt => ?_⟩
          have st := same_new (o := HO.tup [V.ref q1, V.int pp1.2]) nt
          have hA2 := st _ _ hA
          have ne : t ≠ A := ne_of_none' hA nt
          refine ⟨_, hA2, by rw [List.length_map, sizeLine_eq]; omega, rs ++ [t], by rw [upd_same, List.map_append]; rfl, fun b o nb e => by rw [upd_ne nb]; exact st _ _ (b2 _ _ nb e), by rw [List.length_append]; simp; omega, ?_⟩
          have kA : ∀ b o, b ≠ A → upd H2 t (.tup [.ref q1, .int pp1.2]) b = some o → upd (upd H2 t (.tup [.ref q1, .int pp1.2])) A (.lst (rs.map V.ref ++ [.ref t])) b = some o := fun b o nb e => by rw [upd_ne nb]; exact e
          have tn : ∀ b xs, upd H2 t (.tup [.ref q1, .int pp1.2]) b = some (.tup xs) → b ≠ A := fun b xs e z => by rw [z, hA2] at e; cases e
          refine papp (Paired.mapP pp fun r p' ⟨q', h1, h2⟩ => ⟨q', kA _ _ (tn _ _ (st _ _ h1)) (st _ _ h1), kA _ _ (tn _ _ (st _ _ h2)) (st _ _ h2)⟩) (.cons ⟨q1, kA _ _ ne upd_same, ?_⟩ .nil)
          have hq2 := st _ _ (keep _ _ hq)
          exact kA _ _ (tn _ _ hq2) hq2
    · rintro H2 ⟨rs, hA, b2, rl, pp⟩
      rw [List.length_map, hbk, List.take_length] at pp
      refine My.tupL (SqL.of hA) fun t nt => ?_
      have st := same_new (o := HO.tup (rs.map V.ref)) nt
      have s3 : Same H (upd H2 t (.tup (rs.map V.ref))) := fun b o e => st _ _ (b2 _ _ (ne_of_none (sp _ _ e) nA) (sp _ _ e))
      have tat : TermsAt (upd H2 t (.tup (rs.map V.ref))) t (nzP (tsOf m ks')) := ⟨rs, upd_same, Paired.mapP pp fun r p' ⟨q', h1, h2⟩ => ⟨q', st _ _ h1, st _ _ h2⟩⟩
      generalize upd H2 t _ = H3 at st s3 tat ⊢
      walk_at "f"
      intro x dx nx ndx nxd
      have sm : Same H3 (upd (upd H3 dx (HO.own x)) x (HO.ins C dx [])) := fun b o e => by
        rw [upd_ne (ne_of_none e nx), upd_ne (ne_of_none e ndx)]; exact e
      refine ⟨x, dx, t, nzP (tsOf m ks'), rfl, upd_same, tat.same sm, nz_wft lp pe pw, fun H4 s4 => ⟨rfl, ?_⟩⟩
      have s5 : Same H3 (upd H4 x (HO.ins C dx [("terms", V.ref t)])) := made_same nx ndx s4
      exact q x _ _ (s3.trans s5) ⟨dx, t, upd_same, tat.same s5⟩ (nz_perm lp pe)
end
end K23

set_option Elab.async false
set_option linter.all false
set_option maxRecDepth 100000
set_option maxHeartbeats 4000000
namespace My
open PySem PySem.Spec PyProof.Rows L2 DX
/-- the value as R tells it -/
theorem cutV {te : TE} {σ : L2.St} {H : Hp} {Q : VK} (R : VK) (h2 : ∀ Q' : VK, (∀ v H', R v H' → Q' v H') → te σ H Q') (h1 : ∀ v H', R v H' → Q v H') : te σ H Q := h2 Q h1
end My
namespace K23
open PySem PySem.Spec PyProof.Rows L2 XV DX
/-- the law's parts while they are drawn -/
structure Lq (many most : Int) (m : Pol) : Prop where
  nd : (keysP m).Nodup
  len : ∀ p ∈ m, p.1.length = 4
  wi : ∀ p ∈ m, ∀ e ∈ p.1, 0 ≤ e ∧ e ≤ most
  off : ∀ p ∈ m, ∀ j : Nat, many ≤ (j : Int) → p.1.getD j 0 = 0
  bd : ∀ p ∈ m, My.Bd 90 p.2
theorem fresh_of {K : PySem.W.Frag} {H H' : Hp} {d c p : Addr} (h : Hand K H d c) (h' : Hand K H' d c) (b : But d H H') (n : H' p = none) : H p = none := by
  cases e : H p with
  | none => rfl
  | some o =>
    by_cases z : p = d
    · obtain ⟨ks, g⟩ := h'.dk
      rw [z, g] at n; cases n
    · rw [b _ _ z e] at n; cases n
theorem lq_put {many most : Int} {m : Pol} {ks : List Int} {n : Int} (h : Lq many most m) (hl : ks.length = 4) (hk : ∀ (j : Nat) (e : Int), ks[j]? = some e → (0 ≤ e ∧ e ≤ most) ∧ (many ≤ (j : Int) → e = 0)) (hn : My.Bd 90 n) : Lq many most (putP m ks n) := by
  have hw : ∀ e ∈ ks, 0 ≤ e ∧ e ≤ most := fun e he => by
    obtain ⟨j, hj⟩ := List.mem_iff_getElem?.mp he
    exact (hk j e hj).1
  have ho : ∀ j : Nat, many ≤ (j : Int) → ks.getD j 0 = 0 := fun j hj => by
    rw [List.getD_eq_getElem?_getD]
    cases e : ks[j]? with
    | none => rfl
    | some x => exact (hk j x e).2 hj
  have key : ∀ p ∈ putP m ks n, (p ∈ m) ∨ (p.1 = ks ∧ p.2 = n) := fun p hp => by
    unfold putP at hp
    split at hp
    · obtain ⟨q, hq, rfl⟩ := List.mem_map.mp hp
      by_cases z : q.1 = ks
      · rw [if_pos z]; exact .inr ⟨z, rfl⟩
      · rw [if_neg z]; exact .inl hq
    · rcases List.mem_append.mp hp with g | g
      · exact .inl g
      · rw [List.mem_singleton.mp g]; exact .inr ⟨rfl, rfl⟩
  refine ⟨nodup_put h.nd, fun p hp => ?_, fun p hp => ?_, fun p hp => ?_, fun p hp => ?_⟩
  · rcases key p hp with g | ⟨g, _⟩
    · exact h.len p g
    · rw [g]; exact hl
  · rcases key p hp with g | ⟨g, _⟩
    · exact h.wi p g
    · rw [g]; exact hw
  · rcases key p hp with g | ⟨g, _⟩
    · exact h.off p g
    · rw [g]; exact ho
  · rcases key p hp with g | ⟨_, g⟩
    · exact h.bd p g
    · rw [g]; exact hn
theorem Hand.put {K : PySem.W.Frag} {H : Hp} {d c a : Addr} {kvs kvs' : List (List L2.Key × V)} (h : Hand K H d c) (e : H a = some (.dT kvs)) (n : a ≠ d) : Hand K (upd H a (.dT kvs')) d c := by
  obtain ⟨cs, a', g, sd, tn, hd, hc, cd, a0⟩ := h
  refine ⟨cs, a', g, sd, tn, by rw [upd_ne n.symm]; exact hd, ?_, cd, a0⟩
  rcases hc with (l | ⟨o, l⟩) | l
  · exact .inl (.inl (by rw [upd_ne (fun z => by rw [z, e] at l; cases l)]; exact l))
  · exact .inl (.inr ⟨o, by rw [upd_ne (fun z => by rw [z, e] at l; cases l)]; exact l⟩)
  · exact .inr l
def spParts (K : PySem.W.Frag) : Sp := fun vs H Q _ => ∃ (d c : Addr) (many most : Int) (tt : Nat), vs = [.ref d, .int many, .int most, .int (tt : Int)] ∧ 0 ≤ most ∧ most ≤ 60 ∧ 0 < tt ∧ tt ≤ 5 ∧ Hand K H d c ∧
  ∀ p H' m, H p = none → Hand K H' d c → But d H H' → PolD H' p m → Lq many most m → m.length ≤ tt → Q (.ref p) H'
section
variable {P : Program} {w : World} {K : PySem.W.Frag} {mg : Str → Option Value} {base : Heap}
theorem sc_law_parts : FnScope ["_law_hand_here", "_law_many", "_law_most", "_law_terms", "_law_great", "_law_found", "_law_k", "_law_u", "_law_powers", "_law_count"] ["_law_hand_here", "_law_many", "_law_most", "_law_terms"] (defScope s_law_parts) := ⟨rfl, rfl, rfl, by decide +kernel, rfl, by decide +kernel, by decide +kernel⟩
theorem cal_law_parts {f : Addr} {fd : FuncData} (F : FnP K "_law_parts" "_law_parts" s_law_parts f fd) (g : mg "_law_parts" = some (.ref f)) (T : Txt0 mg) (C_law_draw : Cal P w K mg base "_law_draw" 1 ["_law_hand_here", "_law_many"] (spDraw K)) (C_law_any : Cal P w K mg base "_law_any" 2 ["_law_hand_here", "_law_things"] (spAny K)) : Cal P w K mg base "_law_parts" 3 ["_law_hand_here", "_law_many", "_law_most", "_law_terms"] (spParts K) := by
  obtain ⟨f_law_draw, fd_law_draw, g_law_draw, G_law_draw, b_law_draw, k_law_draw⟩ := C_law_draw
  obtain ⟨f_law_any, fd_law_any, g_law_any, G_law_any, b_law_any, k_law_any⟩ := C_law_any
  refine ⟨f, fd, g, ?_, F.bindsN (fun _ _ _ _ _ _ us hl => match us, hl with | [_, _, _, _], _ => rfl), F.kp⟩
  refine F.ok sc_law_parts (fun vs H Q E h => ?_) (fun cdv A outer s H vs Q E hr h => ?_)
  · obtain ⟨d, c, many, most, tt, rfl, m0, m3, t0, t5, hh, k⟩ := h
    rfl
  · obtain ⟨d, c, many, most, tt, rfl, m0, m3, t0, t5, hh, k⟩ := h
    have hu := hu_of hr
    refine ⟨_, PSs.nox (pss_cons (ps_set (i := 4) sc_law_parts.nd rfl (Or.inl rfl) (pe_ifExp (pt_cmpR op_gt (pe_call G_law_draw (hr.mono (by decide)) (by rfl) g_law_draw k_law_draw b_law_draw .nil pass0 (pa_cons (pv 0) (pa_cons pe_int pa_nil))) pe_int (nomark _)) (pe_call G_law_any (hr.mono (by decide)) (by rfl) g_law_any k_law_any b_law_any .nil pass0 (pa_cons (pv 0) (pa_cons (pe_lst (pa_cons pe_int (pa_cons pe_int (pa_cons pe_int (pa_cons pe_int (pa_cons pe_int (pa_cons (pe_op op_pow pe_int pe_int) pa_nil))))))) pa_nil))) pe_int))
      (pss_cons (ps_set (i := 5) sc_law_parts.nd rfl (Or.inl rfl) pe_dnewT)
      (pss_cons (ps_for PassesOwn.never rfl (pi_range1 (by rfl) T.range (pa_cons (pe_op op_add pe_int (pe_call G_law_draw (hr.mono (by decide)) (by rfl) g_law_draw k_law_draw b_law_draw .nil pass0 (pa_cons (pv 0) (pa_cons (pv 3) pa_nil)))) pa_nil)) (pg_name (i := 6) sc_law_parts.nd rfl (Or.inl rfl))
       (pss_cons (ps_set (i := 8) sc_law_parts.nd rfl (Or.inl rfl) (pe_tupleOf (by rfl) T.tuple (pe_lc (own := [("_law_u", 7)]) (tt := tYes) (by rfl) sc_law_parts.nd (pi_range1 (by rfl) T.range (pa_cons pe_int pa_nil)) (blkOk_by (own := [("_law_u", 7)]) (N := ["_law_hand_here", "_law_many", "_law_most", "_law_terms", "_law_great", "_law_found", "_law_k", "_law_u", "_law_powers", "_law_count"]) (sc := (defScope s_law_parts)) (by decide +kernel)) (fun _ _ _ _ _ => (pg_name (i := 7) sc_law_parts.nd rfl (Or.inl rfl))) (fun _ _ _ _ _ => pts_nil) (fun _ _ _ _ _ => (pe_ifExp (pt_cmpR op_lt (pv 7) (pv 1) (nomark _)) (pe_call G_law_draw (hr.mono (by decide)) (by rfl) g_law_draw k_law_draw b_law_draw .nil pass0 (pa_cons (pv 0) (pa_cons (pe_op op_add (pv 2) pe_int) pa_nil))) pe_int)))))
      (pss_cons (ps_set (i := 9) sc_law_parts.nd rfl (Or.inl rfl) (pe_op op_add pe_int (pe_call G_law_draw (hr.mono (by decide)) (by rfl) g_law_draw k_law_draw b_law_draw .nil pass0 (pa_cons (pv 0) (pa_cons (pv 4) pa_nil)))))
      (pss_one (ps_dput hu (pv 5) (pv 8) (pe_ifExp (pt_cmpR op_eq (pe_call G_law_draw (hr.mono (by decide)) (by rfl) g_law_draw k_law_draw b_law_draw .nil pass0 (pa_cons (pv 0) (pa_cons pe_int pa_nil))) pe_int (nomark _)) (pv 9) (pe_un un_neg (pv 9))) rfl)))))
      (pss_one (ps_ret (pv 5)))))), ?_⟩
    try dsimp only [cxOf, Cx.nox, Cx.wish]
    refine My.seq (My.asg (My.cutV (fun v H1 => ∃ g : Int, v = .int g ∧ 0 < g ∧ g ≤ 10 ^ 25 ∧ Hand K H1 d c ∧ But d H H1) (fun Q' hQ => ?_) ?_))
    · walk_at "f"
      refine ⟨d, c, 3, rfl, by decide, by decide, hh, fun r H1 r0 r1 hh1 b1 fr1 => ?_⟩
      walk_at "f"
      · refine My.new (My.sz (by simp)) fun pl nl => ?_
        have sl := same_new (o := HO.lst [V.int 3, V.int 9, V.int 9, V.int 9, V.int 100, V.int (10 ^ Int.toNat 25)]) nl
        walk_at "f"
        refine ⟨d, c, pl, _, rfl, hh1.same sl, SqL.of upd_same, by simp, by simp, fun v H2 hv hh2 b2 fr2 => ?_⟩
        obtain ⟨g, rfl, g0, g1⟩ : ∃ g : Int, v = .int g ∧ 0 < g ∧ g ≤ 10 ^ 25 := by
          simp only [List.mem_cons, List.not_mem_nil, or_false] at hv
          rcases hv with rfl | rfl | rfl | rfl | rfl | rfl <;> exact ⟨_, rfl, by decide, by decide⟩
        exact hQ _ _ ⟨g, rfl, g0, g1, hh2, (b1.trans (Same.but sl)).trans b2⟩
      · exact hQ _ _ ⟨2, rfl, by decide, by decide, hh1, b1⟩
    rintro v H1 ⟨g, rfl, g0, g1, hh1, b1⟩
    walk_at "f"
    refine My.dnewT fun pf nf => ?_
    have nf0 : H pf = none := fresh_of hh hh1 b1 nf
    have h2 := hh1.same (same_new (o := HO.dT []) nf)
    have b2 := b1.trans (Same.but (same_new (o := HO.dT []) nf))
    have hp2 := upd_same (H := H1) (a := pf) (o := HO.dT [])
    generalize upd H1 pf (HO.dT []) = H2 at h2 b2 hp2 ⊢
    walk_at "f"
    refine ⟨d, c, (tt : Int), rfl, by omega, by omega, h2, fun r H3 r0 r1 hh3 b3 fr3 => ?_⟩
    have hp3 : PolD H3 pf [] := b3 _ _ (fun z => by obtain ⟨ks, e⟩ := h2.dk; rw [← z, hp2] at e; cases e) hp2
    walk_at "f"
    refine My.rngI (by omega) (by omega) (fun i σ H' => ∃ (m : Pol) (u x y z : Option V), σ = [some (.ref d), some (.int many), some (.int most), some (.int (tt : Int)), some (.int g), some (.ref pf), u, x, y, z] ∧ Hand K H' d c ∧ But d H H' ∧ PolD H' pf m ∧ Lq many most m ∧ m.length ≤ i) ⟨[], none, none, none, none, rfl, hh3, b2.trans b3, hp3, ⟨List.nodup_nil, (fun p hp => by cases hp), (fun p hp => by cases hp), (fun p hp => by cases hp), (fun p hp => by cases hp)⟩, Nat.le_refl _⟩ ?_ ?_
    · rintro i σ H4 hi ⟨m, u, x, y, z, rfl, hh4, b4, hp4, lq, ml⟩
      walk_at "f"
      refine ⟨4, rfl, by decide, by decide, My.lcM walk_range (fun H1 H' => But d H1 H' ∧ Hand K H' d c) (by decide) (fun D hD => ⟨Same.but (same_new hD), hh4.same (same_new hD)⟩) fun D nD => ⟨fun j y H => ∃ e : Int, y = .int e ∧ (0 ≤ e ∧ e ≤ most) ∧ (many ≤ (j : Int) → e = 0), fun j y H ys o _ h => h, fun H o s => ⟨but_at s.1 nD, Hand.at hh4 s.1 s.2 nD⟩, fun _ _ _ _ => trivial, ?_, ?_⟩⟩
      · rintro i x H5 H6 ys N hi r e l p' ⟨rfl, rfl⟩ hN
        walk_at "f"
        refine ⟨rfl, ?_⟩
        walk_at "f"
        · refine ⟨d, c, most + 1, rfl, by omega, by omega, r.2, fun q H5 q0 q1 hh5 b5 _ => ?_⟩
          refine hN _ _ ⟨r.1.trans b5, hh5⟩ (b5.obj r.2 e (fun _ z => by cases z)) (fun j v hv => p' j v hv) ⟨q, rfl, ⟨q0, by omega⟩, fun g => by omega⟩
        · exact hN _ _ r e (fun j v hv => p' j v hv) ⟨0, rfl, ⟨Int.le_refl _, m0⟩, fun _ => rfl⟩
      · intro H5 ys hD hl5 r5 hy
        obtain ⟨ks, rfl, hk⟩ := ints_of hy
        rw [List.length_map] at hl5
        refine My.tupL (SqL.of hD) fun t nt => ?_
        have st := same_new (o := HO.tup (ks.map V.int)) nt
        have ot := upd_same (H := H5) (a := t) (o := HO.tup (ks.map V.int))
        have h6 := r5.2.same st
        have b6 := (b4.trans r5.1).trans (Same.but st)
        have nd4 : pf ≠ d := fun z => by
          obtain ⟨kk, e⟩ := hh4.dk
          have e2 : H4 pf = some (HO.dT (kvI m)) := hp4
          rw [z, e] at e2; cases e2
        have hp6 := st _ _ (r5.1 _ _ nd4 hp4)
        generalize upd H5 t _ = H6 at ot h6 b6 hp6 ⊢
        have ntd : t ≠ d := fun z => by obtain ⟨kk, e⟩ := h6.dk; rw [z, e] at ot; cases ot
        walk_at "f"
        refine ⟨d, c, g, rfl, g0, by omega, h6, fun cv H7 c0 c1 h7 b7 _ => ?_⟩
        walk_at "f"
        have hp7 := b7 _ _ nd4 hp6
        have ht7 := b7 _ _ ntd ot
        refine ⟨d, c, 2, rfl, by decide, by decide, h7, fun tv H8 t0 t1 h8 b78 _ => ?_⟩
        have b8 := (b6.trans b7).trans b78
        have hp8 := b78 _ _ nd4 hp7
        have ht8 : H8 t = some (.tup ((ik ks).map kV)) := by rw [ik_kV]; exact b78 _ _ ntd ht7
        have bb : My.Bd 90 (1 + cv) := by
          have : 1 + cv ≤ 10 ^ 25 := by omega
          show (1 + cv).natAbs < 2 ^ 90
          omega
        walk_at "f"
        · refine ⟨pf, _, rfl, DPut.t hp8 ht8 (by rw [kvI_len, sizeLine_eq]; omega), ?_⟩
          refine ⟨putP m ks (1 + cv), _, _, _, _, rfl, ?_, fun b o nb e => by rw [upd_ne (ne_of_none e nf0)]; exact b8 _ _ nb e, by rw [PolD, upd_same, kvI_put], lq_put lq hl5 (fun j e he => hk j e he) bb, Nat.le_trans (len_put m ks _) (by omega)⟩
          exact Hand.put h8 hp8 nd4
        · refine ⟨pf, _, rfl, DPut.t hp8 ht8 (by rw [kvI_len, sizeLine_eq]; omega), ?_⟩
          refine ⟨putP m ks (-(1 + cv)), _, _, _, _, rfl, ?_, fun b o nb e => by rw [upd_ne (ne_of_none e nf0)]; exact b8 _ _ nb e, by rw [PolD, upd_same, kvI_put], lq_put lq hl5 (fun j e he => hk j e he) bb.neg, Nat.le_trans (len_put m ks _) (by omega)⟩
          exact Hand.put h8 hp8 nd4
    · rintro σ H4 ⟨m, u, x, y, z, rfl, hh4, b4, hp4, lq, ml⟩
      walk_at "f"
      exact k pf H4 m nf0 hh4 b4 hp4 lq (by omega)
end
end K23

set_option Elab.async false
set_option linter.all false
set_option maxRecDepth 100000
set_option maxHeartbeats 4000000
namespace K23
open PySem PySem.Spec PyProof.Rows L2 XV DX
/-- in lowest terms, not far from 0 -/
structure Nr (n : Int) (f : Fra) : Prop where
  pos : 0 < f.2
  red : Nat.gcd f.1.natAbs f.2.natAbs = 1
  lo : -(18 * f.2) ≤ f.1
  hi : f.1 ≤ 18 * f.2
  top : f.2 ≤ n
theorem low_div {t b : Int} (hb : 0 < b) : ∃ g : Int, 0 < g ∧ t = (low t b).1 * g ∧ b = (low t b).2 * g ∧ g = ((Nat.gcd t.natAbs b.natAbs : Nat) : Int) := by
  have hg : 0 < Nat.gcd t.natAbs b.natAbs := Nat.gcd_pos_of_pos_right _ (by omega)
  refine ⟨((Nat.gcd t.natAbs b.natAbs : Nat) : Int), by omega, ?_, ?_, rfl⟩
  · refine (Int.ediv_mul_cancel ?_).symm
    exact Int.natAbs_dvd_natAbs.mp (Nat.gcd_dvd_left _ _)
  · refine (Int.ediv_mul_cancel ?_).symm
    exact Int.natAbs_dvd_natAbs.mp (Nat.gcd_dvd_right _ _)
theorem low_pos {t b : Int} (hb : 0 < b) : 0 < (low t b).2 := by
  obtain ⟨g, g0, _, e, _⟩ := low_div (t := t) hb
  rw [e] at hb
  exact Int.pos_of_mul_pos_left hb g0
theorem low_red {t b : Int} (hb : 0 < b) : Nat.gcd (low t b).1.natAbs (low t b).2.natAbs = 1 := by
  obtain ⟨g, g0, e1, e2, e3⟩ := low_div (t := t) hb
  have t' : t.natAbs = (low t b).1.natAbs * g.natAbs := by rw [← Int.natAbs_mul, ← e1]
  have b' : b.natAbs = (low t b).2.natAbs * g.natAbs := by rw [← Int.natAbs_mul, ← e2]
  have h : Nat.gcd t.natAbs b.natAbs = Nat.gcd (low t b).1.natAbs (low t b).2.natAbs * g.natAbs := by rw [t', b', Nat.gcd_mul_right]
  have gn : Nat.gcd t.natAbs b.natAbs = g.natAbs := by rw [e3]; rfl
  rw [gn] at h
  have gp : 0 < g.natAbs := by omega
  have : 1 * g.natAbs = Nat.gcd (low t b).1.natAbs (low t b).2.natAbs * g.natAbs := by rw [Nat.one_mul]; exact h
  exact (Nat.eq_of_mul_eq_mul_right gp this).symm
theorem low_nr {t b n : Int} (hb : 0 < b) (h1 : -(18 * b) ≤ t) (h2 : t ≤ 18 * b) (hn : b ≤ n) : Nr n (low t b) := by
  obtain ⟨g, g0, e1, e2, _⟩ := low_div (t := t) hb
  have p := low_pos (t := t) hb
  refine ⟨p, low_red hb, ?_, ?_, ?_⟩
  · refine Int.le_of_mul_le_mul_right (a := g) ?_ g0
    rw [← e1, Int.neg_mul, Int.mul_assoc, ← e2]; exact h1
  · refine Int.le_of_mul_le_mul_right (a := g) ?_ g0
    rw [← e1, Int.mul_assoc, ← e2]; exact h2
  · refine Int.le_trans ?_ hn
    have : (low t b).2 * 1 ≤ (low t b).2 * g := Int.mul_le_mul_of_nonneg_left (by omega) (by omega)
    rw [← e2] at this
    omega
theorem low_lt {t u b c : Int} (hb : 0 < b) (hc : 0 < c) (h : t * c < u * b) : (low t b).1 * (low u c).2 < (low u c).1 * (low t b).2 := by
  obtain ⟨g, g0, e1, e2, _⟩ := low_div (t := t) hb
  obtain ⟨k, k0, f1, f2, _⟩ := low_div (t := u) hc
  generalize (low t b).1 = x1 at *
  generalize (low t b).2 = x2 at *
  generalize (low u c).1 = y1 at *
  generalize (low u c).2 = y2 at *
  subst e1 e2 f1 f2
  refine Int.lt_of_mul_lt_mul_right (a := g * k) ?_ (by have := Int.mul_pos g0 k0; omega)
  calc x1 * y2 * (g * k) = x1 * g * (y2 * k) := by grind
    _ < y1 * k * (x2 * g) := h
    _ = y1 * x2 * (g * k) := by grind
theorem Nr.ok {f : Fra} (h : Nr (10 ^ 15) f) : FraOk f := by
  have h1 := h.pos
  have h2 := h.lo
  have h3 := h.hi
  have h4 := h.top
  refine ⟨h.pos, h.red, ?_, ?_⟩
  · show f.1.natAbs < 2 ^ 150
    omega
  · show f.2.natAbs < 2 ^ 150
    omega
theorem Nr.mono {n m : Int} {f : Fra} (h : Nr n f) (l : n ≤ m) : Nr m f := ⟨h.pos, h.red, h.lo, h.hi, Int.le_trans h.top l⟩
structure StrN (n : Int) (s : Str2) : Prop where
  lo : Nr n s.1
  hi : Nr n s.2
  lt : s.1.1 * s.2.2 < s.2.1 * s.1.2
theorem StrN.ok {s : Str2} (h : StrN (10 ^ 15) s) : StrOk s := ⟨h.lo.ok, h.hi.ok, h.lt⟩
def spStretch (K : PySem.W.Frag) : Sp := fun vs H Q _ => ∃ (d c : Addr), vs = [.ref d] ∧ Hand K H d c ∧ ∀ p H' s, Hand K H' d c → But d H H' → StrAt H' p s → StrN (10 ^ 6) s → Q (.ref p) H'
def spPlace (K : PySem.W.Frag) : Sp := fun vs H Q _ => ∃ (d c a : Addr) (s : Str2), vs = [.ref d, .ref a] ∧ Hand K H d c ∧ StrAt H a s ∧ StrN (10 ^ 6) s ∧
  ∀ (p : Addr) H' (f : Fra) (t m : Int), Hand K H' d c → But d H H' → FraAt H' p f → Nr (10 ^ 15) f → 0 ≤ t → t ≤ m → 0 < m → f.1 * (s.1.2 * s.2.2 * m) = f.2 * (s.1.1 * s.2.2 * (m - t) + s.2.1 * s.1.2 * t) → Q (.ref p) H'
section
variable {P : Program} {w : World} {K : PySem.W.Frag} {mg : Str → Option Value} {base : Heap}
theorem sc_law_stretch : FnScope ["_law_hand_here", "_law_bottom", "_law_low_here", "_law_wide"] ["_law_hand_here"] (defScope s_law_stretch) := ⟨rfl, rfl, rfl, by decide +kernel, rfl, by decide +kernel, by decide +kernel⟩
theorem cal_law_stretch {f : Addr} {fd : FuncData} (F : FnP K "_law_stretch" "_law_stretch" s_law_stretch f fd) (g : mg "_law_stretch" = some (.ref f)) (T : Txt0 mg) (C_law_any : Cal P w K mg base "_law_any" 2 ["_law_hand_here", "_law_things"] (spAny K)) (C_law_draw : Cal P w K mg base "_law_draw" 1 ["_law_hand_here", "_law_many"] (spDraw K)) (C_law_low : Cal P w K mg base "_law_low" 1 ["_law_top", "_law_bottom"] spLow) : Cal P w K mg base "_law_stretch" 3 ["_law_hand_here"] (spStretch K) := by
  obtain ⟨f_law_any, fd_law_any, g_law_any, G_law_any, b_law_any, k_law_any⟩ := C_law_any
  obtain ⟨f_law_draw, fd_law_draw, g_law_draw, G_law_draw, b_law_draw, k_law_draw⟩ := C_law_draw
  obtain ⟨f_law_low, fd_law_low, g_law_low, G_law_low, b_law_low, k_law_low⟩ := C_law_low
  refine ⟨f, fd, g, ?_, F.bindsN (fun _ _ _ _ _ _ us hl => match us, hl with | [_], _ => rfl), F.kp⟩
  refine F.ok sc_law_stretch (fun vs H Q E h => ?_) (fun cdv A outer s H vs Q E hr h => ?_)
  · obtain ⟨d, c, rfl, hh, k⟩ := h
    rfl
  · obtain ⟨d, c, rfl, hh, k⟩ := h
    refine ⟨_, PSs.nox (pss_cons (ps_set (i := 1) sc_law_stretch.nd rfl (Or.inl rfl) (pe_call G_law_any (hr.mono (by decide)) (by rfl) g_law_any k_law_any b_law_any .nil pass0 (pa_cons (pv 0) (pa_cons (pe_lst (pa_cons pe_int (pa_cons pe_int (pa_cons pe_int (pa_cons pe_int (pa_cons pe_int (pa_cons pe_int (pa_cons (pe_op op_pow pe_int pe_int) pa_nil)))))))) pa_nil))))
      (pss_cons (ps_set (i := 2) sc_law_stretch.nd rfl (Or.inl rfl) (pe_op op_sub (pe_call G_law_draw (hr.mono (by decide)) (by rfl) g_law_draw k_law_draw b_law_draw .nil pass0 (pa_cons (pv 0) (pa_cons (pe_op op_mulW pe_int (pv 1)) pa_nil))) (pe_op op_mulW (pe_call G_law_any (hr.mono (by decide)) (by rfl) g_law_any k_law_any b_law_any .nil pass0 (pa_cons (pv 0) (pa_cons (pe_lst (pa_cons pe_int (pa_cons pe_int (pa_cons pe_int (pa_cons pe_int pa_nil))))) pa_nil))) (pv 1))))
      (pss_cons (ps_set (i := 3) sc_law_stretch.nd rfl (Or.inl rfl) (pe_op op_add pe_int (pe_call G_law_draw (hr.mono (by decide)) (by rfl) g_law_draw k_law_draw b_law_draw .nil pass0 (pa_cons (pv 0) (pa_cons (pe_call G_law_any (hr.mono (by decide)) (by rfl) g_law_any k_law_any b_law_any .nil pass0 (pa_cons (pv 0) (pa_cons (pe_lst (pa_cons pe_int (pa_cons (pv 1) (pa_cons (pe_op op_mulW pe_int (pv 1)) (pa_cons (pe_op op_mulW pe_int (pv 1)) pa_nil))))) pa_nil))) pa_nil)))))
      (pss_one (ps_ret (pe_tup (pa_cons (pe_call G_law_low (hr.mono (by decide)) (by rfl) g_law_low k_law_low b_law_low .nil pass0 (pa_cons (pv 2) (pa_cons (pv 1) pa_nil))) (pa_cons (pe_call G_law_low (hr.mono (by decide)) (by rfl) g_law_low k_law_low b_law_low .nil pass0 (pa_cons (pe_op op_add (pv 2) (pv 3)) (pa_cons (pv 1) pa_nil))) pa_nil)))))))), ?_⟩
    try dsimp only [cxOf, Cx.nox, Cx.wish]
    walk_at "f"
    refine My.new (My.sz (by simp)) fun pl nl => ?_
    have sl := same_new (o := HO.lst [V.int 1, V.int 1, V.int 1, V.int 2, V.int 3, V.int 7, V.int (10 ^ Int.toNat 6)]) nl
    walk_at "f"
    refine ⟨d, c, pl, _, rfl, hh.same sl, SqL.of upd_same, by simp, by simp, fun v H1 hv hh1 b1 _ => ?_⟩
    obtain ⟨B, rfl, B0, B1⟩ : ∃ B : Int, v = .int B ∧ 0 < B ∧ B ≤ 10 ^ 6 := by
      simp only [List.mem_cons, List.not_mem_nil, or_false] at hv
      rcases hv with rfl | rfl | rfl | rfl | rfl | rfl | rfl <;> exact ⟨_, rfl, by decide, by decide⟩
    have b1 := (Same.but sl).trans b1
    walk_at "f"
    refine My.mulW (n := 4) (m := 20) (My.Bd.lit (k := 10) (by decide) (by decide)) (My.Bd.lit (k := 10 ^ 6 + 1) (by omega) (by decide)) (by decide) ?_
    walk_at "f"
    refine ⟨d, c, 9 * B, rfl, by omega, by omega, hh1, fun r H2 r0 r1 hh2 b2 _ => ?_⟩
    walk_at "f"
    refine My.new (My.sz (by simp)) fun p2 n2 => ?_
    have s2 := same_new (o := HO.lst [V.int 0, V.int 4, V.int 4, V.int 9]) n2
    walk_at "f"
    refine ⟨d, c, p2, _, rfl, hh2.same s2, SqL.of upd_same, by simp, by simp, fun v H3 hv hh3 b3 _ => ?_⟩
    obtain ⟨e, rfl, e0, e1⟩ : ∃ e : Int, v = .int e ∧ 0 ≤ e ∧ e ≤ 9 := by
      simp only [List.mem_cons, List.not_mem_nil, or_false] at hv
      rcases hv with rfl | rfl | rfl | rfl <;> exact ⟨_, rfl, by decide, by decide⟩
    have b3 := ((b1.trans b2).trans (Same.but s2)).trans b3
    walk_at "f"
    refine My.mulW (n := 4) (m := 20) (My.Bd.lit (k := 10) (by omega) (by decide)) (My.Bd.lit (k := 10 ^ 6 + 1) (by omega) (by decide)) (by decide) ?_
    have eB0 : 0 ≤ e * B := Int.mul_nonneg e0 (by omega)
    have eB1 : e * B ≤ 9 * B := Int.mul_le_mul_of_nonneg_right e1 (by omega)
    walk_at "f"
    refine My.mulW (n := 4) (m := 20) (My.Bd.lit (k := 10) (by decide) (by decide)) (My.Bd.lit (k := 10 ^ 6 + 1) (by omega) (by decide)) (by decide) ?_
    walk_at "f"
    refine My.mulW (n := 4) (m := 20) (My.Bd.lit (k := 10) (by decide) (by decide)) (My.Bd.lit (k := 10 ^ 6 + 1) (by omega) (by decide)) (by decide) ?_
    walk_at "f"
    refine My.new (My.sz (by simp)) fun p3 n3 => ?_
    have s3 := same_new (o := HO.lst [V.int 1, V.int B, V.int (3 * B), V.int (9 * B)]) n3
    walk_at "f"
    refine ⟨d, c, p3, _, rfl, hh3.same s3, SqL.of upd_same, by simp, by simp, fun v H4 hv hh4 b4 _ => ?_⟩
    obtain ⟨W, rfl, W0, W1⟩ : ∃ W : Int, v = .int W ∧ 0 < W ∧ W ≤ 9 * B := by
      simp only [List.mem_cons, List.not_mem_nil, or_false] at hv
      rcases hv with rfl | rfl | rfl | rfl <;> exact ⟨_, rfl, by omega, by omega⟩
    have b4 := (b3.trans (Same.but s3)).trans b4
    walk_at "f"
    refine ⟨d, c, W, rfl, W0, by omega, hh4, fun x H5 x0 x1 hh5 b5 _ => ?_⟩
    have b5 := b4.trans b5
    walk_at "f"
    have BB : My.Bd 8990 B := (My.Bd.lit (n := 20) (k := 10 ^ 6 + 1) (by omega) (by decide)).mono (by decide)
    refine ⟨_, B, rfl, B0, BB, fun q1 nq1 => ?_⟩
    have s6 := same_new (o := HO.tup [V.int (low (r - e * B) B).1, V.int (low (r - e * B) B).2]) nq1
    have f6 := upd_same (H := H5) (a := q1) (o := HO.tup [V.int (low (r - e * B) B).1, V.int (low (r - e * B) B).2])
    have hh6 := hh5.same s6
    have b6 := b5.trans (Same.but s6)
    generalize upd H5 q1 _ = H6 at f6 hh6 b6 ⊢
    walk_at "f"
    refine ⟨_, B, rfl, B0, BB, fun q2 nq2 => ?_⟩
    have s7 := same_new (o := HO.tup [V.int (low (r - e * B + (1 + x)) B).1, V.int (low (r - e * B + (1 + x)) B).2]) nq2
    have f7 := upd_same (H := H6) (a := q2) (o := HO.tup [V.int (low (r - e * B + (1 + x)) B).1, V.int (low (r - e * B + (1 + x)) B).2])
    have f6' := s7 _ _ f6
    have hh7 := hh6.same s7
    have b7 := b6.trans (Same.but s7)
    generalize upd H6 q2 _ = H7 at f6' f7 hh7 b7 ⊢
    walk_at "f"
    refine My.new (My.sz (by simp)) fun q3 nq3 => ?_
    have s8 := same_new (o := HO.tup [V.ref q1, V.ref q2]) nq3
    refine k q3 _ (low (r - e * B) B, low (r - e * B + (1 + x)) B) (hh7.same s8) (b7.trans (Same.but s8)) ⟨q1, q2, upd_same, s8 _ _ f6', s8 _ _ f7⟩ ⟨low_nr B0 (by omega) (by omega) B1, low_nr B0 (by omega) (by omega) B1, low_lt B0 B0 ?_⟩
    exact Int.mul_lt_mul_of_pos_right (by omega) B0
end
end K23

set_option Elab.async false
set_option linter.all false
set_option maxRecDepth 100000
set_option maxHeartbeats 4000000
namespace K23
open PySem PySem.Spec PyProof.Rows L2 XV DX
/-- f lies t of m parts within the stretch -/
def InS (s : Str2) (f : Fra) : Prop := ∃ t m : Int, 0 ≤ t ∧ t ≤ m ∧ 0 < m ∧ f.1 * (s.1.2 * s.2.2 * m) = f.2 * (s.1.1 * s.2.2 * (m - t) + s.2.1 * s.1.2 * t)
theorem low_abs {t b : Int} (hb : 0 < b) : (low t b).1.natAbs ≤ t.natAbs ∧ (low t b).2.natAbs ≤ b.natAbs := by
  obtain ⟨g, g0, e1, e2, _⟩ := low_div (t := t) hb
  have t' : t.natAbs = (low t b).1.natAbs * g.natAbs := by rw [← Int.natAbs_mul, ← e1]
  have b' : b.natAbs = (low t b).2.natAbs * g.natAbs := by rw [← Int.natAbs_mul, ← e2]
  have gp : 1 ≤ g.natAbs := by omega
  exact ⟨by rw [t']; exact Nat.le_mul_of_pos_right _ gp, by rw [b']; exact Nat.le_mul_of_pos_right _ gp⟩
theorem but_str {K : PySem.W.Frag} {H H' : Hp} {d c a : Addr} {s : Str2} (b : But d H H') (h : Hand K H d c) (e : StrAt H a s) : StrAt H' a s := by
  obtain ⟨p, q, h1, h2, h3⟩ := e
  exact ⟨p, q, b.obj h h1 (fun _ z => by cases z), b.obj h h2 (fun _ z => by cases z), b.obj h h3 (fun _ z => by cases z)⟩
theorem but_box {K : PySem.W.Frag} {H H' : Hp} {d c a : Addr} {bs : List Str2} (b : But d H H') (h : Hand K H d c) (e : BoxAt H a bs) : BoxAt H' a bs := by
  obtain ⟨rs, h1, h2⟩ := e
  exact ⟨rs, b.obj h h1 (fun _ z => by cases z), Paired.mapP h2 fun _ _ z => but_str b h z⟩
theorem str_put {H : Hp} {D a : Addr} {ys zs : List V} {s : Str2} (e : H D = some (.lst ys)) (h : StrAt H a s) : StrAt (upd H D (.lst zs)) a s := by
  obtain ⟨p, q, h1, h2, h3⟩ := h
  have n : ∀ b xs, H b = some (.tup xs) → b ≠ D := fun b xs z g => by rw [g, e] at z; cases z
  exact ⟨p, q, by rw [upd_ne (n _ _ h1)]; exact h1, by unfold FraAt; rw [upd_ne (n _ _ h2)]; exact h2, by unfold FraAt; rw [upd_ne (n _ _ h3)]; exact h3⟩
theorem strs_of {H : Hp} : ∀ {ys : List V}, (∀ (j : Nat) y, ys[j]? = some y → ∃ a s, y = V.ref a ∧ StrAt H a s ∧ StrN (10 ^ 6) s) → ∃ rs sts, ys = rs.map V.ref ∧ Paired (StrAt H) rs sts ∧ ∀ s ∈ sts, StrN (10 ^ 6) s
  | [], _ => ⟨[], [], rfl, .nil, fun s h => by cases h⟩
  | y :: ys, h => by
    obtain ⟨a, s, rfl, h1, h2⟩ := h 0 y rfl
    obtain ⟨rs, sts, rfl, h3, h4⟩ := strs_of (ys := ys) fun j y e => h (j + 1) y e
    exact ⟨a :: rs, s :: sts, rfl, .cons h1 h3, fun x hx => by
      rcases List.mem_cons.mp hx with e | e
      · rw [e]; exact h2
      · exact h4 x e⟩
def spLBox (K : PySem.W.Frag) : Sp := fun vs H Q _ => ∃ (d c : Addr) (n : Nat), vs = [.ref d, .int (n : Int)] ∧ n ≤ 3 ∧ Hand K H d c ∧ ∀ p H' sts, Hand K H' d c → But d H H' → BoxAt H' p sts → sts.length = n → (∀ s ∈ sts, StrN (10 ^ 6) s) → Q (.ref p) H'
section
variable {P : Program} {w : World} {K : PySem.W.Frag} {mg : Str → Option Value} {base : Heap}
theorem sc_law_box : FnScope ["_law_hand_here", "_law_many", "_law_k"] ["_law_hand_here", "_law_many"] (defScope s_law_box) := ⟨rfl, rfl, rfl, by decide +kernel, rfl, by decide +kernel, by decide +kernel⟩
theorem cal_law_box {f : Addr} {fd : FuncData} (F : FnP K "_law_box" "_law_box" s_law_box f fd) (g : mg "_law_box" = some (.ref f)) (T : Txt0 mg) (C_law_stretch : Cal P w K mg base "_law_stretch" 3 ["_law_hand_here"] (spStretch K)) : Cal P w K mg base "_law_box" 4 ["_law_hand_here", "_law_many"] (spLBox K) := by
  obtain ⟨f_law_stretch, fd_law_stretch, g_law_stretch, G_law_stretch, b_law_stretch, k_law_stretch⟩ := C_law_stretch
  refine ⟨f, fd, g, ?_, F.bindsN (fun _ _ _ _ _ _ us hl => match us, hl with | [_, _], _ => rfl), F.kp⟩
  refine F.ok sc_law_box (fun vs H Q E h => ?_) (fun cdv A outer s H vs Q E hr h => ?_)
  · obtain ⟨d, c, n, rfl, hn, hh, k⟩ := h
    rfl
  · obtain ⟨d, c, n, rfl, hn, hh, k⟩ := h
    refine ⟨_, PSs.nox (pss_one (ps_ret (pe_tupleOf (by rfl) T.tuple (pe_lc (own := [("_law_k", 2)]) (tt := tYes) (by rfl) sc_law_box.nd (pi_range1 (by rfl) T.range (pa_cons (pv 1) pa_nil)) (blkOk_by (own := [("_law_k", 2)]) (N := ["_law_hand_here", "_law_many", "_law_k"]) (sc := (defScope s_law_box)) (by decide +kernel)) (fun _ _ _ _ _ => (pg_name (i := 2) sc_law_box.nd rfl (Or.inl rfl))) (fun _ _ _ _ _ => pts_nil) (fun _ _ _ _ _ => (pe_call G_law_stretch (hr.mono (by decide)) (by rfl) g_law_stretch k_law_stretch b_law_stretch .nil pass0 (pa_cons (pv 0) pa_nil))))))), ?_⟩
    try dsimp only [cxOf, Cx.nox, Cx.wish]
    walk_at "f"
    refine ⟨(n : Int), rfl, by omega, by omega, My.lcM2 walk_range (fun H1 H' => But d H1 H' ∧ Hand K H' d c) (by omega) (fun D hD => ⟨Same.but (same_new hD), hh.same (same_new hD)⟩) fun D nD => ⟨fun j y H => ∃ a s, y = .ref a ∧ StrAt H a s ∧ StrN (10 ^ 6) s, fun j y H ys zs e ⟨a, s, h1, h2, h3⟩ => ⟨a, s, h1, str_put e h2, h3⟩, fun H o s => ⟨but_at s.1 nD, Hand.at hh s.1 s.2 nD⟩, fun _ _ _ _ => trivial, ?_, ?_⟩⟩
    · rintro i x H3 H4 ys N hi r e l p' ⟨rfl, rfl⟩ hN
      walk_at "f"
      refine ⟨rfl, ?_⟩
      walk_at "f"
      refine ⟨d, c, rfl, r.2, fun q H5 s hh5 b5 hs sn => ?_⟩
      refine hN _ _ ⟨r.1.trans b5, hh5⟩ (b5.obj r.2 e (fun _ z => by cases z)) (fun j v hv => ?_) ⟨q, s, rfl, hs, sn⟩
      obtain ⟨a, s', h1, h2, h3⟩ := p' j v hv
      exact ⟨a, s', h1, but_str b5 r.2 h2, h3⟩
    · intro H3 ys hD hl3 r hy
      obtain ⟨rs, sts, rfl, hp, hs⟩ := strs_of hy
      refine My.tupL (SqL.of hD) fun t nt => ?_
      have st := same_new (o := HO.tup (rs.map V.ref)) nt
      rw [List.length_map] at hl3
      have pl := My.plen hp
      refine k t _ sts (r.2.same st) (r.1.trans (Same.but st)) ⟨rs, upd_same, Paired.mapP hp fun _ _ z => z.same st⟩ (by omega) hs
end
end K23

set_option Elab.async false
set_option linter.all false
set_option maxRecDepth 100000
set_option maxHeartbeats 4000000
namespace K23
open PySem PySem.Spec PyProof.Rows L2 XV DX
def spPolar : Sp := fun vs H Q _ => ∃ (a : Addr) (s : Str2) (D i j : Nat), vs = [.ref a, .int (D : Int), .int (i : Int), .int (j : Int)] ∧ StrAt H a s ∧ StrOk s ∧ D ≤ 60 ∧ i ≤ D ∧ j ≤ D ∧
  ∀ p H', Same H H' → H' p = some (.tup [.int (BM.pa (mkDm D s) j i), .int (BM.pb (mkDm D s) j)]) → Q (.ref p) H'
section
variable {P : Program} {w : World} {K : PySem.W.Frag} {mg : Str → Option Value} {base : Heap}
theorem sc_law_polar : FnScope ["_law_stretch_here", "_law_many", "_law_i", "_law_j", "_law_a", "_law_b", "_law_c", "_law_d", "_law_low_here", "_law_high", "_law_found", "_law_t", "_law_ways"] ["_law_stretch_here", "_law_many", "_law_i", "_law_j"] (defScope s_law_polar) := ⟨rfl, rfl, rfl, by decide +kernel, rfl, by decide +kernel, by decide +kernel⟩
theorem cal_law_polar {f : Addr} {fd : FuncData} (F : FnP K "_law_polar" "_law_polar" s_law_polar f fd) (g : mg "_law_polar" = some (.ref f)) (T : Txt0 mg) (C_law_binomial : Cal P w K mg base "_law_binomial" 1 ["_law_many", "_law_some"] spBin) (C_law_power : Cal P w K mg base "_law_power" 1 ["_law_number", "_law_many"] spPow) : Cal P w K mg base "_law_polar" 3 ["_law_stretch_here", "_law_many", "_law_i", "_law_j"] spPolar := by
  obtain ⟨f_law_binomial, fd_law_binomial, g_law_binomial, G_law_binomial, b_law_binomial, k_law_binomial⟩ := C_law_binomial
  obtain ⟨f_law_power, fd_law_power, g_law_power, G_law_power, b_law_power, k_law_power⟩ := C_law_power
  refine ⟨f, fd, g, ?_, F.bindsN (fun _ _ _ _ _ _ us hl => match us, hl with | [_, _, _, _], _ => rfl), F.kp⟩
  refine F.ok sc_law_polar (fun vs H Q E h => ?_) (fun cdv A outer s H vs Q E hr h => ?_)
  · obtain ⟨a, s, D, i, j, rfl, ha, ok, hD, hi, hj, k⟩ := h
    rfl
  · obtain ⟨a, s, D, i, j, rfl, ha, ok, hD, hi, hj, k⟩ := h
    refine ⟨_, PSs.nox (pss_cons (ps_asg (pv 0) (pg_tup (by rfl) (pgs_cons (pg_tup (by rfl) (pgs_cons (pg_name (i := 4) sc_law_polar.nd rfl (Or.inl rfl)) (pgs_cons (pg_name (i := 5) sc_law_polar.nd rfl (Or.inl rfl)) pgs_nil))) (pgs_cons (pg_tup (by rfl) (pgs_cons (pg_name (i := 6) sc_law_polar.nd rfl (Or.inl rfl)) (pgs_cons (pg_name (i := 7) sc_law_polar.nd rfl (Or.inl rfl)) pgs_nil))) pgs_nil))))
      (pss_cons (ps_par3 (i := 8) (j := 9) (l := 10) (by rfl) sc_law_polar.nd rfl rfl rfl (by decide) (by decide) (by decide) rfl rfl rfl (pa_cons (pe_op op_mulW (pv 4) (pv 7)) (pa_cons (pe_op op_mulW (pv 6) (pv 5)) (pa_cons pe_int pa_nil))) (by rfl))
      (pss_cons (ps_for PassesOwn.never rfl (pi_range1 (by rfl) T.range (pa_cons (pe_op op_add (pv 3) pe_int) pa_nil)) (pg_name (i := 11) sc_law_polar.nd rfl (Or.inl rfl))
       (pss_cons (ps_set (i := 12) sc_law_polar.nd rfl (Or.inl rfl) (pe_op op_mulW (pe_call G_law_binomial (hr.mono (by decide)) (by rfl) g_law_binomial k_law_binomial b_law_binomial .nil pass0 (pa_cons (pv 2) (pa_cons (pv 11) pa_nil))) (pe_call G_law_binomial (hr.mono (by decide)) (by rfl) g_law_binomial k_law_binomial b_law_binomial .nil pass0 (pa_cons (pe_op op_sub (pv 1) (pv 2)) (pa_cons (pe_op op_sub (pv 3) (pv 11)) pa_nil)))))
      (pss_one (ps_set (i := 10) sc_law_polar.nd rfl (Or.inl rfl) (pe_op op_add (pv 10) (pe_ifExp (pt_cmpR op_gt (pv 12) pe_int (nomark _)) (pe_op op_mulW (pe_op op_mulW (pv 12) (pe_call G_law_power (hr.mono (by decide)) (by rfl) g_law_power k_law_power b_law_power .nil pass0 (pa_cons (pv 9) (pa_cons (pv 11) pa_nil)))) (pe_call G_law_power (hr.mono (by decide)) (by rfl) g_law_power k_law_power b_law_power .nil pass0 (pa_cons (pv 8) (pa_cons (pe_op op_sub (pv 3) (pv 11)) pa_nil)))) pe_int))))))
      (pss_one (ps_ret (pe_tup (pa_cons (pv 10) (pa_cons (pe_op op_mulW (pe_call G_law_power (hr.mono (by decide)) (by rfl) g_law_power k_law_power b_law_power .nil pass0 (pa_cons (pe_op op_mulW (pv 5) (pv 7)) (pa_cons (pv 3) pa_nil))) (pe_call G_law_binomial (hr.mono (by decide)) (by rfl) g_law_binomial k_law_binomial b_law_binomial .nil pass0 (pa_cons (pv 1) (pa_cons (pv 3) pa_nil)))) pa_nil)))))))), ?_⟩
    try dsimp only [cxOf, Cx.nox, Cx.wish]
    obtain ⟨x1, x2, hx, h1, h2⟩ := id ha
    obtain ⟨⟨a1, a2⟩, ⟨c1, c2⟩⟩ := s
    have Ba := ok.lo.b1; have Bb := ok.lo.b2; have Bc := ok.hi.b1; have Be := ok.hi.b2
    simp only at Ba Bb Bc Be h1 h2
    walk_at "f"
    refine My.gtup22 (SqT.of hx) (SqT.of h1) (SqT.of h2) rfl ?_
    walk_at "f"
    have Bl := Ba.mul Be
    have Bh := Bc.mul Bb
    have Bu := Bb.mul Be
    have eD : (D : Int) - (i : Int) = ((D - i : Nat) : Int) := by omega
    refine My.rngI (by omega) (by omega) (fun n σ' H' => ∃ (x y : Option V), σ' = [some (.ref a), some (.int (D : Int)), some (.int (i : Int)), some (.int (j : Int)), some (.int a1), some (.int a2), some (.int c1), some (.int c2), some (.int (a1 * c2)), some (.int (c1 * a2)), some (.int (BM.sm n (BM.qt (a1 * c2) (c1 * a2) i (D - i) j))), x, y] ∧ H' = H) ⟨none, none, rfl, rfl⟩ ?_ ?_
    · rintro t σ' H' ht ⟨x, y, rfl, rfl⟩
      have htj : t ≤ j := by omega
      have ej : (j : Int) - (0 + (t : Int)) = ((j - t : Nat) : Int) := by omega
      walk_at "f"
      refine ⟨i, t, by rw [Int.zero_add]; rfl, by omega, by omega, ?_⟩
      walk_at "f"
      refine ⟨D - i, j - t, by rw [eD, ej]; rfl, by omega, by omega, ?_⟩
      have W1 : My.Bd 64 (BM.ch i t) := ch_bd (by omega)
      have W2 : My.Bd 64 (BM.ch (D - i) (j - t)) := ch_bd (by omega)
      walk_at "f"
      · rename_i hpos
        refine ⟨c1 * a2, t, 300, by rw [Int.zero_add]; rfl, Bh, by omega, by omega, ?_⟩
        have P1 := (pow_bd Bh t).mono (show t * (150 + 150) + 1 ≤ 18001 by omega)
        walk_at "f"
        refine My.mulW (W1.mul W2) P1 (by decide) ?_
        walk_at "f"
        refine ⟨a1 * c2, j - t, 300, by rw [ej]; rfl, Bl, by omega, by omega, ?_⟩
        have P2 := (pow_bd Bl (j - t)).mono (show (j - t) * (150 + 150) + 1 ≤ 18001 by omega)
        walk_at "f"
        refine My.mulW ((W1.mul W2).mul P1) P2 (by decide) ?_
        walk_at "f"
        have e : BM.sm (t + 1) (BM.qt (a1 * c2) (c1 * a2) i (D - i) j) = BM.sm t (BM.qt (a1 * c2) (c1 * a2) i (D - i) j) + BM.ch i t * BM.ch (D - i) (j - t) * (c1 * a2) ^ t * (a1 * c2) ^ (j - t) := by
          show _ + BM.ch i t * BM.ch (D - i) (j - t) * ((c1 * a2) ^ t * (a1 * c2) ^ (j - t)) = _
          rw [Int.mul_assoc (BM.ch i t * BM.ch (D - i) (j - t))]
        rw [e]
        exact ⟨_, _, rfl, rfl⟩
      · rename_i hpos
        have z : BM.ch i t * BM.ch (D - i) (j - t) = 0 := by
          have := Int.mul_nonneg (BM.ch_nonneg i t) (BM.ch_nonneg (D - i) (j - t))
          omega
        have e : BM.sm (t + 1) (BM.qt (a1 * c2) (c1 * a2) i (D - i) j) = BM.sm t (BM.qt (a1 * c2) (c1 * a2) i (D - i) j) + 0 := by
          show _ + BM.ch i t * BM.ch (D - i) (j - t) * ((c1 * a2) ^ t * (a1 * c2) ^ (j - t)) = _
          rw [z, Int.zero_mul]
        rw [e]
        exact ⟨_, _, rfl, rfl⟩
    · rintro σ' H' ⟨x, y, rfl, rfl⟩
      walk_at "f"
      refine ⟨a2 * c2, j, 300, rfl, Bu, by omega, by omega, ?_⟩
      have P1 := (pow_bd Bu j).mono (show j * (150 + 150) + 1 ≤ 18001 by omega)
      walk_at "f"
      refine ⟨D, j, rfl, by omega, by omega, ?_⟩
      have W1 : My.Bd 64 (BM.ch D j) := ch_bd (by omega)
      walk_at "f"
      refine My.new (My.sz (by simp)) fun p np => ?_
      refine k p _ (same_new np) ?_
      rw [upd_same]
      rfl
end
end K23

set_option Elab.async false
set_option linter.all false
set_option maxRecDepth 100000
set_option maxHeartbeats 4000000
namespace K23
open PySem PySem.Spec PyProof.Rows L2 XV DX
def ofN (I : List Nat) : List Int := I.map Int.ofNat
theorem idx_snoc (d : BM.Dm) : ∀ ds : List BM.Dm, BM.idx (ds ++ [d]) = (BM.idx ds).flatMap fun I => (List.range (d.D + 1)).map fun k => I ++ [k]
  | [] => by
    show (List.range (d.D + 1)).flatMap (fun i => [[i]]) = List.flatMap _ [[]]
    rw [List.flatMap_cons, List.flatMap_nil, List.append_nil]
    induction List.range (d.D + 1) with
    | nil => rfl
    | cons a l ih => rw [List.flatMap_cons, List.map_cons, ih]; rfl
  | e :: ds => by
    show (List.range (e.D + 1)).flatMap (fun i => (BM.idx (ds ++ [d])).map (i :: ·)) = ((List.range (e.D + 1)).flatMap fun i => (BM.idx ds).map (i :: ·)).flatMap _
    rw [List.flatMap_assoc]
    congr 1
    funext i
    rw [idx_snoc d ds, List.map_flatMap, List.flatMap_map]
    congr 1
    funext I
    rw [List.map_map]; rfl
theorem refsN_of {P : Nat → Addr → Prop} : ∀ {ys : List V}, (∀ (j : Nat) y, ys[j]? = some y → ∃ t, y = V.ref t ∧ P j t) → ∃ ts : List Addr, ys = ts.map V.ref ∧ ∀ (j : Nat) t, ts[j]? = some t → P j t := fun {ys} h => by
  induction ys generalizing P with
  | nil => exact ⟨[], rfl, fun j t e => by simp at e⟩
  | cons y ys ih =>
    obtain ⟨t, rfl, h0⟩ := h 0 y rfl
    obtain ⟨ts, rfl, hs⟩ := ih (P := fun j t => P (j + 1) t) fun j y e => h (j + 1) y e
    exact ⟨t :: ts, rfl, fun j u e => by
      cases j with
      | zero => cases Option.some.inj e; exact h0
      | succ j => exact hs j u e⟩
def spIdx : Sp := fun vs H Q _ => ∃ (a : Addr) (ds : List BM.Dm), vs = [.ref a] ∧ H a = some (.lst (ds.map fun d => V.int (d.D : Int))) ∧ ds.length ≤ 3 ∧ cntP ds ≤ 64 ∧
  ∀ p H' rs, Same H H' → H' p = some (.lst (rs.map V.ref)) → Paired (fun r I => KAt H' r (ofN I)) rs (BM.idx ds) → Q (.ref p) H'
section
variable {P : Program} {w : World} {K : PySem.W.Frag} {mg : Str → Option Value} {base : Heap}
theorem sc_law_indexes : FnScope ["_law_degrees_here", "_law_found", "_law_most", "_law_longer", "_law_index", "_law_k"] ["_law_degrees_here"] (defScope s_law_indexes) := ⟨rfl, rfl, rfl, by decide +kernel, rfl, by decide +kernel, by decide +kernel⟩
theorem cal_law_indexes {f : Addr} {fd : FuncData} (F : FnP K "_law_indexes" "_law_indexes" s_law_indexes f fd) (g : mg "_law_indexes" = some (.ref f)) (T : Txt0 mg) : Cal P w K mg base "_law_indexes" 3 ["_law_degrees_here"] spIdx := by
  refine ⟨f, fd, g, ?_, F.bindsN (fun _ _ _ _ _ _ us hl => match us, hl with | [_], _ => rfl), F.kp⟩
  refine F.ok sc_law_indexes (fun vs H Q E h => ?_) (fun cdv A outer s H vs Q E hr h => ?_)
  · obtain ⟨a, ds, rfl, ha, d3, dD, k⟩ := h
    rfl
  · obtain ⟨a, ds, rfl, ha, d3, dD, k⟩ := h
    refine ⟨_, PSs.nox (pss_cons (ps_set (i := 1) sc_law_indexes.nd rfl (Or.inl rfl) (pe_lst (pa_cons (pe_tup pa_nil) pa_nil)))
      (pss_cons (ps_for PassesOwn.never rfl (pi_list (pv 0)) (pg_name (i := 2) sc_law_indexes.nd rfl (Or.inl rfl))
       (pss_cons (ps_set (i := 3) sc_law_indexes.nd rfl (Or.inl rfl) (pe_lst pa_nil))
      (pss_cons (ps_for PassesOwn.never rfl (pi_list (pv 1)) (pg_name (i := 4) sc_law_indexes.nd rfl (Or.inr rfl))
       (pss_one (ps_expr (pe_bm PySem.F.plainAttrs_list PySem.F.slot_list_extend PySem.F.type_list_extend mt_extend (pv 3) (pa_cons (pe_lc (own := [("_law_k", 5)]) (tt := tYes) (te := tOp (rCatA K) (tVar 4) (tTup (tCons (tVar 5) tNil))) (by rfl) sc_law_indexes.nd (pi_range1 (by rfl) T.range (pa_cons (pe_op op_add (pv 2) pe_int) pa_nil)) (blkOk_by (own := [("_law_k", 5)]) (N := ["_law_degrees_here", "_law_found", "_law_most", "_law_longer", "_law_index", "_law_k"]) (sc := (defScope s_law_indexes)) (by decide +kernel)) (fun _ _ _ _ _ => (pg_name (i := 5) sc_law_indexes.nd rfl (Or.inl rfl))) (fun _ _ _ _ _ => pts_nil) (fun _ _ _ _ _ => (pe_op op_catA (pv 4) (pe_tup (pa_cons (pv 5) pa_nil))))) pa_nil)))))
      (pss_one (ps_set (i := 1) sc_law_indexes.nd rfl (Or.inl rfl) (pv 3))))))
      (pss_one (ps_ret (pv 1))))), ?_⟩
    try dsimp only [cxOf, Cx.nox, Cx.wish]
    have c64 : ∀ i, (BM.idx (ds.take i)).length ≤ 64 := fun i => by
      rw [idx_len]
      exact Nat.le_trans (cntP_take _ i) dD
    walk_at "f"
    refine My.new (My.sz (by simp)) fun p0 n0 => ?_
    have s0 := same_new (o := HO.tup []) n0
    have e0 := upd_same (H := H) (a := p0) (o := HO.tup [])
    generalize upd H p0 (HO.tup []) = H0 at s0 e0 ⊢
    walk_at "f"
    refine My.new (My.sz (by simp)) fun f0 nf0 => ?_
    have s1 := s0.trans (same_new (o := HO.lst [V.ref p0]) nf0)
    have e1 := upd_same (H := H0) (a := f0) (o := HO.lst [V.ref p0])
    have e01 := same_new (o := HO.lst [V.ref p0]) nf0 _ _ e0
    generalize upd H0 f0 (HO.lst [V.ref p0]) = H1 at s1 e1 e01 ⊢
    walk_at "f"
    refine My.lstI (SqL.of (s1 _ _ ha)) (fun i σ' H' => ∃ (f1 : Addr) (rs : List Addr) (u v x y : Option V), σ' = [some (.ref a), some (.ref f1), u, v, x, y] ∧ Same H H' ∧ H' f1 = some (.lst (rs.map V.ref)) ∧ Paired (fun r I => KAt H' r (ofN I)) rs (BM.idx (ds.take i))) ⟨f0, [p0], _, _, _, _, rfl, s1, e1, .cons e01 .nil⟩ (fun i σ' H' _ ⟨_, _, _, _, _, _, _, s', _⟩ => SqL.of (s' _ _ ha)) ?_ ?_
    · rintro i x σ' H2 ex ⟨f1, rs, u, v, x1, y1, rfl, s2, hf, hp⟩
      rw [List.getElem?_map] at ex
      cases ed : ds[i]? with
      | none => rw [ed] at ex; cases ex
      | some dd =>
        rw [ed] at ex
        cases Option.some.inj ex
        have il := (List.getElem?_eq_some_iff.mp ed).1
        have c1 := c64 i
        have c2 := Nat.le_trans (cntP_take ds (i + 1)) dD
        rw [cntP_step ed] at c2
        have dD' : dd.D + 1 ≤ 64 := Nat.le_trans (Nat.le_mul_of_pos_left _ (cntP_pos _)) c2
        rw [← idx_len] at c2
        have rl := My.plen hp
        have et : BM.idx (ds.take (i + 1)) = (BM.idx (ds.take i)).flatMap fun I => (List.range (dd.D + 1)).map fun k => I ++ [k] := by
          rw [List.take_succ, ed]
          exact idx_snoc dd _
        walk_at "f"
        refine My.new (My.sz (by simp)) fun L nL => ?_
        have sL := same_new (o := HO.lst []) nL
        have eL := upd_same (H := H2) (a := L) (o := HO.lst [])
        have nL0 : H L = none := s2.free nL
        have s3 := s2.trans sL
        have hf3 := sL _ _ hf
        have hp3 := Paired.mapP hp fun r I (z : KAt H2 r (ofN I)) => (sL _ _ z : KAt (upd H2 L (HO.lst [])) r (ofN I))
        have fL : f1 ≠ L := ne_of_none hf nL
        generalize upd H2 L (HO.lst []) = H3 at s3 eL hf3 hp3 ⊢
        walk_at "f"
        refine My.lstI (SqL.of hf3) (fun j σ' H' => ∃ (Ls : List Addr) (x y : Option V), σ' = [some (.ref a), some (.ref f1), some (.int (dd.D : Int)), some (.ref L), x, y] ∧ But L H3 H' ∧ H' L = some (.lst (Ls.map V.ref)) ∧ Paired (fun r I => KAt H' r (ofN I)) Ls (((BM.idx (ds.take i)).take j).flatMap fun I => (List.range (dd.D + 1)).map fun k => I ++ [k])) ⟨[], _, _, rfl, .refl _ _, eL, .nil⟩ (fun j σ' H' _ ⟨_, _, _, _, b, _⟩ => SqL.of (b _ _ fL hf3)) ?_ ?_
        · rintro j x σ' H4 ex ⟨Ls, x2, y2, rfl, b4, hL4, hp4⟩
          rw [List.getElem?_map] at ex
          cases er : rs[j]? with
          | none => rw [er] at ex; cases ex
          | some r =>
            rw [er] at ex
            cases Option.some.inj ex
            obtain ⟨I, eI, hr⟩ := My.pget hp3 er
            have tn : ∀ b xs, H4 b = some (.tup xs) → b ≠ L := fun b xs z g => by rw [g, hL4] at z; cases z
            have rL : r ≠ L := fun g => by
              have z : H3 r = _ := hr
              rw [g, eL] at z; cases z
            have hr4 := b4 _ _ rL hr
            have jl : j < rs.length := (List.getElem?_eq_some_iff.mp er).1
            have eI2 : (((BM.idx (ds.take i)).take (j + 1)).flatMap fun I => (List.range (dd.D + 1)).map fun k => I ++ [k]) = (((BM.idx (ds.take i)).take j).flatMap fun I => (List.range (dd.D + 1)).map fun k => I ++ [k]) ++ (List.range (dd.D + 1)).map fun k => I ++ [k] := by
              rw [List.take_succ, eI, List.flatMap_append]
              congr 1
              exact (List.flatMap_cons ..).trans (List.append_nil _)
            have Ll := My.plen hp4
            rw [flat_len (c := dd.D + 1) (fun I => by rw [List.length_map, List.length_range]), List.length_take] at Ll
            have Lb : Ls.length ≤ 64 := by rw [Ll]; exact Nat.le_trans (Nat.mul_le_mul_right _ (by omega)) c2
            have Il : (ofN I).length ≤ 3 := by
              have := (BM.idx_wi (List.mem_iff_getElem?.mpr ⟨j, eI⟩)).2
              rw [List.length_take] at this
              unfold ofN
              rw [List.length_map]; omega
            walk_at "f"
            refine My.tyL (SqL.of hL4) ?_
            walk_at "f"
            have n4 : ((dd.D : Int) + 1).toNat = dd.D + 1 := by omega
            refine ⟨(dd.D : Int) + 1, rfl, by omega, by omega, My.lcM2 walk_range Same (by omega) (fun D hD => same_new hD) fun D nD => ⟨fun k y H => ∃ t, y = .ref t ∧ KAt H t (ofN (I ++ [k])), fun k y H ys zs e ⟨t, h1, h2⟩ => ⟨t, h1, by show upd H D _ t = _; rw [upd_ne (fun g => by have z : H t = _ := h2; rw [g, e] at z; cases z)]; exact h2⟩, fun H o s => same_at s nD, fun _ _ _ _ => trivial, ?_, ?_⟩⟩
            · rintro q x H5 H6 ys N hq r' e l p' ⟨rfl, rfl⟩ hN
              walk_at "f"
              refine ⟨rfl, ?_⟩
              walk_at "f"
              refine My.new (My.sz (by simp)) fun t1 nt1 => ?_
              have st1 := same_new (o := HO.tup [V.int (0 + (q : Int))]) nt1
              refine My.catA (st1 _ _ (r' _ _ hr4)) upd_same (by rw [List.length_map]; simp; omega) fun t2 H7 s7 h7 => ?_
              have s8 := st1.trans s7
              refine hN _ _ (r'.trans s8) (s8 _ _ e) (fun k y hy => ?_) ⟨t2, rfl, ?_⟩
              · obtain ⟨t, h1, h2⟩ := p' k y hy
                exact ⟨t, h1, s8 _ _ h2⟩
              · show H7 t2 = _
                rw [h7]
                unfold ofN
                rw [List.map_append, List.map_append, Int.zero_add]; rfl
            · intro H5 ys hD hl2 s5 hy
              rw [n4] at hl2
              obtain ⟨cs, rfl, hc⟩ := refsN_of hy
              rw [List.length_map] at hl2
              walk_at "f"
              refine My.ext (s5 _ _ hL4) hD (by rw [List.length_map, List.length_map]; omega) ?_
              have DL : D ≠ L := fun g => by rw [g, hL4] at nD; cases nD
              have kp : ∀ b xs, H5 b = some (.tup xs) → upd H5 L (.lst (Ls.map V.ref ++ cs.map V.ref)) b = some (.tup xs) := fun b xs e => by
                rw [upd_ne (fun g => by rw [g, s5 _ _ hL4] at e; cases e)]; exact e
              refine ⟨Ls ++ cs, _, _, rfl, fun b o nb e => by rw [upd_ne nb]; exact s5 _ _ (b4 _ _ nb e), by rw [upd_same, List.map_append], ?_⟩
              rw [eI2]
              refine papp (Paired.mapP hp4 fun r I z => kp _ _ (s5 _ _ z)) (My.pof (by rw [List.length_map, List.length_range]; exact hl2) fun k r I hr hI => ?_)
              rw [List.getElem?_map] at hI
              cases ek : (List.range (dd.D + 1))[k]? with
              | none => rw [ek] at hI; cases hI
              | some k' =>
                rw [ek] at hI
                cases Option.some.inj hI
                obtain ⟨hk, ek'⟩ := List.getElem?_eq_some_iff.mp ek
                rw [List.getElem_range] at ek'
                subst ek'
                exact kp _ _ (hc k r hr)
        · rintro σ' H4 ⟨Ls, x2, y2, rfl, b4, hL4, hp4⟩
          rw [List.length_map, rl, List.take_length, ← et] at hp4
          walk_at "f"
          exact ⟨L, Ls, _, _, _, _, rfl, fun b o e => b4 _ _ (ne_of_none e nL0) (s3 _ _ e), hL4, hp4⟩
    · rintro σ' H2 ⟨f1, rs, u, v, x1, y1, rfl, s2, hf, hp⟩
      rw [List.length_map, List.take_length] at hp
      walk_at "f"
      exact k f1 H2 rs s2 hf hp
end
end K23

set_option Elab.async false
set_option linter.all false
set_option maxRecDepth 100000
set_option maxHeartbeats 4000000
namespace K23
open PySem PySem.Spec PyProof.Rows L2 XV DX
theorem same_lock {H H' : Hp} {b : Addr} {u w : HO} (hb : H b = some u) (s : Same (upd H b w) H') : Same H (upd H' b u) := fun x o e => by
  by_cases z : x = b
  · subst z
    rw [upd_same]
    rw [hb] at e
    exact e
  · rw [upd_ne z]
    exact s _ _ (by rw [upd_ne z]; exact e)
theorem nz_snoc {m : Pol} {i : Nat} {l : List Int} {c : Int} (e : m[i]? = some (l, c)) : nzP (m.take (i + 1)) = nzP (m.take i) ++ if c = 0 then [] else [(l, c)] := by
  unfold nzP
  rw [List.take_succ, e, List.filter_append]
  congr 1
  show List.filter _ [(l, c)] = _
  by_cases z : c = 0
  · rw [if_pos z, List.filter_cons_of_neg (by simp [z])]; rfl
  · rw [if_neg z, List.filter_cons_of_pos (by simp [z])]; rfl
theorem nz_len (m : Pol) (i : Nat) : (nzP (m.take i)).length ≤ i := by
  unfold nzP
  refine Nat.le_trans (List.length_filter_le _ _) ?_
  rw [List.length_take]; omega
def spDegs : Sp := fun vs H Q _ => ∃ (b : Addr) (m : Pol) (n : Nat), vs = [.ref b, .int (n : Int)] ∧ PolD H b m ∧ Lp m ∧ n ≤ 4 ∧
  ∀ p H', Same H H' → H' p = some (.lst ((List.range n).map fun k => V.int (mx 0 (colP (nzP m) k)))) → Q (.ref p) H'
def dgS : Scope := { kind := ScopeKind.function, names := [(".0", NameKind.local), ("_law_k", NameKind.cell), ("max", NameKind.globalImplicit), ("_law_parts_here", NameKind.cell)], isGenerator := false, isCoroutine := false }
section
variable {P : Program} {w : World} {K : PySem.W.Frag} {mg : Str → Option Value} {base : Heap}
theorem sc_law_degrees : FnScope ["_law_parts_here", "_law_many", "_law_k", "_law_powers"] ["_law_parts_here", "_law_many"] (defScope s_law_degrees) := ⟨rfl, rfl, rfl, by decide +kernel, rfl, by decide +kernel, by decide +kernel⟩
theorem cal_law_degrees {f : Addr} {fd : FuncData} (F : FnP K "_law_degrees" "_law_degrees" s_law_degrees f fd) (g : mg "_law_degrees" = some (.ref f)) (T : Txt0 mg) : Cal P w K mg base "_law_degrees" 3 ["_law_parts_here", "_law_many"] spDegs := by
  refine ⟨f, fd, g, ?_, F.bindsN (fun _ _ _ _ _ _ us hl => match us, hl with | [_, _], _ => rfl), F.kp⟩
  refine F.ok sc_law_degrees (fun vs H Q E h => ?_) (fun cdv A outer s H vs Q E hr h => ?_)
  · obtain ⟨b, m, n, rfl, hb, lp, n3, k⟩ := h
    rfl
  · obtain ⟨b, m, n, rfl, hb, lp, n3, k⟩ := h
    have hu := hu_of hr
    refine ⟨_, PSs.nox (pss_one (ps_ret (pe_lc (own := [("_law_k", 2)]) (tt := tYes) (te := tCB (rMax K) (tCons (tOp rCat (tLst (tCons (tC (.int 0)) tNil)) (tLockE (tLc (iKeys (tVar 0)) (gName 3) (tTest (tOp rNe (tDGet (tVar 0) (tVar 3)) (tC (.int 0)))) (tOp (rIxT K) (tVar 3) (tVar 2)) [3]))) tNil)) (by rfl) sc_law_degrees.nd (pi_range1 (by rfl) T.range (pa_cons (pv 1) pa_nil)) (blkOk_by (own := [("_law_k", 2)]) (N := ["_law_parts_here", "_law_many", "_law_k", "_law_powers"]) (sc := (defScope s_law_degrees)) (by decide +kernel)) (fun _ _ _ _ _ => (pg_name (i := 2) sc_law_degrees.nd rfl (Or.inr rfl))) (fun _ _ _ _ _ => pts_nil) (fun _ _ _ _ _ => (pe_callB (cr_max rfl) (by rfl) T.max (by decide +kernel) (pa_cons (pe_op op_cat (pe_lst (pa_cons pe_int pa_nil)) (pe_lock (pe_lc (own := [("_law_powers", 3)]) (te := tOp (rIxT K) (tVar 3) (tVar 2)) (wi := iKeys (tVar 0)) (tt := tTest (tOp rNe (tDGet (tVar 0) (tVar 3)) (tC (.int 0)))) (by rfl) sc_law_degrees.nd (pi_keys (pv 0)) (blkOk_by (own := [("_law_powers", 3)]) (N := ["_law_parts_here", "_law_many", "_law_k", "_law_powers"]) (sc := dgS) (by decide +kernel)) (fun _ _ _ _ _ => (pg_name (i := 3) sc_law_degrees.nd rfl (Or.inl rfl))) (fun _ _ _ _ _ => (pts_one (pt_cmpR op_ne (pe_dget hu (pv 0) (pv 3) (fun _ _ => rfl)) pe_int (nomark _)))) (fun _ _ _ _ _ => (pe_ix ix_tup (pv 3) (pv 2) (fun _ _ => rfl)))))) pa_nil)))))), ?_⟩
    try dsimp only [cxOf, Cx.nox, Cx.wish]
    have few := lp.few
    walk_at "f"
    refine ⟨(n : Int), rfl, by omega, by omega, My.lcM walk_range Same (by omega) (fun D hD => same_new hD) fun D nD => ⟨fun j y H => y = .int (mx 0 (colP (nzP m) j)), fun j y H ys o _ h => h, fun H o s => same_at s nD, fun _ _ _ _ => trivial, ?_, ?_⟩⟩
    · rintro i x H2 H3 ys N hi r e l p' ⟨rfl, rfl⟩ hN
      walk_at "f"
      refine ⟨rfl, ?_⟩
      walk_at "f"
      refine My.new (My.sz (by simp)) fun z0 nz0 => ?_
      have s0 := r.trans (same_new (o := HO.lst [V.int 0]) nz0)
      have ez := upd_same (H := H3) (a := z0) (o := HO.lst [V.int 0])
      have e0 := same_new (o := HO.lst [V.int 0]) nz0 _ _ e
      have s00 := same_new (o := HO.lst [V.int 0]) nz0
      generalize upd H3 z0 _ = H4 at s0 ez e0 s00 ⊢
      have hb4 : H4 b = some (.dT (kvI m)) := s0 _ _ hb
      walk_at "f"
      refine My.lockE hb4 True.intro fun od => ?_
      have hl := upd_same (H := H4) (a := b) (o := HO.frz od (.dT (kvI m)))
      have lk := fun {H' : Hp} (s : Same (upd H4 b (.frz od (.dT (kvI m)))) H') => same_lock hb4 s
      generalize upd H4 b (.frz od (.dT (kvI m))) = Hl at hl lk ⊢
      walk_at "f"
      refine My.lcK1 ⟨_, rfl, My.ckT hl fun A nA => ?_⟩
      have bA : b ≠ A := ne_of_none hl nA
      refine lc_it walk_keysT (fun j H' => H' A = some (.lst ((colP (nzP (m.take j)) i).map V.int)) ∧ But A Hl H') ⟨upd_same, Same.but (same_new nA)⟩ (fun j H' _ ⟨_, b'⟩ => b' _ _ bA hl) ?_ ?_
      · rintro j x H5 H6 hj ⟨hA, b5⟩ ⟨rfl, kk, v, q, ek, rfl, hq⟩
        obtain ⟨li, c, em, rfl, rfl⟩ := kvI_get ek
        have hm := List.mem_iff_getElem?.mpr ⟨j, em⟩
        have gv := getP_at lp.nd em
        have hb6 := b5 _ _ bA hl
        have jm := (List.getElem?_eq_some_iff.mp em).1
        walk_at "f"
        refine ⟨rfl, ?_⟩
        walk_at "f"
        refine ⟨b, .int c, rfl, .inr ⟨kvI m, ik li, q, .inr ⟨od, hb6⟩, rfl, hq, by rw [valV_kvI, gv]; rfl⟩, ?_⟩
        walk_at "f"
        rw [nz_snoc em]
        by_cases z : c = 0
        · rw [if_neg (by simp [z]), if_pos z, List.append_nil]
          exact ⟨hA, b5⟩
        · rw [if_pos (by simp [z]), if_neg z]
          walk_at "f"
          rw [show (0 + (i : Int)) = (i : Int) by omega]
          refine My.ixT (SqT.of hq) (atI_key (by rw [lp.len _ hm]; omega)) ?_
          refine ⟨_, hA, by have := nz_len m j; unfold colP; rw [List.length_map, List.length_map, sizeLine_eq]; omega, by rw [upd_same]; unfold colP; rw [List.map_append, List.map_append]; rfl, fun b' o nb e => by rw [upd_ne nb]; exact b5 _ _ nb e⟩
      · rintro H5 ⟨hA, b5⟩
        rw [kvI_len, List.take_length] at hA
        have s5 : Same Hl H5 := fun b' o e => b5 _ _ (ne_of_none e nA) e
        refine ⟨s5 _ _ hl, ?_⟩
        have s6 := lk s5
        have hA6 : upd H5 b (.dT (kvI m)) A = some (.lst ((colP (nzP m) i).map V.int)) := by rw [upd_ne bA.symm]; exact hA
        generalize upd H5 b (HO.dT (kvI m)) = H6 at s6 hA6 ⊢
        have cl : (colP (nzP m) i).length ≤ 7 := by
          have := List.length_filter_le (fun p : List Int × Int => !decide (p.2 = 0)) m
          unfold colP nzP
          rw [List.length_map]; omega
        refine My.cat (s6 _ _ ez) hA6 (by rw [List.length_map]; simp; omega) fun pc nc => ?_
        have s7 := s6.trans (same_new (o := HO.lst ([V.int 0] ++ (colP (nzP m) i).map V.int)) nc)
        walk_at "f"
        refine ⟨pc, 0 :: colP (nzP m) i, rfl, SqL.of upd_same, Nat.succ_pos _, fun M hM hall => ?_⟩
        have nn : ∀ x ∈ colP (nzP m) i, 0 ≤ x := fun x hx => by
          obtain ⟨p, hp, rfl⟩ := List.mem_map.mp hx
          have hp' := (List.mem_filter.mp hp).1
          have := lp.wi p hp'
          rw [List.getD_eq_getElem?_getD]
          cases eg : p.1[i]? with
          | none => exact Int.le_refl 0
          | some y => exact (this y (List.mem_iff_getElem?.mpr ⟨i, eg⟩)).1
        have eM : M = mx 0 (colP (nzP m) i) := by
          refine Int.le_antisymm ?_ (mx_up (hall 0 List.mem_cons_self) fun x hx => hall x (List.mem_cons_of_mem _ hx))
          rcases List.mem_cons.mp hM with z | z
          · rw [z]; exact DX.mx_le nn (Int.le_refl 0)
          · exact mx_ge z
        rw [eM]
        exact hN _ _ (s0.trans s7) (s7 _ _ e0) p' rfl
    · intro H2 ys hD hl2 s2 hy
      refine k D _ s2 ?_
      rw [hD, map_of hl2 hy]; rfl
end
end K23

set_option Elab.async false
set_option linter.all false
set_option maxRecDepth 100000
set_option maxHeartbeats 4000000
/-! the law's counts: how great they are -/
namespace K23
open PySem PySem.Spec PyProof.Rows L2 XV DX
theorem paA_snoc (d : BM.Dm) : ∀ (ds : List BM.Dm) (J I : List Nat), BM.paA (ds ++ [d]) J I = BM.paA ds J I * BM.pa d (J.getD ds.length 0) (I.getD ds.length 0)
  | [], J, I => by
    show BM.pa d (J.headD 0) (I.headD 0) * 1 = 1 * _
    rw [Int.mul_one, Int.one_mul]
    congr 1
    · cases J <;> rfl
    · cases I <;> rfl
  | e :: ds, J, I => by
    show _ * BM.paA (ds ++ [d]) J.tail I.tail = _ * BM.paA ds J.tail I.tail * _
    rw [paA_snoc d ds, Int.mul_assoc]
    congr 1
    congr 1
    congr 1
    · cases J <;> rfl
    · cases I <;> rfl
theorem pbA_snoc (d : BM.Dm) : ∀ (ds : List BM.Dm) (J : List Nat), BM.pbA (ds ++ [d]) J = BM.pbA ds J * BM.pb d (J.getD ds.length 0)
  | [], J => by
    show BM.pb d (J.headD 0) * 1 = 1 * _
    rw [Int.mul_one, Int.one_mul]
    congr 1
    cases J <;> rfl
  | e :: ds, J => by
    show _ * BM.pbA (ds ++ [d]) J.tail = _ * BM.pbA ds J.tail * _
    rw [pbA_snoc d ds, Int.mul_assoc]
    congr 1
    congr 1
    congr 1
    cases J <;> rfl
/-- bottoms of few bits -/
structure Bt (s : Str2) : Prop where
  ok : StrOk s
  lo : My.Bd 20 s.1.2
  hi : My.Bd 20 s.2.2
theorem sm_bd {B : Nat} {f : Nat → Int} : ∀ {n : Nat}, (∀ t, t < n → My.Bd B (f t)) → My.Bd (B + n) (BM.sm n f)
  | 0, _ => My.Bd.zero
  | n + 1, h => by
    have ih := sm_bd (n := n) fun t ht => h t (by omega)
    show My.Bd (B + n + 1) (BM.sm n f + f n)
    exact My.Bd.add ih ((h n (by omega)).mono (by omega))
theorem pa_bd {D i j : Nat} {s : Str2} (o : StrOk s) (hD : D ≤ 60) (hi : i ≤ D) (hj : j ≤ D) : My.Bd 18200 (BM.pa (mkDm D s) j i) := by
  have Bl : My.Bd 300 (mkDm D s).l := o.lo.b1.mul o.hi.b2
  have Bh : My.Bd 300 (mkDm D s).h := o.hi.b1.mul o.lo.b2
  refine (sm_bd (B := 18130) (n := j + 1) fun t ht => ?_).mono (by omega)
  show My.Bd 18130 (BM.ch i t * BM.ch (D - i) (j - t) * ((mkDm D s).h ^ t * (mkDm D s).l ^ (j - t)))
  refine (((ch_bd (n := i) (k := t) (by omega)).mul (ch_bd (n := D - i) (k := j - t) (by omega))).mul ((pow_bd Bh t).mul (pow_bd Bl (j - t)))).mono ?_
  omega
theorem pb_bd {D j : Nat} {s : Str2} (o : Bt s) (hD : D ≤ 60) : My.Bd (j * 40 + 65) (BM.pb (mkDm D s) j) := by
  have Bu : My.Bd 40 (mkDm D s).u := o.lo.mul o.hi
  exact ((pow_bd Bu j).mul (ch_bd (n := D) (k := j) hD)).mono (by omega)
/-- the powers of all that the box tells -/
def totN (J : List Nat) (k : Nat) : Nat := ((List.range k).map fun j => J.getD j 0).sum
theorem totN_succ (J : List Nat) (k : Nat) : totN J (k + 1) = totN J k + J.getD k 0 := by
  unfold totN
  rw [List.range_succ, List.map_append, List.sum_append]; simp
/-- what the law's sums take -/
structure Lc (ts : Pol) (sts : List Str2) (W : Nat) : Prop where
  spr : Spr ts sts
  bt : ∀ s ∈ sts, Bt s
  tot : ∀ p ∈ ts, 40 * totN (p.1.map Int.toNat) sts.length + 200 ≤ W
  lim : ts.length * W ≤ 8900
end K23

set_option Elab.async false
set_option linter.all false
set_option maxRecDepth 100000
set_option maxHeartbeats 4000000
namespace K23
open PySem PySem.Spec PyProof.Rows L2 XV DX
def cntAt (m : Pol) (sts : List Str2) (I : List Nat) : Fra := low (BM.lawC (dmsP (nzP m) sts) (natP (cutP sts.length (nzP m))) I).1 (BM.lawC (dmsP (nzP m) sts) (natP (cutP sts.length (nzP m))) I).2
def spCounts : Sp := fun vs H Q _ => ∃ (b x : Addr) (m : Pol) (sts : List Str2) (W : Nat), vs = [.ref b, .ref x] ∧ PolD H b m ∧ Lp m ∧ BoxAt H x sts ∧ Lc (nzP m) sts W ∧
  ∀ d H' rs, Same H H' → H' d = some (.dT (List.zipWith (fun I r => (ik (ofN I), V.ref r)) (BM.idx (dmsP (nzP m) sts)) rs)) → Paired (fun r I => FraAt H' r (cntAt m sts I)) rs (BM.idx (dmsP (nzP m) sts)) → Q (.ref d) H'
theorem degs_eq {ts : Pol} {sts : List Str2} (h3 : sts.length ≤ 3) (nn : ∀ j, 0 ≤ mx 0 (colP ts j)) : (List.range sts.length).map (fun k => V.int (mx 0 (colP ts k))) = (dmsP ts sts).map fun d => V.int (d.D : Int) := by
  refine List.ext_getElem? fun j => ?_
  rw [List.getElem?_map, List.getElem?_map]
  by_cases hj : j < sts.length
  · rw [List.getElem?_range hj, dms_get h3 (List.getElem?_eq_getElem hj)]
    show some (V.int _) = some (V.int (((mx 0 (colP ts j)).toNat : Nat) : Int))
    rw [Int.toNat_of_nonneg (nn j)]
  · rw [List.getElem?_eq_none (by rw [List.length_range]; omega), List.getElem?_eq_none (by rw [dms_len h3]; omega)]; rfl
theorem tot_le (J : List Nat) {i n t : Nat} (h : i ≤ n) (g : totN J n ≤ t) : totN J i ≤ t := by
  induction n with
  | zero => rw [show i = 0 by omega]; exact g
  | succ n ih =>
    rw [totN_succ] at g
    by_cases e : i = n + 1
    · rw [e, totN_succ]; exact g
    · exact ih (by omega) (by omega)
/-- one term's count -/
def trm (ds : List BM.Dm) (I : List Nat) (p : List Nat × Int) : Int × Int := (p.2 * BM.paA ds p.1 I, BM.pbA ds p.1)
section
variable {P : Program} {w : World} {K : PySem.W.Frag} {mg : Str → Option Value} {base : Heap}
theorem sc_law_counts : FnScope ["_law_parts_here", "_law_box_here", "_law_degrees_here", "_law_found", "_law_index", "_law_top", "_law_bottom", "_law_powers", "_law_here", "_law_under", "_law_k", "_law_part", "_law_by"] ["_law_parts_here", "_law_box_here"] (defScope s_law_counts) := ⟨rfl, rfl, rfl, by decide +kernel, rfl, by decide +kernel, by decide +kernel⟩
theorem cal_law_counts {f : Addr} {fd : FuncData} (F : FnP K "_law_counts" "_law_counts" s_law_counts f fd) (g : mg "_law_counts" = some (.ref f)) (T : Txt0 mg) (C_law_degrees : Cal P w K mg base "_law_degrees" 3 ["_law_parts_here", "_law_many"] spDegs) (C_law_indexes : Cal P w K mg base "_law_indexes" 3 ["_law_degrees_here"] spIdx) (C_law_polar : Cal P w K mg base "_law_polar" 3 ["_law_stretch_here", "_law_many", "_law_i", "_law_j"] spPolar) (C_law_low : Cal P w K mg base "_law_low" 1 ["_law_top", "_law_bottom"] spLow) : Cal P w K mg base "_law_counts" 4 ["_law_parts_here", "_law_box_here"] spCounts := by
  obtain ⟨f_law_degrees, fd_law_degrees, g_law_degrees, G_law_degrees, b_law_degrees, k_law_degrees⟩ := C_law_degrees
  obtain ⟨f_law_indexes, fd_law_indexes, g_law_indexes, G_law_indexes, b_law_indexes, k_law_indexes⟩ := C_law_indexes
  obtain ⟨f_law_polar, fd_law_polar, g_law_polar, G_law_polar, b_law_polar, k_law_polar⟩ := C_law_polar
  obtain ⟨f_law_low, fd_law_low, g_law_low, G_law_low, b_law_low, k_law_low⟩ := C_law_low
  refine ⟨f, fd, g, ?_, F.bindsN (fun _ _ _ _ _ _ us hl => match us, hl with | [_, _], _ => rfl), F.kp⟩
  refine F.ok sc_law_counts (fun vs H Q E h => ?_) (fun cdv A outer s H vs Q E hr h => ?_)
  · obtain ⟨b, x, m, sts, W, rfl, hb, lp, hx, lc, k⟩ := h
    rfl
  · obtain ⟨b, x, m, sts, W, rfl, hb, lp, hx, lc, k⟩ := h
    have hu := hu_of hr
    refine ⟨_, PSs.nox (pss_cons (ps_par (i := 2) (j := 3) (by rfl) sc_law_counts.nd rfl rfl (by decide) rfl rfl (pa_cons (pe_call G_law_degrees (hr.mono (by decide)) (by rfl) g_law_degrees k_law_degrees b_law_degrees .nil pass0 (pa_cons (pv 0) (pa_cons (pe_callB My.c_len (by rfl) T.len PySem.boot_len (pa_cons (pv 1) pa_nil)) pa_nil))) (pa_cons pe_dnewT pa_nil)) (by rfl))
      (pss_cons (ps_for PassesOwn.never rfl (pi_list (pe_call G_law_indexes (hr.mono (by decide)) (by rfl) g_law_indexes k_law_indexes b_law_indexes .nil pass0 (pa_cons (pv 2) pa_nil))) (pg_name (i := 4) sc_law_counts.nd rfl (Or.inl rfl))
       (pss_cons (ps_asg (pe_tup (pa_cons pe_int (pa_cons pe_int pa_nil))) (pg_tup (by rfl) (pgs_cons (pg_name (i := 5) sc_law_counts.nd rfl (Or.inl rfl)) (pgs_cons (pg_name (i := 6) sc_law_counts.nd rfl (Or.inl rfl)) pgs_nil))))
      (pss_cons (ps_for PassesOwn.never rfl (pi_list (pe_lock (pe_lc (own := [("_law_powers", 7)]) (by rfl) sc_law_counts.nd (pi_keys (pv 0)) (blkOk_by (own := [("_law_powers", 7)]) (N := ["_law_parts_here", "_law_box_here", "_law_degrees_here", "_law_found", "_law_index", "_law_top", "_law_bottom", "_law_powers", "_law_here", "_law_under", "_law_k", "_law_part", "_law_by"]) (sc := (defScope s_law_counts)) (by decide +kernel)) (fun _ _ _ _ _ => (pg_name (i := 7) sc_law_counts.nd rfl (Or.inl rfl))) (fun _ _ _ _ _ => (pts_one (pt_cmpR op_ne (pe_dget hu (pv 0) (pv 7) (fun _ _ => rfl)) pe_int (nomark _)))) (fun _ _ _ _ _ => (pv 7))))) (pg_name (i := 7) sc_law_counts.nd rfl (Or.inl rfl))
       (pss_cons (ps_par (i := 8) (j := 9) (by rfl) sc_law_counts.nd rfl rfl (by decide) rfl rfl (pa_cons (pe_dget hu (pv 0) (pv 7) (fun _ _ => rfl)) (pa_cons pe_int pa_nil)) (by rfl))
      (pss_cons (ps_for PassesOwn.never rfl (pi_range1 (by rfl) T.range (pa_cons (pe_callB My.c_len (by rfl) T.len PySem.boot_len (pa_cons (pv 1) pa_nil)) pa_nil)) (pg_name (i := 10) sc_law_counts.nd rfl (Or.inl rfl))
       (pss_cons (ps_asg (pe_call G_law_polar (hr.mono (by decide)) (by rfl) g_law_polar k_law_polar b_law_polar .nil pass0 (pa_cons (pe_ix ix_tup (pv 1) (pv 10) (fun _ _ => rfl)) (pa_cons (pe_ix ix_list (pv 2) (pv 10) (fun _ _ => rfl)) (pa_cons (pe_ix ix_tup (pv 4) (pv 10) (fun _ _ => rfl)) (pa_cons (pe_ix ix_tup (pv 7) (pv 10) (fun _ _ => rfl)) pa_nil))))) (pg_tup (by rfl) (pgs_cons (pg_name (i := 11) sc_law_counts.nd rfl (Or.inl rfl)) (pgs_cons (pg_name (i := 12) sc_law_counts.nd rfl (Or.inl rfl)) pgs_nil))))
      (pss_one (ps_par (i := 8) (j := 9) (by rfl) sc_law_counts.nd rfl rfl (by decide) rfl rfl (pa_cons (pe_op op_mulW (pv 8) (pv 11)) (pa_cons (pe_op op_mulW (pv 9) (pv 12)) pa_nil)) (by rfl)))))
      (pss_one (ps_par (i := 5) (j := 6) (by rfl) sc_law_counts.nd rfl rfl (by decide) rfl rfl (pa_cons (pe_op op_add (pe_op op_mulW (pv 5) (pv 9)) (pe_op op_mulW (pv 8) (pv 6))) (pa_cons (pe_op op_mulW (pv 6) (pv 9)) pa_nil)) (by rfl))))))
      (pss_one (ps_dput hu (pv 3) (pv 4) (pe_call G_law_low (hr.mono (by decide)) (by rfl) g_law_low k_law_low b_law_low .nil pass0 (pa_cons (pv 5) (pa_cons (pv 6) pa_nil))) rfl)))))
      (pss_one (ps_ret (pv 3))))), ?_⟩
    try dsimp only [cxOf, Cx.nox, Cx.wish]
    have spr := lc.spr
    have h3 := spr.b3
    have mx3 : ∀ j, 0 ≤ mx 0 (colP (nzP m) j) ∧ mx 0 (colP (nzP m) j) ≤ 60 := fun j => ⟨DX.mx_le (fun x hx => by
      obtain ⟨q', hq', rfl⟩ := List.mem_map.mp hx
      exact (spr.wi q' hq' j).1) (Int.le_refl 0), mx_up (by decide) fun x hx => by
      obtain ⟨q', hq', rfl⟩ := List.mem_map.mp hx
      exact (spr.wi q' hq' j).2⟩
    have dl := dms_len (ts := nzP m) h3
    walk_at "f"
    obtain ⟨bs, hx1, hx2⟩ := id hx
    have bl := My.plen hx2
    refine My.lenT (SqT.of hx1) ?_
    rw [List.length_map, bl]
    walk_at "f"
    refine ⟨b, m, sts.length, rfl, hb, lp, by omega, fun gl H1 s1 hg => ?_⟩
    rw [degs_eq h3 fun j => (mx3 j).1] at hg
    walk_at "f"
    refine My.dnewT fun fd nfd => ?_
    have s2 := s1.trans (same_new (o := HO.dT []) nfd)
    have nfd0 : H fd = none := s1.free nfd
    have hg2 := same_new (o := HO.dT []) nfd _ _ hg
    have hf2 := upd_same (H := H1) (a := fd) (o := HO.dT [])
    generalize upd H1 fd (HO.dT []) = H2 at s2 hg2 hf2 ⊢
    have gfd : gl ≠ fd := fun z => by rw [z, hf2] at hg2; cases hg2
    walk_at "f"
    refine ⟨gl, dmsP (nzP m) sts, rfl, hg2, by rw [dl]; exact h3, spr.cnt, fun gi H3 rs s3 hgi hpi => ?_⟩
    have s4 := s2.trans s3
    have hg3 := s3 _ _ hg2
    have hf3 := s3 _ _ hf2
    have ifd : gi ≠ fd := fun z => by rw [z, hf3] at hgi; cases hgi
    have hx3 := hx.same s4
    have hb3 : H3 b = some (.dT (kvI m)) := s4 _ _ hb
    have bfd : b ≠ fd := fun z => by have e : H b = some (.dT (kvI m)) := hb; rw [z, nfd0] at e; cases e
    have rl := My.plen hpi
    have ind := idx_nd (dmsP (nzP m) sts)
    walk_at "f"
    refine My.lstI (SqL.of hgi) (fun i σ' H' => ∃ (ks : List Addr) (u0 u1 u2 u3 u4 u5 u6 u7 u8 : Option V), σ' = [some (.ref b), some (.ref x), some (.ref gl), some (.ref fd), u0, u1, u2, u3, u4, u5, u6, u7, u8] ∧ But fd H3 H' ∧ H' fd = some (.dT (List.zipWith (fun I r => (ik (ofN I), V.ref r)) ((BM.idx (dmsP (nzP m) sts)).take i) ks)) ∧ Paired (fun r I => FraAt H' r (cntAt m sts I)) ks ((BM.idx (dmsP (nzP m) sts)).take i)) ⟨[], _, _, _, _, _, _, _, _, _, rfl, .refl _ _, hf3, .nil⟩ (fun i σ' H' _ ⟨_, _, _, _, _, _, _, _, _, _, _, b', _⟩ => SqL.of (b' _ _ ifd hgi)) ?_ ?_
    · rintro i x1 σ' H4 ex ⟨ks, u0, u1, u2, u3, u4, u5, u6, u7, u8, rfl, b4, hf4, hk4⟩
      rw [List.getElem?_map] at ex
      cases er : rs[i]? with
      | none => rw [er] at ex; cases ex
      | some r =>
        rw [er] at ex
        cases Option.some.inj ex
        obtain ⟨I, eI, hr⟩ := My.pget hpi er
        have keep : ∀ {c o}, H3 c = some o → c ≠ fd → H4 c = some o := fun e n => b4 _ _ n e
        have rfd : r ≠ fd := fun z => by have e : H3 r = _ := hr; rw [z, hf3] at e; cases e
        have hr4 : H4 r = some (.tup ((ofN I).map V.int)) := keep hr rfd
        have hb4 := keep hb3 bfd
        have hg4 := keep hg3 gfd
        obtain ⟨wI, lI⟩ := BM.idx_wi (List.mem_iff_getElem?.mpr ⟨i, eI⟩)
        have hx4 : BoxAt H4 x sts := by
          obtain ⟨bs', h1, h2⟩ := hx3
          have tn : ∀ c xs, H3 c = some (.tup xs) → c ≠ fd := fun c xs e z => by rw [z, hf3] at e; cases e
          refine ⟨bs', keep h1 (tn _ _ h1), Paired.mapP h2 fun c s' ⟨p, q, g1, g2, g3⟩ => ⟨p, q, keep g1 (tn _ _ g1), keep g2 (tn _ _ g2), keep g3 (tn _ _ g3)⟩⟩
        walk_at "f"
        refine My.new (My.sz (by simp)) fun c0 nc0 => ?_
        have s5 := same_new (o := HO.tup [V.int 0, V.int 1]) nc0
        refine My.gtup2 (SqT.of upd_same) rfl ?_
        have hr5 := s5 _ _ hr4
        have hb5 := s5 _ _ hb4
        have hg5 := s5 _ _ hg4
        have hx5 := hx4.same s5
        have hf5 := s5 _ _ hf4
        have hk5 := Paired.mapP hk4 fun c I' (z : FraAt H4 c (cntAt m sts I')) => z.same s5
        have b5 := b4.trans (Same.but s5)
        generalize upd H4 c0 _ = H5 at hr5 hb5 hg5 hx5 hf5 hk5 b5 ⊢
        walk_at "f"
        refine My.lockE hb5 True.intro fun od => ?_
        have hl := upd_same (H := H5) (a := b) (o := HO.frz od (.dT (kvI m)))
        have lk := fun {H' : Hp} (s : Same (upd H5 b (.frz od (.dT (kvI m)))) H') => same_lock hb5 s
        generalize upd H5 b (.frz od (.dT (kvI m))) = Hl at hl lk ⊢
        refine My.lcK1 ⟨_, rfl, My.ckT hl fun A nA => ?_⟩
        have bA : b ≠ A := ne_of_none hl nA
        refine lc_it walk_keysT (fun j H' => ∃ qs : List Addr, H' A = some (.lst (qs.map V.ref)) ∧ But A Hl H' ∧ Paired (fun q p => KAt H' q p.1) qs (nzP (m.take j))) ⟨[], upd_same, Same.but (same_new nA), .nil⟩ (fun j H' _ ⟨_, _, b', _⟩ => b' _ _ bA hl) ?_ ?_
        · rintro j x H6 H7 hj ⟨qs, hA, b6, hq6⟩ ⟨rfl, kk, v, q, ek, rfl, hq⟩
          obtain ⟨li, c, em, rfl, rfl⟩ := kvI_get ek
          have gv := getP_at lp.nd em
          have hb7 := b6 _ _ bA hl
          have ql := My.plen hq6
          have jm := (List.getElem?_eq_some_iff.mp em).1
          have few := lp.few
          walk_at "f"
          refine ⟨rfl, ?_⟩
          walk_at "f"
          refine ⟨b, .int c, rfl, .inr ⟨kvI m, ik li, q, .inr ⟨od, hb7⟩, rfl, hq, by rw [valV_kvI, gv]; rfl⟩, ?_⟩
          walk_at "f"
          rw [nz_snoc em]
          by_cases z : c = 0
          · rw [if_neg (by simp [z]), if_pos z, List.append_nil]
            exact ⟨qs, hA, b6, hq6⟩
          · rw [if_pos (by simp [z]), if_neg z]
            walk_at "f"
            have tn : ∀ c xs, H7 c = some (.tup xs) → c ≠ A := fun c xs e z => by rw [z, hA] at e; cases e
            refine ⟨_, hA, by have := nz_len m j; rw [List.length_map, sizeLine_eq]; omega, qs ++ [q], by rw [upd_same, List.map_append]; rfl, fun b' o nb e => by rw [upd_ne nb]; exact b6 _ _ nb e, ?_⟩
            refine papp (Paired.mapP hq6 fun q' p' (z' : KAt H7 q' p'.1) => by show upd H7 A _ q' = _; rw [upd_ne (tn _ _ z')]; exact z') (.cons ?_ .nil)
            show upd H7 A _ q = _
            rw [upd_ne (tn _ _ hq), hq, ik_kV]
        · rintro H6 ⟨qs, hA, b6, hq6⟩
          rw [kvI_len, List.take_length] at hq6
          have s6 : Same Hl H6 := fun b' o e => b6 _ _ (ne_of_none e nA) e
          refine ⟨s6 _ _ hl, ?_⟩
          have s7 := lk s6
          have hA7 : upd H6 b (.dT (kvI m)) A = some (.lst (qs.map V.ref)) := by rw [upd_ne bA.symm]; exact hA
          have tb : ∀ c xs, H6 c = some (.tup xs) → c ≠ b := fun c xs e z => by rw [z, s6 _ _ hl] at e; cases e
          have hq7 := Paired.mapP hq6 fun q' p' (z' : KAt H6 q' p'.1) => (show upd H6 b (.dT (kvI m)) q' = some (.tup (p'.1.map V.int)) by rw [upd_ne (tb _ _ z')]; exact z')
          generalize upd H6 b (HO.dT (kvI m)) = H7 at s7 hA7 hq7 ⊢
          have nzl : (nzP m).length ≤ 7 := spr.few
          have lim := lc.lim
          refine My.lstI (SqL.of hA7) (fun j σ' H' => ∃ (u3 u4 u5 u6 u7 u8 : Option V), σ' = [some (.ref b), some (.ref x), some (.ref gl), some (.ref fd), some (.ref r), some (.int (BM.fr (((natP (cutP sts.length (nzP m))).take j).map (trm (dmsP (nzP m) sts) I))).1), some (.int (BM.fr (((natP (cutP sts.length (nzP m))).take j).map (trm (dmsP (nzP m) sts) I))).2), u3, u4, u5, u6, u7, u8] ∧ Same H7 H' ∧ My.Bd (65000 * j + 1) (BM.fr (((natP (cutP sts.length (nzP m))).take j).map (trm (dmsP (nzP m) sts) I))).1 ∧ My.Bd (W * j + 1) (BM.fr (((natP (cutP sts.length (nzP m))).take j).map (trm (dmsP (nzP m) sts) I))).2 ∧ 0 < (BM.fr (((natP (cutP sts.length (nzP m))).take j).map (trm (dmsP (nzP m) sts) I))).2) ⟨_, _, _, _, _, _, rfl, .refl _, My.Bd.zero, (show (1 : Int).natAbs < 2 ^ 1 by decide), (show (0 : Int) < 1 by decide)⟩ (fun j σ' H' _ ⟨_, _, _, _, _, _, _, s', _⟩ => SqL.of (s' _ _ hA7)) ?_ ?_
          · rintro j y σ' H8 ex ⟨u3, u4, u5, u6, u7, u8, rfl, s8, B1, B2, B3⟩
            rw [List.getElem?_map] at ex
            cases eq1 : qs[j]? with
            | none => rw [eq1] at ex; cases ex
            | some q =>
              rw [eq1] at ex
              cases Option.some.inj ex
              obtain ⟨⟨l, c⟩, ep, hq⟩ := My.pget hq7 eq1
              have hmem := List.mem_iff_getElem?.mpr ⟨j, ep⟩
              have hq8 : H8 q = some (.tup (l.map V.int)) := s8 _ _ hq
              have hb8 : H8 b = some (.dT (kvI m)) := s8 _ _ (s7 _ _ hb5)
              have hg8 := s8 _ _ (s7 _ _ hg5)
              have hx8 := (hx5.same s7).same s8
              have hr8 := s8 _ _ (s7 _ _ hr5)
              have gv : getP m l = some c := by
                obtain ⟨jj, hjj⟩ := List.mem_iff_getElem?.mp (List.mem_filter.mp hmem).1
                exact getP_at lp.nd hjj
              have l4 : l.length = 4 := spr.len _ hmem
              have wl := fun k => spr.wi _ hmem k
              have tl := lc.tot _ hmem
              have cb := spr.bd _ hmem
              simp only at wl tl cb
              have jm : j < (nzP m).length := (List.getElem?_eq_some_iff.mp ep).1
              have wj : W * j + W ≤ 8900 := by
                have := Nat.mul_le_mul_left W (show j + 1 ≤ (nzP m).length by omega)
                rw [Nat.mul_succ, Nat.mul_comm W (nzP m).length] at this
                omega
              have wj2 : W * (j + 1) = W * j + W := Nat.mul_succ _ _
              generalize W * j = Wj at wj wj2 B2
              rw [wj2]
              have em : (natP (cutP sts.length (nzP m)))[j]? = some ((l.take sts.length).map Int.toNat, c) := by
                unfold natP cutP
                rw [List.getElem?_map, List.getElem?_map, ep]; rfl
              have efr : BM.fr (((natP (cutP sts.length (nzP m))).take (j + 1)).map (trm (dmsP (nzP m) sts) I)) = ((BM.fr (((natP (cutP sts.length (nzP m))).take j).map (trm (dmsP (nzP m) sts) I))).1 * BM.pbA (dmsP (nzP m) sts) ((l.take sts.length).map Int.toNat) + c * BM.paA (dmsP (nzP m) sts) ((l.take sts.length).map Int.toNat) I * (BM.fr (((natP (cutP sts.length (nzP m))).take j).map (trm (dmsP (nzP m) sts) I))).2, (BM.fr (((natP (cutP sts.length (nzP m))).take j).map (trm (dmsP (nzP m) sts) I))).2 * BM.pbA (dmsP (nzP m) sts) ((l.take sts.length).map Int.toNat)) := by
                rw [List.take_succ, em, List.map_append]
                unfold BM.fr
                rw [List.foldl_append]; rfl
              rw [efr]
              generalize BM.fr (((natP (cutP sts.length (nzP m))).take j).map (trm (dmsP (nzP m) sts) I)) = R at B1 B2 B3 ⊢
              walk_at "f"
              refine ⟨b, .int c, rfl, .inr ⟨kvI m, ik l, q, .inl hb8, rfl, by rw [ik_kV]; exact hq8, by rw [valV_kvI, gv]; rfl⟩, ?_⟩
              walk_at "f"
              obtain ⟨bs8, hx81, hx82⟩ := hx8
              have bl8 := My.plen hx82
              refine My.lenT (SqT.of hx81) ?_
              rw [List.length_map, bl8]
              walk_at "f"
              refine My.rngI (by omega) (by omega) (fun k σ' H' => ∃ (v0 v1 v2 : Option V), σ' = [some (.ref b), some (.ref x), some (.ref gl), some (.ref fd), some (.ref r), some (.int R.1), some (.int R.2), some (.ref q), some (.int (c * BM.paA ((dmsP (nzP m) sts).take k) ((l.take sts.length).map Int.toNat) I)), some (.int (BM.pbA ((dmsP (nzP m) sts).take k) ((l.take sts.length).map Int.toNat))), v0, v1, v2] ∧ Same H8 H' ∧ My.Bd (1000 + 18200 * k) (c * BM.paA ((dmsP (nzP m) sts).take k) ((l.take sts.length).map Int.toNat) I) ∧ My.Bd (40 * totN (l.map Int.toNat) k + 65 * k + 1) (BM.pbA ((dmsP (nzP m) sts).take k) ((l.take sts.length).map Int.toNat)) ∧ 0 < BM.pbA ((dmsP (nzP m) sts).take k) ((l.take sts.length).map Int.toNat)) ⟨u6, u7, u8, ?_, .refl _, ?_, (show (1 : Int).natAbs < 2 ^ 1 by decide), (show (0 : Int) < 1 by decide)⟩ ?_ ?_
              · rw [show c * BM.paA ((dmsP (nzP m) sts).take 0) ((l.take sts.length).map Int.toNat) I = c from Int.mul_one c]; rfl
              · rw [show c * BM.paA ((dmsP (nzP m) sts).take 0) ((l.take sts.length).map Int.toNat) I = c from Int.mul_one c]; exact cb
              · rintro kq σ' H9 hk ⟨v0, v1, v2, rfl, s9, C1, C2, C3⟩
                have kn : kq < sts.length := by omega
                have es : sts[kq]? = some sts[kq] := List.getElem?_eq_getElem kn
                have ed := dms_get (ts := nzP m) h3 es
                obtain ⟨sa, ea⟩ : ∃ sa, bs8[kq]? = some sa := ⟨_, List.getElem?_eq_getElem (by rw [bl8]; exact kn)⟩
                obtain ⟨s0, es0, hs0⟩ := My.pget hx82 ea
                rw [es] at es0
                cases Option.some.inj es0
                have bts := lc.bt _ (List.getElem_mem kn)
                have dk3 : (mx 0 (colP (nzP m) kq)).toNat ≤ 60 := by have := mx3 kq; omega
                have eDn : mx 0 (colP (nzP m) kq) = (((mx 0 (colP (nzP m) kq)).toNat : Nat) : Int) := (Int.toNat_of_nonneg (mx3 kq).1).symm
                have Ik : I.getD kq 0 ≤ (mx 0 (colP (nzP m) kq)).toNat := wi_iff.mp wI kq _ ed
                have l0 := (wl kq).1
                have lm : l.getD kq 0 ≤ mx 0 (colP (nzP m) kq) := mx_ge (List.mem_map.mpr ⟨(l, c), hmem, rfl⟩)
                have eJ : ((l.take sts.length).map Int.toNat).getD kq 0 = (l.getD kq 0).toNat := by
                  rw [getD_toNat, List.getD_eq_getElem?_getD, List.getElem?_take_of_lt kn, ← List.getD_eq_getElem?_getD]
                have eJ2 : (l.map Int.toNat).getD kq 0 = (l.getD kq 0).toNat := getD_toNat l kq
                have etk : (dmsP (nzP m) sts).take (kq + 1) = (dmsP (nzP m) sts).take kq ++ [mkDm (mx 0 (colP (nzP m) kq)).toNat sts[kq]] := by
                  rw [List.take_succ, ed]; rfl
                have ltk : ((dmsP (nzP m) sts).take kq).length = kq := by rw [List.length_take, dl]; omega
                have ez : (0 : Int) + (kq : Int) = (kq : Int) := Int.zero_add _
                walk_at "f"
                rw [ez]
                refine My.ixT (SqT.of (s9 _ _ hx81)) (atI_nat (by rw [List.getElem?_map, ea]; rfl)) ?_
                walk_at "f"
                refine My.ixL (v := .int (mx 0 (colP (nzP m) kq))) (SqL.of (s9 _ _ hg8)) (atI_nat (by rw [List.getElem?_map, ed]; show some (V.int (((mx 0 (colP (nzP m) kq)).toNat : Nat) : Int)) = _; rw [← eDn])) ?_
                walk_at "f"
                refine My.ixT (v := .int ((I.getD kq 0 : Nat) : Int)) (SqT.of (s9 _ _ hr8)) (atI_nat (by unfold ofN; rw [List.map_map, List.getElem?_map, List.getD_eq_getElem?_getD, List.getElem?_eq_getElem (show kq < I.length by rw [lI, dl]; exact kn)]; rfl)) ?_
                walk_at "f"
                refine My.ixT (v := .int (l.getD kq 0)) (SqT.of (s9 _ _ hq8)) (atI_nat (by rw [List.getElem?_map, List.getD_eq_getElem?_getD, List.getElem?_eq_getElem (show kq < l.length by omega)]; rfl)) ?_
                walk_at "f"
                refine ⟨sa, sts[kq], (mx 0 (colP (nzP m) kq)).toNat, I.getD kq 0, (l.getD kq 0).toNat, by rw [← eDn, Int.toNat_of_nonneg l0]; rfl, hs0.same s9, bts.ok, dk3, Ik, by omega, fun T H10 s10 hT => ?_⟩
                have pab := pa_bd (s := sts[kq]) (i := I.getD kq 0) (j := (l.getD kq 0).toNat) bts.ok dk3 Ik (by omega)
                have pbb := pb_bd (j := (l.getD kq 0).toNat) bts dk3
                have pbp := BM.pb_pos (mkDm_ok (D := (mx 0 (colP (nzP m) kq)).toNat) bts.ok) (j := (l.getD kq 0).toNat) (show (l.getD kq 0).toNat ≤ (mx 0 (colP (nzP m) kq)).toNat by omega)
                walk_at "f"
                refine My.gtup2 (SqT.of hT) rfl ?_
                walk_at "f"
                refine My.mulWk C1 pab (by omega) ?_
                walk_at "f"
                refine My.mulWk C2 pbb (by have := tl; have := tot_le (l.map Int.toNat) (i := kq) (n := sts.length) (by omega) (Nat.le_refl _); omega) ?_
                walk_at "f"
                have ea1 : c * BM.paA ((dmsP (nzP m) sts).take (kq + 1)) ((l.take sts.length).map Int.toNat) I = c * BM.paA ((dmsP (nzP m) sts).take kq) ((l.take sts.length).map Int.toNat) I * BM.pa (mkDm (mx 0 (colP (nzP m) kq)).toNat sts[kq]) (l.getD kq 0).toNat (I.getD kq 0) := by
                  rw [etk, paA_snoc, ltk, eJ, Int.mul_assoc]
                have ea2 : BM.pbA ((dmsP (nzP m) sts).take (kq + 1)) ((l.take sts.length).map Int.toNat) = BM.pbA ((dmsP (nzP m) sts).take kq) ((l.take sts.length).map Int.toNat) * BM.pb (mkDm (mx 0 (colP (nzP m) kq)).toNat sts[kq]) (l.getD kq 0).toNat := by
                  rw [etk, pbA_snoc, ltk, eJ]
                rw [ea1, ea2]
                refine ⟨_, _, _, rfl, s9.trans s10, (C1.mul pab).mono (by omega), (C2.mul pbb).mono (by rw [totN_succ, eJ2]; omega), Int.mul_pos C3 pbp⟩
              · rintro σ' H9 ⟨v0, v1, v2, rfl, s9, C1, C2, C3⟩
                have etn : (dmsP (nzP m) sts).take ((sts.length : Int)).toNat = dmsP (nzP m) sts := by
                  rw [show ((sts.length : Int)).toNat = (dmsP (nzP m) sts).length by rw [dl]; omega, List.take_length]
                rw [etn] at C1 C2 C3 ⊢
                have C1' := C1.mono (show 1000 + 18200 * ((sts.length : Int)).toNat ≤ 55600 by omega)
                have tl' : 40 * totN (l.map Int.toNat) ((sts.length : Int)).toNat + 200 ≤ W := by rw [show ((sts.length : Int)).toNat = sts.length by omega]; exact tl
                have C2' := C2.mono (show 40 * totN (l.map Int.toNat) ((sts.length : Int)).toNat + 65 * ((sts.length : Int)).toNat + 1 ≤ W by omega)
                walk_at "f"
                refine My.mulWk B1 C2' (by omega) ?_
                walk_at "f"
                refine My.mulWk C1' B2 (by omega) ?_
                walk_at "f"
                refine My.mulWk B2 C2' (by omega) ?_
                walk_at "f"
                refine ⟨_, _, _, _, _, _, rfl, s8.trans s9, ?_, (B2.mul C2').mono (by omega), Int.mul_pos B3 C3⟩
                exact (My.Bd.add (n := 65000 * j + 65000) ((B1.mul C2').mono (by omega)) ((C1'.mul B2).mono (by omega)))
          · rintro σ' H8 ⟨u3, u4, u5, u6, u7, u8, rfl, s8, B1, B2, B3⟩
            have ql : (qs.map V.ref).length = (natP (cutP sts.length (nzP m))).length := by
              unfold natP cutP
              rw [List.length_map, List.length_map, List.length_map, My.plen hq7]
            rw [ql, List.take_length] at B1 B2 B3 ⊢
            have nl : (natP (cutP sts.length (nzP m))).length = (nzP m).length := by unfold natP cutP; rw [List.length_map, List.length_map]
            rw [← nl, Nat.mul_comm] at lim
            have hr8 : H8 r = some (.tup ((ofN I).map V.int)) := s8 _ _ (s7 _ _ hr5)
            have hf8 := s8 _ _ (s7 _ _ hf5)
            have hk8 := Paired.mapP hk5 fun c I' (z : FraAt H5 c (cntAt m sts I')) => (z.same s7).same s8
            have b8 := (b5.trans (Same.but s7)).trans (Same.but s8)
            walk_at "f"
            refine ⟨_, _, rfl, B3, B2.mono (by omega), fun p np => ?_⟩
            have sp := same_new (o := HO.tup [V.int (low (BM.fr ((natP (cutP sts.length (nzP m))).map (trm (dmsP (nzP m) sts) I))).1 (BM.fr ((natP (cutP sts.length (nzP m))).map (trm (dmsP (nzP m) sts) I))).2).1, V.int (low (BM.fr ((natP (cutP sts.length (nzP m))).map (trm (dmsP (nzP m) sts) I))).1 (BM.fr ((natP (cutP sts.length (nzP m))).map (trm (dmsP (nzP m) sts) I))).2).2]) np
            have hp9 : FraAt (upd H8 p (HO.tup [V.int (low (BM.fr ((natP (cutP sts.length (nzP m))).map (trm (dmsP (nzP m) sts) I))).1 (BM.fr ((natP (cutP sts.length (nzP m))).map (trm (dmsP (nzP m) sts) I))).2).1, V.int (low (BM.fr ((natP (cutP sts.length (nzP m))).map (trm (dmsP (nzP m) sts) I))).1 (BM.fr ((natP (cutP sts.length (nzP m))).map (trm (dmsP (nzP m) sts) I))).2).2])) p (cntAt m sts I) := upd_same
            have hr9 := sp _ _ hr8
            have hf9 := sp _ _ hf8
            have hk9 := Paired.mapP hk8 fun c I' (z : FraAt H8 c (cntAt m sts I')) => z.same sp
            have b9 := b8.trans (Same.but sp)
            generalize upd H8 p _ = H9 at hp9 hr9 hf9 hk9 b9 ⊢
            walk_at "f"
            have kl := My.plen hk9
            rw [List.length_take] at kl
            have il : i < (BM.idx (dmsP (nzP m) sts)).length := (List.getElem?_eq_some_iff.mp eI).1
            have eti : (BM.idx (dmsP (nzP m) sts)).take (i + 1) = (BM.idx (dmsP (nzP m) sts)).take i ++ [I] := by rw [List.take_succ, eI]; rfl
            have i64 : (BM.idx (dmsP (nzP m) sts)).length ≤ 1000 := by
              rw [idx_len]
              exact Nat.le_trans spr.cnt (by decide)
            have tnf : ∀ c xs, H9 c = some (.tup xs) → c ≠ fd := fun c xs e z => by rw [z, hf9] at e; cases e
            refine ⟨fd, _, rfl, DPut.t hf9 (by rw [ik_kV]; exact hr9) (by rw [List.length_zipWith, sizeLine_eq, List.length_take]; omega), ?_⟩
            refine ⟨ks ++ [p], _, _, _, _, _, _, _, _, _, rfl, fun c o nb e => by rw [upd_ne nb]; exact b9 _ _ nb e, ?_, ?_⟩
            · rw [upd_same, putK_off, eti, List.zipWith_append (by rw [List.length_take]; omega)]
              · rfl
              · intro p' hp' e
                obtain ⟨jj, hjj⟩ := List.mem_iff_getElem?.mp hp'
                rw [List.getElem?_zipWith] at hjj
                cases e1 : ((BM.idx (dmsP (nzP m) sts)).take i)[jj]? with
                | none => rw [e1] at hjj; cases hjj
                | some J =>
                  cases e2 : ks[jj]? with
                  | none => rw [e1, e2] at hjj; cases hjj
                  | some kr =>
                    rw [e1, e2] at hjj
                    cases Option.some.inj hjj
                    have eJI : J = I := map_inj (fun x y z => Int.ofNat.inj z) (ik_inj e)
                    have jl : jj < i := by
                      have := (List.getElem?_eq_some_iff.mp e1).1
                      rw [List.length_take] at this
                      omega
                    rw [List.getElem?_take_of_lt jl, eJI, ← eI] at e1
                    have := (List.getElem?_inj (by omega) ind).mp e1
                    omega
            · rw [eti]
              refine papp (Paired.mapP hk9 fun c I' (z : FraAt H9 c (cntAt m sts I')) => (by show upd H9 fd _ c = _; rw [upd_ne (tnf _ _ z)]; exact z : FraAt _ c (cntAt m sts I'))) (.cons ?_ .nil)
              show upd H9 fd _ p = _
              rw [upd_ne (tnf _ _ hp9)]
              exact hp9
    · rintro σ' H4 ⟨ks, u0, u1, u2, u3, u4, u5, u6, u7, u8, rfl, b4, hf4, hk4⟩
      rw [List.length_map, rl, List.take_length] at hf4 hk4
      walk_at "f"
      exact k fd H4 ks (fun c o e => b4 _ _ (ne_of_none e nfd0) (s4 _ _ e)) hf4 hk4
end
end K23

set_option Elab.async false
set_option linter.all false
set_option maxRecDepth 100000
set_option maxHeartbeats 4000000
namespace K23
open PySem PySem.Spec PyProof.Rows L2 XV DX
def plc (pts : List Fra) (k : Nat) : Fra := pts.getD k (0, 1)
def wnK (pts : List Fra) (J : List Int) : Nat → Int
  | 0 => 1
  | k + 1 => wnK pts J k * (plc pts k).1 ^ (J.getD k 0).toNat
def wbK (pts : List Fra) (J : List Int) : Nat → Int
  | 0 => 1
  | k + 1 => wbK pts J k * (plc pts k).2 ^ (J.getD k 0).toNat
def wrt (pts : List Fra) (p : List Int × Int) : Int × Int := (p.2 * wnK pts p.1 4, wbK pts p.1 4)
def wthF (m : Pol) (pts : List Fra) : Int × Int := BM.fr (m.map (wrt pts))
/-- a place of few bits -/
structure PtB (f : Fra) : Prop where
  pos : 0 < f.2
  n : My.Bd 100 f.1
  b : My.Bd 60 f.2
/-- what the sums of a worth take: v bits the bottoms, W a term -/
structure Wl (m : Pol) (pts : List Fra) (W : Nat) : Prop where
  pt : ∀ f ∈ pts, PtB f
  w : ∃ v, (∀ f ∈ pts, My.Bd v f.2) ∧ ∀ p ∈ m, v * totN (p.1.map Int.toNat) 4 + 8 ≤ W
  lim : m.length * W ≤ 8900
def spWorth : Sp := fun vs H Q _ => ∃ (b l : Addr) (m : Pol) (fs : List Addr) (pts : List Fra) (W : Nat), vs = [.ref b, .ref l] ∧ PolD H b m ∧ Lp m ∧ H l = some (.lst (fs.map V.ref)) ∧ Paired (FraAt H) fs pts ∧ Wl m pts W ∧ pts.length ≤ 4 ∧
  ∀ p H', Same H H' → FraAt H' p (low (wthF m pts).1 (wthF m pts).2) → 0 < (wthF m pts).2 → My.Bd 240001 (wthF m pts).1 → Q (.ref p) H'
section
variable {P : Program} {w : World} {K : PySem.W.Frag} {mg : Str → Option Value} {base : Heap}
theorem sc_law_worth : FnScope ["_law_parts_here", "_law_point", "_law_top", "_law_bottom", "_law_powers", "_law_here", "_law_under", "_law_k", "_law_place"] ["_law_parts_here", "_law_point"] (defScope s_law_worth) := ⟨rfl, rfl, rfl, by decide +kernel, rfl, by decide +kernel, by decide +kernel⟩
theorem cal_law_worth {f : Addr} {fd : FuncData} (F : FnP K "_law_worth" "_law_worth" s_law_worth f fd) (g : mg "_law_worth" = some (.ref f)) (T : Txt0 mg) (C_law_power : Cal P w K mg base "_law_power" 1 ["_law_number", "_law_many"] spPow) (C_law_low : Cal P w K mg base "_law_low" 1 ["_law_top", "_law_bottom"] spLow) : Cal P w K mg base "_law_worth" 3 ["_law_parts_here", "_law_point"] spWorth := by
  obtain ⟨f_law_power, fd_law_power, g_law_power, G_law_power, b_law_power, k_law_power⟩ := C_law_power
  obtain ⟨f_law_low, fd_law_low, g_law_low, G_law_low, b_law_low, k_law_low⟩ := C_law_low
  refine ⟨f, fd, g, ?_, F.bindsN (fun _ _ _ _ _ _ us hl => match us, hl with | [_, _], _ => rfl), F.kp⟩
  refine F.ok sc_law_worth (fun vs H Q E h => ?_) (fun cdv A outer s H vs Q E hr h => ?_)
  · obtain ⟨b, l, m, fs, pts, W, rfl, hb, lp, hl, hf, wl0, l3, k⟩ := h
    rfl
  · obtain ⟨b, l, m, fs, pts, W, rfl, hb, lp, hl, hf, wl0, l3, k⟩ := h
    have hu := hu_of hr
    refine ⟨_, PSs.nox (pss_cons (ps_asg (pe_tup (pa_cons pe_int (pa_cons pe_int pa_nil))) (pg_tup (by rfl) (pgs_cons (pg_name (i := 2) sc_law_worth.nd rfl (Or.inl rfl)) (pgs_cons (pg_name (i := 3) sc_law_worth.nd rfl (Or.inl rfl)) pgs_nil))))
      (pss_cons (ps_lock (ps_for PassesOwn.never rfl (pi_keys (pv 0)) (pg_name (i := 4) sc_law_worth.nd rfl (Or.inl rfl))
       (pss_cons (ps_par (i := 5) (j := 6) (by rfl) sc_law_worth.nd rfl rfl (by decide) rfl rfl (pa_cons (pe_dget hu (pv 0) (pv 4) (fun _ _ => rfl)) (pa_cons pe_int pa_nil)) (by rfl))
      (pss_cons (ps_for PassesOwn.never rfl (pi_range1 (by rfl) T.range (pa_cons pe_int pa_nil)) (pg_name (i := 7) sc_law_worth.nd rfl (Or.inl rfl))
       (pss_cons (ps_set (i := 8) sc_law_worth.nd rfl (Or.inl rfl) (pe_ifExp (pt_cmpR op_lt (pv 7) (pe_callB My.c_len (by rfl) T.len PySem.boot_len (pa_cons (pv 1) pa_nil)) (nomark _)) (pe_ix ix_list (pv 1) (pv 7) (fun _ _ => rfl)) (pe_tup (pa_cons pe_int (pa_cons pe_int pa_nil)))))
      (pss_one (ps_par (i := 5) (j := 6) (by rfl) sc_law_worth.nd rfl rfl (by decide) rfl rfl (pa_cons (pe_op op_mulW (pv 5) (pe_call G_law_power (hr.mono (by decide)) (by rfl) g_law_power k_law_power b_law_power .nil pass0 (pa_cons (pe_ix ix_tup (pv 8) pe_int (fun _ _ => rfl)) (pa_cons (pe_ix ix_tup (pv 4) (pv 7) (fun _ _ => rfl)) pa_nil)))) (pa_cons (pe_op op_mulW (pv 6) (pe_call G_law_power (hr.mono (by decide)) (by rfl) g_law_power k_law_power b_law_power .nil pass0 (pa_cons (pe_ix ix_tup (pv 8) pe_int (fun _ _ => rfl)) (pa_cons (pe_ix ix_tup (pv 4) (pv 7) (fun _ _ => rfl)) pa_nil)))) pa_nil)) (by rfl)))))
      (pss_one (ps_par (i := 2) (j := 3) (by rfl) sc_law_worth.nd rfl rfl (by decide) rfl rfl (pa_cons (pe_op op_add (pe_op op_mulW (pv 2) (pv 6)) (pe_op op_mulW (pv 5) (pv 3))) (pa_cons (pe_op op_mulW (pv 3) (pv 6)) pa_nil)) (by rfl)))))))
      (pss_one (ps_ret (pe_call G_law_low (hr.mono (by decide)) (by rfl) g_law_low k_law_low b_law_low .nil pass0 (pa_cons (pv 2) (pa_cons (pv 3) pa_nil))))))), ?_⟩
    try dsimp only [cxOf, Cx.nox, Cx.wish]
    have few := lp.few
    have fl := My.plen hf
    obtain ⟨v, hv, hW⟩ := wl0.w
    have pB : ∀ kq, My.Bd 100 (plc pts kq).1 ∧ (v = 0 ∨ My.Bd v (plc pts kq).2) ∧ 0 < (plc pts kq).2 ∧ (v = 0 → (plc pts kq).2 = 1) := fun kq => by
      unfold plc
      rw [List.getD_eq_getElem?_getD]
      cases e : pts[kq]? with
      | none =>
        refine ⟨My.Bd.zero, ?_, (by show (0 : Int) < 1; decide), fun _ => rfl⟩
        cases v with
        | zero => exact .inl rfl
        | succ v => exact .inr (show (1 : Int).natAbs < 2 ^ (v + 1) by rw [Nat.pow_succ]; have := Nat.two_pow_pos v; show 1 < _; omega)
      | some f0 =>
        have hm := List.mem_iff_getElem?.mpr ⟨kq, e⟩
        have n := wl0.pt f0 hm
        refine ⟨n.n, .inr (hv f0 hm), n.pos, fun z => ?_⟩
        have z2 : My.Bd v f0.2 := hv f0 hm
        have z3 := n.pos
        rw [z] at z2
        have : f0.2.natAbs < 1 := z2
        omega
    have pb60 : ∀ kq, My.Bd 60 (plc pts kq).2 := fun kq => by
      unfold plc
      rw [List.getD_eq_getElem?_getD]
      cases e : pts[kq]? with
      | none => exact (by decide : (1 : Int).natAbs < 2 ^ 60)
      | some f0 => exact (wl0.pt f0 (List.mem_iff_getElem?.mpr ⟨kq, e⟩)).b
    have pP : ∀ kq (e : Nat), My.Bd (v * e + 1) ((plc pts kq).2 ^ e) := fun kq e => by
      obtain ⟨_, h, _, h1⟩ := pB kq
      rcases h with h | h
      · rw [h1 h, Int.one_pow]
        exact (show My.Bd 1 1 from (by decide : (1 : Int).natAbs < 2 ^ 1)).mono (by omega)
      · have := pow_bd h e
        rwa [Nat.mul_comm] at this
    walk_at "f"
    refine My.new (My.sz (by simp)) fun c0 nc0 => ?_
    have s1 := same_new (o := HO.tup [V.int 0, V.int 1]) nc0
    refine My.gtup2 (SqT.of upd_same) rfl ?_
    have hb1 : upd H c0 (.tup [V.int 0, V.int 1]) b = some (.dT (kvI m)) := s1 _ _ hb
    generalize upd H c0 (.tup [V.int 0, V.int 1]) = H1 at s1 hb1 ⊢
    walk_at "f"
    refine My.lockS hb1 True.intro fun od => ?_
    have hl1 := upd_same (H := H1) (a := b) (o := HO.frz od (.dT (kvI m)))
    have lk := fun {H' : Hp} (s : Same (upd H1 b (.frz od (.dT (kvI m)))) H') => same_lock hb1 s
    have keep : ∀ c o, c ≠ b → H c = some o → upd H1 b (.frz od (.dT (kvI m))) c = some o := fun c o n e => by rw [upd_ne n]; exact s1 _ _ e
    have lb : l ≠ b := fun z => by have e : H b = some (.dT (kvI m)) := hb; rw [z, e] at hl; cases hl
    have hll := keep _ _ lb hl
    have hfl := Paired.mapP hf fun c f' (z : FraAt H c f') => (keep c _ (fun g => by have e : H b = some (.dT (kvI m)) := hb; have z' : H c = _ := z; rw [g, e] at z'; cases z') z : FraAt (upd H1 b (.frz od (.dT (kvI m)))) c f')
    generalize upd H1 b (.frz od (.dT (kvI m))) = Hl at hl1 lk hll hfl ⊢
    refine My.forKT rfl rfl hl1 (fun j σ' H' => ∃ (u4 u5 u6 u7 u8 : Option V), σ' = [some (.ref b), some (.ref l), some (.int (BM.fr ((m.take j).map (wrt pts))).1), some (.int (BM.fr ((m.take j).map (wrt pts))).2), u4, u5, u6, u7, u8] ∧ Same Hl H' ∧ My.Bd (34000 * j + 1) (BM.fr ((m.take j).map (wrt pts))).1 ∧ My.Bd (W * j + 1) (BM.fr ((m.take j).map (wrt pts))).2 ∧ 0 < (BM.fr ((m.take j).map (wrt pts))).2) ⟨none, none, none, none, none, rfl, .refl _, My.Bd.zero, (show (1 : Int).natAbs < 2 ^ 1 by decide), (show (0 : Int) < 1 by decide)⟩ (fun i σ' H' _ ⟨_, _, _, _, _, _, s', _⟩ => s' _ _ hl1) ?_ ?_
    · rintro j kk v q σ' H4 ek hq ⟨u4, u5, u6, u7, u8, rfl, s4, B1, B2, B3⟩
      obtain ⟨li, c, em, rfl, rfl⟩ := kvI_get ek
      have hmem := List.mem_iff_getElem?.mpr ⟨j, em⟩
      have gv := getP_at lp.nd em
      have l4 := lp.len _ hmem
      have cb := lp.bd _ hmem
      have jm := (List.getElem?_eq_some_iff.mp em).1
      simp only at l4 cb
      have tl := hW _ hmem
      have wj : W * j + W ≤ 8900 := by
        have := Nat.mul_le_mul_left W (show j + 1 ≤ m.length by omega)
        have lim := wl0.lim
        rw [Nat.mul_succ, Nat.mul_comm W m.length] at this
        omega
      have wj2 : W * (j + 1) = W * j + W := Nat.mul_succ _ _
      generalize W * j = Wj at wj wj2 B2
      rw [wj2]
      simp only at tl
      have wl : ∀ kq, 0 ≤ li.getD kq 0 ∧ li.getD kq 0 ≤ 60 := fun kq => by
        rw [List.getD_eq_getElem?_getD]
        cases e : li[kq]? with
        | none => exact ⟨Int.le_refl 0, (by decide : (0 : Int) ≤ 60)⟩
        | some y => exact lp.wi _ hmem y (List.mem_iff_getElem?.mpr ⟨kq, e⟩)
      have efr : BM.fr ((m.take (j + 1)).map (wrt pts)) = ((BM.fr ((m.take j).map (wrt pts))).1 * wbK pts li 4 + c * wnK pts li 4 * (BM.fr ((m.take j).map (wrt pts))).2, (BM.fr ((m.take j).map (wrt pts))).2 * wbK pts li 4) := by
        rw [List.take_succ, em, List.map_append]
        unfold BM.fr
        rw [List.foldl_append]; rfl
      rw [efr]
      generalize BM.fr ((m.take j).map (wrt pts)) = R at B1 B2 B3 ⊢
      have hb4 := s4 _ _ hl1
      walk_at "f"
      refine ⟨b, .int c, rfl, .inr ⟨kvI m, ik li, q, .inr ⟨od, hb4⟩, rfl, hq, by rw [valV_kvI, gv]; rfl⟩, ?_⟩
      walk_at "f"
      refine My.rngI (by omega) (by omega) (fun kq σ' H' => ∃ (v0 v1 : Option V), σ' = [some (.ref b), some (.ref l), some (.int R.1), some (.int R.2), some (.ref q), some (.int (c * wnK pts li kq)), some (.int (wbK pts li kq)), v0, v1] ∧ Same H4 H' ∧ My.Bd (1000 + 6001 * kq) (c * wnK pts li kq) ∧ My.Bd (v * totN (li.map Int.toNat) kq + kq + 1) (wbK pts li kq) ∧ 0 < wbK pts li kq) ⟨u7, u8, ?_, .refl _, ?_, (show (1 : Int).natAbs < 2 ^ 1 by decide), (show (0 : Int) < 1 by decide)⟩ ?_ ?_
      · rw [show c * wnK pts li 0 = c from Int.mul_one c]; rfl
      · rw [show c * wnK pts li 0 = c from Int.mul_one c]; exact cb
      · rintro kq σ' H5 hk ⟨v0, v1, rfl, s5, C1, C2, C3⟩
        have s45 := s4.trans s5
        have k4 : kq < 4 := by omega
        obtain ⟨P1, _, P3, _⟩ := pB kq
        have ez : (0 : Int) + (kq : Int) = (kq : Int) := Int.zero_add _
        have fll : fs.length = pts.length := fl
        refine My.name rfl (My.seq (My.asg (My.cutV (fun v H' => ∃ t, v = .ref t ∧ FraAt H' t (plc pts kq) ∧ Same H5 H') (fun Q' hQ => ?_) ?_)))
        · rw [ez]
          walk_at "f"
          refine My.lenL (SqL.of (s45 _ _ hll)) ?_
          rw [List.length_map, fll]
          walk_at "f"
          · rename_i hlt
            obtain ⟨t, et⟩ : ∃ t, fs[kq]? = some t := ⟨_, List.getElem?_eq_getElem (by omega)⟩
            obtain ⟨f0, ef, ht⟩ := My.pget hfl et
            refine My.ixL (v := .ref t) (SqL.of (s45 _ _ hll)) (atI_nat (by rw [List.getElem?_map, et]; rfl)) ?_
            refine hQ _ _ ⟨t, rfl, ?_, .refl _⟩
            have ep : plc pts kq = f0 := by unfold plc; rw [List.getD_eq_getElem?_getD, ef]; rfl
            rw [ep]
            exact s45 _ _ ht
          · rename_i hge
            refine My.new (My.sz (by simp)) fun t nt => ?_
            have ep : plc pts kq = (0, 1) := by unfold plc; rw [List.getD_eq_getElem?_getD, List.getElem?_eq_none (by omega)]; rfl
            refine hQ _ _ ⟨t, rfl, ?_, same_new nt⟩
            rw [ep]
            exact upd_same
        · rintro v H6 ⟨t, rfl, ht, s6⟩
          have hq6 : H6 q = some (.tup (li.map V.int)) := by rw [← ik_kV]; exact s6 _ _ (s5 _ _ hq)
          have s46 := s45.trans s6
          obtain ⟨w0, w1⟩ := wl kq
          have ep : li.getD kq 0 = (((li.getD kq 0).toNat : Nat) : Int) := (Int.toNat_of_nonneg w0).symm
          have gq : atI (li.map V.int) (kq : Int) = some (.int (li.getD kq 0)) := atI_nat (by rw [List.getElem?_map, List.getD_eq_getElem?_getD, List.getElem?_eq_getElem (show kq < li.length by omega)]; rfl)
          rw [ez]
          walk_at "f"
          refine My.ixT (v := .int (plc pts kq).1) (SqT.of ht) (by rfl) ?_
          walk_at "f"
          refine My.ixT (SqT.of hq6) gq ?_
          walk_at "f"
          refine ⟨(plc pts kq).1, (li.getD kq 0).toNat, 100, by rw [← ep]; rfl, P1, by omega, by omega, ?_⟩
          have p1 := (pow_bd P1 (li.getD kq 0).toNat).mono (show (li.getD kq 0).toNat * 100 + 1 ≤ 6001 by omega)
          have p2 := pP kq (li.getD kq 0).toNat
          have ej2 : (li.map Int.toNat).getD kq 0 = (li.getD kq 0).toNat := getD_toNat li kq
          have ts1 : v * totN (li.map Int.toNat) (kq + 1) = v * totN (li.map Int.toNat) kq + v * (li.getD kq 0).toNat := by rw [totN_succ, ej2, Nat.mul_add]
          have tle : v * totN (li.map Int.toNat) (kq + 1) ≤ v * totN (li.map Int.toNat) 4 := Nat.mul_le_mul_left _ (tot_le _ (by omega) (Nat.le_refl _))
          have p3 := BM.pow_pos P3 (li.getD kq 0).toNat
          refine My.mulWk C1 p1 (by omega) ?_
          walk_at "f"
          refine My.ixT (v := .int (plc pts kq).2) (SqT.of ht) (by rfl) ?_
          walk_at "f"
          refine My.ixT (SqT.of hq6) gq ?_
          walk_at "f"
          refine ⟨(plc pts kq).2, (li.getD kq 0).toNat, 60, by rw [← ep]; rfl, pb60 kq, by omega, by omega, ?_⟩
          refine My.mulWk C2 p2 (by omega) ?_
          walk_at "f"
          have e1 : c * wnK pts li (kq + 1) = c * wnK pts li kq * (plc pts kq).1 ^ (li.getD kq 0).toNat := by
            rw [Int.mul_assoc]; rfl
          have e2 : wbK pts li (kq + 1) = wbK pts li kq * (plc pts kq).2 ^ (li.getD kq 0).toNat := rfl
          rw [e1, e2]
          exact ⟨_, _, rfl, s5.trans s6, (C1.mul p1).mono (by omega), (C2.mul p2).mono (by omega), Int.mul_pos C3 p3⟩
      · rintro σ' H5 ⟨v0, v1, rfl, s5, C1, C2, C3⟩
        have C1 : My.Bd 25004 (c * wnK pts li 4) := C1
        have C2 : My.Bd W (wbK pts li 4) := C2.mono (show v * totN (li.map Int.toNat) 4 + 4 + 1 ≤ W by omega)
        have C3 : 0 < wbK pts li 4 := C3
        show _
        walk_at "f"
        refine My.mulWk (i := R.1) (j := wbK pts li 4) B1 C2 (by omega) ?_
        walk_at "f"
        refine My.mulWk (i := c * wnK pts li 4) (j := R.2) C1 B2 (by omega) ?_
        walk_at "f"
        refine My.mulWk (i := R.2) (j := wbK pts li 4) B2 C2 (by omega) ?_
        walk_at "f"
        refine ⟨_, _, _, _, _, rfl, s4.trans s5, ?_, (B2.mul C2).mono (by omega), Int.mul_pos B3 C3⟩
        exact My.Bd.add (n := 34000 * j + 34000) ((B1.mul C2).mono (by omega)) ((C1.mul B2).mono (by omega))
    · rintro σ' H4 ⟨u4, u5, u6, u7, u8, rfl, s4, B1, B2, B3⟩
      rw [kvI_len, List.take_length] at B1 B2 B3 ⊢
      have lim := wl0.lim
      rw [Nat.mul_comm] at lim
      refine ⟨s4 _ _ hl1, ?_⟩
      have s5 := s1.trans (lk s4)
      generalize upd H4 b (HO.dT (kvI m)) = H5 at s5 ⊢
      walk_at "f"
      refine ⟨_, _, rfl, B3, B2.mono (by omega), fun p np => ?_⟩
      exact k p _ (s5.trans (same_new np)) upd_same B3 (B1.mono (by omega))
end
end K23

set_option Elab.async false
set_option linter.all false
set_option maxRecDepth 100000
set_option maxHeartbeats 4000000
namespace My
open PySem PySem.Spec PyProof.Rows L2 DX
def FS (x : Str) (g : TG) (tb : TS) (D : Ends) (σ : L2.St) (H1 : Hp) : Prop := ∃ W : Nat → Nat → L2.St → Hp → Prop, (∃ m, W 0 m σ H1) ∧ ∀ i' m σ H, W i' m σ H →
  ((Its x).stop i' H ∧ D.nx σ H) ∨ ((Its x).go i' H ∧ ∃ N : L2.St → Hp → Prop, (∀ σ' H', N σ' H' → ∃ m', m' < m ∧ W (i' + 1) m' σ' H') ∧ ∀ v H', (Its x).yld i' H v H' → g v σ H' fun σ2 H2 => tb { D with nx := N, ct := N, bk := D.nx } σ2 H2)
section
variable {σ : L2.St} {H : Hp} {Q : VK} {te : TE} {D : Ends} {g : TG} {tb : TS}
theorem forS1 (h : te σ H fun v H1 => ∃ x, v = .str x ∧ FS x g tb D σ H1) : tFor (iStr te) g tb D σ H := h
theorem forS {x : Str} (Pv : Nat → L2.St → Hp → Prop) (h0 : Pv 0 σ H)
    (hs : ∀ i c σ H, x.cps[i]? = some c → Pv i σ H → g (.str ⟨#[c]⟩) σ H fun σ2 H2 => tb { D with nx := Pv (i + 1), ct := Pv (i + 1), bk := D.nx } σ2 H2) (he : ∀ σ H, Pv x.cps.size σ H → D.nx σ H) : FS x g tb D σ H :=
  for_it walk_str Pv h0 (fun _ _ _ _ _ => True.intro) (fun i v σ H H' hi p y => by
    obtain ⟨rfl, c, e1, rfl⟩ := y
    exact hs i c σ H' e1 p) he
theorem fmtB1 (h : te σ H fun x H1 => ∃ n : Nat, x = .int (n : Int) ∧ (binS n).length ≤ sizeLine ∧ Q (.str (binS n)) H1) : tFmtB te σ H Q := h
theorem eqS {x y : Str} {A : Hp} {Q : VK} (q : Q (.bl (decide (x = y))) A) : rEq (.str x) (.str y) A Q := ⟨rfl, by
  have e : decide (V.str x = V.str y) = decide (x = y) := by
    by_cases z : x = y
    · rw [z, decide_eq_true rfl, decide_eq_true rfl]
    · rw [decide_eq_false z, decide_eq_false fun g => z (V.str.inj g)]
  rw [e]; exact q⟩
end
end My
namespace K23
open PySem PySem.Spec PyProof.Rows L2 XV DX
def spNumR : Sp := fun vs H Q _ => ∃ (b : Int) (n B : Nat), vs = [.int b, .int (n : Int)] ∧ My.Bd B b ∧ n ≤ 1000 ∧ (n + 1) * B ≤ 400000 ∧ Q (.int (b ^ n)) H
def oneS (c : Nat) : Str := ⟨#[c]⟩
theorem one_dec {c : Nat} : decide ((⟨#[c]⟩ : Str) = ⟨#[49]⟩) = decide (c = 49) := by
  by_cases h : c = 49
  · rw [h]; rfl
  · rw [decide_eq_false h, decide_eq_false fun z => h (by injection z with z; injection z with z; injection z)]
section
variable {P : Program} {w : World} {K : PySem.W.Frag} {mg : Str → Option Value} {base : Heap}
theorem sc_number_raised : FnScope ["base", "many", "found", "bit"] ["base", "many"] (defScope s_number_raised) := ⟨rfl, rfl, rfl, by decide +kernel, rfl, by decide +kernel, by decide +kernel⟩
theorem cal_number_raised {f : Addr} {fd : FuncData} (F : FnP K "number_raised" "number_raised" s_number_raised f fd) (g : mg "number_raised" = some (.ref f)) (T : Txt0 mg) : Cal P w K mg base "number_raised" 1 ["base", "many"] spNumR := by
  refine ⟨f, fd, g, ?_, F.bindsN (fun _ _ _ _ _ _ us hl => match us, hl with | [_, _], _ => rfl), F.kp⟩
  refine F.ok sc_number_raised (fun vs H Q E h => ?_) (fun cdv A outer s H vs Q E hr h => ?_)
  · obtain ⟨b, n, B, rfl, bx, hn, hB, k⟩ := h
    rfl
  · obtain ⟨b, n, B, rfl, bx, hn, hB, k⟩ := h
    refine ⟨_, PSs.nox (pss_cons (ps_set (i := 2) sc_number_raised.nd rfl (Or.inl rfl) pe_int)
      (pss_cons (ps_for PassesOwn.never rfl (pi_str (pe_joined1 (DX.pe_fmtB (pv 1)))) (pg_name (i := 3) sc_number_raised.nd rfl (Or.inl rfl))
       (pss_cons (ps_set (i := 2) sc_number_raised.nd rfl (Or.inl rfl) (pe_op op_mulW (pv 2) (pv 2)))
      (pss_one (ps_if (pt_cmpR op_eq (pv 3) pe_str (nomark _))
       (pss_one (ps_set (i := 2) sc_number_raised.nd rfl (Or.inl rfl) (pe_op op_mulW (pv 2) (pv 0))))
       pss_nil))))
      (pss_one (ps_ret (pv 2))))), ?_⟩
    try dsimp only [cxOf, Cx.nox, Cx.wish]
    have hl := bin_len n
    obtain ⟨r1, r2⟩ := bin_read n
    have cl : (binS n).cps.toList = (Nat.toDigits 2 n).map Char.toNat := by unfold binS; rw [List.toList_toArray]
    walk_at "f"
    refine My.forS1 ?_
    refine My.fmtB1 ?_
    walk_at "f"
    refine ⟨n, rfl, Nat.le_trans hl (by rw [sizeLine_eq]; omega), _, rfl, ?_⟩
    have ij : ∀ i, binF 0 (((Nat.toDigits 2 n).map Char.toNat).take i) ≤ n := fun i => by
      have := binF_take ((Nat.toDigits 2 n).map Char.toNat) i 0
      rwa [r1] at this
    have pb : ∀ e, e ≤ n → My.Bd (n * B + 1) (b ^ e) := fun e he => (pow_bd bx e).mono (by have := Nat.mul_le_mul_right B he; omega)
    have nB : n * B + B ≤ 400000 := by rw [← Nat.succ_mul]; exact hB
    refine My.forS (fun i σ' H' => H' = H ∧ ∃ u, σ' = [some (.int b), some (.int (n : Int)), some (.int (b ^ binF 0 (((Nat.toDigits 2 n).map Char.toNat).take i))), u]) ⟨rfl, none, by rw [List.take_zero, show binF 0 [] = 0 from rfl, Int.pow_zero]; rfl⟩ ?_ ?_
    · rintro i c σ' H' hc ⟨rfl, u, rfl⟩
      have hc' : ((Nat.toDigits 2 n).map Char.toNat)[i]? = some c := by rw [← cl, Array.getElem?_toList]; exact hc
      have e1 : ((Nat.toDigits 2 n).map Char.toNat).take (i + 1) = ((Nat.toDigits 2 n).map Char.toNat).take i ++ [c] := by rw [List.take_succ, hc']; rfl
      have h2 := ij (i + 1)
      have e2 : b ^ binF 0 (((Nat.toDigits 2 n).map Char.toNat).take (i + 1)) = if c = 49 then b ^ binF 0 (((Nat.toDigits 2 n).map Char.toNat).take i) * b ^ binF 0 (((Nat.toDigits 2 n).map Char.toNat).take i) * b else b ^ binF 0 (((Nat.toDigits 2 n).map Char.toNat).take i) * b ^ binF 0 (((Nat.toDigits 2 n).map Char.toNat).take i) := by
        rw [e1, binF_snoc]
        split
        · rw [← Int.pow_add, ← Int.pow_succ]; congr 1; omega
        · rw [← Int.pow_add]; congr 1; omega
      rw [e1, binF_snoc] at h2
      rw [e2]
      generalize hE : binF 0 (((Nat.toDigits 2 n).map Char.toNat).take i) = E at h2 ⊢
      have p1 := pb E (by omega)
      walk_at "f"
      refine My.mulW p1 p1 (by omega) ?_
      walk_at "f"
      refine My.eqS ?_
      rw [show (Str.ofString "1" : Str) = ⟨#[49]⟩ from rfl, one_dec]
      walk_at "f"
      · rename_i h
        have p2 : My.Bd (n * B + 1) (b ^ E * b ^ E) := by rw [← Int.pow_add]; exact pb _ (by omega)
        refine My.mulW p2 bx (by omega) ?_
        walk_at "f"
        exact ⟨rfl, _, by rw [if_pos h]; rfl⟩
      · rename_i h
        exact ⟨rfl, _, by rw [if_neg h]; rfl⟩
    · rintro σ' H' ⟨rfl, u, rfl⟩
      have : ((Nat.toDigits 2 n).map Char.toNat).take (binS n).cps.size = (Nat.toDigits 2 n).map Char.toNat := by
        rw [← cl, ← Array.length_toList, List.take_length]
      rw [this, r1]
      walk_at "f"
      exact k
end
end K23

set_option Elab.async false
set_option linter.all false
set_option maxRecDepth 100000
set_option maxHeartbeats 4000000
namespace K23
open PySem PySem.Spec PyProof.Rows L2 XV DX
def spRatio : Sp := fun vs H Q _ => ∃ (t b : Int), vs = [.int t, .int b] ∧ 0 < b ∧ My.Bd 8990 b ∧ ∀ p, H p = none → Q (.ref p) (upd H p (.tup [.int (low t b).1, .int (low t b).2]))
/-- a place of four fractions in lowest terms -/
def spPoint (K : PySem.W.Frag) : Sp := fun vs H Q _ => ∃ (a : Addr) (fs : List Addr) (pts : List Fra), vs = [.int 4, .ref a] ∧ H a = some (.tup (fs.map V.ref)) ∧ Paired (FraAt H) fs pts ∧ pts.length = 4 ∧ (∀ f ∈ pts, FraOk f) ∧ ∀ H', Same H H' → Q (.bl true) H'
section
variable {P : Program} {w : World} {K : PySem.W.Frag} {mg : Str → Option Value} {base : Heap}
theorem sc_ratio : FnScope ["over", "under", "shared"] ["over", "under"] (defScope s_ratio) := ⟨rfl, rfl, rfl, by decide +kernel, rfl, by decide +kernel, by decide +kernel⟩
theorem cal_ratio {f : Addr} {fd : FuncData} (F : FnP K "ratio" "ratio" s_ratio f fd) (g : mg "ratio" = some (.ref f)) (T : Txt0 mg) : Cal P w K mg base "ratio" 1 ["over", "under"] spRatio := by
  refine ⟨f, fd, g, ?_, F.bindsN (fun _ _ _ _ _ _ us hl => match us, hl with | [_, _], _ => rfl), F.kp⟩
  refine F.ok sc_ratio (fun vs H Q E h => ?_) (fun cdv A outer s H vs Q E hr h => ?_)
  · obtain ⟨t, b, rfl, hb, bb, k⟩ := h
    rfl
  · obtain ⟨t, b, rfl, hb, bb, k⟩ := h
    refine ⟨_, PSs.nox (pss_cons (ps_set (i := 2) sc_ratio.nd rfl (Or.inl rfl) (pe_ifExp (pt_cmpR op_gt (pv 1) pe_int (nomark _)) (pe_callBfun cr_gcd (by rfl) T.gcd (pa_cons (pv 0) (pa_cons (pv 1) pa_nil))) (pe_un un_neg (pe_callBfun cr_gcd (by rfl) T.gcd (pa_cons (pv 0) (pa_cons (pv 1) pa_nil))))))
      (pss_one (ps_ret (pe_tup (pa_cons (pe_op op_fdivW (pv 0) (pv 2)) (pa_cons (pe_op op_fdivW (pv 1) (pv 2)) pa_nil)))))), ?_⟩
    try dsimp only [cxOf, Cx.nox, Cx.wish]
    have hg : 0 < Nat.gcd t.natAbs b.natAbs := Nat.gcd_pos_of_pos_right _ (by omega)
    have g0 : (0 : Int) < ((Nat.gcd t.natAbs b.natAbs : Nat) : Int) := by omega
    have gb : My.Bd 8990 ((Nat.gcd t.natAbs b.natAbs : Nat) : Int) := bb.of_le (by rw [Int.natAbs_natCast]; exact gcd_le hb)
    refine My.seq (My.asg (My.ifV ?_))
    walk_at "f"
    · refine ⟨_, _, rfl, ?_⟩
      walk_at "f"
      refine My.divW (n := 8990) g0 gb (by decide) ?_
      walk_at "f"
      refine My.divW (n := 8990) g0 gb (by decide) ?_
      walk_at "f"
      exact My.new (My.sz (by simp)) k
    · rename_i z
      exact absurd hb z
theorem sc_is_point : FnScope ["many", "thing", "place"] ["many", "thing"] (defScope s_is_point) := ⟨rfl, rfl, rfl, by decide +kernel, rfl, by decide +kernel, by decide +kernel⟩
theorem cal_is_point {f : Addr} {fd : FuncData} (F : FnP K "is_point" "is_point" s_is_point f fd) (g : mg "is_point" = some (.ref f)) (T : Txt0 mg) (C_is_fraction : Cal P w K mg base "is_fraction" 2 ["thing"] (spFrac K)) : Cal P w K mg base "is_point" 3 ["many", "thing"] (spPoint K) := by
  obtain ⟨f_is_fraction, fd_is_fraction, g_is_fraction, G_is_fraction, b_is_fraction, k_is_fraction⟩ := C_is_fraction
  refine ⟨f, fd, g, ?_, F.bindsN (fun _ _ _ _ _ _ us hl => match us, hl with | [_, _], _ => rfl), F.kp⟩
  refine F.ok sc_is_point (fun vs H Q E h => ?_) (fun cdv A outer s H vs Q E hr h => ?_)
  · obtain ⟨a, fs, pts, rfl, ha, hp, h4, o, k⟩ := h
    rfl
  · obtain ⟨a, fs, pts, rfl, ha, hp, h4, o, k⟩ := h
    refine ⟨_, PSs.nox (pss_one (ps_ret (pe_and (pe_callB call_isi (by rfl) T.isi (by decide +kernel) (pa_cons (pv 1) (pa_cons (pe_bltn (v := .ty "tuple") (u := .type "tuple") (by rfl) T.tuple (by decide +kernel) rfl) pa_nil))) (pe_and (pe_cmpR op_eq (pe_callB My.c_len (by rfl) T.len PySem.boot_len (pa_cons (pv 1) pa_nil)) (pv 0) (nomark _)) (pe_one (pe_callB (cr_all rfl) (by rfl) T.all (by decide +kernel) (pa_cons (pe_lc (own := [("place", 2)]) (tt := tYes) (by rfl) sc_is_point.nd (pi_tup (pv 1)) (blkOk_by (own := [("place", 2)]) (N := ["many", "thing", "place"]) (sc := (defScope s_is_point)) (by decide +kernel)) (fun _ _ _ _ _ => (pg_name (i := 2) sc_is_point.nd rfl (Or.inl rfl))) (fun _ _ _ _ _ => pts_nil) (fun _ _ _ _ _ => (pe_call G_is_fraction (hr.mono (by decide)) (by rfl) g_is_fraction k_is_fraction b_is_fraction .nil pass0 (pa_cons (pv 2) pa_nil)))) pa_nil))))))), ?_⟩
    try dsimp only [cxOf, Cx.nox, Cx.wish]
    have hrl := My.plen hp
    walk_at "f"
    refine (TgV.tup ha).isT mem6 ?_
    walk_at "f"
    refine My.lenT (SqT.of ha) ?_
    walk_at "f"
    rotate_left
    · rename_i z
      exact absurd (show ((fs.map V.ref).length : Int) = 4 by rw [List.length_map]; omega) z
    refine My.lcT rfl (SqT.of ha) (My.lcM (walk_tup (xs := fs.map V.ref)) Same (by rw [List.length_map]; omega) (fun D hD => same_new hD) fun D nD => ⟨fun j y H => y = .bl true, fun j y H ys o _ h => h, fun H o s => same_at s nD, fun H2 _ s _ => My.same_seqT s ha, ?_, ?_⟩)
    · rintro i x H2 H3 ys N hi r e l p' ⟨rfl, ex⟩ hN
      rw [List.getElem?_map] at ex
      cases eb : fs[i]? with
      | none => rw [eb] at ex; cases ex
      | some b1 =>
        rw [eb] at ex
        cases Option.some.inj ex
        obtain ⟨s1, es, hs⟩ := My.pget hp eb
        walk_at "f"
        refine ⟨rfl, ?_⟩
        walk_at "f"
        refine ⟨.ref b1, true, rfl, frI_of (hs.same r) (o _ (List.mem_iff_getElem?.mpr ⟨i, es⟩)), ?_⟩
        exact hN _ _ r e (fun j v hv => p' j v hv) rfl
    · intro H2 ys hD hl2 s2 hy
      have ey : ys = (List.replicate ys.length true).map V.bl := by
        refine List.ext_getElem? fun j => ?_
        rw [List.getElem?_map, List.getElem?_replicate]
        split
        · rename_i z
          rw [List.getElem?_eq_getElem z, hy j _ (List.getElem?_eq_getElem z)]; rfl
        · rw [List.getElem?_eq_none (by omega)]; rfl
      walk_at "f"
      rw [ey] at hD
      refine My.allL (SqL.of hD) ?_
      rw [show (List.replicate ys.length true).all id = true by simp]
      exact k _ s2
end
end K23

set_option Elab.async false
set_option linter.all false
set_option maxRecDepth 100000
set_option maxHeartbeats 4000000
namespace My
open PySem PySem.Spec PyProof.Rows L2 DX
/-- the turns of a set comprehension of ints -/
theorem scI {w : World} {J : It} {n : Nat} {G : Hp → Prop} {Y : Nat → Hp → V → Hp → Prop} {g : TG} {tt : TT} {te : TE} {vs : List Nat} {σ : L2.St} {Q : VK} {H1 : Hp} (wk : Walk J n G Y)
    (h : ∀ D, H1 D = none → ∃ Pv : Nat → Hp → Prop, Pv 0 (upd H1 D (SetO w D (fun _ => false) 0)) ∧ (∀ i H, i ≤ n → Pv i H → G H) ∧
      (∀ i x H H', i < n → Pv i H → Y i H x H' → g x (wipe σ vs) H' fun σ2 H2 => wipe σ2 vs = wipe σ vs ∧ tt σ2 H2 fun b H3 =>
        if b = true then te σ2 H3 fun y H4 => ∃ (k : Int) (S : Int → Bool) (n : Nat), y = .int k ∧ H4 D = some (SetO w D S n) ∧ n + 1 < scanBound ∧ Pv (i + 1) (upd H4 D (SetO w D (fun j => S j || decide (j = k)) (if S k = true then n else n + 1))) else Pv (i + 1) H3) ∧ ∀ H, Pv n H → Q (.ref D) H) : SI w J g tt te vs σ Q H1 := by
  intro D hD
  obtain ⟨Pv, h0, hG, hs, hd⟩ := h D hD
  refine ⟨fun i m H => m + i = n ∧ Pv i H, ⟨n, rfl, h0⟩, fun i m H ⟨e, p⟩ => ?_⟩
  have q := hG i H (by omega) p
  by_cases hi : i < n
  · exact .inr ⟨wk.goes i H hi q, Pv (i + 1), fun H' p' => ⟨n - (i + 1), by omega, by omega, p'⟩, fun x H' y => hs i x H H' hi p (wk.yields i H x H' hi q y)⟩
  · obtain rfl : i = n := by omega
    exact .inl ⟨wk.stops H q, hd H p⟩
theorem dcK {J : It} {n : Nat} {G : Hp → Prop} {Y : Nat → Hp → V → Hp → Prop} {g : TG} {tt : TT} {tk tv : TE} {vs : List Nat} {σ : L2.St} {Q : VK} {D : Addr} {H1 : Hp} (w : Walk J n G Y) (Pv : Nat → Hp → Prop) (h0 : Pv 0 (upd H1 D (.dK []))) (hG : ∀ i H, i ≤ n → Pv i H → G H)
    (hs : ∀ i x H H', i < n → Pv i H → Y i H x H' → g x (wipe σ vs) H' fun σ2 H2 => wipe σ2 vs = wipe σ vs ∧ tt σ2 H2 fun b H3 =>
      if b = true then tk σ2 H3 fun y H4 => tv σ2 H4 fun z H5 => ∃ kvs k, y = kV k ∧ H5 D = some (.dK kvs) ∧ kvs.length < sizeLine ∧ Pv (i + 1) (upd H5 D (.dK (putK kvs k z))) else Pv (i + 1) H3) (hd : ∀ H, Pv n H → Q (.ref D) H) :
    ∃ W : Nat → Nat → Hp → Prop, (∃ m, W 0 m (upd H1 D (.dK []))) ∧ ∀ i m H, W i m H →
      (J.stop i H ∧ Q (.ref D) H) ∨ (J.go i H ∧ ∃ Nx : Hp → Prop, (∀ H', Nx H' → ∃ m', m' < m ∧ W (i + 1) m' H') ∧ ∀ x H', J.yld i H x H' → g x (wipe σ vs) H' fun σ2 H2 => wipe σ2 vs = wipe σ vs ∧ tt σ2 H2 fun b H3 =>
        if b = true then tk σ2 H3 fun y H4 => tv σ2 H4 fun z H5 => ∃ kvs k, y = kV k ∧ H5 D = some (.dK kvs) ∧ kvs.length < sizeLine ∧ Nx (upd H5 D (.dK (putK kvs k z))) else Nx H3) := by
  refine ⟨fun i m H => m + i = n ∧ Pv i H, ⟨n, rfl, h0⟩, fun i m H ⟨e, p⟩ => ?_⟩
  have q := hG i H (by omega) p
  by_cases hi : i < n
  · exact .inr ⟨w.goes i H hi q, Pv (i + 1), fun H' p' => ⟨n - (i + 1), by omega, by omega, p'⟩, fun x H' y => hs i x H H' hi p (w.yields i H x H' hi q y)⟩
  · obtain rfl : i = n := by omega
    exact .inl ⟨w.stops H q, hd H p⟩
section
variable {σ : L2.St} {H : Hp} {Q : VK} {K : PySem.W.Frag} {te tk tv : TE} {g : TG} {tt : TT} {vs : List Nat} {w : World}
/-- the turns of a dict comprehension of ints, D the new dict -/
def DK (J : It) (g : TG) (tt : TT) (tk tv : TE) (vs : List Nat) (σ : L2.St) (Q : VK) (H1 : Hp) : Prop := ∀ D, H1 D = none → ∃ W : Nat → Nat → Hp → Prop, (∃ m, W 0 m (upd H1 D (.dK []))) ∧ ∀ i m H, W i m H →
  (J.stop i H ∧ Q (.ref D) H) ∨ (J.go i H ∧ ∃ Nx : Hp → Prop, (∀ H', Nx H' → ∃ m', m' < m ∧ W (i + 1) m' H') ∧ ∀ x H', J.yld i H x H' → g x (wipe σ vs) H' fun σ2 H2 => wipe σ2 vs = wipe σ vs ∧ tt σ2 H2 fun b H3 =>
    if b = true then tk σ2 H3 fun y H4 => tv σ2 H4 fun z H5 => ∃ kvs k, y = kV k ∧ H5 D = some (.dK kvs) ∧ kvs.length < sizeLine ∧ Nx (upd H5 D (.dK (putK kvs k z))) else Nx H3)
theorem dcL1 (h : te σ H fun v H1 => ∃ a xs, v = .ref a ∧ SqL K H1 a xs ∧ DK (Itl K a) g tt tk tv vs σ Q H1) : tDc (iList K te) g tt tk tv vs σ H Q := by
  refine (show te σ H _ from ?_)
  have e : (fun (v : V) (H1 : Hp) => ∃ a, v = .ref a ∧ (∃ xs, SqL K H1 a xs) ∧ DK (Itl K a) g tt tk tv vs σ Q H1) = (fun (v : V) (H1 : Hp) => ∃ a xs, v = .ref a ∧ SqL K H1 a xs ∧ DK (Itl K a) g tt tk tv vs σ Q H1) := by
    funext v H1
    exact propext ⟨fun ⟨a, e, ⟨xs, q⟩, d⟩ => ⟨a, xs, e, q, d⟩, fun ⟨a, xs, e, q, d⟩ => ⟨a, e, ⟨xs, q⟩, d⟩⟩
  show te σ H (fun (v : V) (H1 : Hp) => ∃ a, v = .ref a ∧ (∃ xs, SqL K H1 a xs) ∧ DK (Itl K a) g tt tk tv vs σ Q H1)
  rw [e]
  exact h
theorem scT1 (h : te σ H fun v H1 => ∃ a xs, v = .ref a ∧ SqT K H1 a xs ∧ SI w (Itt K a) g tt tk vs σ Q H1) : tScI w (iTup K te) g tt tk vs σ H Q := by
  have e : (fun (v : V) (H1 : Hp) => ∃ a, v = .ref a ∧ (∃ xs, SqT K H1 a xs) ∧ SI w (Itt K a) g tt tk vs σ Q H1) = (fun (v : V) (H1 : Hp) => ∃ a xs, v = .ref a ∧ SqT K H1 a xs ∧ SI w (Itt K a) g tt tk vs σ Q H1) := by
    funext v H1
    exact propext ⟨fun ⟨a, e, ⟨xs, q⟩, d⟩ => ⟨a, xs, e, q, d⟩, fun ⟨a, xs, e, q, d⟩ => ⟨a, e, ⟨xs, q⟩, d⟩⟩
  show te σ H (fun (v : V) (H1 : Hp) => ∃ a, v = .ref a ∧ (∃ xs, SqT K H1 a xs) ∧ SI w (Itt K a) g tt tk vs σ Q H1)
  rw [e]
  exact h
end
end My
namespace K23
open PySem PySem.Spec PyProof.Rows L2 XV DX
/-- what a power of one unknown weighs -/
def wgt (f : Fra) (h e : Int) : Int := f.1 ^ e.toNat * f.2 ^ (h - e).toNat
def WtD (H : Hp) (D : Addr) (ts : Pol) (k : Nat) (f : Fra) (h : Int) : Prop := ∃ kvs : List (L2.Key × V), H D = some (.dK kvs) ∧ ∀ p ∈ ts, valV kvs (.inl (p.1.getD k 0)) = some (.int (wgt f h (p.1.getD k 0)))
def spWeights (C : Addr) : Sp := fun vs H Q _ => ∃ (a x : Addr) (ts : Pol) (k : Nat) (f : Fra) (h : Int), vs = [.ref a, .int (k : Int), .int h, .ref x] ∧ PolyAt C H a ts ∧ k < 4 ∧ FraAt H x f ∧ My.Bd 150 f.1 ∧ My.Bd 150 f.2 ∧ (∀ p ∈ ts, p.1.length = 4 ∧ 0 ≤ p.1.getD k 0 ∧ p.1.getD k 0 ≤ h) ∧ h ≤ 60 ∧ ts.length ≤ 60 ∧
  ∀ D H', H D = none → Same H H' → WtD H' D ts k f h → Q (.ref D) H'
theorem wgt_bd {f : Fra} {h e : Int} (h1 : My.Bd 150 f.1) (h2 : My.Bd 150 f.2) (e0 : 0 ≤ e) (eh : e ≤ h) (h60 : h ≤ 60) : My.Bd 9010 (wgt f h e) := by
  have a1 := pow_bd h1 e.toNat
  have a2 := pow_bd h2 (h - e).toNat
  exact (a1.mul a2).mono (by omega)
section
variable {P : Program} {w : World} {K : PySem.W.Frag} {mg : Str → Option Value} {base : Heap}
theorem sc_weights_of : FnScope ["poly", "k", "most", "place", "over", "under", "high", "powers", "_"] ["poly", "k", "most", "place"] (defScope s_weights_of) := ⟨rfl, rfl, rfl, by decide +kernel, rfl, by decide +kernel, by decide +kernel⟩
theorem cal_weights_of {f : Addr} {fd : FuncData} {C fI fE : Addr} (F : FnP K "weights_of" "weights_of" s_weights_of f fd) (g : mg "weights_of" = some (.ref f)) (T : Txt0 mg) (C_number_raised : Cal P w K mg base "number_raised" 1 ["base", "many"] spNumR) (PT : PolF K mg C fI fE) : Cal P w K mg base "weights_of" 2 ["poly", "k", "most", "place"] (spWeights C) := by
  obtain ⟨f_number_raised, fd_number_raised, g_number_raised, G_number_raised, b_number_raised, k_number_raised⟩ := C_number_raised
  refine ⟨f, fd, g, ?_, F.bindsN (fun _ _ _ _ _ _ us hl => match us, hl with | [_, _, _, _], _ => rfl), F.kp⟩
  refine F.ok sc_weights_of (fun vs H Q E h => ?_) (fun cdv A outer s H vs Q E hr h => ?_)
  · obtain ⟨a, x, ts, k, f, h, rfl, hp, hk, hx, b1, b2, hw, h60, hl, q⟩ := h
    rfl
  · obtain ⟨a, x, ts, k, f, h, rfl, hp, hk, hx, b1, b2, hw, h60, hl, q⟩ := h
    have hu := hu_of hr
    refine ⟨_, PSs.nox (pss_cons (ps_asg (pv 3) (pg_tup (by rfl) (pgs_cons (pg_name (i := 4) sc_weights_of.nd rfl (Or.inr rfl)) (pgs_cons (pg_name (i := 5) sc_weights_of.nd rfl (Or.inr rfl)) pgs_nil))))
      (pss_one (ps_ret (pe_dc (own := [("high", 6)]) (tt := tYes) (g := gName 6) (tk := tVar 6) (by rfl) sc_weights_of.nd (pi_list (pe_callB (cr_sortedSet rfl) (by rfl) T.sorted (by decide +kernel) (pa_cons (DX.pe_scI (own := [("powers", 7), ("_", 8)]) (tt := tYes) (g := gTup K 2 (gCons (gName 7) (gCons (gName 8) gNil))) (te := tOp (rIxT K) (tVar 7) (tVar 1)) (by rfl) sc_weights_of.nd (pi_tup (pe_fld (pv 0) rfl)) (blkOk_by (own := [("powers", 7), ("_", 8)]) (N := ["poly", "k", "most", "place", "over", "under", "high", "powers", "_"]) (sc := (defScope s_weights_of)) (by decide +kernel)) (fun _ _ _ _ _ => (pg_tup (by rfl) (pgs_cons (pg_name (i := 7) sc_weights_of.nd rfl (Or.inl rfl)) (pgs_cons (pg_name (i := 8) sc_weights_of.nd rfl (Or.inl rfl)) pgs_nil)))) (fun _ _ _ _ _ => pts_nil) (fun _ _ _ _ _ => (pe_ix ix_tup (pv 7) (pv 1) (fun _ _ => rfl)))) pa_nil))) (blkOk_by (own := [("high", 6)]) (N := ["poly", "k", "most", "place", "over", "under", "high", "powers", "_"]) (sc := (defScope s_weights_of)) (by decide +kernel)) (fun _ _ _ _ _ => (pg_name (i := 6) sc_weights_of.nd rfl (Or.inl rfl))) (fun _ _ _ _ _ => pts_nil) (fun _ _ _ _ _ => (pv 6)) (fun _ _ _ _ _ => (pe_op op_mulW (pe_call G_number_raised (hr.mono (by decide)) (by rfl) g_number_raised k_number_raised b_number_raised .nil pass0 (pa_cons (pv 4) (pa_cons (pv 6) pa_nil))) (pe_call G_number_raised (hr.mono (by decide)) (by rfl) g_number_raised k_number_raised b_number_raised .nil pass0 (pa_cons (pv 5) (pa_cons (pe_op op_sub (pv 2) (pv 6)) pa_nil))))))))), ?_⟩
    try dsimp only [cxOf, Cx.nox, Cx.wish]
    obtain ⟨dx, t, ha, ht⟩ := id hp
    obtain ⟨rs, ht1, ht2⟩ := id ht
    have hrl := My.plen ht2
    refine My.seq (My.asg (My.var rfl ?_))
    refine My.gtup2 (SqT.of hx) rfl ?_
    walk_at "f"
    refine My.dcL1 ?_
    walk_at "f"
    refine My.scT1 ?_
    refine My.fld ha PT.ins.cl PT.na (by rfl) rfl ?_
    refine ⟨t, _, rfl, SqT.of ht1, My.scI (walk_tup (xs := rs.map V.ref)) fun S nS => ⟨fun i H' => ∃ (F : Int → Bool) (n : Nat), H' S = some (SetO w S F n) ∧ n ≤ i ∧ (∀ e : Int, F e = true ↔ ∃ p ∈ ts.take i, p.1.getD k 0 = e) ∧ But S H H', ⟨_, 0, upd_same, Nat.le_refl _, fun e => by simp, Same.but (same_new nS)⟩, fun i H' _ ⟨_, _, _, _, _, b⟩ => SqT.of (b _ _ (ne_of_none ht1 nS) ht1), ?_, ?_⟩⟩
    · rintro i y H1 H2 hi ⟨F, n, hS, ni, hF, b⟩ ⟨rfl, ex⟩
      rw [List.getElem?_map] at ex
      cases er : rs[i]? with
      | none => rw [er] at ex; cases ex
      | some r =>
        rw [er] at ex
        cases Option.some.inj ex
        obtain ⟨⟨kk, c⟩, ep, q0, hr1, hq0⟩ := My.pget ht2 er
        have il : i < ts.length := (List.getElem?_eq_some_iff.mp ep).1
        have hk4 := (hw _ (List.mem_iff_getElem?.mpr ⟨i, ep⟩)).1
        simp only at hk4
        have hik : (kk.map V.int)[k]? = some (V.int (kk.getD k 0)) := by
          rw [List.getElem?_map, List.getElem?_eq_getElem (show k < kk.length by rw [hk4]; exact hk), List.getD_eq_getElem?_getD, List.getElem?_eq_getElem (show k < kk.length by rw [hk4]; exact hk)]
          rfl
        have tS : ∀ c xs, H c = some (.tup xs) → c ≠ S := fun c xs e => ne_of_none e nS
        refine My.gtup2 (SqT.of (b _ _ (tS _ _ hr1) hr1)) rfl ?_
        refine ⟨rfl, ?_⟩
        walk_at "f"
        refine My.ixT (SqT.of (b _ _ (tS _ _ hq0) hq0)) (atI_nat hik) ?_
        refine ⟨kk.getD k 0, F, n, rfl, hS, by unfold scanBound; omega, _, _, upd_same, by split <;> omega, fun e => ?_, fun b' o nb e => by rw [upd_ne nb]; exact b _ _ nb e⟩
        rw [List.take_succ, ep, Bool.or_eq_true, hF, decide_eq_true_eq]
        constructor
        · rintro (⟨p, hp, e1⟩ | e1)
          · exact ⟨p, List.mem_append_left _ hp, e1⟩
          · exact ⟨(kk, c), List.mem_append_right _ (by simp), e1.symm⟩
        · rintro ⟨p, hp, e1⟩
          rcases List.mem_append.mp hp with g | g
          · exact .inl ⟨p, g, e1⟩
          · have : p = (kk, c) := by simpa using g
            subst this
            exact .inr e1.symm
    rintro H1 ⟨F, n, hS, ni, hF, b⟩
    rw [List.length_map, hrl, List.take_length] at hF
    rw [List.length_map, hrl] at ni
    have s1 : Same H H1 := fun c o e => b _ _ (ne_of_none e nS) e
    walk_at "f"
    refine ⟨S, F, n, rfl, hS, by omega, fun ns p hsort hmem hln np => ⟨p, _, rfl, SqL.of upd_same, ?_⟩⟩
    have s2 := s1.trans (same_new (o := HO.lst (ns.map V.int)) np)
    have hL := upd_same (H := H1) (a := p) (o := HO.lst (ns.map V.int))
    generalize upd H1 p (HO.lst (ns.map V.int)) = H2 at s2 hL ⊢
    intro D nD
    have D0 : H D = none := s2.free nD
    refine My.dcK (walk_list (xs := ns.map V.int)) (fun i H' => ∃ kvs : List (L2.Key × V), H' D = some (.dK kvs) ∧ kvs.length ≤ i ∧ (∀ e, e ∈ ns.take i → valV kvs (.inl e) = some (.int (wgt f h e))) ∧ But D H2 H') ⟨[], upd_same, Nat.le_refl _, fun e he => by simp at he, Same.but (same_new nD)⟩ (fun i H' _ ⟨_, _, _, _, b⟩ => SqL.of (b _ _ (ne_of_none hL nD) hL)) ?_ ?_
    · rintro i y H3 H4 hi ⟨kvs, hD, kl, hv, b3⟩ ⟨rfl, ex⟩
      rw [List.getElem?_map] at ex
      cases er : ns[i]? with
      | none => rw [er] at ex; cases ex
      | some e =>
        rw [er] at ex
        cases Option.some.inj ex
        obtain ⟨p1, hp1, e1⟩ := (hF e).mp ((hmem e).mp (List.mem_iff_getElem?.mpr ⟨i, er⟩))
        obtain ⟨_, w0, w1⟩ := hw _ hp1
        rw [e1] at w0 w1
        have il : i < ns.length := (List.getElem?_eq_some_iff.mp er).1
        have ee : e = ((e.toNat : Nat) : Int) := (Int.toNat_of_nonneg w0).symm
        have eh : h - e = (((h - e).toNat : Nat) : Int) := (Int.toNat_of_nonneg (by omega)).symm
        walk_at "f"
        refine ⟨rfl, ?_⟩
        walk_at "f"
        refine ⟨f.1, e.toNat, 150, by rw [← ee]; rfl, b1, by omega, by omega, ?_⟩
        walk_at "f"
        refine ⟨f.2, (h - e).toNat, 150, by rw [← eh]; rfl, b2, by omega, by omega, ?_⟩
        refine My.mulW (pow_bd b1 e.toNat) (pow_bd b2 (h - e).toNat) (by omega) ?_
        refine ⟨kvs, .inl e, rfl, hD, by rw [sizeLine_eq]; omega, putK kvs (.inl e) (.int (wgt f h e)), upd_same, ?_, fun e' he' => ?_, fun b' o nb g => by rw [upd_ne nb]; exact b3 _ _ nb g⟩
        · have : (putK kvs (.inl e) (V.int (wgt f h e))).length ≤ kvs.length + 1 := by
            unfold putK
            split
            · rw [List.length_map]; omega
            · rw [List.length_append]; simp
          omega
        · rw [valV_put]
          rw [List.take_succ, er] at he'
          by_cases z : (Sum.inl e' : L2.Key) = .inl e
          · rw [if_pos z]
            cases z; rfl
          · rw [if_neg z]
            rcases List.mem_append.mp he' with g | g
            · exact hv e' g
            · have : e' = e := by simpa using g
              exact absurd (by rw [this]) z
    · rintro H3 ⟨kvs, hD, kl, hv, b3⟩
      rw [List.length_map, List.take_length] at hv
      have s3 : Same H2 H3 := fun c o e => b3 _ _ (ne_of_none e nD) e
      exact q D H3 D0 (s2.trans s3) ⟨kvs, hD, fun p1 hp1 => hv _ ((hmem _).mpr ((hF _).mpr ⟨p1, hp1, rfl⟩))⟩
end
end K23

set_option Elab.async false
set_option linter.all false
set_option maxRecDepth 100000
set_option maxHeartbeats 4000000
namespace K23
open PySem PySem.Spec PyProof.Rows L2 XV DX
def hgt (ts : Pol) (k : Nat) : Int := mx 0 (colP ts k)
def wpK (ts : Pol) (pts : List Fra) (J : List Int) : Nat → Int
  | 0 => 1
  | k + 1 => wpK ts pts J k * wgt (plc pts k) (hgt ts k) (J.getD k 0)
def udK (ts : Pol) (pts : List Fra) : Nat → Int
  | 0 => 1
  | k + 1 => udK ts pts k * (plc pts k).2 ^ (hgt ts k).toNat
def ovS (ts : Pol) (pts : List Fra) (l : Pol) : Int := (l.map fun p => p.2 * wpK ts pts p.1 4).sum
def spWorthP (K : PySem.W.Frag) (C : Addr) : Sp := fun vs H Q _ => ∃ (a x : Addr) (ts : Pol) (fs : List Addr) (pts : List Fra), vs = [.ref a, .ref x] ∧ PolyAt C H a ts ∧ H x = some (.tup (fs.map V.ref)) ∧ Paired (FraAt H) fs pts ∧ pts.length = 4 ∧ (∀ f ∈ pts, FraOk f) ∧ (∀ p ∈ ts, p.1.length = 4 ∧ (∀ j, 0 ≤ p.1.getD j 0 ∧ p.1.getD j 0 ≤ 60) ∧ My.Bd 1000 p.2) ∧ ts.length ≤ 7 ∧ My.Bd 8990 (udK ts pts 4) ∧
  ∀ p H', Same H H' → FraAt H' p (low (ovS ts pts ts) (udK ts pts 4)) → Q (.ref p) H'
theorem wt_put {H : Hp} {D a : Addr} {ys zs : List V} {ts : Pol} {k : Nat} {f : Fra} {h : Int} (e : H D = some (.lst ys)) (w : WtD H a ts k f h) : WtD (upd H D (.lst zs)) a ts k f h := by
  obtain ⟨kvs, h1, h2⟩ := w
  exact ⟨kvs, by rw [upd_ne (fun g => by rw [g, e] at h1; cases h1)]; exact h1, h2⟩
theorem WtD.same {H H' : Hp} {a : Addr} {ts : Pol} {k : Nat} {f : Fra} {h : Int} (s : Same H H') (w : WtD H a ts k f h) : WtD H' a ts k f h := by
  obtain ⟨kvs, h1, h2⟩ := w
  exact ⟨kvs, s _ _ h1, h2⟩
section
variable {P : Program} {w : World} {K : PySem.W.Frag} {mg : Str → Option Value} {base : Heap}
theorem sc_worth : FnScope ["poly", "point", "highs", "k", "weights", "over", "powers", "count", "part", "high", "under", "shared"] ["poly", "point"] (defScope s_worth) := ⟨rfl, rfl, rfl, by decide +kernel, rfl, by decide +kernel, by decide +kernel⟩
theorem cal_worth {f : Addr} {fd : FuncData} {C fI fE : Addr} (F : FnP K "worth" "worth" s_worth f fd) (g : mg "worth" = some (.ref f)) (T : Txt0 mg) (C_is_point : Cal P w K mg base "is_point" 3 ["many", "thing"] (spPoint K)) (C_greatest_powers : Cal P w K mg base "greatest_powers" 1 ["terms"] spGreat) (C_weights_of : Cal P w K mg base "weights_of" 2 ["poly", "k", "most", "place"] (spWeights C)) (C_number_raised : Cal P w K mg base "number_raised" 1 ["base", "many"] spNumR) {tU : Tok} (gUNK : mg "UNKNOWNS" = some (.int 4 tU)) (PT : PolF K mg C fI fE) : Cal P w K mg base "worth" 4 ["poly", "point"] (spWorthP K C) := by
  obtain ⟨f_is_point, fd_is_point, g_is_point, G_is_point, b_is_point, k_is_point⟩ := C_is_point
  obtain ⟨f_greatest_powers, fd_greatest_powers, g_greatest_powers, G_greatest_powers, b_greatest_powers, k_greatest_powers⟩ := C_greatest_powers
  obtain ⟨f_weights_of, fd_weights_of, g_weights_of, G_weights_of, b_weights_of, k_weights_of⟩ := C_weights_of
  obtain ⟨f_number_raised, fd_number_raised, g_number_raised, G_number_raised, b_number_raised, k_number_raised⟩ := C_number_raised
  refine ⟨f, fd, g, ?_, F.bindsN (fun _ _ _ _ _ _ us hl => match us, hl with | [_, _], _ => rfl), F.kp⟩
  refine F.ok sc_worth (fun vs H Q E h => ?_) (fun cdv A outer s H vs Q E hr h => ?_)
  · obtain ⟨a, x, ts, fs, pts, rfl, hp, hx, hf, h4, ok, hw, hl, hU, q⟩ := h
    rfl
  · obtain ⟨a, x, ts, fs, pts, rfl, hp, hx, hf, h4, ok, hw, hl, hU, q⟩ := h
    have hu := hu_of hr
    refine ⟨_, PSs.nox (pss_cons (ps_if (pt_not (pt_val (pe_call G_is_point (hr.mono (by decide)) (by rfl) g_is_point k_is_point b_is_point .nil pass0 (pa_cons (pe_glob (v := .int 4) (by rfl) gUNK ⟨_, rfl⟩) (pa_cons (pv 1) pa_nil)))))
       (pss_one ps_never)
       pss_nil)
      (pss_cons (ps_set (i := 2) sc_worth.nd rfl (Or.inr rfl) (pe_call G_greatest_powers (hr.mono (by decide)) (by rfl) g_greatest_powers k_greatest_powers b_greatest_powers .nil pass0 (pa_cons (pe_fld (pv 0) rfl) pa_nil)))
      (pss_cons (ps_setLc (i := 4) (own := [("k", 3)]) (tt := tYes) (te := tCall (spWeights C) [] (fun _ _ _ => False) (tCons (tVar 0) (tCons (tVar 3) (tCons (tOp (rIxL K) (tVar 2) (tVar 3)) (tCons (tOp (rIxT K) (tVar 1) (tVar 3)) tNil))))) (by rfl) sc_worth.nd rfl rfl (sw_true rfl rfl rfl (by decide +kernel)) (pi_range1 (by rfl) T.range (pa_cons (pe_glob (v := .int 4) (by rfl) gUNK ⟨_, rfl⟩) pa_nil)) (blkOk_by (own := [("k", 3)]) (N := ["poly", "point", "highs", "k", "weights", "over", "powers", "count", "part", "high", "under", "shared"]) (sc := (defScope s_worth)) (by decide +kernel)) (fun _ _ _ _ _ => (pg_name (i := 3) sc_worth.nd rfl (Or.inl rfl))) (fun _ _ _ _ _ => pts_nil) (fun _ _ _ _ _ => (pe_call G_weights_of (hr.mono (by decide)) (by rfl) g_weights_of k_weights_of b_weights_of .nil pass0 (pa_cons (pv 0) (pa_cons (pv 3) (pa_cons (pe_ix ix_list (pv 2) (pv 3) (fun _ _ => rfl)) (pa_cons (pe_ix ix_tup (pv 1) (pv 3) (fun _ _ => rfl)) pa_nil)))))))
      (pss_cons (ps_set (i := 5) sc_worth.nd rfl (Or.inl rfl) pe_int)
      (pss_cons (ps_for PassesOwn.never rfl (pi_tup (pe_fld (pv 0) rfl)) (pg_tup (by rfl) (pgs_cons (pg_name (i := 6) sc_worth.nd rfl (Or.inl rfl)) (pgs_cons (pg_name (i := 7) sc_worth.nd rfl (Or.inl rfl)) pgs_nil)))
       (pss_cons (ps_set (i := 8) sc_worth.nd rfl (Or.inl rfl) (pv 7))
      (pss_cons (ps_for PassesOwn.never rfl (EnT.pi_enumT (by rfl) T.enum (pa_cons (pv 6) pa_nil)) (pg_tup (by rfl) (pgs_cons (pg_name (i := 3) sc_worth.nd rfl (Or.inl rfl)) (pgs_cons (pg_name (i := 9) sc_worth.nd rfl (Or.inl rfl)) pgs_nil)))
       (pss_one (ps_set (i := 8) sc_worth.nd rfl (Or.inl rfl) (pe_op op_mulW (pv 8) (pe_dget hu (pe_ix ix_list (pv 4) (pv 3) (fun _ _ => rfl)) (pv 9) (fun _ _ => rfl))))))
      (pss_one (ps_aug (i := 5) sc_worth.nd rfl (Or.inl rfl) (pv 8) ip_add)))))
      (pss_cons (ps_set (i := 10) sc_worth.nd rfl (Or.inl rfl) pe_int)
      (pss_cons (ps_for PassesOwn.never rfl (pi_enum (by rfl) T.enum (pa_cons (pv 2) pa_nil)) (pg_tup (by rfl) (pgs_cons (pg_name (i := 3) sc_worth.nd rfl (Or.inl rfl)) (pgs_cons (pg_name (i := 9) sc_worth.nd rfl (Or.inl rfl)) pgs_nil)))
       (pss_one (ps_set (i := 10) sc_worth.nd rfl (Or.inl rfl) (pe_op op_mulW (pv 10) (pe_call G_number_raised (hr.mono (by decide)) (by rfl) g_number_raised k_number_raised b_number_raised .nil pass0 (pa_cons (pe_ix ix_tup (pe_ix ix_tup (pv 1) (pv 3) (fun _ _ => rfl)) pe_int (fun _ _ => rfl)) (pa_cons (pv 9) pa_nil)))))))
      (pss_cons (ps_set (i := 11) sc_worth.nd rfl (Or.inl rfl) (pe_callBfun cr_gcd (by rfl) T.gcd (pa_cons (pv 5) (pa_cons (pv 10) pa_nil))))
      (pss_one (ps_ret (pe_tup (pa_cons (pe_op op_fdivW (pv 5) (pv 11)) (pa_cons (pe_op op_fdivW (pv 10) (pv 11)) pa_nil))))))))))))), ?_⟩
    try dsimp only [cxOf, Cx.nox, Cx.wish]
    obtain ⟨dx, t, ha, ht⟩ := id hp
    obtain ⟨rs, ht1, ht2⟩ := id ht
    have hrl := My.plen ht2
    have fl := My.plen hf
    have mx3 : ∀ j, 0 ≤ hgt ts j ∧ hgt ts j ≤ 60 := fun j => ⟨DX.mx_le (fun x hx => by
      obtain ⟨q', hq', rfl⟩ := List.mem_map.mp hx
      exact ((hw q' hq').2.1 j).1) (Int.le_refl 0), mx_up (by decide) fun x hx => by
      obtain ⟨q', hq', rfl⟩ := List.mem_map.mp hx
      exact ((hw q' hq').2.1 j).2⟩
    have pk : ∀ k, k < 4 → ∃ fa, fs[k]? = some fa ∧ FraAt H fa (plc pts k) ∧ FraOk (plc pts k) := fun k hk => by
      obtain ⟨fa, e⟩ : ∃ fa, fs[k]? = some fa := ⟨_, List.getElem?_eq_getElem (by omega)⟩
      obtain ⟨f, e2, h⟩ := My.pget hf e
      have ep : plc pts k = f := by unfold plc; rw [List.getD_eq_getElem?_getD, e2]; rfl
      exact ⟨fa, e, by rw [ep]; exact h, by rw [ep]; exact ok f (List.mem_iff_getElem?.mpr ⟨k, e2⟩)⟩
    walk_at "f"
    refine ⟨x, fs, pts, rfl, hx, hf, h4, ok, fun H1 s1 => ?_⟩
    walk_at "f"
    refine My.fld (s1 _ _ ha) PT.ins.cl PT.na (by rfl) rfl ?_
    walk_at "f"
    refine ⟨t, ts, rfl, ht.same s1, fun p hp => (hw p hp).1, by omega, fun g1 H2 ng s2 hg1 => ?_⟩
    have s12 := s1.trans s2
    walk_at "f"
    have gk : ∀ k : Nat, k < 4 → atI ((greatP ts).map V.int) (k : Int) = some (.int (hgt ts k)) := fun k hk => atI_nat (by rw [List.getElem?_map, greatP_get hk]; rfl)
    refine ⟨4, rfl, by decide, by decide, My.lcM2 walk_range Same (by decide) (fun D hD => same_new hD) fun D nD => ⟨fun j y H => ∃ b, y = .ref b ∧ WtD H b ts j (plc pts j) (hgt ts j), fun j y H ys zs e ⟨b, h1, h2⟩ => ⟨b, h1, wt_put e h2⟩, fun H o s => same_at s nD, fun _ _ _ _ => trivial, ?_, ?_⟩⟩
    · rintro i y H3 H4 ys N hi r e l p' ⟨rfl, rfl⟩ hN
      have i4 : i < 4 := hi
      obtain ⟨fa, ef, hfa, okf⟩ := pk i i4
      walk_at "f"
      refine ⟨rfl, ?_⟩
      walk_at "f"
      refine My.ixL (SqL.of (r _ _ hg1)) (by rw [show (0 : Int) + (i : Int) = (i : Int) by omega]; exact gk i i4) ?_
      walk_at "f"
      refine My.ixT (SqT.of (r _ _ (s12 _ _ hx))) (v := .ref fa) (by rw [show (0 : Int) + (i : Int) = (i : Int) by omega]; exact atI_nat (by rw [List.getElem?_map, ef]; rfl)) ?_
      have s03 := s12.trans r
      refine ⟨a, fa, ts, i, plc pts i, hgt ts i, by rw [show (0 : Int) + (i : Int) = (i : Int) by omega]; rfl, hp.same s03, i4, hfa.same s03, okf.b1, okf.b2, fun p hpm => ⟨(hw p hpm).1, ((hw p hpm).2.1 i).1, mx_ge (List.mem_map.mpr ⟨p, hpm, rfl⟩)⟩, (mx3 i).2, by omega, fun b H5 nb s5 hwt => ?_⟩
      refine hN _ _ (r.trans s5) (s5 _ _ e) (fun j v hv => ?_) ⟨b, rfl, hwt⟩
      obtain ⟨b', h1, h2⟩ := p' j v hv
      exact ⟨b', h1, h2.same s5⟩
    intro H3 ys hD hl4 s3 hy
    have hl4 : ys.length = 4 := hl4
    have s03 := s12.trans s3
    have ha3 := s03 _ _ ha
    obtain ⟨rs3, ht13, ht23⟩ := ht.same s03
    have hrl3 := My.plen ht23
    have wk : ∀ k, k < 4 → ∃ b, ys[k]? = some (.ref b) ∧ WtD H3 b ts k (plc pts k) (hgt ts k) := fun k hk => by
      have e : ys[k]? = some ys[k] := List.getElem?_eq_getElem (by omega)
      obtain ⟨b, h1, h2⟩ := hy k _ e
      exact ⟨b, by rw [e, h1], h2⟩
    walk_at "f"
    refine My.forTe1 ?_
    refine My.fld ha3 PT.ins.cl PT.na (by rfl) rfl ?_
    refine My.forTe (SqT.of ht13) (fun i σ' H' => ∃ (u1 u2 u3 u4 u5 u6 u7 : Option V), σ' = [some (.ref a), some (.ref x), some (.ref g1), u1, some (.ref D), some (.int (ovS ts pts (ts.take i))), u2, u3, u4, u5, u6, u7] ∧ Same H3 H' ∧ My.Bd (38000 + i) (ovS ts pts (ts.take i))) ⟨_, _, _, _, _, _, _, rfl, .refl _, My.Bd.zero⟩ (fun _ _ _ _ ⟨_, _, _, _, _, _, _, _, s', _⟩ => My.same_seqT s' ht13) ?_ ?_
    · rintro i y σ' H4 ex ⟨u1, u2, u3, u4, u5, u6, u7, rfl, s4, B⟩
      rw [List.getElem?_map] at ex
      cases er : rs3[i]? with
      | none => rw [er] at ex; cases ex
      | some r =>
        rw [er] at ex
        cases Option.some.inj ex
        obtain ⟨⟨kk, c⟩, ep, q0, hr1, hq0⟩ := My.pget ht23 er
        have hm := List.mem_iff_getElem?.mpr ⟨i, ep⟩
        obtain ⟨k4, kw, cb⟩ := hw _ hm
        simp only at k4 kw cb hr1 hq0
        have il : i < ts.length := (List.getElem?_eq_some_iff.mp ep).1
        have es : ovS ts pts (ts.take (i + 1)) = ovS ts pts (ts.take i) + c * wpK ts pts kk 4 := by
          unfold ovS
          rw [List.take_succ, ep, List.map_append, List.sum_append]; simp
        rw [es]
        refine My.gtup2 (SqT.of (s4 _ _ hr1)) rfl ?_
        walk_at "f"
        refine EnT.forT1 (My.cons (My.var rfl (My.nil ?_)))
        refine EnT.forT (SqT.of (s4 _ _ hq0)) (fun k σ' H' => ∃ (v1 v2 : Option V), σ' = [some (.ref a), some (.ref x), some (.ref g1), v1, some (.ref D), some (.int (ovS ts pts (ts.take i))), some (.ref q0), some (.int c), some (.int (c * wpK ts pts kk k)), v2, u6, u7] ∧ Same H4 H' ∧ My.Bd (1000 + 9010 * k) (c * wpK ts pts kk k)) ⟨_, _, by rw [show c * wpK ts pts kk 0 = c from Int.mul_one c]; rfl, .refl _, by rw [show c * wpK ts pts kk 0 = c from Int.mul_one c]; exact cb⟩ (fun _ _ _ _ ⟨_, _, _, s', _⟩ => My.same_seqT s' (s4 _ _ hq0)) ?_ ?_
        · rintro k y T σ' H5 ey ⟨v1, v2, rfl, s5, B5⟩ nT
          rw [List.getElem?_map] at ey
          cases ek : kk[k]? with
          | none => rw [ek] at ey; cases ey
          | some e =>
            rw [ek] at ey
            cases Option.some.inj ey
            have k3 : k < 4 := by have := (List.getElem?_eq_some_iff.mp ek).1; omega
            have eg : kk.getD k 0 = e := by rw [List.getD_eq_getElem?_getD, ek]; rfl
            have sT := same_new (o := HO.tup [V.int ((k : Nat) : Int), V.int e]) nT
            obtain ⟨b, eb, kvs, hb, hv⟩ := wk k k3
            obtain ⟨_, _, _, okf⟩ := pk k k3
            have e60 := kw k
            rw [eg] at e60
            have s35 := (s4.trans s5).trans sT
            refine My.gtup2 (SqT.of upd_same) rfl ?_
            walk_at "f"
            refine My.ixL (v := .ref b) (SqL.of (s35 _ _ hD)) (atI_nat eb) ?_
            walk_at "f"
            have hvk := hv _ hm
            simp only [eg] at hvk
            refine ⟨b, .int (wgt (plc pts k) (hgt ts k) e), rfl, .inl ⟨kvs, .inl e, .inl (s35 _ _ hb), rfl, hvk.symm⟩, ?_⟩
            have wb := wgt_bd okf.b1 okf.b2 e60.1 (show e ≤ hgt ts k by rw [← eg]; exact mx_ge (List.mem_map.mpr ⟨_, hm, rfl⟩)) (mx3 k).2
            refine My.mulWk B5 wb (by omega) ?_
            walk_at "f"
            have e1 : c * wpK ts pts kk (k + 1) = c * wpK ts pts kk k * wgt (plc pts k) (hgt ts k) e := by
              rw [Int.mul_assoc, ← eg]; rfl
            rw [e1]
            exact ⟨_, _, rfl, s5.trans sT, (B5.mul wb).mono (by omega)⟩
        · rintro σ' H5 ⟨v1, v2, rfl, s5, B5⟩
          rw [List.length_map, k4] at B5 ⊢
          refine My.aug rfl ?_
          walk_at "f"
          exact ⟨_, _, _, _, _, _, _, rfl, s4.trans s5, My.Bd.add B (B5.mono (show 1000 + 9010 * 4 ≤ 38000 + i by omega))⟩
    · rintro σ' H4 ⟨u1, u2, u3, u4, u5, u6, u7, rfl, s4, B⟩
      rw [List.length_map, hrl3, List.take_length] at B ⊢
      have hg4 := s4 _ _ (s3 _ _ hg1)
      have s04 := s03.trans s4
      have hx4 := s04 _ _ hx
      walk_at "f"
      have gl : (greatP ts).length = 4 := by unfold greatP; rw [List.length_map, List.length_range]
      refine My.forEn1 (My.cons (My.var rfl (My.nil ?_)))
      refine My.forEn (SqL.of hg4) (fun k σ' H' => ∃ (v1 v2 v3 : Option V), σ' = [some (.ref a), some (.ref x), some (.ref g1), v1, some (.ref D), some (.int (ovS ts pts ts)), u2, u3, u4, v2, some (.int (udK ts pts k)), v3] ∧ Same H4 H' ∧ My.Bd (1 + 9001 * k) (udK ts pts k) ∧ 0 < udK ts pts k) ⟨_, _, _, rfl, .refl _, (show (1 : Int).natAbs < 2 ^ 1 by decide), (show (0 : Int) < 1 by decide)⟩ (fun _ _ _ _ ⟨_, _, _, _, s', _⟩ => SqL.of (s' _ _ hg4)) ?_ ?_
      · rintro k y T σ' H5 ey ⟨v1, v2, v3, rfl, s5, B5, P5⟩ nT
        have k4 : k < 4 := by have := (List.getElem?_eq_some_iff.mp ey).1; rw [List.length_map, gl] at this; exact this
        rw [List.getElem?_map, greatP_get k4] at ey
        cases Option.some.inj ey
        have sT := same_new (o := HO.tup [V.int ((k : Nat) : Int), V.int (mx 0 (colP ts k))]) nT
        obtain ⟨fa, ef, hfa, okf⟩ := pk k k4
        have s45 := s5.trans sT
        refine My.gtup2 (SqT.of upd_same) rfl ?_
        walk_at "f"
        refine My.ixT (v := .ref fa) (SqT.of (s45 _ _ hx4)) (atI_nat (by rw [List.getElem?_map, ef]; rfl)) ?_
        walk_at "f"
        refine My.ixT (v := .int (plc pts k).2) (SqT.of ((hfa.same s04).same s45)) (by rfl) ?_
        walk_at "f"
        have hk : hgt ts k = (((hgt ts k).toNat : Nat) : Int) := (Int.toNat_of_nonneg (mx3 k).1).symm
        have h60 := (mx3 k).2
        refine ⟨(plc pts k).2, (hgt ts k).toNat, 150, by rw [← hk]; rfl, okf.b2, by omega, by omega, ?_⟩
        have pb := (pow_bd okf.b2 (hgt ts k).toNat).mono (show (hgt ts k).toNat * 150 + 1 ≤ 9001 by omega)
        refine My.mulWk B5 pb (by omega) ?_
        walk_at "f"
        exact ⟨_, _, _, rfl, s45, (B5.mul pb).mono (by omega), Int.mul_pos P5 (BM.pow_pos okf.pos _)⟩
      · rintro σ' H5 ⟨v1, v2, v3, rfl, s5, B5, P5⟩
        rw [List.length_map, gl] at B5 P5 ⊢
        have hg : 0 < Nat.gcd (ovS ts pts ts).natAbs (udK ts pts 4).natAbs := Nat.gcd_pos_of_pos_right _ (by omega)
        have g0 : (0 : Int) < ((Nat.gcd (ovS ts pts ts).natAbs (udK ts pts 4).natAbs : Nat) : Int) := by omega
        have gb : My.Bd 8990 ((Nat.gcd (ovS ts pts ts).natAbs (udK ts pts 4).natAbs : Nat) : Int) := hU.of_le (by rw [Int.natAbs_natCast]; exact gcd_le P5)
        walk_at "f"
        refine ⟨_, _, rfl, ?_⟩
        walk_at "f"
        refine My.divW (n := 8990) g0 gb (by decide) ?_
        walk_at "f"
        refine My.divW (n := 8990) g0 gb (by decide) ?_
        walk_at "f"
        refine My.new (My.sz (by simp)) fun p np => ?_
        exact q p _ ((s04.trans s5).trans (same_new np)) upd_same
end
end K23

set_option Elab.async false
set_option linter.all false
set_option maxRecDepth 100000
set_option maxHeartbeats 4000000
namespace My
open PySem PySem.Spec PyProof.Rows L2 DX
section
variable {σ : L2.St} {H : Hp} {Q : VK} {K : PySem.W.Frag} {tl te ta : TE} {tr : L2.St → Hp → (Int → Int → Hp → Prop) → Prop} {g : TG} {tt : TT} {vs : List Nat}
theorem prL1 (h : tl σ H fun v H1 => tr σ H1 fun a b H2 => ∃ (l : Addr) (xs : List V) (n : Nat), v = .ref l ∧ SqL K H2 l xs ∧ 0 < xs.length ∧ b = a + n ∧ 0 < n ∧ RgOk a b ∧ LJ (PrI.It xs a n) g tt te vs σ Q H2) : tLc (PrI.iPr K tl tr) g tt te vs σ H Q := h
theorem rg1 {R : Int → Int → Hp → Prop} (h : ta σ H fun x H1 => ∃ n, x = .int n ∧ R 0 n H1) : tRg1 ta σ H R := h
end
end My
namespace K23
open PySem PySem.Spec PyProof.Rows L2 XV DX
def spPlaces : Sp := fun vs H Q _ => ∃ (a : Addr) (ds : List BM.Dm), vs = [.ref a] ∧ H a = some (.lst (ds.map fun d => V.int (d.D : Int))) ∧ ds.length ≤ 3 ∧ cntP ds ≤ 64 ∧
  ∀ p H' rs, Same H H' → H' p = some (.lst (rs.map V.ref)) → Paired (fun r I => KAt H' r (ofN I)) rs (BM.idx ds) → Q (.ref p) H'
theorem flat_get {α β : Type} (F : α → Nat → β) (n : Nat) (n0 : 0 < n) : ∀ (l : List α) (j : Nat), (l.flatMap fun a => (List.range n).map (F a))[j]? = (l[j / n]?).map fun a => F a (j % n)
  | [], j => by simp
  | a :: l, j => by
    rw [List.flatMap_cons]
    by_cases h : j < n
    · rw [List.getElem?_append_left (by rw [List.length_map, List.length_range]; exact h), List.getElem?_map, List.getElem?_range h, Nat.div_eq_of_lt h, Nat.mod_eq_of_lt h]; rfl
    · rw [List.getElem?_append_right (by rw [List.length_map, List.length_range]; omega), List.length_map, List.length_range, flat_get F n n0 l (j - n)]
      obtain ⟨m, rfl⟩ : ∃ m, j = m + n := ⟨j - n, by omega⟩
      rw [Nat.add_sub_cancel, Nat.add_div_right _ n0, Nat.add_mod_right]; rfl
theorem kats_of {H : Hp} : ∀ {ys : List V} {Is : List (List Nat)}, ys.length = Is.length → (∀ (j : Nat) y, ys[j]? = some y → ∃ t I, y = V.ref t ∧ Is[j]? = some I ∧ KAt H t (ofN I)) → ∃ rs : List Addr, ys = rs.map V.ref ∧ Paired (fun r I => KAt H r (ofN I)) rs Is
  | [], [], _, _ => ⟨[], rfl, .nil⟩
  | y :: ys, I :: Is, l, h => by
    obtain ⟨t, I', rfl, h1, h2⟩ := h 0 y rfl
    cases Option.some.inj h1
    obtain ⟨rs, rfl, g⟩ := kats_of (ys := ys) (Is := Is) (Nat.succ.inj l) fun j y e => h (j + 1) y e
    exact ⟨t :: rs, rfl, .cons h2 g⟩
  | [], _ :: _, l, _ => by cases l
  | _ :: _, [], l, _ => by cases l
section
variable {P : Program} {w : World} {K : PySem.W.Frag} {mg : Str → Option Value} {base : Heap}
theorem sc_places_to : FnScope ["highs", "found", "high", "place", "at"] ["highs"] (defScope s_places_to) := ⟨rfl, rfl, rfl, by decide +kernel, rfl, by decide +kernel, by decide +kernel⟩
theorem cal_places_to {f : Addr} {fd : FuncData} (F : FnP K "places_to" "places_to" s_places_to f fd) (g : mg "places_to" = some (.ref f)) (T : Txt0 mg) (gProd : mg "product" = some (.type "itertools.product")) : Cal P w K mg base "places_to" 1 ["highs"] spPlaces := by
  refine ⟨f, fd, g, ?_, F.bindsN (fun _ _ _ _ _ _ us hl => match us, hl with | [_], _ => rfl), F.kp⟩
  refine F.ok sc_places_to (fun vs H Q E h => ?_) (fun cdv A outer s H vs Q E hr h => ?_)
  · obtain ⟨a, ds, rfl, ha, d3, dD, k⟩ := h
    rfl
  · obtain ⟨a, ds, rfl, ha, d3, dD, k⟩ := h
    refine ⟨_, PSs.nox (pss_cons (ps_set (i := 1) sc_places_to.nd rfl (Or.inl rfl) (pe_lst (pa_cons (pe_tup pa_nil) pa_nil)))
      (pss_cons (ps_for PassesOwn.never rfl (pi_list (pv 0)) (pg_name (i := 2) sc_places_to.nd rfl (Or.inl rfl))
       (pss_one (ps_setLc (i := 1) (own := [("place", 3), ("at", 4)]) (tt := tYes) (g := gTup K 2 (gCons (gName 3) (gCons (gName 4) gNil))) (te := tOp (rCatA K) (tVar 3) (tTup (tCons (tVar 4) tNil))) (by rfl) sc_places_to.nd rfl rfl (sw_true rfl rfl rfl (by decide +kernel)) (PrI.pi_prod rfl (by rfl) gProd (pv 1) (prg_1 (by rfl) T.range (pe_op op_add (pv 2) pe_int))) (blkOk_by (own := [("place", 3), ("at", 4)]) (N := ["highs", "found", "high", "place", "at"]) (sc := (defScope s_places_to)) (by decide +kernel)) (fun _ _ _ _ _ => (pg_tup (by rfl) (pgs_cons (pg_name (i := 3) sc_places_to.nd rfl (Or.inl rfl)) (pgs_cons (pg_name (i := 4) sc_places_to.nd rfl (Or.inl rfl)) pgs_nil)))) (fun _ _ _ _ _ => pts_nil) (fun _ _ _ _ _ => (pe_op op_catA (pv 3) (pe_tup (pa_cons (pv 4) pa_nil)))))))
      (pss_one (ps_ret (pv 1))))), ?_⟩
    try dsimp only [cxOf, Cx.nox, Cx.wish]
    have c64 : ∀ i, (BM.idx (ds.take i)).length ≤ 64 := fun i => by
      rw [idx_len]
      exact Nat.le_trans (cntP_take _ i) dD
    walk_at "f"
    refine My.new (My.sz (by simp)) fun p0 n0 => ?_
    have s0 := same_new (o := HO.tup []) n0
    have e0 := upd_same (H := H) (a := p0) (o := HO.tup [])
    generalize upd H p0 (HO.tup []) = H0 at s0 e0 ⊢
    walk_at "f"
    refine My.new (My.sz (by simp)) fun f0 nf0 => ?_
    have s1 := s0.trans (same_new (o := HO.lst [V.ref p0]) nf0)
    have e1 := upd_same (H := H0) (a := f0) (o := HO.lst [V.ref p0])
    have e01 := same_new (o := HO.lst [V.ref p0]) nf0 _ _ e0
    generalize upd H0 f0 (HO.lst [V.ref p0]) = H1 at s1 e1 e01 ⊢
    walk_at "f"
    refine My.lstI (SqL.of (s1 _ _ ha)) (fun i σ' H' => ∃ (f1 : Addr) (rs : List Addr) (u x y : Option V), σ' = [some (.ref a), some (.ref f1), u, x, y] ∧ Same H H' ∧ H' f1 = some (.lst (rs.map V.ref)) ∧ Paired (fun r I => KAt H' r (ofN I)) rs (BM.idx (ds.take i))) ⟨f0, [p0], _, _, _, rfl, s1, e1, .cons e01 .nil⟩ (fun i σ' H' _ ⟨_, _, _, _, _, _, s', _⟩ => SqL.of (s' _ _ ha)) ?_ ?_
    · rintro i x σ' H2 ex ⟨f1, rs, u, x1, y1, rfl, s2, hf, hp⟩
      rw [List.getElem?_map] at ex
      cases ed : ds[i]? with
      | none => rw [ed] at ex; cases ex
      | some dd =>
        rw [ed] at ex
        cases Option.some.inj ex
        have il := (List.getElem?_eq_some_iff.mp ed).1
        have c1 := c64 i
        have c2 := Nat.le_trans (cntP_take ds (i + 1)) dD
        rw [cntP_step ed] at c2
        have dD' : dd.D + 1 ≤ 64 := Nat.le_trans (Nat.le_mul_of_pos_left _ (cntP_pos _)) c2
        rw [← idx_len] at c2
        have rl := My.plen hp
        have et : BM.idx (ds.take (i + 1)) = (BM.idx (ds.take i)).flatMap fun I => (List.range (dd.D + 1)).map fun k => I ++ [k] := by
          rw [List.take_succ, ed]
          exact idx_snoc dd _
        have r0 : 0 < rs.length := by rw [rl, idx_len]; exact cntP_pos _
        have gi : ∀ j, (BM.idx (ds.take (i + 1)))[j]? = ((BM.idx (ds.take i))[j / (dd.D + 1)]?).map fun I => I ++ [j % (dd.D + 1)] := fun j => by rw [et]; exact flat_get (fun I k => I ++ [k]) (dd.D + 1) (Nat.succ_pos _) _ j
        walk_at "f"
        refine My.prL1 (My.var rfl (My.rg1 ?_))
        walk_at "f"
        refine ⟨f1, rs.map V.ref, dd.D + 1, rfl, SqL.of hf, by rw [List.length_map]; exact r0, by omega, Nat.succ_pos _, RgOk.of_le (by decide) (by omega) (by decide) (by omega), My.lcM2 PrI.walk_pr Same (by rw [List.length_map, rl]; omega) (fun D hD => same_new hD) fun D nD => ⟨fun j y H => ∃ t I, y = .ref t ∧ (BM.idx (ds.take (i + 1)))[j]? = some I ∧ KAt H t (ofN I), fun k y H ys zs e ⟨t, I, h1, h0, h2⟩ => ⟨t, I, h1, h0, by show upd H D _ t = _; rw [upd_ne (fun g => by have z : H t = _ := h2; rw [g, e] at z; cases z)]; exact h2⟩, fun H o s => same_at s nD, fun _ _ _ _ => trivial, ?_, ?_⟩⟩
        · rintro j y H3 H4 ys N hj r e l p' ⟨T, v, rfl, nT, rfl, ev⟩ hN
          rw [List.length_map] at hj
          rw [List.getElem?_map] at ev
          cases er : rs[j / (dd.D + 1)]? with
          | none => rw [er] at ev; cases ev
          | some q =>
            rw [er] at ev
            cases Option.some.inj ev
            obtain ⟨I, eI, hq⟩ := My.pget hp er
            have Il : (ofN I).length ≤ 3 := by
              have := (BM.idx_wi (List.mem_iff_getElem?.mpr ⟨_, eI⟩)).2
              rw [List.length_take] at this
              unfold ofN
              rw [List.length_map]; omega
            have sT := same_new (o := HO.tup [V.ref q, V.int (0 + ((j % (dd.D + 1) : Nat) : Int))]) nT
            refine My.gtup2 (SqT.of upd_same) rfl ?_
            refine ⟨rfl, ?_⟩
            have s3 := r.trans sT
            have hq4 := s3 _ _ hq
            walk_at "f"
            refine My.new (My.sz (by simp)) fun t1 n1 => ?_
            have s5 := same_new (o := HO.tup [V.int (0 + ((j % (dd.D + 1) : Nat) : Int))]) n1
            refine My.catA (s5 _ _ hq4) upd_same (by rw [List.length_map]; simp; omega) fun t2 H6 s6 h6 => ?_
            have s36 := (sT.trans s5).trans s6
            have k6 : KAt H6 t2 (ofN (I ++ [j % (dd.D + 1)])) := by
              show H6 t2 = _
              rw [h6, Int.zero_add]
              unfold ofN
              rw [List.map_append, List.map_append]; rfl
            refine hN _ _ (r.trans s36) (s36 _ _ e) (fun m z hz => ?_) ⟨t2, I ++ [j % (dd.D + 1)], rfl, by rw [gi, eI]; rfl, k6⟩
            obtain ⟨t', I', g1, g2, g3⟩ := p' m z hz
            exact ⟨t', I', g1, g2, s36 _ _ g3⟩
        · intro H3 ys hD hl r hy
          rw [List.length_map, rl] at hl
          obtain ⟨rs2, rfl, hp2⟩ := kats_of (Is := BM.idx (ds.take (i + 1))) (by
            rw [hl, et, flat_len (c := dd.D + 1) (fun I => by rw [List.length_map, List.length_range])]) hy
          exact ⟨D, rs2, _, _, _, rfl, s2.trans r, hD, hp2⟩
    · rintro σ' H2 ⟨f1, rs, u, x1, y1, rfl, s2, hf, hp⟩
      rw [List.length_map, List.take_length] at hp
      walk_at "f"
      exact k f1 H2 rs s2 hf hp
end
end K23

set_option Elab.async false
set_option linter.all false
set_option maxRecDepth 100000
set_option maxHeartbeats 4000000
namespace K23
open PySem PySem.Spec PyProof.Rows L2 XV DX
def whA : List BM.Dm → Int
  | [] => 1
  | d :: ds => d.U ^ d.D * whA ds
def chA : List BM.Dm → List Nat → Int
  | d :: ds, I => BM.ch d.D (I.headD 0) * chA ds I.tail
  | [], _ => 1
theorem whA_snoc (d : BM.Dm) : ∀ ds, whA (ds ++ [d]) = whA ds * d.U ^ d.D
  | [] => by show d.U ^ d.D * 1 = 1 * d.U ^ d.D; rw [Int.mul_one, Int.one_mul]
  | e :: ds => by
    show _ * whA (ds ++ [d]) = _ * whA ds * _
    rw [whA_snoc d ds, Int.mul_assoc]
theorem chA_snoc (d : BM.Dm) : ∀ (ds : List BM.Dm) (I : List Nat), chA (ds ++ [d]) I = chA ds I * BM.ch d.D (I.getD ds.length 0)
  | [], I => by
    show BM.ch d.D (I.headD 0) * 1 = 1 * _
    rw [Int.mul_one, Int.one_mul]
    congr 1
    cases I <;> rfl
  | e :: ds, I => by
    show _ * chA (ds ++ [d]) I.tail = _ * chA ds I.tail * _
    rw [chA_snoc d ds, Int.mul_assoc]
    congr 1
    congr 1
    congr 1
    cases I <;> rfl
theorem kapA_wh : ∀ (ds : List BM.Dm) (I : List Nat), BM.kapA ds I = whA ds * chA ds I
  | [], _ => rfl
  | d :: ds, I => by
    show BM.kap d (I.headD 0) * BM.kapA ds I.tail = d.U ^ d.D * whA ds * (BM.ch d.D (I.headD 0) * chA ds I.tail)
    rw [kapA_wh ds I.tail]
    unfold BM.kap
    grind
/-- a count as the program tells it -/
def cntR (ts : Pol) (sts : List Str2) (I : List Nat) : Fra := low (BM.rowV (dmsP ts sts) (natP (cutP sts.length ts)) I) (BM.kapA (dmsP ts sts) I)
def spCntO (C : Addr) : Sp := fun vs H Q _ => ∃ (a b : Addr) (ts : Pol) (sts : List Str2), vs = [.ref a, .ref b] ∧ PolyAt C H a ts ∧ BoxAt H b sts ∧ Spr ts sts ∧ (∀ I ∈ BM.idx (dmsP ts sts), My.Bd 8990 (BM.kapA (dmsP ts sts) I)) ∧
  ∀ d H' rs, H d = none → Same H H' → H' d = some (.dT (List.zipWith (fun I r => (ik (ofN I), V.ref r)) (BM.idx (dmsP ts sts)) rs)) → Paired (fun r I => FraAt H' r (cntR ts sts I)) rs (BM.idx (dmsP ts sts)) → Q (.ref d) H'
theorem highs_eq {ts : Pol} {sts : List Str2} (h3 : sts.length ≤ 3) (nn : ∀ j, 0 ≤ mx 0 (colP ts j)) : ((greatP ts).take sts.length).map V.int = (dmsP ts sts).map fun d => V.int (d.D : Int) := by
  refine List.ext_getElem? fun j => ?_
  rw [List.getElem?_map, List.getElem?_map]
  by_cases hj : j < sts.length
  · rw [List.getElem?_take_of_lt hj, greatP_get (by omega), dms_get h3 (List.getElem?_eq_getElem hj)]
    show some (V.int _) = some (V.int (((mx 0 (colP ts j)).toNat : Nat) : Int))
    rw [Int.toNat_of_nonneg (nn j)]
  · rw [List.getElem?_eq_none (by rw [List.length_take]; omega), List.getElem?_eq_none (by rw [dms_len h3]; omega)]; rfl
theorem row_at {ds : List BM.Dm} {ts rows : Pol} (h : RowsAt ds ts ds.length rows) {I : List Nat} (hI : I ∈ BM.idx ds) : val rows (ofN I) = BM.rowV ds (natP ts) I := by
  obtain ⟨w, l⟩ := BM.idx_wi hI
  have v := h.val (ofN I) (by unfold ofN; rw [List.length_map]; exact l) fun j d hj hd => by
    have := wi_iff.mp w j d hd
    unfold ofN
    rw [getD_ofNat]; omega
  rw [v]
  unfold BM.rowV natP
  rw [List.map_map]
  congr 1
  refine List.map_congr_left fun t _ => ?_
  show t.2 * wtK ds ds.length t.1 (ofN I) = t.2 * BM.wtA ds (t.1.map Int.toNat) I
  rw [wtK_all]
  congr 2
  unfold ofN
  rw [List.map_map]
  have : (Int.toNat ∘ Int.ofNat) = (id : Nat → Nat) := by funext n; rfl
  rw [this, List.map_id]
section
variable {P : Program} {w : World} {K : PySem.W.Frag} {mg : Str → Option Value} {base : Heap}
theorem sc_counts_over : FnScope ["poly", "box", "highs", "rows", "whole", "high", "stretch", "found", "place", "under", "at"] ["poly", "box"] (defScope s_counts_over) := ⟨rfl, rfl, rfl, by decide +kernel, rfl, by decide +kernel, by decide +kernel⟩
theorem cal_counts_over {f : Addr} {fd : FuncData} {C : Addr} (F : FnP K "counts_over" "counts_over" s_counts_over f fd) (g : mg "counts_over" = some (.ref f)) (T : Txt0 mg) (C_is_box_for : Cal P w K mg base "is_box_for" 5 ["poly", "thing"] (spBoxFor C)) (C_spread : Cal P w K mg base "spread" 4 ["poly", "box"] (spSpread C)) (C_number_raised : Cal P w K mg base "number_raised" 1 ["base", "many"] spNumR) (C_shared_bottom : Cal P w K mg base "shared_bottom" 1 ["stretch"] spShared) (C_places_to : Cal P w K mg base "places_to" 1 ["highs"] spPlaces) (C_ratio : Cal P w K mg base "ratio" 1 ["over", "under"] spRatio) (gComb : mg "comb" = some (.builtin "math.comb")) : Cal P w K mg base "counts_over" 6 ["poly", "box"] (spCntO C) := by
  obtain ⟨f_is_box_for, fd_is_box_for, g_is_box_for, G_is_box_for, b_is_box_for, k_is_box_for⟩ := C_is_box_for
  obtain ⟨f_spread, fd_spread, g_spread, G_spread, b_spread, k_spread⟩ := C_spread
  obtain ⟨f_number_raised, fd_number_raised, g_number_raised, G_number_raised, b_number_raised, k_number_raised⟩ := C_number_raised
  obtain ⟨f_shared_bottom, fd_shared_bottom, g_shared_bottom, G_shared_bottom, b_shared_bottom, k_shared_bottom⟩ := C_shared_bottom
  obtain ⟨f_places_to, fd_places_to, g_places_to, G_places_to, b_places_to, k_places_to⟩ := C_places_to
  obtain ⟨f_ratio, fd_ratio, g_ratio, G_ratio, b_ratio, k_ratio⟩ := C_ratio
  refine ⟨f, fd, g, ?_, F.bindsN (fun _ _ _ _ _ _ us hl => match us, hl with | [_, _], _ => rfl), F.kp⟩
  refine F.ok sc_counts_over (fun vs H Q E h => ?_) (fun cdv A outer s H vs Q E hr h => ?_)
  · obtain ⟨a, b, ts, sts, rfl, hp, hb, sp, hK, q⟩ := h
    rfl
  · obtain ⟨a, b, ts, sts, rfl, hp, hb, sp, hK, q⟩ := h
    have hu := hu_of hr
    refine ⟨_, PSs.nox (pss_cons (ps_if (pt_not (pt_val (pe_call G_is_box_for (hr.mono (by decide)) (by rfl) g_is_box_for k_is_box_for b_is_box_for .nil pass0 (pa_cons (pv 0) (pa_cons (pv 1) pa_nil)))))
       (pss_one ps_never)
       pss_nil)
      (pss_cons (ps_asg (pe_call G_spread (hr.mono (by decide)) (by rfl) g_spread k_spread b_spread .nil pass0 (pa_cons (pv 0) (pa_cons (pv 1) pa_nil))) (pg_tup (by rfl) (pgs_cons (pg_name (i := 2) sc_counts_over.nd rfl (Or.inl rfl)) (pgs_cons (pg_name (i := 3) sc_counts_over.nd rfl (Or.inl rfl)) pgs_nil))))
      (pss_cons (ps_set (i := 4) sc_counts_over.nd rfl (Or.inl rfl) pe_int)
      (pss_cons (ps_for PassesOwn.never rfl (ZLT.pi_zipLT (by rfl) T.zip (pa_cons (pv 2) (pa_cons (pv 1) pa_nil))) (pg_tup (by rfl) (pgs_cons (pg_name (i := 5) sc_counts_over.nd rfl (Or.inl rfl)) (pgs_cons (pg_name (i := 6) sc_counts_over.nd rfl (Or.inl rfl)) pgs_nil)))
       (pss_one (ps_set (i := 4) sc_counts_over.nd rfl (Or.inl rfl) (pe_op op_mulW (pv 4) (pe_call G_number_raised (hr.mono (by decide)) (by rfl) g_number_raised k_number_raised b_number_raised .nil pass0 (pa_cons (pe_ix ix_tup (pe_call G_shared_bottom (hr.mono (by decide)) (by rfl) g_shared_bottom k_shared_bottom b_shared_bottom .nil pass0 (pa_cons (pv 6) pa_nil)) pe_int (fun _ _ => rfl)) (pa_cons (pv 5) pa_nil)))))))
      (pss_cons (ps_set (i := 7) sc_counts_over.nd rfl (Or.inl rfl) pe_dnewT)
      (pss_cons (ps_for PassesOwn.never rfl (pi_list (pe_call G_places_to (hr.mono (by decide)) (by rfl) g_places_to k_places_to b_places_to .nil pass0 (pa_cons (pv 2) pa_nil))) (pg_name (i := 8) sc_counts_over.nd rfl (Or.inl rfl))
       (pss_cons (ps_set (i := 9) sc_counts_over.nd rfl (Or.inl rfl) (pv 4))
      (pss_cons (ps_for PassesOwn.never rfl (ZLT.pi_zipLT (by rfl) T.zip (pa_cons (pv 2) (pa_cons (pv 8) pa_nil))) (pg_tup (by rfl) (pgs_cons (pg_name (i := 5) sc_counts_over.nd rfl (Or.inl rfl)) (pgs_cons (pg_name (i := 10) sc_counts_over.nd rfl (Or.inl rfl)) pgs_nil)))
       (pss_one (ps_set (i := 9) sc_counts_over.nd rfl (Or.inl rfl) (pe_op op_mulW (pv 9) (pe_callBfun DX.cr_comb (by rfl) gComb (pa_cons (pv 5) (pa_cons (pv 10) pa_nil)))))))
      (pss_one (ps_dput hu (pv 7) (pv 8) (pe_call G_ratio (hr.mono (by decide)) (by rfl) g_ratio k_ratio b_ratio .nil pass0 (pa_cons (pe_dget2 hu (pv 3) (pv 8) pe_int ⟨rfl, rfl, rfl, rfl⟩) (pa_cons (pv 9) pa_nil))) rfl)))))
      (pss_one (ps_ret (pv 7))))))))), ?_⟩
    try dsimp only [cxOf, Cx.nox, Cx.wish]
    have h3 := sp.b3
    have sp0 := sp
    have mx3 : ∀ j, 0 ≤ mx 0 (colP ts j) ∧ mx 0 (colP ts j) ≤ 60 := fun j => ⟨DX.mx_le (fun x hx => by
      obtain ⟨q', hq', rfl⟩ := List.mem_map.mp hx
      exact (sp.wi q' hq' j).1) (Int.le_refl 0), mx_up (by decide) fun x hx => by
      obtain ⟨q', hq', rfl⟩ := List.mem_map.mp hx
      exact (sp.wi q' hq' j).2⟩
    have dl := dms_len (ts := ts) h3
    have dsok : ∀ d ∈ dmsP ts sts, d.Ok := fun d hd => by
      obtain ⟨j, hj⟩ := List.mem_iff_getElem?.mp hd
      obtain ⟨jl, _⟩ := dms_of h3 hj
      rw [dms_get h3 (List.getElem?_eq_getElem jl)] at hj
      cases hj
      exact mkDm_ok (sp.ok _ (List.getElem_mem jl))
    walk_at "f"
    refine ⟨a, b, ts, sts, rfl, hp, hb, sp, fun H1 s1 => ?_⟩
    walk_at "f"
    refine ⟨a, b, ts, sts, rfl, hp.same s1, hb.same s1, sp, fun T h r rows H2 nT s2 hT hh hr rw_ rl => ?_⟩
    rw [highs_eq h3 fun j => (mx3 j).1] at hh
    have s12 := s1.trans s2
    refine My.gtup2 (SqT.of hT) rfl ?_
    obtain ⟨bs, hb1, hb2⟩ := hb.same s12
    have bl := My.plen hb2
    walk_at "f"
    refine ZLT.forZ1 ?_
    walk_at "f"
    refine ZLT.forZ (SqL.of hh) (SqT.of hb1) (by rw [List.length_map, List.length_map, dl, bl]) (fun i σ' H' => ∃ (u1 u2 u3 u4 u5 u6 : Option V), σ' = [some (.ref a), some (.ref b), some (.ref h), some (.ref r), some (.int (whA ((dmsP ts sts).take i))), u1, u2, u3, u4, u5, u6] ∧ Same H2 H' ∧ My.Bd (1 + 18001 * i) (whA ((dmsP ts sts).take i))) ⟨_, _, _, _, _, _, rfl, .refl _, (show (1 : Int).natAbs < 2 ^ 1 by decide)⟩ (fun _ _ _ _ ⟨_, _, _, _, _, _, _, s', _⟩ => ⟨SqL.of (s' _ _ hh), SqT.of (s' _ _ hb1)⟩) ?_ ?_
    · rintro i x y T2 σ' H3 ex ey ⟨u1, u2, u3, u4, u5, u6, rfl, s3, B⟩ nT2
      rw [List.getElem?_map] at ex ey
      cases ed : (dmsP ts sts)[i]? with
      | none => rw [ed] at ex; cases ex
      | some d =>
        rw [ed] at ex
        cases Option.some.inj ex
        cases eb : bs[i]? with
        | none => rw [eb] at ey; cases ey
        | some sa =>
          rw [eb] at ey
          cases Option.some.inj ey
          obtain ⟨s0, es0, hs0⟩ := My.pget hb2 eb
          have edm := dms_get (ts := ts) h3 es0
          rw [ed] at edm
          cases Option.some.inj edm
          have il : i < sts.length := (List.getElem?_eq_some_iff.mp es0).1
          have ok0 := sp.ok s0 (List.mem_iff_getElem?.mpr ⟨i, es0⟩)
          have sT2 := same_new (o := HO.tup [V.int (((mx 0 (colP ts i)).toNat : Nat) : Int), V.ref sa]) nT2
          have UB : My.Bd 300 (mkDm 0 s0).U := lcm_bd ok0.lo.b2 ok0.hi.b2
          have d60 : (mx 0 (colP ts i)).toNat ≤ 60 := by have := (mx3 i).2; omega
          refine My.gtup2 (SqT.of upd_same) rfl ?_
          walk_at "f"
          refine ⟨sa, s0, rfl, (hs0.same s3).same sT2, ok0, fun p np => ?_⟩
          have sp1 := same_new (o := HO.tup [V.int (mkDm 0 s0).L, V.int (mkDm 0 s0).H, V.int (mkDm 0 s0).U]) np
          walk_at "f"
          refine My.ixT (v := .int (mkDm 0 s0).U) (SqT.of upd_same) (by rfl) ?_
          walk_at "f"
          refine ⟨(mkDm 0 s0).U, (mx 0 (colP ts i)).toNat, 300, rfl, UB, by omega, by omega, ?_⟩
          have pb := (pow_bd UB (mx 0 (colP ts i)).toNat).mono (show (mx 0 (colP ts i)).toNat * 300 + 1 ≤ 18001 by omega)
          refine My.mulWk B pb (by omega) ?_
          walk_at "f"
          have et : whA ((dmsP ts sts).take (i + 1)) = whA ((dmsP ts sts).take i) * (mkDm 0 s0).U ^ (mx 0 (colP ts i)).toNat := by
            rw [List.take_succ, ed]
            exact whA_snoc _ _
          rw [et]
          exact ⟨_, _, _, _, _, _, rfl, (s3.trans sT2).trans sp1, (B.mul pb).mono (by omega)⟩
    · rintro σ' H3 ⟨u1, u2, u3, u4, u5, u6, rfl, s3, B⟩
      rw [List.length_map, List.take_length] at B ⊢
      rw [dl] at B
      walk_at "f"
      refine My.dnewT fun fd nfd => ?_
      have s4 := s3.trans (same_new (o := HO.dT []) nfd)
      have hf4 := upd_same (H := H3) (a := fd) (o := HO.dT [])
      have nfd2 : H2 fd = none := s3.free nfd
      have nfd0 : H fd = none := s12.free nfd2
      generalize upd H3 fd (HO.dT []) = H4 at s4 hf4 ⊢
      have hh4 := s4 _ _ hh
      have hfd : h ≠ fd := ne_of_none hh nfd2
      have hr2 : H2 r = some (.dT (kvI rows)) := hr
      have rfd : r ≠ fd := ne_of_none hr2 nfd2
      have hr4 := s4 _ _ hr2
      walk_at "f"
      refine ⟨h, dmsP ts sts, rfl, hh4, by rw [dl]; exact h3, sp.cnt, fun gi H5 rs s5 hgi hpi => ?_⟩
      have hf5 := s5 _ _ hf4
      have hh5 := s5 _ _ hh4
      have hr5 := s5 _ _ hr4
      have ifd : gi ≠ fd := fun z => by rw [z, hf5] at hgi; cases hgi
      have rl2 := My.plen hpi
      have ind := idx_nd (dmsP ts sts)
      walk_at "f"
      refine My.lstI (SqL.of hgi) (fun i σ' H' => ∃ (ks : List Addr) (u1 u2 u4 u5 u6 : Option V), σ' = [some (.ref a), some (.ref b), some (.ref h), some (.ref r), some (.int (whA (dmsP ts sts))), u1, u2, some (.ref fd), u4, u5, u6] ∧ But fd H5 H' ∧ H' fd = some (.dT (List.zipWith (fun I r => (ik (ofN I), V.ref r)) ((BM.idx (dmsP ts sts)).take i) ks)) ∧ Paired (fun r I => FraAt H' r (cntR ts sts I)) ks ((BM.idx (dmsP ts sts)).take i)) ⟨[], _, _, _, _, _, rfl, .refl _ _, hf5, .nil⟩ (fun i σ' H' _ ⟨_, _, _, _, _, _, _, b', _⟩ => SqL.of (b' _ _ ifd hgi)) ?_ ?_
      · rintro i x σ' H6 ex ⟨ks, u1, u2, u4, u5, u6, rfl, b6, hf6, hk6⟩
        rw [List.getElem?_map] at ex
        cases er : rs[i]? with
        | none => rw [er] at ex; cases ex
        | some pl =>
          rw [er] at ex
          cases Option.some.inj ex
          obtain ⟨I, eI, hpl⟩ := My.pget hpi er
          have memI := List.mem_iff_getElem?.mpr ⟨i, eI⟩
          obtain ⟨wI, lI⟩ := BM.idx_wi memI
          have keep : ∀ {c o}, H5 c = some o → c ≠ fd → H6 c = some o := fun e n => b6 _ _ n e
          have plfd : pl ≠ fd := fun z => by have e : H5 pl = _ := hpl; rw [z, hf5] at e; cases e
          have hpl6 : H6 pl = some (.tup ((ofN I).map V.int)) := keep hpl plfd
          have hh6 := keep hh5 hfd
          have hr6 := keep hr5 rfd
          have kB := hK I memI
          walk_at "f"
          refine ZLT.forZ1 ?_
          walk_at "f"
          refine ZLT.forZ (SqL.of hh6) (SqT.of hpl6) (by unfold ofN; rw [List.length_map, List.length_map, List.length_map, lI]) (fun j σ' H' => ∃ (v1 v5 : Option V), σ' = [some (.ref a), some (.ref b), some (.ref h), some (.ref r), some (.int (whA (dmsP ts sts))), v1, u2, some (.ref fd), some (.ref pl), some (.int (whA (dmsP ts sts) * chA ((dmsP ts sts).take j) I)), v5] ∧ Same H6 H' ∧ My.Bd (1 + 18001 * sts.length + 64 * j) (whA (dmsP ts sts) * chA ((dmsP ts sts).take j) I)) ⟨_, _, by rw [show chA ((dmsP ts sts).take 0) I = 1 from rfl, Int.mul_one]; rfl, .refl _, by rw [show chA ((dmsP ts sts).take 0) I = 1 from rfl, Int.mul_one]; exact B⟩ (fun _ _ _ _ ⟨_, _, _, s', _⟩ => ⟨SqL.of (s' _ _ hh6), SqT.of (s' _ _ hpl6)⟩) ?_ ?_
          · rintro j x y T2 σ' H7 ex ey ⟨v1, v5, rfl, s7, B7⟩ nT2
            rw [List.getElem?_map] at ex ey
            cases ed : (dmsP ts sts)[j]? with
            | none => rw [ed] at ex; cases ex
            | some d =>
              rw [ed] at ex
              cases Option.some.inj ex
              have jl : j < sts.length := by have := (List.getElem?_eq_some_iff.mp ed).1; omega
              have edm := dms_get (ts := ts) h3 (List.getElem?_eq_getElem jl)
              have dD : d.D = (mx 0 (colP ts j)).toNat := (dms_of h3 ed).2
              have d60 : d.D ≤ 60 := by have := (mx3 j).2; omega
              have Ij : I.getD j 0 ≤ d.D := wi_iff.mp wI j _ ed
              have eIj : (ofN I)[j]? = some ((I.getD j 0 : Nat) : Int) := by
                unfold ofN
                rw [List.getElem?_map, List.getD_eq_getElem?_getD, List.getElem?_eq_getElem (show j < I.length by rw [lI, dl]; exact jl)]; rfl
              rw [eIj] at ey
              cases Option.some.inj ey
              have sT2 := same_new (o := HO.tup [V.int (d.D : Int), V.int ((I.getD j 0 : Nat) : Int)]) nT2
              refine My.gtup2 (SqT.of upd_same) rfl ?_
              walk_at "f"
              refine ⟨d.D, I.getD j 0, rfl, Ij, by omega, ?_⟩
              have cB : My.Bd 64 (BM.ch d.D (I.getD j 0)) := ch_bd d60
              refine My.mulWk B7 cB (by omega) ?_
              walk_at "f"
              have et : chA ((dmsP ts sts).take (j + 1)) I = chA ((dmsP ts sts).take j) I * BM.ch d.D (I.getD j 0) := by
                rw [List.take_succ, ed]
                have := chA_snoc d ((dmsP ts sts).take j) I
                rw [List.length_take, show min j (dmsP ts sts).length = j by omega] at this
                exact this
              rw [et, ← Int.mul_assoc]
              exact ⟨_, _, rfl, s7.trans sT2, (B7.mul cB).mono (by omega)⟩
          · rintro σ' H7 ⟨v1, v5, rfl, s7, B7⟩
            rw [List.length_map, List.take_length, ← kapA_wh] at *
            have hr7 := s7 _ _ hr6
            have hf7 := s7 _ _ hf6
            have hpl7 : H7 pl = some (.tup ((ik (ofN I)).map kV)) := by rw [ik_kV]; exact s7 _ _ hpl6
            have hk7 := Paired.mapP hk6 fun c I' (z : FraAt H6 c (cntR ts sts I')) => z.same s7
            walk_at "f"
            refine ⟨r, rfl, .inr ⟨_, .inl hr7⟩, ?_⟩
            walk_at "f"
            refine ⟨_, DGet.t hr7 hpl7, ?_⟩
            walk_at "f"
            have eg : (valV (kvI rows) (ik (ofN I))).getD (.int 0) = .int (val rows (ofN I)) := by
              rw [valV_kvI]
              unfold val
              cases getP rows (ofN I) <;> rfl
            rw [eg]
            rw [row_at rw_ memI]
            have kp := BM.kapA_pos dsok wI
            refine ⟨_, _, rfl, kp, kB, fun p np => ?_⟩
            have sp := same_new (o := HO.tup [V.int (low (BM.rowV (dmsP ts sts) (natP (cutP sts.length ts)) I) (BM.kapA (dmsP ts sts) I)).1, V.int (low (BM.rowV (dmsP ts sts) (natP (cutP sts.length ts)) I) (BM.kapA (dmsP ts sts) I)).2]) np
            have hp9 : FraAt (upd H7 p (HO.tup [V.int (low (BM.rowV (dmsP ts sts) (natP (cutP sts.length ts)) I) (BM.kapA (dmsP ts sts) I)).1, V.int (low (BM.rowV (dmsP ts sts) (natP (cutP sts.length ts)) I) (BM.kapA (dmsP ts sts) I)).2])) p (cntR ts sts I) := upd_same
            have hr9 := sp _ _ hpl7
            have hf9 := sp _ _ hf7
            have hk9 := Paired.mapP hk7 fun c I' (z : FraAt H7 c (cntR ts sts I')) => z.same sp
            have b9 := (b6.trans (Same.but s7)).trans (Same.but sp)
            generalize upd H7 p _ = H9 at hp9 hr9 hf9 hk9 b9 ⊢
            walk_at "f"
            have kl := My.plen hk9
            rw [List.length_take] at kl
            have il : i < (BM.idx (dmsP ts sts)).length := (List.getElem?_eq_some_iff.mp eI).1
            have eti : (BM.idx (dmsP ts sts)).take (i + 1) = (BM.idx (dmsP ts sts)).take i ++ [I] := by rw [List.take_succ, eI]; rfl
            have i64 : (BM.idx (dmsP ts sts)).length ≤ 1000 := by
              rw [idx_len]
              exact Nat.le_trans sp0.cnt (by decide)
            have tnf : ∀ c xs, H9 c = some (.tup xs) → c ≠ fd := fun c xs e z => by rw [z, hf9] at e; cases e
            refine ⟨fd, _, rfl, DPut.t hf9 hr9 (by rw [List.length_zipWith, sizeLine_eq, List.length_take]; omega), ?_⟩
            refine ⟨ks ++ [p], _, _, _, _, _, rfl, fun c o nb e => by rw [upd_ne nb]; exact b9 _ _ nb e, ?_, ?_⟩
            · rw [upd_same, putK_off, eti, List.zipWith_append (by rw [List.length_take]; omega)]
              · rfl
              · intro p' hp' e
                obtain ⟨jj, hjj⟩ := List.mem_iff_getElem?.mp hp'
                rw [List.getElem?_zipWith] at hjj
                cases e1 : ((BM.idx (dmsP ts sts)).take i)[jj]? with
                | none => rw [e1] at hjj; cases hjj
                | some J =>
                  cases e2 : ks[jj]? with
                  | none => rw [e1, e2] at hjj; cases hjj
                  | some kr =>
                    rw [e1, e2] at hjj
                    cases Option.some.inj hjj
                    have eJI : J = I := map_inj (fun x y z => Int.ofNat.inj z) (ik_inj e)
                    have jl : jj < i := by
                      have := (List.getElem?_eq_some_iff.mp e1).1
                      rw [List.length_take] at this
                      omega
                    rw [List.getElem?_take_of_lt jl, eJI, ← eI] at e1
                    have := (List.getElem?_inj (by omega) ind).mp e1
                    omega
            · rw [eti]
              refine papp (Paired.mapP hk9 fun c I' (z : FraAt H9 c (cntR ts sts I')) => (by show upd H9 fd _ c = _; rw [upd_ne (tnf _ _ z)]; exact z : FraAt _ c (cntR ts sts I'))) (.cons ?_ .nil)
              show upd H9 fd _ p = _
              rw [upd_ne (tnf _ _ hp9)]
              exact hp9
      · rintro σ' H6 ⟨ks, u1, u2, u4, u5, u6, rfl, b6, hf6, hk6⟩
        rw [List.length_map, rl2, List.take_length] at hf6 hk6
        walk_at "f"
        exact q fd H6 ks nfd0 (fun c o e => b6 _ _ (ne_of_none e nfd0) (s5 _ _ (s4 _ _ (s12 _ _ e)))) hf6 hk6
end
end K23

set_option Elab.async false
set_option linter.all false
set_option maxRecDepth 100000
set_option maxHeartbeats 4000000
/-! lowest terms are unique; shares -/
namespace K23
open PySem PySem.Spec PyProof.Rows L2 XV DX
theorem low_eq {t b u c : Int} (hb : 0 < b) (hc : 0 < c) (h : t * c = u * b) : low t b = low u c := by
  obtain ⟨g, g0, e1, e2, _⟩ := low_div (t := t) hb
  obtain ⟨k, k0, f1, f2, _⟩ := low_div (t := u) hc
  have r1 := low_red (t := t) hb
  have r2 := low_red (t := u) hc
  have p1 := low_pos (t := t) hb
  have p2 := low_pos (t := u) hc
  refine Prod.ext ?_ ?_ <;>
  · generalize (low t b).1 = x1 at *
    generalize (low t b).2 = x2 at *
    generalize (low u c).1 = y1 at *
    generalize (low u c).2 = y2 at *
    have hx : x1 * y2 = y1 * x2 := by
      have z : (x1 * y2) * (g * k) = (y1 * x2) * (g * k) := by
        calc (x1 * y2) * (g * k) = (x1 * g) * (y2 * k) := by grind
          _ = t * c := by rw [← e1, ← f2]
          _ = u * b := h
          _ = (y1 * k) * (x2 * g) := by rw [← f1, ← e2]
          _ = _ := by grind
      exact Int.eq_of_mul_eq_mul_right (by have := Int.mul_pos g0 k0; omega) z
    have hn : x1.natAbs * y2.natAbs = y1.natAbs * x2.natAbs := by rw [← Int.natAbs_mul, ← Int.natAbs_mul, hx]
    have d1 : x2.natAbs ∣ y2.natAbs := by
      have : x2.natAbs ∣ y2.natAbs * x1.natAbs := ⟨y1.natAbs, by rw [Nat.mul_comm y2.natAbs, hn, Nat.mul_comm]⟩
      exact Nat.Coprime.dvd_of_dvd_mul_right (Nat.Coprime.symm r1) this
    have d2 : y2.natAbs ∣ x2.natAbs := by
      have : y2.natAbs ∣ x2.natAbs * y1.natAbs := ⟨x1.natAbs, by rw [Nat.mul_comm x2.natAbs, ← hn, Nat.mul_comm]⟩
      exact Nat.Coprime.dvd_of_dvd_mul_right (Nat.Coprime.symm r2) this
    have e : x2 = y2 := by
      have := Nat.dvd_antisymm d1 d2
      omega
    first
      | exact e
      | (rw [e] at hx; exact Int.eq_of_mul_eq_mul_right (by omega) hx)
theorem low_zero {b : Int} (hb : 0 < b) : low 0 b = (0, 1) := by
  have e : ((Nat.gcd (0 : Int).natAbs b.natAbs : Nat) : Int) = b := by
    rw [show (0 : Int).natAbs = 0 from rfl, Nat.gcd_zero_left]; omega
  unfold low
  rw [e, Int.zero_ediv, Int.ediv_self (by omega)]
theorem low_cross {t b : Int} (hb : 0 < b) : t * (low t b).2 = (low t b).1 * b := by
  obtain ⟨g, g0, e1, e2, _⟩ := low_div (t := t) hb
  calc t * (low t b).2 = ((low t b).1 * g) * (low t b).2 := by rw [← e1]
    _ = (low t b).1 * ((low t b).2 * g) := by grind
    _ = _ := by rw [← e2]
theorem low_bd {t b : Int} {n : Nat} (hb : 0 < b) (h : My.Bd n t) : My.Bd n (low t b).1 := by
  obtain ⟨g, g0, e1, _, _⟩ := low_div (t := t) hb
  refine h.of_le ?_
  have : t.natAbs = (low t b).1.natAbs * g.natAbs := by rw [← Int.natAbs_mul, ← e1]
  rw [this]
  exact Nat.le_mul_of_pos_right _ (by omega)
theorem low_bd2 {t b : Int} {n : Nat} (hb : 0 < b) (h : My.Bd n b) : My.Bd n (low t b).2 := by
  obtain ⟨g, g0, _, e2, _⟩ := low_div (t := t) hb
  refine h.of_le ?_
  have : b.natAbs = (low t b).2.natAbs * g.natAbs := by rw [← Int.natAbs_mul, ← e2]
  rw [this]
  exact Nat.le_mul_of_pos_right _ (by omega)
/-- the shares: s parts of m -/
def mA : List BM.Dm → List BM.Pt → Int
  | d :: ds, p :: ps => p.m ^ d.D * mA ds ps
  | _, _ => 1
theorem mA_snoc (d : BM.Dm) (p : BM.Pt) : ∀ (ds : List BM.Dm) (ps : List BM.Pt), ps.length = ds.length → mA (ds ++ [d]) (ps ++ [p]) = mA ds ps * p.m ^ d.D
  | [], [], _ => by show p.m ^ d.D * 1 = 1 * p.m ^ d.D; rw [Int.mul_one, Int.one_mul]
  | e :: ds, q :: ps, l => by
    show _ * mA (ds ++ [d]) (ps ++ [p]) = _ * mA ds ps * _
    rw [mA_snoc d p ds ps (Nat.succ.inj l), Int.mul_assoc]
  | [], _ :: _, l => by cases l
  | _ :: _, [], l => by cases l
theorem shA_snoc (d : BM.Dm) (p : BM.Pt) : ∀ (ds : List BM.Dm) (ps : List BM.Pt) (I : List Nat), ps.length = ds.length → BM.shA (ds ++ [d]) (ps ++ [p]) I = BM.shA ds ps I * BM.sh d p (I.getD ds.length 0)
  | [], [], I, _ => by
    show BM.sh d p (I.headD 0) * 1 = 1 * _
    rw [Int.mul_one, Int.one_mul]
    congr 1
    cases I <;> rfl
  | e :: ds, q :: ps, I, l => by
    show _ * BM.shA (ds ++ [d]) (ps ++ [p]) I.tail = _ * BM.shA ds ps I.tail * _
    rw [shA_snoc d p ds ps I.tail (Nat.succ.inj l), Int.mul_assoc]
    congr 1
    congr 1
    congr 1
    cases I <;> rfl
  | [], _ :: _, _, l => by cases l
  | _ :: _, [], _, l => by cases l
theorem yA_wm : ∀ (ds : List BM.Dm) (ps : List BM.Pt), ps.length = ds.length → BM.yA ds ps = whA ds * mA ds ps
  | [], [], _ => rfl
  | d :: ds, p :: ps, l => by
    show (d.U * p.m) ^ d.D * BM.yA ds ps = d.U ^ d.D * whA ds * (p.m ^ d.D * mA ds ps)
    rw [yA_wm ds ps (Nat.succ.inj l), BM.mul_pow]
    grind
  | [], _ :: _, l => by cases l
  | _ :: _, [], l => by cases l
theorem whA_pos : ∀ {ds : List BM.Dm}, (∀ d ∈ ds, d.Ok) → 0 < whA ds
  | [], _ => (by decide : (0 : Int) < 1)
  | d :: ds, h => Int.mul_pos (BM.pow_pos (h d List.mem_cons_self).U _) (whA_pos fun e he => h e (List.mem_cons_of_mem _ he))
theorem mA_pos : ∀ {ds : List BM.Dm} {ps : List BM.Pt}, (∀ p ∈ ps, 0 < p.m) → 0 < mA ds ps
  | [], _, _ => (by decide : (0 : Int) < 1)
  | _ :: _, [], _ => (by decide : (0 : Int) < 1)
  | d :: ds, p :: ps, h => Int.mul_pos (BM.pow_pos (h p List.mem_cons_self) _) (mA_pos fun e he => h e (List.mem_cons_of_mem _ he))
/-- one step of the law's mixing -/
theorem mix_step {S D t b h u r : Int} (hb : 0 < b) (hu : 0 < u) (hD : 0 < D) (e1 : S * b = t * D) (e2 : h * D = r * u) : low (t * u + h * b) (b * u) = low (S + r) D := by
  refine low_eq (Int.mul_pos hb hu) hD ?_
  calc (t * u + h * b) * D = (t * D) * u + (h * D) * b := by grind
    _ = (S * b) * u + (r * u) * b := by rw [← e1, e2]
    _ = _ := by grind
end K23

set_option Elab.async false
set_option linter.all false
set_option maxRecDepth 100000
set_option maxHeartbeats 4000000
namespace K23
open PySem PySem.Spec PyProof.Rows L2 XV DX
/-- a dict of fractions by their places -/
def CntD (H : Hp) (d : Addr) (Is : List (List Nat)) (F : List Nat → Fra) : Prop := ∃ rs : List Addr, H d = some (.dT (List.zipWith (fun I r => (ik (ofN I), V.ref r)) Is rs)) ∧ Paired (fun r I => FraAt H r (F I)) rs Is
theorem CntD.same {H H' : Hp} {d : Addr} {Is : List (List Nat)} {F : List Nat → Fra} (s : Same H H') (h : CntD H d Is F) : CntD H' d Is F := by
  obtain ⟨rs, h1, h2⟩ := h
  exact ⟨rs, s _ _ h1, Paired.mapP h2 fun r I z => z.same s⟩
theorem zip_get {Is : List (List Nat)} {rs : List Addr} {j : Nat} {k : List L2.Key} {v : V} (h : (List.zipWith (fun I r => (ik (ofN I), V.ref r)) Is rs)[j]? = some (k, v)) : ∃ I r, Is[j]? = some I ∧ rs[j]? = some r ∧ k = ik (ofN I) ∧ v = .ref r := by
  rw [List.getElem?_zipWith] at h
  cases e1 : Is[j]? with
  | none => rw [e1] at h; cases h
  | some I =>
    cases e2 : rs[j]? with
    | none => rw [e1, e2] at h; cases h
    | some r =>
      rw [e1, e2] at h
      cases Option.some.inj h
      exact ⟨I, r, rfl, rfl, rfl, rfl⟩
theorem ofN_inj {I J : List Nat} (h : ofN I = ofN J) : I = J := map_inj (fun x y z => Int.ofNat.inj z) h
theorem zip_val : ∀ {Is : List (List Nat)} {rs : List Addr} {j : Nat} {I : List Nat} {r : Addr}, Is.Nodup → Is[j]? = some I → rs[j]? = some r → valV (List.zipWith (fun I r => (ik (ofN I), V.ref r)) Is rs) (ik (ofN I)) = some (.ref r)
  | [], _, _, _, _, _, h, _ => by simp at h
  | _ :: _, [], _, _, _, _, _, h => by simp at h
  | J :: Is, q :: rs, 0, I, r, _, h1, h2 => by
    cases Option.some.inj h1
    cases Option.some.inj h2
    exact valV_pos rfl
  | J :: Is, q :: rs, j + 1, I, r, nd, h1, h2 => by
    rw [List.nodup_cons] at nd
    have h1 : Is[j]? = some I := h1
    have h2 : rs[j]? = some r := h2
    rw [List.zipWith_cons_cons, valV_neg (fun z => nd.1 (by rw [ofN_inj (ik_inj z)]; exact List.mem_iff_getElem?.mpr ⟨j, h1⟩))]
    exact zip_val nd.2 h1 h2
def mixS (ds : List BM.Dm) (ps : List BM.Pt) (R : List Nat → Int) (l : List (List Nat)) : Int := (l.map fun I => R I * BM.shA ds ps I).sum
def ShAt (H : Hp) (a : Addr) (p : BM.Pt) : Prop := H a = some (.tup [.int p.s, .int p.m])
structure Mix (ds : List BM.Dm) (ps : List BM.Pt) (R : List Nat → Int) : Prop where
  l : ps.length = ds.length
  d3 : ds.length ≤ 3
  cnt : cntP ds ≤ 64
  ok : ∀ d ∈ ds, d.Ok ∧ d.D ≤ 60
  pt : ∀ p ∈ ps, 0 ≤ p.s ∧ p.s ≤ p.m ∧ 0 < p.m ∧ p.m ≤ 10
  R : ∀ I ∈ BM.idx ds, My.Bd 90000 (R I)
  sz : ∃ K KD M, K + KD + M ≤ 8980 ∧ (∀ I ∈ BM.idx ds, My.Bd K (BM.kapA ds I)) ∧ My.Bd KD (whA ds * mA ds ps) ∧ My.Bd M (mA ds ps)
def spMixed : Sp := fun vs H Q _ => ∃ (d g sl : Addr) (ds : List BM.Dm) (ps : List BM.Pt) (R : List Nat → Int) (ss : List Addr), vs = [.ref d, .ref g, .ref sl] ∧ CntD H d (BM.idx ds) (fun I => low (R I) (BM.kapA ds I)) ∧ H g = some (.lst (ds.map fun d => V.int (d.D : Int))) ∧ H sl = some (.lst (ss.map V.ref)) ∧ Paired (ShAt H) ss ps ∧ Mix ds ps R ∧
  ∀ p H', Same H H' → FraAt H' p (low (mixS ds ps R (BM.idx ds)) (whA ds * mA ds ps)) → Q (.ref p) H'
theorem sh_bd {d : BM.Dm} {p : BM.Pt} {i : Nat} (h : 0 ≤ p.s ∧ p.s ≤ p.m ∧ 0 < p.m ∧ p.m ≤ 10) (hd : d.D ≤ 60) (hi : i ≤ d.D) : My.Bd 300 (BM.sh d p i) := by
  obtain ⟨a1, a2, a3, a4⟩ := h
  have b1 : My.Bd 4 p.s := My.Bd.lit (k := 11) (by omega) (by decide)
  have b2 : My.Bd 4 (p.m - p.s) := My.Bd.lit (k := 11) (by omega) (by decide)
  exact ((pow_bd b1 i).mul (pow_bd b2 (d.D - i))).mono (by omega)
theorem shA_bd : ∀ {ds : List BM.Dm} {ps : List BM.Pt} {I : List Nat}, ps.length = ds.length → (∀ d ∈ ds, d.D ≤ 60) → (∀ p ∈ ps, 0 ≤ p.s ∧ p.s ≤ p.m ∧ 0 < p.m ∧ p.m ≤ 10) → BM.Wi ds I → My.Bd (1 + 300 * ds.length) (BM.shA ds ps I)
  | [], [], _, _, _, _, _ => (show (1 : Int).natAbs < 2 ^ 1 by decide)
  | d :: ds, p :: ps, I, l, hd, hp, w => by
    have ih := shA_bd (I := I.tail) (Nat.succ.inj l) (fun e he => hd e (List.mem_cons_of_mem _ he)) (fun e he => hp e (List.mem_cons_of_mem _ he)) w.2
    have z := (sh_bd (d := d) (hp p List.mem_cons_self) (hd d List.mem_cons_self) w.1).mul ih
    exact z.mono (by rw [List.length_cons]; omega)
  | [], _ :: _, _, l, _, _, _ => by cases l
  | _ :: _, [], _, l, _, _, _ => by cases l
section
variable {P : Program} {w : World} {K : PySem.W.Frag} {mg : Str → Option Value} {base : Heap}
theorem sc_law_mixed : FnScope ["_law_counts_here", "_law_degrees_here", "_law_shares", "_law_top", "_law_bottom", "_law_index", "_law_here", "_law_under", "_law_k", "_law_s", "_law_by", "_law_ways"] ["_law_counts_here", "_law_degrees_here", "_law_shares"] (defScope s_law_mixed) := ⟨rfl, rfl, rfl, by decide +kernel, rfl, by decide +kernel, by decide +kernel⟩
theorem cal_law_mixed {f : Addr} {fd : FuncData} (F : FnP K "_law_mixed" "_law_mixed" s_law_mixed f fd) (g : mg "_law_mixed" = some (.ref f)) (T : Txt0 mg) (C_law_binomial : Cal P w K mg base "_law_binomial" 1 ["_law_many", "_law_some"] spBin) (C_law_power : Cal P w K mg base "_law_power" 1 ["_law_number", "_law_many"] spPow) (C_law_low : Cal P w K mg base "_law_low" 1 ["_law_top", "_law_bottom"] spLow) : Cal P w K mg base "_law_mixed" 3 ["_law_counts_here", "_law_degrees_here", "_law_shares"] spMixed := by
  obtain ⟨f_law_binomial, fd_law_binomial, g_law_binomial, G_law_binomial, b_law_binomial, k_law_binomial⟩ := C_law_binomial
  obtain ⟨f_law_power, fd_law_power, g_law_power, G_law_power, b_law_power, k_law_power⟩ := C_law_power
  obtain ⟨f_law_low, fd_law_low, g_law_low, G_law_low, b_law_low, k_law_low⟩ := C_law_low
  refine ⟨f, fd, g, ?_, F.bindsN (fun _ _ _ _ _ _ us hl => match us, hl with | [_, _, _], _ => rfl), F.kp⟩
  refine F.ok sc_law_mixed (fun vs H Q E h => ?_) (fun cdv A outer s H vs Q E hr h => ?_)
  · obtain ⟨d, g, sl, ds, ps, R, ss, rfl, ⟨rs, hd, hp⟩, hg, hsl, hss, mx, k⟩ := h
    rfl
  · obtain ⟨d, g, sl, ds, ps, R, ss, rfl, ⟨rs, hd, hp⟩, hg, hsl, hss, mx, k⟩ := h
    have hu := hu_of hr
    refine ⟨_, PSs.nox (pss_cons (ps_asg (pe_tup (pa_cons pe_int (pa_cons pe_int pa_nil))) (pg_tup (by rfl) (pgs_cons (pg_name (i := 3) sc_law_mixed.nd rfl (Or.inl rfl)) (pgs_cons (pg_name (i := 4) sc_law_mixed.nd rfl (Or.inl rfl)) pgs_nil))))
      (pss_cons (ps_lock (ps_for PassesOwn.never rfl (pi_keys (pv 0)) (pg_name (i := 5) sc_law_mixed.nd rfl (Or.inl rfl))
       (pss_cons (ps_asg (pe_dget hu (pv 0) (pv 5) (fun _ _ => rfl)) (pg_tup (by rfl) (pgs_cons (pg_name (i := 6) sc_law_mixed.nd rfl (Or.inl rfl)) (pgs_cons (pg_name (i := 7) sc_law_mixed.nd rfl (Or.inl rfl)) pgs_nil))))
      (pss_cons (ps_for PassesOwn.never rfl (pi_range1 (by rfl) T.range (pa_cons (pe_callB My.c_len (by rfl) T.len PySem.boot_len (pa_cons (pv 1) pa_nil)) pa_nil)) (pg_name (i := 8) sc_law_mixed.nd rfl (Or.inl rfl))
       (pss_cons (ps_asg (pe_ix ix_list (pv 2) (pv 8) (fun _ _ => rfl)) (pg_tup (by rfl) (pgs_cons (pg_name (i := 9) sc_law_mixed.nd rfl (Or.inl rfl)) (pgs_cons (pg_name (i := 10) sc_law_mixed.nd rfl (Or.inl rfl)) pgs_nil))))
      (pss_cons (ps_set (i := 11) sc_law_mixed.nd rfl (Or.inl rfl) (pe_call G_law_binomial (hr.mono (by decide)) (by rfl) g_law_binomial k_law_binomial b_law_binomial .nil pass0 (pa_cons (pe_ix ix_list (pv 1) (pv 8) (fun _ _ => rfl)) (pa_cons (pe_ix ix_tup (pv 5) (pv 8) (fun _ _ => rfl)) pa_nil))))
      (pss_cons (ps_set (i := 6) sc_law_mixed.nd rfl (Or.inl rfl) (pe_op op_mulW (pe_op op_mulW (pe_op op_mulW (pv 6) (pv 11)) (pe_call G_law_power (hr.mono (by decide)) (by rfl) g_law_power k_law_power b_law_power .nil pass0 (pa_cons (pv 9) (pa_cons (pe_ix ix_tup (pv 5) (pv 8) (fun _ _ => rfl)) pa_nil)))) (pe_call G_law_power (hr.mono (by decide)) (by rfl) g_law_power k_law_power b_law_power .nil pass0 (pa_cons (pe_op op_sub (pv 10) (pv 9)) (pa_cons (pe_op op_sub (pe_ix ix_list (pv 1) (pv 8) (fun _ _ => rfl)) (pe_ix ix_tup (pv 5) (pv 8) (fun _ _ => rfl))) pa_nil)))))
      (pss_one (ps_set (i := 7) sc_law_mixed.nd rfl (Or.inl rfl) (pe_op op_mulW (pv 7) (pe_call G_law_power (hr.mono (by decide)) (by rfl) g_law_power k_law_power b_law_power .nil pass0 (pa_cons (pv 10) (pa_cons (pe_ix ix_list (pv 1) (pv 8) (fun _ _ => rfl)) pa_nil))))))))))
      (pss_cons (ps_par (i := 3) (j := 4) (by rfl) sc_law_mixed.nd rfl rfl (by decide) rfl rfl (pa_cons (pe_op op_add (pe_op op_mulW (pv 3) (pv 7)) (pe_op op_mulW (pv 6) (pv 4))) (pa_cons (pe_op op_mulW (pv 4) (pv 7)) pa_nil)) (by rfl))
      (pss_one (ps_asg (pe_call G_law_low (hr.mono (by decide)) (by rfl) g_law_low k_law_low b_law_low .nil pass0 (pa_cons (pv 3) (pa_cons (pv 4) pa_nil))) (pg_tup (by rfl) (pgs_cons (pg_name (i := 3) sc_law_mixed.nd rfl (Or.inl rfl)) (pgs_cons (pg_name (i := 4) sc_law_mixed.nd rfl (Or.inl rfl)) pgs_nil))))))))))
      (pss_one (ps_ret (pe_tup (pa_cons (pv 3) (pa_cons (pv 4) pa_nil))))))), ?_⟩
    try dsimp only [cxOf, Cx.nox, Cx.wish]
    obtain ⟨K0, KD, M, hsz, hK, hD, hM⟩ := mx.sz
    have d3 := mx.d3
    have dsok : ∀ d ∈ ds, d.Ok := fun d h => (mx.ok d h).1
    have d60 : ∀ d ∈ ds, d.D ≤ 60 := fun d h => (mx.ok d h).2
    have Dp : 0 < whA ds * mA ds ps := Int.mul_pos (whA_pos dsok) (mA_pos fun p h => (mx.pt p h).2.2.1)
    have rl := My.plen hp
    have sl2 := My.plen hss
    have ind := idx_nd ds
    have i64 : (BM.idx ds).length ≤ 64 := by rw [idx_len]; exact mx.cnt
    walk_at "f"
    refine My.new (My.sz (by simp)) fun c0 nc0 => ?_
    have s1 := same_new (o := HO.tup [V.int 0, V.int 1]) nc0
    refine My.gtup2 (SqT.of upd_same) rfl ?_
    have hd1 := s1 _ _ hd
    have hg1 := s1 _ _ hg
    have hsl1 := s1 _ _ hsl
    have hss1 := Paired.mapP hss fun a p (z : ShAt H a p) => (s1 _ _ z : ShAt (upd H c0 (.tup [V.int 0, V.int 1])) a p)
    have hp1 := Paired.mapP hp fun a I (z : FraAt H a (low (R I) (BM.kapA ds I))) => z.same s1
    generalize upd H c0 (.tup [V.int 0, V.int 1]) = H1 at s1 hd1 hg1 hsl1 hss1 hp1 ⊢
    walk_at "f"
    refine My.lockS hd1 True.intro fun od => ?_
    have hl1 := upd_same (H := H1) (a := d) (o := HO.frz od (.dT (List.zipWith (fun I r => (ik (ofN I), V.ref r)) (BM.idx ds) rs)))
    have lk := fun {H' : Hp} (s : Same (upd H1 d (.frz od (.dT (List.zipWith (fun I r => (ik (ofN I), V.ref r)) (BM.idx ds) rs)))) H') => same_lock hd1 s
    have keep : ∀ c o, c ≠ d → H1 c = some o → upd H1 d (.frz od (.dT (List.zipWith (fun I r => (ik (ofN I), V.ref r)) (BM.idx ds) rs))) c = some o := fun c o n e => by rw [upd_ne n]; exact e
    have tn : ∀ c xs, H1 c = some (.tup xs) → c ≠ d := fun c xs e z => by rw [z, hd1] at e; cases e
    have hgl := keep _ _ (fun z => by rw [z, hd1] at hg1; cases hg1) hg1
    have hsll := keep _ _ (fun z => by rw [z, hd1] at hsl1; cases hsl1) hsl1
    have hssl := Paired.mapP hss1 fun a p (z : ShAt H1 a p) => (keep a _ (tn _ _ z) z : ShAt (upd H1 d (.frz od (.dT (List.zipWith (fun I r => (ik (ofN I), V.ref r)) (BM.idx ds) rs)))) a p)
    have hpl := Paired.mapP hp1 fun a I (z : FraAt H1 a (low (R I) (BM.kapA ds I))) => (keep a _ (tn _ _ z) z : FraAt (upd H1 d (.frz od (.dT (List.zipWith (fun I r => (ik (ofN I), V.ref r)) (BM.idx ds) rs)))) a (low (R I) (BM.kapA ds I)))
    generalize upd H1 d (.frz od (.dT (List.zipWith (fun I r => (ik (ofN I), V.ref r)) (BM.idx ds) rs))) = Hl at hl1 lk hgl hsll hssl hpl ⊢
    have z0 : low (mixS ds ps R ((BM.idx ds).take 0)) (whA ds * mA ds ps) = (0, 1) := low_zero Dp
    refine My.forKT rfl rfl hl1 (fun j σ' H' => ∃ (u5 u6 u7 u8 u9 u10 u11 : Option V), σ' = [some (.ref d), some (.ref g), some (.ref sl), some (.int (low (mixS ds ps R ((BM.idx ds).take j)) (whA ds * mA ds ps)).1), some (.int (low (mixS ds ps R ((BM.idx ds).take j)) (whA ds * mA ds ps)).2), u5, u6, u7, u8, u9, u10, u11] ∧ Same Hl H' ∧ My.Bd (92000 + j) (mixS ds ps R ((BM.idx ds).take j))) ⟨none, none, none, none, none, none, none, by rw [z0]; rfl, .refl _, My.Bd.zero⟩ (fun i σ' H' _ ⟨_, _, _, _, _, _, _, _, s', _⟩ => s' _ _ hl1) ?_ ?_
    · rintro j kk v q σ' H4 ek hq ⟨u5, u6, u7, u8, u9, u10, u11, rfl, s4, B⟩
      obtain ⟨I, r, eI, er, rfl, rfl⟩ := zip_get ek
      have memI := List.mem_iff_getElem?.mpr ⟨j, eI⟩
      obtain ⟨wI, lI⟩ := BM.idx_wi memI
      have hv := zip_val ind eI er
      have kB := hK I memI
      have rB := mx.R I memI
      have kp := BM.kapA_pos dsok wI
      obtain ⟨I', eI', hr⟩ := My.pget hpl er
      rw [eI] at eI'
      cases Option.some.inj eI'
      have up : 0 < (low (R I) (BM.kapA ds I)).2 := low_pos kp
      have hB := low_bd kp rB
      have uB := low_bd2 (t := R I) kp kB
      have cr := low_cross (t := R I) kp
      have hb4 := s4 _ _ hl1
      have bB := low_bd2 (t := mixS ds ps R ((BM.idx ds).take j)) Dp hD
      have bP := low_pos (t := mixS ds ps R ((BM.idx ds).take j)) Dp
      have tB := low_bd Dp B
      have tc := low_cross (t := mixS ds ps R ((BM.idx ds).take j)) Dp
      have etj : mixS ds ps R ((BM.idx ds).take (j + 1)) = mixS ds ps R ((BM.idx ds).take j) + R I * BM.shA ds ps I := by
        unfold mixS
        rw [List.take_succ, eI, List.map_append, List.sum_append]; simp
      have sB := shA_bd mx.l d60 mx.pt wI
      have j64 : j < 64 := by have := (List.getElem?_eq_some_iff.mp eI).1; omega
      rw [etj]
      have B2 : My.Bd (92000 + (j + 1)) (mixS ds ps R ((BM.idx ds).take j) + R I * BM.shA ds ps I) := My.Bd.add B ((rB.mul sB).mono (show 90000 + (1 + 300 * ds.length) ≤ 92000 + j by omega))
      have hr : Hl r = some (.tup [.int (low (R I) (BM.kapA ds I)).1, .int (low (R I) (BM.kapA ds I)).2]) := hr
      generalize mixS ds ps R ((BM.idx ds).take j) = S at B bB bP tB tc B2 ⊢
      generalize hDD : whA ds * mA ds ps = DD at *
      generalize hh0 : (low (R I) (BM.kapA ds I)).1 = h0 at *
      generalize hu0 : (low (R I) (BM.kapA ds I)).2 = u0 at *
      generalize ht0 : (low S DD).1 = t0 at *
      generalize hb0 : (low S DD).2 = b0 at *
      walk_at "f"
      refine ⟨d, .ref r, rfl, .inr ⟨_, ik (ofN I), q, .inr ⟨od, hb4⟩, rfl, hq, hv.symm⟩, ?_⟩
      refine My.gtup2 (SqT.of (s4 _ _ hr)) rfl ?_
      walk_at "f"
      refine My.lenL (SqL.of (s4 _ _ hgl)) ?_
      rw [List.length_map]
      walk_at "f"
      have u0B : My.Bd (K0 + 0) u0 := uB
      refine My.rngI (by omega) (by omega) (fun n σ' H' => ∃ (v8 v9 v10 v11 : Option V), σ' = [some (.ref d), some (.ref g), some (.ref sl), some (.int t0), some (.int b0), some (.ref q), some (.int (h0 * (chA (ds.take n) I * BM.shA (ds.take n) (ps.take n) I))), some (.int (u0 * mA (ds.take n) (ps.take n))), v8, v9, v10, v11] ∧ Same H4 H' ∧ My.Bd (90000 + 400 * n) (h0 * (chA (ds.take n) I * BM.shA (ds.take n) (ps.take n) I)) ∧ My.Bd (K0 + 300 * n) (u0 * mA (ds.take n) (ps.take n))) ⟨_, _, _, _, by rw [show chA (ds.take 0) I * BM.shA (ds.take 0) (ps.take 0) I = 1 from rfl, show mA (ds.take 0) (ps.take 0) = 1 from rfl, Int.mul_one, Int.mul_one]; rfl, .refl _, by rw [show chA (ds.take 0) I * BM.shA (ds.take 0) (ps.take 0) I = 1 from rfl, Int.mul_one]; exact hB, by rw [show mA (ds.take 0) (ps.take 0) = 1 from rfl, Int.mul_one]; exact u0B⟩ ?_ ?_
      · rintro n σ' H5 hn ⟨v8, v9, v10, v11, rfl, s5, C1, C2⟩
        have nl : n < ds.length := by omega
        have s45 := s4.trans s5
        obtain ⟨sa, ea⟩ : ∃ sa, ss[n]? = some sa := ⟨_, List.getElem?_eq_getElem (by have := mx.l; omega)⟩
        obtain ⟨pt, ept, hsa⟩ := My.pget hssl ea
        have ed : ds[n]? = some ds[n] := List.getElem?_eq_getElem nl
        have dm := List.getElem_mem nl
        have Dn := d60 _ dm
        obtain ⟨p0, p1, p2, p3⟩ := mx.pt _ (List.mem_iff_getElem?.mpr ⟨n, ept⟩)
        have In : I.getD n 0 ≤ ds[n].D := wi_iff.mp wI n _ ed
        have ez : (0 : Int) + (n : Int) = (n : Int) := Int.zero_add _
        have lt : (ds.take n).length = n := by rw [List.length_take]; omega
        have lt2 : (ps.take n).length = (ds.take n).length := by rw [List.length_take, List.length_take, mx.l]
        have etd : ds.take (n + 1) = ds.take n ++ [ds[n]] := by rw [List.take_succ, ed]; rfl
        have etp : ps.take (n + 1) = ps.take n ++ [pt] := by rw [List.take_succ, ept]; rfl
        have ex1 : chA (ds.take (n + 1)) I * BM.shA (ds.take (n + 1)) (ps.take (n + 1)) I = chA (ds.take n) I * BM.shA (ds.take n) (ps.take n) I * (BM.ch ds[n].D (I.getD n 0) * BM.sh ds[n] pt (I.getD n 0)) := by
          rw [etd, etp, chA_snoc, shA_snoc _ _ _ _ _ lt2, lt]; grind
        have ex2 : mA (ds.take (n + 1)) (ps.take (n + 1)) = mA (ds.take n) (ps.take n) * pt.m ^ ds[n].D := by
          rw [etd, etp, mA_snoc _ _ _ _ lt2]
        have gD : atI (ds.map fun d => V.int (d.D : Int)) (n : Int) = some (.int (ds[n].D : Int)) := atI_nat (by rw [List.getElem?_map, ed]; rfl)
        have gI : atI ((ik (ofN I)).map kV) (n : Int) = some (.int ((I.getD n 0 : Nat) : Int)) := by
          rw [ik_kV]
          exact atI_nat (by unfold ofN; rw [List.map_map, List.getElem?_map, List.getD_eq_getElem?_getD, List.getElem?_eq_getElem (show n < I.length by omega)]; rfl)
        rw [ez]
        walk_at "f"
        refine My.ixL (v := .ref sa) (SqL.of (s45 _ _ hsll)) (atI_nat (by rw [List.getElem?_map, ea]; rfl)) ?_
        refine My.gtup2 (SqT.of (s45 _ _ hsa)) rfl ?_
        walk_at "f"
        refine My.ixL (SqL.of (s45 _ _ hgl)) gD ?_
        walk_at "f"
        refine My.ixT (SqT.of (s5 _ _ hq)) gI ?_
        walk_at "f"
        refine ⟨ds[n].D, I.getD n 0, rfl, Dn, by omega, ?_⟩
        have cB : My.Bd 64 (BM.ch ds[n].D (I.getD n 0)) := ch_bd Dn
        have b1 : My.Bd 4 pt.s := My.Bd.lit (k := 11) (by omega) (by decide)
        have b2 : My.Bd 4 (pt.m - pt.s) := My.Bd.lit (k := 11) (by omega) (by decide)
        have b3 : My.Bd 4 pt.m := My.Bd.lit (k := 11) (by omega) (by decide)
        walk_at "f"
        refine My.mulWk C1 cB (by omega) ?_
        walk_at "f"
        refine My.ixT (SqT.of (s5 _ _ hq)) gI ?_
        walk_at "f"
        refine ⟨pt.s, I.getD n 0, 4, rfl, b1, by omega, by omega, ?_⟩
        have pb1 := (pow_bd b1 (I.getD n 0)).mono (show I.getD n 0 * 4 + 1 ≤ 241 by omega)
        refine My.mulWk (C1.mul cB) pb1 (by omega) ?_
        walk_at "f"
        refine My.ixL (SqL.of (s45 _ _ hgl)) gD ?_
        walk_at "f"
        refine My.ixT (SqT.of (s5 _ _ hq)) gI ?_
        walk_at "f"
        have eDI : (ds[n].D : Int) - ((I.getD n 0 : Nat) : Int) = ((ds[n].D - I.getD n 0 : Nat) : Int) := by omega
        refine ⟨pt.m - pt.s, ds[n].D - I.getD n 0, 4, by rw [eDI]; rfl, b2, by omega, by omega, ?_⟩
        have pb2 := (pow_bd b2 (ds[n].D - I.getD n 0)).mono (show (ds[n].D - I.getD n 0) * 4 + 1 ≤ 241 by omega)
        refine My.mulWk ((C1.mul cB).mul pb1) pb2 (by omega) ?_
        walk_at "f"
        refine My.ixL (SqL.of (s45 _ _ hgl)) gD ?_
        walk_at "f"
        refine ⟨pt.m, ds[n].D, 4, rfl, b3, by omega, by omega, ?_⟩
        have pb3 := (pow_bd b3 ds[n].D).mono (show ds[n].D * 4 + 1 ≤ 241 by omega)
        refine My.mulWk C2 pb3 (by omega) ?_
        walk_at "f"
        have f1 : h0 * (chA (ds.take (n + 1)) I * BM.shA (ds.take (n + 1)) (ps.take (n + 1)) I) = h0 * (chA (ds.take n) I * BM.shA (ds.take n) (ps.take n) I) * BM.ch ds[n].D (I.getD n 0) * pt.s ^ (I.getD n 0) * (pt.m - pt.s) ^ (ds[n].D - I.getD n 0) := by
          rw [ex1]
          unfold BM.sh
          grind
        have f2 : u0 * mA (ds.take (n + 1)) (ps.take (n + 1)) = u0 * mA (ds.take n) (ps.take n) * pt.m ^ ds[n].D := by
          rw [ex2, Int.mul_assoc]
        have shB := sh_bd (d := ds[n]) ⟨p0, p1, p2, p3⟩ Dn In
        have c1' : My.Bd (90000 + 400 * (n + 1)) (h0 * (chA (ds.take (n + 1)) I * BM.shA (ds.take (n + 1)) (ps.take (n + 1)) I)) := by
          rw [ex1, ← Int.mul_assoc]
          exact (C1.mul (cB.mul shB)).mono (by omega)
        have c2' : My.Bd (K0 + 300 * (n + 1)) (u0 * mA (ds.take (n + 1)) (ps.take (n + 1))) := by
          rw [f2]
          exact (C2.mul pb3).mono (by omega)
        rw [f1] at c1'
        rw [f2] at c2'
        rw [f1, f2]
        exact ⟨_, _, _, _, rfl, s5, c1', c2'⟩
      · rintro σ' H5 ⟨v8, v9, v10, v11, rfl, s5, C1, C2⟩
        rw [show ((ds.length : Int)).toNat = ds.length by omega, List.take_length, show ps.take ds.length = ps by rw [← mx.l, List.take_length]] at *
        have uB2 : My.Bd (K0 + M) (u0 * mA ds ps) := uB.mul hM
        have uP2 : 0 < u0 * mA ds ps := Int.mul_pos up (mA_pos fun p h => (mx.pt p h).2.2.1)
        have e2 : h0 * (chA ds I * BM.shA ds ps I) * DD = R I * BM.shA ds ps I * (u0 * mA ds ps) := by
          have cr : R I * u0 = h0 * (whA ds * chA ds I) := by rw [← kapA_wh]; exact cr
          rw [← hDD]
          calc h0 * (chA ds I * BM.shA ds ps I) * (whA ds * mA ds ps) = (h0 * (whA ds * chA ds I)) * BM.shA ds ps I * mA ds ps := by grind
            _ = _ := by rw [← cr]; grind
        have st := mix_step (t := t0) bP uP2 Dp tc e2
        walk_at "f"
        refine My.mulWk tB uB2 (by omega) ?_
        walk_at "f"
        refine My.mulWk C1 bB (by omega) ?_
        walk_at "f"
        refine My.mulWk bB uB2 (by omega) ?_
        walk_at "f"
        refine ⟨_, _, rfl, Int.mul_pos bP uP2, (bB.mul uB2).mono (by omega), fun p np => ?_⟩
        rw [st]
        refine My.gtup2 (SqT.of upd_same) rfl ?_
        exact ⟨_, _, _, _, _, _, _, rfl, (s4.trans s5).trans (same_new np), B2⟩
    · rintro σ' H4 ⟨u5, u6, u7, u8, u9, u10, u11, rfl, s4, B⟩
      have zl : (List.zipWith (fun (I : List Nat) (r : Addr) => (ik (ofN I), V.ref r)) (BM.idx ds) rs).length = (BM.idx ds).length := by rw [List.length_zipWith]; omega
      rw [zl, List.take_length] at *
      refine ⟨s4 _ _ hl1, ?_⟩
      have s5 := s1.trans (lk s4)
      generalize upd H4 d (HO.dT _) = H5 at s5 ⊢
      walk_at "f"
      refine My.new (My.sz (by simp)) fun p np => ?_
      exact k p _ (s5.trans (same_new np)) upd_same
end
end K23

set_option Elab.async false
set_option linter.all false
set_option maxRecDepth 100000
set_option maxHeartbeats 4000000
/-! the worth of a polynomial at a place; what an order of terms leaves -/
namespace K23
open PySem PySem.Spec PyProof.Rows L2 XV DX
theorem wn_snoc (p : BM.Pt) : ∀ (ps : List BM.Pt) (J : List Nat), BM.wn (ps ++ [p]) J = BM.wn ps J * p.n ^ (J.getD ps.length 0) ∧ BM.wb (ps ++ [p]) J = BM.wb ps J * p.b ^ (J.getD ps.length 0)
  | [], J => by
    have e : J.headD 0 = J.getD 0 0 := by cases J <;> rfl
    constructor
    · show p.n ^ (J.headD 0) * 1 = 1 * _
      rw [e, Int.mul_one, Int.one_mul]; rfl
    · show p.b ^ (J.headD 0) * 1 = 1 * _
      rw [e, Int.mul_one, Int.one_mul]; rfl
  | q :: ps, J => by
    have e : J.tail.getD ps.length 0 = J.getD (ps.length + 1) 0 := by cases J <;> rfl
    obtain ⟨h1, h2⟩ := wn_snoc p ps J.tail
    rw [e] at h1 h2
    constructor
    · show _ * BM.wn (ps ++ [p]) J.tail = _ * BM.wn ps J.tail * _
      rw [h1, Int.mul_assoc]; rfl
    · show _ * BM.wb (ps ++ [p]) J.tail = _ * BM.wb ps J.tail * _
      rw [h2, Int.mul_assoc]; rfl
theorem wnK_low {ps : List BM.Pt} {pts : List Fra} {J : List Int} (e : ps.map (fun p => (p.n, p.b)) = pts) : ∀ k, k ≤ ps.length →
    wnK pts J k = BM.wn (ps.take k) ((J.take pts.length).map Int.toNat) ∧ wbK pts J k = BM.wb (ps.take k) ((J.take pts.length).map Int.toNat)
  | 0, _ => ⟨rfl, rfl⟩
  | k + 1, h => by
    obtain ⟨h1, h2⟩ := wnK_low e k (by omega)
    have pl : pts.length = ps.length := by rw [← e, List.length_map]
    have et : ps.take (k + 1) = ps.take k ++ [ps[k]] := by rw [List.take_succ, List.getElem?_eq_getElem (by omega)]; rfl
    obtain ⟨g1, g2⟩ := wn_snoc ps[k] (ps.take k) ((J.take pts.length).map Int.toNat)
    have lt : (ps.take k).length = k := by rw [List.length_take]; omega
    have ej : ((J.take pts.length).map Int.toNat).getD k 0 = (J.getD k 0).toNat := by
      rw [getD_toNat, List.getD_eq_getElem?_getD, List.getElem?_take_of_lt (by omega), ← List.getD_eq_getElem?_getD]
    have ep : plc pts k = (ps[k].n, ps[k].b) := by
      unfold plc
      rw [← e, List.getD_eq_getElem?_getD, List.getElem?_map, List.getElem?_eq_getElem (by omega)]; rfl
    rw [lt, ej] at g1 g2
    rw [et]
    constructor
    · rw [g1, ← h1]
      show _ * (plc pts k).1 ^ _ = _
      rw [ep]
    · rw [g2, ← h2]
      show _ * (plc pts k).2 ^ _ = _
      rw [ep]
theorem wnK_up {pts : List Fra} {J : List Int} {n : Nat} (off : ∀ j, n ≤ j → J.getD j 0 = 0) : ∀ k, n ≤ k → wnK pts J k = wnK pts J n ∧ wbK pts J k = wbK pts J n
  | 0, h => by rw [show n = 0 by omega]; exact ⟨rfl, rfl⟩
  | k + 1, h => by
    by_cases e : n = k + 1
    · rw [e]; exact ⟨rfl, rfl⟩
    · obtain ⟨h1, h2⟩ := wnK_up (pts := pts) off k (by omega)
      have z : (J.getD k 0).toNat = 0 := by rw [off k (by omega)]; rfl
      constructor
      · show wnK pts J k * (plc pts k).1 ^ (J.getD k 0).toNat = _
        rw [z, Int.pow_zero, Int.mul_one, h1]
      · show wbK pts J k * (plc pts k).2 ^ (J.getD k 0).toNat = _
        rw [z, Int.pow_zero, Int.mul_one, h2]
theorem nz_sum {F : List Int → Int} : ∀ m : Pol, (m.map fun p => p.2 * F p.1).sum = ((nzP m).map fun p => p.2 * F p.1).sum
  | [] => rfl
  | p :: m => by
    have ih := nz_sum (F := F) m
    unfold nzP at ih ⊢
    rw [List.map_cons, List.sum_cons, ih]
    by_cases z : p.2 = 0
    · rw [List.filter_cons_of_neg (by simp [z]), z, Int.zero_mul, Int.zero_add]
    · rw [List.filter_cons_of_pos (by simp [z]), List.map_cons, List.sum_cons]
theorem mx_mem {l k : List Int} (h : ∀ x, x ∈ l ↔ x ∈ k) : mx 0 l = mx 0 k := by
  cases l with
  | nil =>
    cases k with
    | nil => rfl
    | cons a k => exact absurd ((h a).mpr List.mem_cons_self) (by simp)
  | cons n r =>
    cases k with
    | nil => exact absurd ((h n).mp List.mem_cons_self) (by simp)
    | cons a k =>
      have m1 : mx 0 (n :: r) ∈ n :: r := by
        show r.foldl max n ∈ n :: r
        rcases DX.fold_mem r n with e | e
        · rw [e]; exact List.mem_cons_self
        · exact List.mem_cons_of_mem _ e
      have m2 : mx 0 (a :: k) ∈ a :: k := by
        show k.foldl max a ∈ a :: k
        rcases DX.fold_mem k a with e | e
        · rw [e]; exact List.mem_cons_self
        · exact List.mem_cons_of_mem _ e
      exact Int.le_antisymm (mx_ge ((h _).mp m1)) (mx_ge ((h _).mpr m2))
theorem dms_perm {ts us : Pol} {sts : List Str2} (h : ts.Perm us) : dmsP ts sts = dmsP us sts := by
  unfold dmsP
  congr 1
  unfold greatP
  refine List.map_congr_left fun j _ => mx_mem fun x => ?_
  unfold colP
  exact (h.map _).mem_iff
theorem sum_perm {l k : List Int} (h : l.Perm k) : l.sum = k.sum := by
  induction h with
  | nil => rfl
  | cons x _ ih => rw [List.sum_cons, List.sum_cons, ih]
  | swap x y l => rw [List.sum_cons, List.sum_cons, List.sum_cons, List.sum_cons]; omega
  | trans _ _ h1 h2 => rw [h1, h2]
theorem spr_perm {ts us : Pol} {sts : List Str2} (h : ts.Perm us) (o : Spr us sts) : Spr ts sts :=
  ⟨(h.map _).symm.nodup o.nd, fun p hp => o.len p (h.mem_iff.mp hp), fun p hp => o.wi p (h.mem_iff.mp hp), fun p hp => o.off p (h.mem_iff.mp hp), by rw [h.length_eq]; exact o.few, fun p hp => o.bd p (h.mem_iff.mp hp), o.ok, o.b3, by rw [dms_perm h]; exact o.cnt⟩
end K23

set_option Elab.async false
set_option linter.all false
set_option maxRecDepth 100000
set_option maxHeartbeats 4000000
/-! counts, mixed counts and worths agree -/
namespace K23
open PySem PySem.Spec PyProof.Rows L2 XV DX
theorem cut_perm {ts us : Pol} {n : Nat} (h : ts.Perm us) : (natP (cutP n ts)).Perm (natP (cutP n us)) := by
  unfold natP cutP
  exact (h.map _).map _
theorem row_perm {ts us : Pol} {n : Nat} (h : ts.Perm us) (ds : List BM.Dm) (I : List Nat) : BM.rowV ds (natP (cutP n ts)) I = BM.rowV ds (natP (cutP n us)) I := by
  unfold BM.rowV
  exact sum_perm ((cut_perm h).map _)
theorem dms_ok {ts : Pol} {sts : List Str2} (o : Spr ts sts) : ∀ d ∈ dmsP ts sts, d.Ok ∧ d.D ≤ 60 := fun d hd => by
  obtain ⟨j, hj⟩ := List.mem_iff_getElem?.mp hd
  obtain ⟨jl, e⟩ := dms_of o.b3 hj
  have m60 : mx 0 (colP ts j) ≤ 60 := mx_up (by decide) fun x hx => by
    obtain ⟨q', hq', rfl⟩ := List.mem_map.mp hx
    exact (o.wi q' hq' j).2
  refine ⟨?_, by rw [e]; omega⟩
  rw [dms_get o.b3 (List.getElem?_eq_getElem jl)] at hj
  cases hj
  exact mkDm_ok (o.ok _ (List.getElem_mem jl))
theorem nat_wi {ts : Pol} {sts : List Str2} (o : Spr ts sts) : ∀ p ∈ natP (cutP sts.length ts), BM.Wi (dmsP ts sts) p.1 := fun p hp => by
  have to := spr_ok o
  obtain ⟨q, hq, rfl⟩ := List.mem_map.mp hp
  refine wi_iff.mpr fun j d hd => ?_
  have := to.wi q hq j d hd
  rw [getD_toNat]; omega
/-- the law's counts are the program's -/
theorem cnt_eq {m : Pol} {sts : List Str2} (o : Spr (nzP m) sts) {I : List Nat} (hI : I ∈ BM.idx (dmsP (nzP m) sts)) : cntAt m sts I = cntR (nzP m) sts I := by
  obtain ⟨h1, h2⟩ := BM.lawC_row (I := I) (fun d hd => (dms_ok o d hd).1) (nat_wi o) (BM.idx_wi hI).1
  have kp := BM.kapA_pos (fun d hd => (dms_ok o d hd).1) (BM.idx_wi hI).1
  unfold cntAt cntR
  refine low_eq h2 kp ?_
  rw [Int.mul_comm]
  exact h1.symm
theorem cntR_perm {ts us : Pol} {sts : List Str2} (h : ts.Perm us) (I : List Nat) : cntR ts sts I = cntR us sts I := by
  unfold cntR
  rw [dms_perm h, row_perm h]
/-- a place of the box as the law draws it -/
theorem mix_worth {m : Pol} {sts : List Str2} {pts : List Fra} {ps : List BM.Pt} (o : Spr (nzP m) sts) (off : ∀ p ∈ m, ∀ j, sts.length ≤ j → p.1.getD j 0 = 0) (e1 : ps.map (fun p => (p.n, p.b)) = pts) (e2 : ps.length = (dmsP (nzP m) sts).length) (e3 : ∀ x ∈ (dmsP (nzP m) sts).zip ps, x.2.Ok x.1) :
    low (mixS (dmsP (nzP m) sts) ps (BM.rowV (dmsP (nzP m) sts) (natP (cutP sts.length (nzP m)))) (BM.idx (dmsP (nzP m) sts))) (whA (dmsP (nzP m) sts) * mA (dmsP (nzP m) sts) ps) = low (wthF m pts).1 (wthF m pts).2 ∧ 0 < (wthF m pts).2 := by
  have ok : ∀ d ∈ dmsP (nzP m) sts, d.Ok := fun d hd => (dms_ok o d hd).1
  have dl := dms_len (ts := nzP m) o.b3
  have pl2 : pts.length = ps.length := by rw [← e1, List.length_map]
  have wm := nat_wi o
  have rel := BM.fr_rel (BM.yA (dmsP (nzP m) sts) ps) (fun p : List Int × Int => p.2 * BM.evA (dmsP (nzP m) sts) ps ((p.1.take sts.length).map Int.toNat)) (wrt pts) m 0 (0, 1) (by simp) (by decide) fun p hpm => by
    have w4 := wnK_up (pts := pts) (J := p.1) (n := sts.length) (off p hpm) 4 (by have := o.b3; omega)
    have wl := wnK_low (J := p.1) e1 ps.length (Nat.le_refl _)
    rw [List.take_length, pl2, e2, dl] at wl
    have bp := BM.wb_pos (J := (p.1.take sts.length).map Int.toNat) e2 e3
    show p.2 * BM.evA _ ps _ * wbK pts p.1 4 = BM.yA _ ps * (p.2 * wnK pts p.1 4) ∧ 0 < wbK pts p.1 4
    rw [w4.1, w4.2, wl.1, wl.2]
    refine ⟨?_, bp⟩
    by_cases z : p.2 = 0
    · rw [z, Int.zero_mul, Int.zero_mul, Int.zero_mul, Int.mul_zero]
    · have hn : p ∈ nzP m := List.mem_filter.mpr ⟨hpm, by simp [z]⟩
      have ev := BM.ev_wn ok e2 e3 (wm _ (List.mem_map.mpr ⟨(p.1.take sts.length, p.2), List.mem_map.mpr ⟨p, hn, rfl⟩, rfl⟩))
      have ev : BM.evA (dmsP (nzP m) sts) ps ((p.1.take sts.length).map Int.toNat) * BM.wb ps ((p.1.take sts.length).map Int.toNat) = BM.yA (dmsP (nzP m) sts) ps * BM.wn ps ((p.1.take sts.length).map Int.toNat) := ev
      calc p.2 * BM.evA (dmsP (nzP m) sts) ps ((p.1.take sts.length).map Int.toNat) * BM.wb ps ((p.1.take sts.length).map Int.toNat) = p.2 * (BM.evA (dmsP (nzP m) sts) ps ((p.1.take sts.length).map Int.toNat) * BM.wb ps ((p.1.take sts.length).map Int.toNat)) := Int.mul_assoc _ _ _
        _ = _ := by rw [ev]; grind
  rw [Int.zero_add] at rel
  obtain ⟨rel, B0⟩ := rel
  have rel : (m.map fun p => p.2 * BM.evA (dmsP (nzP m) sts) ps ((p.1.take sts.length).map Int.toNat)).sum * (wthF m pts).2 = BM.yA (dmsP (nzP m) sts) ps * (wthF m pts).1 := rel
  have B0 : 0 < (wthF m pts).2 := B0
  have es : (m.map fun p => p.2 * BM.evA (dmsP (nzP m) sts) ps ((p.1.take sts.length).map Int.toNat)).sum = ((natP (cutP sts.length (nzP m))).map fun p => p.2 * BM.evA (dmsP (nzP m) sts) ps p.1).sum := by
    rw [nz_sum (F := fun l => BM.evA (dmsP (nzP m) sts) ps ((l.take sts.length).map Int.toNat))]
    unfold natP cutP
    rw [List.map_map, List.map_map]; rfl
  have yp := BM.yA_pos ok e3
  rw [es, ← BM.sum_row e2 wm, yA_wm _ _ e2] at rel
  rw [yA_wm _ _ e2] at yp
  refine ⟨low_eq yp B0 ?_, B0⟩
  have rel : mixS (dmsP (nzP m) sts) ps (BM.rowV (dmsP (nzP m) sts) (natP (cutP sts.length (nzP m)))) (BM.idx (dmsP (nzP m) sts)) * (wthF m pts).2 = whA (dmsP (nzP m) sts) * mA (dmsP (nzP m) sts) ps * (wthF m pts).1 := rel
  rw [rel, Int.mul_comm]
theorem plc_pad {pts : List Fra} (n k : Nat) : plc (pts ++ List.replicate n (0, 1)) k = plc pts k := by
  unfold plc
  rw [List.getD_eq_getElem?_getD, List.getD_eq_getElem?_getD]
  by_cases h : k < pts.length
  · rw [List.getElem?_append_left h]
  · rw [List.getElem?_append_right (by omega), List.getElem?_eq_none (show pts.length ≤ k by omega), List.getElem?_replicate]
    split <;> rfl
theorem wp_wb {ts : Pol} {pts : List Fra} {J : List Int} (h : ∀ k, 0 ≤ J.getD k 0 ∧ J.getD k 0 ≤ hgt ts k) : ∀ k, wpK ts pts J k * wbK pts J k = udK ts pts k * wnK pts J k
  | 0 => rfl
  | k + 1 => by
    have ih := wp_wb (pts := pts) h k
    obtain ⟨h0, h1⟩ := h k
    have e : (hgt ts k).toNat = (hgt ts k - J.getD k 0).toNat + (J.getD k 0).toNat := by omega
    show wpK ts pts J k * wgt (plc pts k) (hgt ts k) (J.getD k 0) * (wbK pts J k * (plc pts k).2 ^ (J.getD k 0).toNat) = udK ts pts k * (plc pts k).2 ^ (hgt ts k).toNat * (wnK pts J k * (plc pts k).1 ^ (J.getD k 0).toNat)
    unfold wgt
    rw [e, Int.pow_add]
    calc wpK ts pts J k * ((plc pts k).1 ^ (J.getD k 0).toNat * (plc pts k).2 ^ (hgt ts k - J.getD k 0).toNat) * (wbK pts J k * (plc pts k).2 ^ (J.getD k 0).toNat)
        = (wpK ts pts J k * wbK pts J k) * ((plc pts k).1 ^ (J.getD k 0).toNat * (plc pts k).2 ^ (hgt ts k - J.getD k 0).toNat * (plc pts k).2 ^ (J.getD k 0).toNat) := by grind
      _ = _ := by rw [ih]; grind
theorem wbK_pos {pts : List Fra} {J : List Int} (hp : ∀ k, 0 < (plc pts k).2) : ∀ k, 0 < wbK pts J k
  | 0 => (by decide : (0 : Int) < 1)
  | k + 1 => Int.mul_pos (wbK_pos hp k) (BM.pow_pos (hp k) _)
theorem udK_pos {ts : Pol} {pts : List Fra} (hp : ∀ k, 0 < (plc pts k).2) : ∀ k, 0 < udK ts pts k
  | 0 => (by decide : (0 : Int) < 1)
  | k + 1 => Int.mul_pos (udK_pos hp k) (BM.pow_pos (hp k) _)
theorem wk_same {pts pts' : List Fra} {J : List Int} (h : ∀ k, plc pts' k = plc pts k) : ∀ k, wnK pts' J k = wnK pts J k ∧ wbK pts' J k = wbK pts J k
  | 0 => ⟨rfl, rfl⟩
  | k + 1 => by
    obtain ⟨h1, h2⟩ := wk_same (J := J) h k
    constructor
    · show wnK pts' J k * (plc pts' k).1 ^ _ = wnK pts J k * (plc pts k).1 ^ _
      rw [h1, h k]
    · show wbK pts' J k * (plc pts' k).2 ^ _ = wbK pts J k * (plc pts k).2 ^ _
      rw [h2, h k]
/-- the program's worth is the law's -/
theorem worth_eq {ts m : Pol} {pts pts' : List Fra} (h : ts.Perm (nzP m)) (h0 : ∀ p ∈ m, ∀ k, 0 ≤ p.1.getD k 0) (hp : ∀ k, 0 < (plc pts k).2) (he : ∀ k, plc pts' k = plc pts k) : low (ovS ts pts' ts) (udK ts pts' 4) = low (wthF m pts).1 (wthF m pts).2 := by
  have hp' : ∀ k, 0 < (plc pts' k).2 := fun k => by rw [he k]; exact hp k
  have up := udK_pos (ts := ts) hp' 4
  have rel := BM.fr_rel (udK ts pts' 4) (fun p : List Int × Int => p.2 * wpK ts pts' p.1 4) (wrt pts) m 0 (0, 1) (by simp) (by decide) fun p hpm => by
    obtain ⟨w1, w2⟩ := wk_same (J := p.1) he 4
    show p.2 * wpK ts pts' p.1 4 * wbK pts p.1 4 = udK ts pts' 4 * (p.2 * wnK pts p.1 4) ∧ 0 < wbK pts p.1 4
    refine ⟨?_, wbK_pos hp 4⟩
    by_cases z : p.2 = 0
    · rw [z, Int.zero_mul, Int.zero_mul, Int.zero_mul, Int.mul_zero]
    · have hn : p ∈ ts := h.mem_iff.mpr (List.mem_filter.mpr ⟨hpm, by simp [z]⟩)
      have e := wp_wb (ts := ts) (pts := pts') (J := p.1) (fun k => ⟨h0 p hpm k, mx_ge (List.mem_map.mpr ⟨p, hn, rfl⟩)⟩) 4
      rw [w1, w2] at e
      calc p.2 * wpK ts pts' p.1 4 * wbK pts p.1 4 = p.2 * (wpK ts pts' p.1 4 * wbK pts p.1 4) := Int.mul_assoc _ _ _
        _ = _ := by rw [e]; grind
  rw [Int.zero_add] at rel
  obtain ⟨rel, B0⟩ := rel
  have B0 : 0 < (wthF m pts).2 := B0
  have es : (m.map fun p => p.2 * wpK ts pts' p.1 4).sum = ovS ts pts' ts := by
    rw [nz_sum (F := fun l => wpK ts pts' l 4)]
    unfold ovS
    exact (sum_perm (h.map _)).symm
  have rel : (m.map fun p => p.2 * wpK ts pts' p.1 4).sum * (wthF m pts).2 = udK ts pts' 4 * (wthF m pts).1 := rel
  rw [es] at rel
  refine low_eq up B0 ?_
  rw [rel, Int.mul_comm]
end K23

set_option Elab.async false
set_option linter.all false
set_option maxRecDepth 100000
set_option maxHeartbeats 4000000
/-! how great all this is, for what the law draws -/
namespace K23
open PySem PySem.Spec PyProof.Rows L2 XV DX
theorem getD_wi {l : List Int} {most : Int} (m0 : 0 ≤ most) (h : ∀ e ∈ l, 0 ≤ e ∧ e ≤ most) (j : Nat) : 0 ≤ l.getD j 0 ∧ l.getD j 0 ≤ most := by
  rw [List.getD_eq_getElem?_getD]
  cases e : l[j]? with
  | none => exact ⟨Int.le_refl 0, m0⟩
  | some y => exact h y (List.mem_iff_getElem?.mpr ⟨j, e⟩)
theorem strN_bt {s : Str2} (h : StrN (10 ^ 6) s) : Bt s := by
  have o : StrOk s := StrN.ok ⟨h.lo.mono (by decide), h.hi.mono (by decide), h.lt⟩
  have h1 := h.lo.pos; have h2 := h.lo.top; have h3 := h.hi.pos; have h4 := h.hi.top
  exact ⟨o, My.Bd.lit (k := 1000001) (by omega) (by decide), My.Bd.lit (k := 1000001) (by omega) (by decide)⟩
theorem lcm_bd40 {s : Str2} (o : Bt s) : My.Bd 40 ((Nat.lcm s.1.2.natAbs s.2.2.natAbs : Nat) : Int) := by
  show (((Nat.lcm s.1.2.natAbs s.2.2.natAbs : Nat) : Int)).natAbs < 2 ^ 40
  rw [Int.natAbs_natCast, show 40 = 20 + 20 by rfl, Nat.pow_add]
  have h1 : s.1.2.natAbs.lcm s.2.2.natAbs ≤ s.1.2.natAbs * s.2.2.natAbs := Nat.div_le_self _ _
  have h2 : s.1.2.natAbs * s.2.2.natAbs < 2 ^ 20 * 2 ^ 20 := Nat.mul_lt_mul'' o.lo o.hi
  omega
/-- a dimension as the box has it, the degree up to e -/
def DmB (d : BM.Dm) (e : Nat) : Prop := ∃ s, d = mkDm d.D s ∧ Bt s ∧ d.D ≤ e ∧ e ≤ 60
def DmsB : List BM.Dm → List Nat → Prop
  | d :: ds, e :: es => DmB d e ∧ DmsB ds es
  | [], _ => True
  | _ :: _, [] => False
theorem wh_bd : ∀ {ds : List BM.Dm} {es : List Nat}, DmsB ds es → My.Bd (40 * es.sum + es.length + 1) (whA ds)
  | [], es, _ => (show My.Bd 1 1 from (by decide : (1 : Int).natAbs < 2 ^ 1)).mono (by omega)
  | d :: ds, e :: es, ⟨⟨s, h1, h2, h3, _⟩, h⟩ => by
    have ih := wh_bd h
    have u : My.Bd 40 d.U := by rw [h1]; exact lcm_bd40 h2
    have z := ((pow_bd u d.D).mul ih).mono (show d.D * 40 + 1 + (40 * es.sum + es.length + 1) ≤ 40 * (e :: es).sum + (e :: es).length + 1 by rw [List.sum_cons, List.length_cons]; omega)
    exact z
theorem chA_bd : ∀ {ds : List BM.Dm} {es : List Nat} (I : List Nat), DmsB ds es → My.Bd (64 * ds.length + 1) (chA ds I)
  | [], _, _, _ => (show My.Bd 1 1 from (by decide : (1 : Int).natAbs < 2 ^ 1))
  | d :: ds, e :: es, I, ⟨⟨s, h1, h2, h3, h4⟩, h⟩ => by
    have ih := chA_bd I.tail h
    exact ((ch_bd (n := d.D) (k := I.headD 0) (by omega)).mul ih).mono (by rw [List.length_cons]; omega)
theorem mA_bd : ∀ {ds : List BM.Dm} {es : List Nat} {ps : List BM.Pt}, DmsB ds es → (∀ p ∈ ps, 0 < p.m ∧ p.m ≤ 10) → My.Bd (4 * es.sum + es.length + 1) (mA ds ps)
  | [], es, ps, _, _ => (show My.Bd 1 1 from (by decide : (1 : Int).natAbs < 2 ^ 1)).mono (by omega)
  | _ :: _, es, [], _, _ => (show My.Bd 1 1 from (by decide : (1 : Int).natAbs < 2 ^ 1)).mono (by omega)
  | d :: ds, e :: es, p :: ps, ⟨⟨s, h1, h2, h3, _⟩, h⟩, hp => by
    have ih := mA_bd (ps := ps) h fun q hq => hp q (List.mem_cons_of_mem _ hq)
    obtain ⟨m0, m1⟩ := hp p List.mem_cons_self
    have u : My.Bd 4 p.m := My.Bd.lit (k := 11) (by omega) (by decide)
    exact ((pow_bd u d.D).mul ih).mono (by rw [List.sum_cons, List.length_cons]; omega)
theorem pa_all : ∀ {ds : List BM.Dm} {es J I : List Nat}, DmsB ds es → BM.Wi ds J → BM.Wi ds I → My.Bd (18200 * ds.length + 1) (BM.paA ds J I)
  | [], _, _, _, _, _, _ => (show My.Bd 1 1 from (by decide : (1 : Int).natAbs < 2 ^ 1))
  | d :: ds, e :: es, J, I, ⟨⟨s, h1, h2, h3, h4⟩, h⟩, w1, w2 => by
    have ih := pa_all h w1.2 w2.2
    have z : My.Bd 18200 (BM.pa d (J.headD 0) (I.headD 0)) := by
      rw [h1]
      exact pa_bd h2.ok (by omega) w2.1 w1.1
    exact (z.mul ih).mono (by rw [List.length_cons]; omega)
theorem pb_all : ∀ {ds : List BM.Dm} {es J : List Nat}, DmsB ds es → BM.Wi ds J → My.Bd (40 * es.sum + 65 * es.length + 1) (BM.pbA ds J)
  | [], es, _, _, _ => (show My.Bd 1 1 from (by decide : (1 : Int).natAbs < 2 ^ 1)).mono (by omega)
  | d :: ds, e :: es, J, ⟨⟨s, h1, h2, h3, h4⟩, h⟩, w1 => by
    have ih := pb_all h w1.2
    have z : My.Bd (J.headD 0 * 40 + 65) (BM.pb d (J.headD 0)) := by
      rw [h1]
      exact pb_bd h2 (by omega)
    have := w1.1
    exact (z.mul ih).mono (by rw [List.sum_cons, List.length_cons]; omega)
theorem fr_bd {A B : Nat} (b1 : 1 ≤ B) : ∀ (l : List (Int × Int)) (k : Nat) (a : Int × Int), My.Bd (A + B * k + k) a.1 → My.Bd (B * k + 1) a.2 → (∀ x ∈ l, My.Bd A x.1 ∧ My.Bd B x.2) →
    My.Bd (A + B * (k + l.length) + (k + l.length)) (l.foldl (fun a p => (a.1 * p.2 + p.1 * a.2, a.2 * p.2)) a).1
  | [], k, a, h1, h2, _ => h1
  | x :: l, k, a, h1, h2, hx => by
    obtain ⟨x1, x2⟩ := hx x List.mem_cons_self
    have e : B * (k + 1) = B * k + B := Nat.mul_succ _ _
    have z := fr_bd b1 l (k + 1) (a.1 * x.2 + x.1 * a.2, a.2 * x.2) (by
      have g := My.Bd.add (n := A + B * k + k + B) (h1.mul x2) ((x1.mul h2).mono (by omega))
      exact g.mono (by omega)) ((h2.mul x2).mono (by omega)) fun y hy => hx y (List.mem_cons_of_mem _ hy)
    rw [List.foldl_cons, List.length_cons, show k + (l.length + 1) = k + 1 + l.length by omega]
    exact z
/-- what the law draws: parts and a box -/
structure Dat (m : Pol) (sts : List Str2) : Prop where
  lp : Lp m
  sn : ∀ s ∈ sts, StrN (10 ^ 6) s
  s3 : sts.length ≤ 3
  off : ∀ p ∈ m, ∀ j, sts.length ≤ j → p.1.getD j 0 = 0
  ex : ∃ E : Nat → Nat, (∀ p ∈ m, ∀ j, p.1.getD j 0 ≤ (E j : Int)) ∧ (∀ j, 3 ≤ j → E j = 0) ∧ (E 0 + 1) * ((E 1 + 1) * (E 2 + 1)) ≤ 64 ∧ m.length * (44 * (E 0 + E 1 + E 2) + 210) ≤ 8900 ∧ E 0 + E 1 + E 2 ≤ 60
section
variable {m : Pol} {sts : List Str2}
theorem nz_sub : ∀ p ∈ nzP m, p ∈ m := fun p hp => (List.mem_filter.mp hp).1
theorem nz_few : (nzP m).length ≤ m.length := List.length_filter_le _ _
theorem Dat.k0 (d : Dat m sts) : ∀ p ∈ m, ∀ j, 0 ≤ p.1.getD j 0 ∧ p.1.getD j 0 ≤ 60 := fun p hp j => getD_wi (by decide) (d.lp.wi p hp) j
theorem hg_le {E : Nat → Nat} (h : ∀ p ∈ m, ∀ j, p.1.getD j 0 ≤ (E j : Int)) (j : Nat) : mx 0 (colP (nzP m) j) ≤ (E j : Int) := mx_up (by omega) fun x hx => by
  obtain ⟨q, hq, rfl⟩ := List.mem_map.mp hx
  exact h q (nz_sub q hq) j
theorem dms_b (d : Dat m sts) {E : Nat → Nat} (h : ∀ p ∈ m, ∀ j, p.1.getD j 0 ≤ (E j : Int)) (t : E 0 + E 1 + E 2 ≤ 60) : DmsB (dmsP (nzP m) sts) [E 0, E 1, E 2] := by
  have key : ∀ j s, sts[j]? = some s → j < 3 → DmB (mkDm (mx 0 (colP (nzP m) j)).toNat s) (E j) := fun j s e hj => by
    have hh := hg_le h j
    have e3 : E j ≤ 60 := by
      have : j = 0 ∨ j = 1 ∨ j = 2 := by omega
      rcases this with rfl | rfl | rfl <;> omega
    exact ⟨s, rfl, strN_bt (d.sn s (List.mem_iff_getElem?.mpr ⟨j, e⟩)), by show (mx 0 (colP (nzP m) j)).toNat ≤ E j; omega, e3⟩
  have hs := d.s3
  match sts, hs, key with
  | [], _, _ => trivial
  | [a], _, key => exact ⟨key 0 a rfl (by decide), trivial⟩
  | [a, b], _, key => exact ⟨key 0 a rfl (by decide), key 1 b rfl (by decide), trivial⟩
  | [a, b, c], _, key => exact ⟨key 0 a rfl (by decide), key 1 b rfl (by decide), key 2 c rfl (by decide), trivial⟩
  | _ :: _ :: _ :: _ :: _, hs, _ => simp at hs
theorem cnt_b : ∀ {ds : List BM.Dm} {a b c : Nat}, DmsB ds [a, b, c] → cntP ds ≤ (a + 1) * ((b + 1) * (c + 1))
  | [], a, b, c, _ => Nat.mul_pos (Nat.succ_pos _) (Nat.mul_pos (Nat.succ_pos _) (Nat.succ_pos _))
  | [d], a, b, c, ⟨⟨_, _, _, h, _⟩, _⟩ => by
    show (d.D + 1) * 1 ≤ _
    exact Nat.mul_le_mul (by omega) (Nat.mul_pos (Nat.succ_pos _) (Nat.succ_pos _))
  | [d, e], a, b, c, ⟨⟨_, _, _, h, _⟩, ⟨_, _, _, g, _⟩, _⟩ => by
    show (d.D + 1) * ((e.D + 1) * 1) ≤ _
    exact Nat.mul_le_mul (by omega) (Nat.mul_le_mul (by omega) (Nat.succ_pos _))
  | [d, e, f], a, b, c, ⟨⟨_, _, _, h, _⟩, ⟨_, _, _, g, _⟩, ⟨_, _, _, k, _⟩, _⟩ => by
    show (d.D + 1) * ((e.D + 1) * ((f.D + 1) * 1)) ≤ _
    exact Nat.mul_le_mul (by omega) (Nat.mul_le_mul (by omega) (by omega))
  | _ :: _ :: _ :: _ :: _, _, _, _, ⟨_, _, _, h⟩ => h.elim
theorem Dat.spr (d : Dat m sts) : Spr (nzP m) sts := by
  obtain ⟨E, h, _, h2, _, h4⟩ := d.ex
  refine ⟨List.Nodup.sublist (List.Sublist.map _ List.filter_sublist) d.lp.nd, fun p hp => d.lp.len p (nz_sub p hp), fun p hp => d.k0 p (nz_sub p hp), fun p hp => d.off p (nz_sub p hp), Nat.le_trans nz_few d.lp.few, fun p hp => d.lp.bd p (nz_sub p hp), fun s hs => (strN_bt (d.sn s hs)).ok, d.s3, Nat.le_trans (cnt_b (dms_b d h h4)) h2⟩
theorem tot_e {J : List Int} {E : Nat → Nat} (h : ∀ j, J.getD j 0 ≤ (E j : Int)) (z : ∀ j, 3 ≤ j → E j = 0) (n : Nat) (hn : n ≤ 4) : totN (J.map Int.toNat) n ≤ E 0 + E 1 + E 2 := by
  have g : ∀ j, (J.map Int.toNat).getD j 0 ≤ E j := fun j => by rw [getD_toNat]; have := h j; omega
  have g0 := g 0; have g1 := g 1; have g2 := g 2; have g3 := g 3; have z3 := z 3 (by decide)
  refine tot_le (J.map Int.toNat) hn ?_
  rw [totN_succ, totN_succ, totN_succ, totN_succ]
  show 0 + _ + _ + _ + _ ≤ _
  omega
theorem Dat.lc (d : Dat m sts) : ∃ W, Lc (nzP m) sts W := by
  obtain ⟨E, h, z, h2, h3, h4⟩ := d.ex
  refine ⟨40 * (E 0 + E 1 + E 2) + 200, d.spr, fun s hs => strN_bt (d.sn s hs), fun p hp => ?_, ?_⟩
  · have := tot_e (h p (nz_sub p hp)) z sts.length (by have := d.s3; omega)
    omega
  · have l := nz_few (m := m)
    exact Nat.le_trans (Nat.mul_le_mul l (show 40 * (E 0 + E 1 + E 2) + 200 ≤ 44 * (E 0 + E 1 + E 2) + 210 by omega)) h3
theorem Dat.kap (d : Dat m sts) : ∀ I ∈ BM.idx (dmsP (nzP m) sts), My.Bd 2605 (BM.kapA (dmsP (nzP m) sts) I) := fun I hI => by
  obtain ⟨E, h, z, h2, h3, h4⟩ := d.ex
  have b := dms_b d h h4
  have dl := dms_len (ts := nzP m) d.s3
  have s3 := d.s3
  rw [kapA_wh]
  refine ((wh_bd b).mul (chA_bd I b)).mono ?_
  simp only [List.sum_cons, List.sum_nil, List.length_cons, List.length_nil]
  omega
theorem Dat.row (d : Dat m sts) : ∀ I ∈ BM.idx (dmsP (nzP m) sts), My.Bd 90000 (BM.rowV (dmsP (nzP m) sts) (natP (cutP sts.length (nzP m))) I) := fun I hI => by
  obtain ⟨E, h, z, h2, h3, h4⟩ := d.ex
  have b := dms_b d h h4
  have o := d.spr
  have dl := dms_len (ts := nzP m) d.s3
  have s3 := d.s3
  have wI := (BM.idx_wi hI).1
  obtain ⟨r1, r2⟩ := BM.lawC_row (I := I) (fun d hd => (dms_ok o d hd).1) (nat_wi o) wI
  have kb := d.kap I hI
  have ll : (natP (cutP sts.length (nzP m))).length ≤ m.length := by unfold natP cutP; rw [List.length_map, List.length_map]; exact nz_few
  have cb : My.Bd 80000 (BM.lawC (dmsP (nzP m) sts) (natP (cutP sts.length (nzP m))) I).1 := by
    unfold BM.lawC BM.fr
    have g := fr_bd (A := 1000 + 54601) (B := 40 * (E 0 + E 1 + E 2) + 196) (by omega) ((natP (cutP sts.length (nzP m))).map fun p => (p.2 * BM.paA (dmsP (nzP m) sts) p.1 I, BM.pbA (dmsP (nzP m) sts) p.1)) 0 (0, 1) My.Bd.zero (show (1 : Int).natAbs < 2 ^ 1 by decide) fun x hx => by
      obtain ⟨p, hp, rfl⟩ := List.mem_map.mp hx
      have w := nat_wi o p hp
      have pb : My.Bd 1000 p.2 := by
        obtain ⟨q, hq, rfl⟩ := List.mem_map.mp hp
        obtain ⟨q', hq', rfl⟩ := List.mem_map.mp hq
        exact o.bd q' hq'
      refine ⟨(pb.mul (pa_all b w wI)).mono (by rw [dl]; omega), (pb_all b w).mono ?_⟩
      simp only [List.sum_cons, List.sum_nil, List.length_cons, List.length_nil]
      omega
    refine g.mono ?_
    rw [List.length_map, Nat.zero_add]
    have l1 : (40 * (E 0 + E 1 + E 2) + 196) * (natP (cutP sts.length (nzP m))).length ≤ 8900 := by
      rw [Nat.mul_comm]
      exact Nat.le_trans (Nat.mul_le_mul ll (show 40 * (E 0 + E 1 + E 2) + 196 ≤ 44 * (E 0 + E 1 + E 2) + 210 by omega)) h3
    have := d.lp.few
    omega
  refine (kb.mul cb).of_le ?_ |>.mono (by decide)
  rw [← r1, Int.natAbs_mul]
  exact Nat.le_mul_of_pos_right _ (by omega)
theorem Dat.mix (d : Dat m sts) {ps : List BM.Pt} (l : ps.length = sts.length) (hp : ∀ p ∈ ps, 0 ≤ p.s ∧ p.s ≤ p.m ∧ 0 < p.m ∧ p.m ≤ 10) : Mix (dmsP (nzP m) sts) ps (BM.rowV (dmsP (nzP m) sts) (natP (cutP sts.length (nzP m)))) := by
  obtain ⟨E, h, z, h2, h3, h4⟩ := d.ex
  have b := dms_b d h h4
  have o := d.spr
  have dl := dms_len (ts := nzP m) d.s3
  have s3 := d.s3
  refine ⟨by rw [dl]; exact l, by rw [dl]; exact s3, o.cnt, dms_ok o, hp, d.row, 2605, 2660, 250, by decide, d.kap, ?_, ?_⟩
  · refine ((wh_bd b).mul (mA_bd b fun p hpp => (hp p hpp).2.2)).mono ?_
    simp only [List.sum_cons, List.sum_nil, List.length_cons, List.length_nil]
    omega
  · refine (mA_bd b fun p hpp => (hp p hpp).2.2).mono ?_
    simp only [List.sum_cons, List.sum_nil, List.length_cons, List.length_nil]
    omega
theorem nr_44 {f : Fra} (h : Nr (10 ^ 13) f) : PtB f ∧ My.Bd 44 f.2 := by
  have h1 := h.pos; have h2 := h.lo; have h3 := h.hi; have h4 := h.top
  exact ⟨⟨h1, My.Bd.lit (n := 100) (k := 180000000000001) (by omega) (by decide), My.Bd.lit (n := 60) (k := 10000000000001) (by omega) (by decide)⟩, My.Bd.lit (n := 44) (k := 10000000000001) (by omega) (by decide)⟩
theorem Dat.wl (d : Dat m sts) {pts : List Fra} (hn : ∀ f ∈ pts, Nr (10 ^ 13) f) : ∃ W, Wl m pts W := by
  obtain ⟨E, h, z, h2, h3, h4⟩ := d.ex
  refine ⟨44 * (E 0 + E 1 + E 2) + 8, fun f hf => (nr_44 (hn f hf)).1, ⟨44, fun f hf => (nr_44 (hn f hf)).2, fun p hp => ?_⟩, ?_⟩
  · have := tot_e (h p hp) z 4 (Nat.le_refl _)
    omega
  · exact Nat.le_trans (Nat.mul_le_mul_left _ (show 44 * (E 0 + E 1 + E 2) + 8 ≤ 44 * (E 0 + E 1 + E 2) + 210 by omega)) h3
theorem Dat.ud (d : Dat m sts) {ts : Pol} (pm : ts.Perm (nzP m)) {pts : List Fra} (hn : ∀ k, My.Bd 44 (plc pts k).2) : My.Bd 8990 (udK ts pts 4) := by
  obtain ⟨E, h, z, h2, h3, h4⟩ := d.ex
  have hh : ∀ k, (hgt ts k).toNat ≤ E k := fun k => by
    have : hgt ts k ≤ (E k : Int) := mx_up (by omega) fun x hx => by
      obtain ⟨q, hq, rfl⟩ := List.mem_map.mp hx
      exact h q (nz_sub q (pm.mem_iff.mp hq)) k
    omega
  have p : ∀ k, My.Bd (E k * 44 + 1) ((plc pts k).2 ^ (hgt ts k).toNat) := fun k => (pow_bd (hn k) _).mono (by have := Nat.mul_le_mul_right 44 (hh k); omega)
  have z3 := z 3 (by decide)
  have p3 := p 3
  rw [z3] at p3
  show My.Bd 8990 (1 * (plc pts 0).2 ^ (hgt ts 0).toNat * (plc pts 1).2 ^ (hgt ts 1).toNat * (plc pts 2).2 ^ (hgt ts 2).toNat * (plc pts 3).2 ^ (hgt ts 3).toNat)
  rw [Int.one_mul]
  exact ((((p 0).mul (p 1)).mul (p 2)).mul p3).mono (by omega)
end
end K23

set_option Elab.async false
set_option linter.all false
set_option maxRecDepth 100000
set_option maxHeartbeats 4000000
namespace My
open PySem PySem.Spec PyProof.Rows L2 DX
/-- what stands behind a statement, as R tells it -/
theorem bm0T {K : PySem.W.Frag} {T : String} {r : V → List V → Hp → VK → Prop} {to : TE} {σ : L2.St} {H : Hp} {Q : VK} (h : to σ H fun x H1 => tyV K T x H1 ∧ r x [] H1 Q) : tBM0 K T r to σ H Q := h
theorem cutS {t u : TS} {D : Ends} {σ : L2.St} {H : Hp} (R : L2.St → Hp → Prop) (h2 : ∀ N : L2.St → Hp → Prop, (∀ σ' H', R σ' H' → N σ' H') → t { D with nx := N } σ H) (h1 : ∀ σ' H', R σ' H' → u D σ' H') : tSeq t u D σ H := h2 _ h1
end My
namespace K23
open PySem PySem.Spec PyProof.Rows L2 XV DX
theorem paired_congr {α β : Type} {F G : α → β → Prop} : ∀ {l : List α} {k : List β}, (∀ a b, b ∈ k → F a b → G a b) → Paired F l k → Paired G l k
  | _, _, _, .nil => .nil
  | _, _, h, .cons x t => .cons (h _ _ List.mem_cons_self x) (paired_congr (fun a b hb => h a b (List.mem_cons_of_mem _ hb)) t)
theorem cntD_congr {H : Hp} {d : Addr} {Is : List (List Nat)} {F G : List Nat → Fra} (h : ∀ I ∈ Is, F I = G I) (c : CntD H d Is F) : CntD H d Is G := by
  obtain ⟨rs, h1, h2⟩ := c
  exact ⟨rs, h1, paired_congr (fun a I hI z => by rw [← h I hI]; exact z) h2⟩
theorem cnt_ne {K : PySem.W.Frag} {H : Hp} {Q : VK} {a c : Addr} {Is : List (List Nat)} {F : List Nat → Fra} (nd : Is.Nodup) (h1 : CntD H a Is F) (h2 : CntD H c Is F) (q : Q (.bl false) H) : rNeTT K (.ref a) (.ref c) H Q := by
  obtain ⟨rs, a1, a2⟩ := h1
  obtain ⟨ss, b1, b2⟩ := h2
  have l1 := My.plen a2
  have l2 := My.plen b2
  refine ⟨a, c, _, _, rfl, rfl, .inl a1, .inl b1, by rw [List.length_zipWith, List.length_zipWith]; omega, fun p hp => ?_, q⟩
  obtain ⟨j, hj⟩ := List.mem_iff_getElem?.mp hp
  obtain ⟨I, r, e1, e2, ek, ev⟩ := zip_get (k := p.1) (v := p.2) hj
  obtain ⟨r2, e3⟩ : ∃ r2, ss[j]? = some r2 := ⟨_, List.getElem?_eq_getElem (by have := (List.getElem?_eq_some_iff.mp e1).1; omega)⟩
  obtain ⟨I1, f1, hr⟩ := My.pget a2 e2
  obtain ⟨I2, f2, hs⟩ := My.pget b2 e3
  rw [e1] at f1 f2
  cases Option.some.inj f1
  cases Option.some.inj f2
  refine ⟨r, r2, [.int (F I).1, .int (F I).2], ev, by rw [ek]; exact zip_val nd e1 e3, SqT.of hr, SqT.of hs, fun x hx => ?_, fun x hx => ?_⟩
  · simp only [List.mem_cons, List.not_mem_nil, or_false] at hx
    rcases hx with rfl | rfl <;> rfl
  · simp only [List.mem_cons, List.not_mem_nil, or_false] at hx
    rcases hx with rfl | rfl
    · show decide _ = true
      exact decide_eq_true rfl
    · show decide _ = true
      exact decide_eq_true rfl
/-- a place of a stretch -/
def plN (s : Str2) (t m : Int) : Int := s.1.1 * s.2.2 * (m - t) + s.2.1 * s.1.2 * t
def plU (s : Str2) (m : Int) : Int := s.1.2 * s.2.2 * m
theorem place_nr {s : Str2} {t m : Int} (sn : StrN (10 ^ 6) s) (t0 : 0 ≤ t) (t1 : t ≤ m) (m0 : 0 < m) (m1 : m ≤ 10) : 0 < plU s m ∧ Nr (10 ^ 13) (low (plN s t m) (plU s m)) ∧ ∀ D, (⟨t, m, (low (plN s t m) (plU s m)).1, (low (plN s t m) (plU s m)).2⟩ : BM.Pt).Ok (mkDm D s) := by
  obtain ⟨⟨a1, a2⟩, ⟨c1, c2⟩⟩ := s
  have A := sn.lo
  have C := sn.hi
  have hA2 := A.pos; have hA3 := A.lo; have hA4 := A.hi; have hA5 := A.top
  have hC2 := C.pos; have hC3 := C.lo; have hC4 := C.hi; have hC5 := C.top
  simp only at hA2 hA3 hA4 hA5 hC2 hC3 hC4 hC5
  have eN : plN ((a1, a2), (c1, c2)) t m = a1 * c2 * (m - t) + c1 * a2 * t := rfl
  have eU : plU ((a1, a2), (c1, c2)) m = a2 * c2 * m := rfl
  have P : 0 < a2 * c2 := Int.mul_pos hA2 hC2
  have U0 : 0 < a2 * c2 * m := Int.mul_pos P m0
  have e1 : a1 * c2 ≤ 18 * a2 * c2 := Int.mul_le_mul_of_nonneg_right hA4 (by omega)
  have e2 : -(18 * a2) * c2 ≤ a1 * c2 := Int.mul_le_mul_of_nonneg_right hA3 (by omega)
  have e3 : c1 * a2 ≤ 18 * c2 * a2 := Int.mul_le_mul_of_nonneg_right hC4 (by omega)
  have e4 : -(18 * c2) * a2 ≤ c1 * a2 := Int.mul_le_mul_of_nonneg_right hC3 (by omega)
  have g1 := Int.mul_le_mul_of_nonneg_right e1 (show 0 ≤ m - t by omega)
  have g2 := Int.mul_le_mul_of_nonneg_right e2 (show 0 ≤ m - t by omega)
  have g3 := Int.mul_le_mul_of_nonneg_right e3 t0
  have g4 := Int.mul_le_mul_of_nonneg_right e4 t0
  have u1 : 18 * a2 * c2 * (m - t) + 18 * c2 * a2 * t = 18 * (a2 * c2 * m) := by grind
  have u2 : -(18 * a2) * c2 * (m - t) + -(18 * c2) * a2 * t = -(18 * (a2 * c2 * m)) := by grind
  have U1 : a2 * c2 * m ≤ 10 ^ 13 := by
    have z1 : a2 * c2 ≤ 10 ^ 6 * c2 := Int.mul_le_mul_of_nonneg_right hA5 (by omega)
    have z2 : a2 * c2 * m ≤ 10 ^ 6 * c2 * m := Int.mul_le_mul_of_nonneg_right z1 (by omega)
    have z3 : 10 ^ 6 * c2 * m ≤ 10 ^ 6 * c2 * 10 := Int.mul_le_mul_of_nonneg_left m1 (by omega)
    omega
  rw [eN, eU]
  obtain ⟨g, _, q1, q2, _⟩ := low_div (t := a1 * c2 * (m - t) + c1 * a2 * t) U0
  have pp := low_pos (t := a1 * c2 * (m - t) + c1 * a2 * t) U0
  refine ⟨U0, low_nr U0 (by omega) (by omega) U1, fun D => ⟨t0, t1, m0, pp, ?_⟩⟩
  show (low (a1 * c2 * (m - t) + c1 * a2 * t) (a2 * c2 * m)).1 * (a2 * c2 * m) = (low (a1 * c2 * (m - t) + c1 * a2 * t) (a2 * c2 * m)).2 * (a1 * c2 * (m - t) + c1 * a2 * t)
  generalize low (a1 * c2 * (m - t) + c1 * a2 * t) (a2 * c2 * m) = f at q1 q2 ⊢
  rw [q2]
  conv => rhs; rw [q1]
  grind
/-- the shares and places so far -/
structure ShP (H : Hp) (ss ts : List Addr) (ps : List BM.Pt) (ds : List BM.Dm) : Prop where
  s : Paired (ShAt H) ss ps
  t : Paired (fun t (p : BM.Pt) => FraAt H t (p.n, p.b)) ts ps
  b : ∀ p ∈ ps, (0 ≤ p.s ∧ p.s ≤ p.m ∧ 0 < p.m ∧ p.m ≤ 10) ∧ Nr (10 ^ 13) (p.n, p.b)
  ok : ∀ x ∈ ds.zip ps, x.2.Ok x.1
theorem ShP.keep {H H' : Hp} {ss ts : List Addr} {ps : List BM.Pt} {ds : List BM.Dm} (h : ShP H ss ts ps ds) (k : ∀ b xs, H b = some (.tup xs) → H' b = some (.tup xs)) : ShP H' ss ts ps ds :=
  ⟨Paired.mapP h.s fun a p z => k _ _ z, Paired.mapP h.t fun a p z => k _ _ z, h.b, h.ok⟩
theorem zip_snoc {α β : Type} (a : α) (b : β) : ∀ (l : List α) (k : List β), l.length = k.length → (l ++ [a]).zip (k ++ [b]) = l.zip k ++ [(a, b)]
  | [], [], _ => rfl
  | x :: l, y :: k, h => by
    rw [List.cons_append, List.cons_append, List.zip_cons_cons, List.zip_cons_cons, zip_snoc a b l k (Nat.succ.inj h)]; rfl
  | [], _ :: _, h => by cases h
  | _ :: _, [], h => by cases h
theorem ShP.snoc {H : Hp} {ss ts : List Addr} {ps : List BM.Pt} {ds : List BM.Dm} {a t : Addr} {p : BM.Pt} {d : BM.Dm} (h : ShP H ss ts ps ds) (l : ds.length = ps.length) (h1 : ShAt H a p) (h2 : FraAt H t (p.n, p.b)) (h3 : (0 ≤ p.s ∧ p.s ≤ p.m ∧ 0 < p.m ∧ p.m ≤ 10) ∧ Nr (10 ^ 13) (p.n, p.b)) (h4 : p.Ok d) : ShP H (ss ++ [a]) (ts ++ [t]) (ps ++ [p]) (ds ++ [d]) := by
  refine ⟨papp h.s (.cons h1 .nil), papp h.t (.cons h2 .nil), fun q hq => ?_, fun x hx => ?_⟩
  · rcases List.mem_append.mp hq with g | g
    · exact h.b q g
    · rw [List.mem_singleton.mp g]; exact h3
  · rw [zip_snoc d p ds ps l] at hx
    rcases List.mem_append.mp hx with g | g
    · exact h.ok x g
    · rw [List.mem_singleton.mp g]; exact h4
theorem paired_map {α β γ : Type} {F : α → γ → Prop} (g : β → γ) : ∀ {l : List α} {k : List β}, Paired (fun a b => F a (g b)) l k → Paired F l (k.map g)
  | _, _, .nil => .nil
  | _, _, .cons x t => .cons x (paired_map g t)
theorem ne_tup {K : PySem.W.Frag} {H : Hp} {Q : VK} {a c : Addr} {f : Fra} (h1 : FraAt H a f) (h2 : FraAt H c f) (q : Q (.bl false) H) : rNeB K noD 1 (.ref a) (.ref c) H Q := by
  refine ⟨a, c, _, _, fun _ => true, rfl, rfl, SqT.of h1, SqT.of h2, fun i x y ex ey => ?_, ?_⟩
  · rw [ex] at ey
    cases Option.some.inj ey
    have hm := List.mem_iff_getElem?.mpr ⟨i, ex⟩
    simp only [List.mem_cons, List.not_mem_nil, or_false] at hm
    rcases hm with rfl | rfl
    · exact .inl ⟨rfl, rfl, (show true = decide _ from (decide_eq_true rfl).symm)⟩
    · exact .inl ⟨rfl, rfl, (show true = decide _ from (decide_eq_true rfl).symm)⟩
  · exact q
def spLaw (K : PySem.W.Frag) : Sp := fun vs H Q _ => ∃ (a : Addr) (ns : List Int), vs = [.ref a] ∧ SqL K H a (ns.map V.int) ∧ ns.length ≤ 63 ∧ ∀ H', Q (.bl true) H'
theorem str_refs {K : PySem.W.Frag} {H H' : Hp} {d c : Addr} {f : Fra} {t : Addr} (b : But d H H') (h : Hand K H d c) (e : FraAt H t f) : FraAt H' t f := b.obj h e (fun _ z => by cases z)
theorem but_poly {K : PySem.W.Frag} {H H' : Hp} {d c a C : Addr} {ts : Pol} (b : But d H H') (h : Hand K H d c) (e : PolyAt C H a ts) : PolyAt C H' a ts := by
  obtain ⟨dx, t, h1, rs, h2, h3⟩ := e
  exact ⟨dx, t, b.obj h h1 (fun _ z => by cases z), rs, b.obj h h2 (fun _ z => by cases z), Paired.mapP h3 fun r p ⟨q, g1, g2⟩ => ⟨q, b.obj h g1 (fun _ z => by cases z), b.obj h g2 (fun _ z => by cases z)⟩⟩
theorem but_pol {K : PySem.W.Frag} {H H' : Hp} {d c a : Addr} {m : Pol} (b : But d H H') (h : Hand K H d c) (e : PolD H a m) : PolD H' a m := b.obj h e (fun _ z => by cases z)
theorem but_cnt {K : PySem.W.Frag} {H H' : Hp} {d c a : Addr} {Is : List (List Nat)} {F : List Nat → Fra} (b : But d H H') (h : Hand K H d c) (e : CntD H a Is F) : CntD H' a Is F := by
  obtain ⟨rs, h1, h2⟩ := e
  exact ⟨rs, b.obj h h1 (fun _ z => by cases z), Paired.mapP h2 fun r I z => str_refs b h z⟩
theorem lq_mono {many most most' : Int} {m : Pol} (h : Lq many most m) (l : most ≤ most') : Lq many most' m := ⟨h.nd, h.len, fun p hp e he => by have := h.wi p hp e he; omega, h.off, h.bd⟩
/-- what is drawn is of these kinds -/
def Kind3 (many most : Nat) (m : Pol) : Prop := (many ≤ 3 ∧ most = 3 ∧ m.length ≤ 5) ∨ (many = 1 ∧ most ≤ 60 ∧ m.length ≤ 3)
theorem dat_of {many most : Nat} {m : Pol} {sts : List Str2} (lq : Lq (many : Int) (most : Int) m) (k : Kind3 many most m) (sn : ∀ s ∈ sts, StrN (10 ^ 6) s) (s3 : sts.length ≤ 3) (ms : many ≤ sts.length) : Dat m sts := by
  have m60 : most ≤ 60 := by rcases k with ⟨_, h, _⟩ | ⟨_, h, _⟩ <;> omega
  refine ⟨⟨lq.nd, lq.len, fun p hp e he => by have := lq.wi p hp e he; omega, by rcases k with ⟨_, _, h⟩ | ⟨_, _, h⟩ <;> omega, fun p hp => (lq.bd p hp).mono (by decide)⟩, sn, s3, fun p hp j hj => lq.off p hp j (by omega), fun j => if j < many then most else 0, fun p hp j => ?_, fun j hj => ?_, ?_, ?_, ?_⟩
  · show p.1.getD j 0 ≤ (((if j < many then most else 0 : Nat)) : Int)
    by_cases h : j < many
    · rw [if_pos h]
      exact (getD_wi (by omega) (lq.wi p hp) j).2
    · rw [if_neg h, lq.off p hp j (by omega)]
      exact Int.le_refl 0
  · exact if_neg (by omega)
  · rcases k with ⟨h1, rfl, _⟩ | ⟨rfl, h2, _⟩
    · have : many = 0 ∨ many = 1 ∨ many = 2 ∨ many = 3 := by omega
      rcases this with rfl | rfl | rfl | rfl <;> decide
    · show (most + 1) * ((0 + 1) * (0 + 1)) ≤ 64
      omega
  · rcases k with ⟨h1, rfl, h3⟩ | ⟨rfl, h2, h3⟩
    · have : many = 0 ∨ many = 1 ∨ many = 2 ∨ many = 3 := by omega
      refine Nat.le_trans (Nat.mul_le_mul_right _ h3) ?_
      rcases this with rfl | rfl | rfl | rfl <;> decide
    · refine Nat.le_trans (Nat.mul_le_mul_right _ h3) ?_
      show 3 * (44 * (most + 0 + 0) + 210) ≤ 8900
      omega
  · rcases k with ⟨h1, rfl, h3⟩ | ⟨rfl, h2, h3⟩
    · have : many = 0 ∨ many = 1 ∨ many = 2 ∨ many = 3 := by omega
      rcases this with rfl | rfl | rfl | rfl <;> decide
    · show most + 0 + 0 ≤ 60
      omega
section
variable {P : Program} {w : World} {K : PySem.W.Frag} {mg : Str → Option Value} {base : Heap}
theorem sc_law : FnScope ["_law_script", "_law_hand_here", "_law_turn", "_law_many", "_law_parts_here", "_law_box_here", "_law_poly_here", "_law_due", "_law_told", "_law_degrees_here", "_law_again", "_law_shares", "_law_point", "_law_k", "_law_a", "_law_b", "_law_c", "_law_d", "_law_by", "_law_s", "_law_sum_there"] ["_law_script"] (defScope s_law) := ⟨rfl, rfl, rfl, by decide +kernel, rfl, by decide +kernel, by decide +kernel⟩
theorem ok_law {f : Addr} {fd : FuncData} {C : Addr} (F : FnP K "law" "law" s_law f fd) (C_law_hand : Cal P w K mg base "_law_hand" 1 ["_law_script"] (spHand K)) (C_law_any : Cal P w K mg base "_law_any" 2 ["_law_hand_here", "_law_things"] (spAny K)) (C_law_draw : Cal P w K mg base "_law_draw" 1 ["_law_hand_here", "_law_many"] (spDraw K)) (C_law_parts : Cal P w K mg base "_law_parts" 3 ["_law_hand_here", "_law_many", "_law_most", "_law_terms"] (spParts K)) (C_law_box : Cal P w K mg base "_law_box" 4 ["_law_hand_here", "_law_many"] (spLBox K)) (C_law_poly : Cal P w K mg base "_law_poly" 7 ["_law_parts_here"] (spLPoly C)) (C_law_counts : Cal P w K mg base "_law_counts" 4 ["_law_parts_here", "_law_box_here"] spCounts) (C_counts_over : Cal P w K mg base "counts_over" 6 ["poly", "box"] (spCntO C)) (C_law_degrees : Cal P w K mg base "_law_degrees" 3 ["_law_parts_here", "_law_many"] spDegs) (C_law_low : Cal P w K mg base "_law_low" 1 ["_law_top", "_law_bottom"] spLow) (C_law_mixed : Cal P w K mg base "_law_mixed" 3 ["_law_counts_here", "_law_degrees_here", "_law_shares"] spMixed) (C_law_worth : Cal P w K mg base "_law_worth" 3 ["_law_parts_here", "_law_point"] spWorth) (C_worth : Cal P w K mg base "worth" 4 ["poly", "point"] (spWorthP K C)) (T : Txt0 mg) (gDict : mg "dict" = none) : FnOk P w K mg base CX0 8 f fd ["_law_script"] (spLaw K) := by
  obtain ⟨f_law_hand, fd_law_hand, g_law_hand, G_law_hand, b_law_hand, k_law_hand⟩ := C_law_hand
  obtain ⟨f_law_any, fd_law_any, g_law_any, G_law_any, b_law_any, k_law_any⟩ := C_law_any
  obtain ⟨f_law_draw, fd_law_draw, g_law_draw, G_law_draw, b_law_draw, k_law_draw⟩ := C_law_draw
  obtain ⟨f_law_parts, fd_law_parts, g_law_parts, G_law_parts, b_law_parts, k_law_parts⟩ := C_law_parts
  obtain ⟨f_law_box, fd_law_box, g_law_box, G_law_box, b_law_box, k_law_box⟩ := C_law_box
  obtain ⟨f_law_poly, fd_law_poly, g_law_poly, G_law_poly, b_law_poly, k_law_poly⟩ := C_law_poly
  obtain ⟨f_law_counts, fd_law_counts, g_law_counts, G_law_counts, b_law_counts, k_law_counts⟩ := C_law_counts
  obtain ⟨f_counts_over, fd_counts_over, g_counts_over, G_counts_over, b_counts_over, k_counts_over⟩ := C_counts_over
  obtain ⟨f_law_degrees, fd_law_degrees, g_law_degrees, G_law_degrees, b_law_degrees, k_law_degrees⟩ := C_law_degrees
  obtain ⟨f_law_low, fd_law_low, g_law_low, G_law_low, b_law_low, k_law_low⟩ := C_law_low
  obtain ⟨f_law_mixed, fd_law_mixed, g_law_mixed, G_law_mixed, b_law_mixed, k_law_mixed⟩ := C_law_mixed
  obtain ⟨f_law_worth, fd_law_worth, g_law_worth, G_law_worth, b_law_worth, k_law_worth⟩ := C_law_worth
  obtain ⟨f_worth, fd_worth, g_worth, G_worth, b_worth, k_worth⟩ := C_worth
  refine F.ok sc_law (fun vs H Q E h => ?_) (fun cdv A outer s H vs Q E hr h => ?_)
  · obtain ⟨a, ns, rfl, ha, nl, k⟩ := h
    rfl
  · obtain ⟨a, ns, rfl, ha, nl, k⟩ := h
    have hu := hu_of hr
    refine ⟨_, PSs.nox (pss_cons (ps_set (i := 1) sc_law.nd rfl (Or.inl rfl) (pe_call G_law_hand (hr.mono (by decide)) (by rfl) g_law_hand k_law_hand b_law_hand .nil pass0 (pa_cons (pv 0) pa_nil)))
      (pss_cons (ps_for PassesOwn.never rfl (pi_range1 (by rfl) T.range (pa_cons pe_int pa_nil)) (pg_name (i := 2) sc_law.nd rfl (Or.inl rfl))
       (pss_cons (ps_set (i := 3) sc_law.nd rfl (Or.inl rfl) (pe_call G_law_any (hr.mono (by decide)) (by rfl) g_law_any k_law_any b_law_any .nil pass0 (pa_cons (pv 1) (pa_cons (pe_lst (pa_cons pe_int (pa_cons pe_int (pa_cons pe_int (pa_cons pe_int (pa_cons pe_int (pa_cons pe_int pa_nil))))))) pa_nil))))
      (pss_cons (ps_set (i := 4) sc_law.nd rfl (Or.inl rfl) (pe_ifExp (pt_cmpR op_gt (pe_call G_law_draw (hr.mono (by decide)) (by rfl) g_law_draw k_law_draw b_law_draw .nil pass0 (pa_cons (pv 1) (pa_cons pe_int pa_nil))) pe_int (nomark _)) (pe_call G_law_parts (hr.mono (by decide)) (by rfl) g_law_parts k_law_parts b_law_parts .nil pass0 (pa_cons (pv 1) (pa_cons (pv 3) (pa_cons pe_int (pa_cons pe_int pa_nil))))) pe_dnewT))
      (pss_cons (ps_if (PW.pt (pw_and (pt_cmpR op_eq (pv 2) pe_int (nomark _)) (pw_and1 (pt_cmpR op_eq (pe_call G_law_draw (hr.mono (by decide)) (by rfl) g_law_draw k_law_draw b_law_draw .nil pass0 (pa_cons (pv 1) (pa_cons pe_int pa_nil))) pe_int (nomark _)))))
       (pss_one (ps_par (i := 3) (j := 4) (by rfl) sc_law.nd rfl rfl (by decide) rfl rfl (pa_cons pe_int (pa_cons (pe_call G_law_parts (hr.mono (by decide)) (by rfl) g_law_parts k_law_parts b_law_parts .nil pass0 (pa_cons (pv 1) (pa_cons pe_int (pa_cons (pe_call G_law_any (hr.mono (by decide)) (by rfl) g_law_any k_law_any b_law_any .nil pass0 (pa_cons (pv 1) (pa_cons (pe_lst (pa_cons pe_int (pa_cons pe_int (pa_cons pe_int (pa_cons pe_int pa_nil))))) pa_nil))) (pa_cons pe_int pa_nil))))) pa_nil)) (by rfl)))
       pss_nil)
      (pss_cons (ps_set (i := 5) sc_law.nd rfl (Or.inl rfl) (pe_call G_law_box (hr.mono (by decide)) (by rfl) g_law_box k_law_box b_law_box .nil pass0 (pa_cons (pv 1) (pa_cons (pe_call G_law_any (hr.mono (by decide)) (by rfl) g_law_any k_law_any b_law_any .nil pass0 (pa_cons (pv 1) (pa_cons (pe_lst (pa_cons (pv 3) (pa_cons (pv 3) (pa_cons pe_int pa_nil)))) pa_nil))) pa_nil))))
      (pss_cons (ps_par (i := 6) (j := 7) (by rfl) sc_law.nd rfl rfl (by decide) rfl rfl (pa_cons (pe_call G_law_poly (hr.mono (by decide)) (by rfl) g_law_poly k_law_poly b_law_poly .nil pass0 (pa_cons (pv 4) pa_nil)) (pa_cons (pe_call G_law_counts (hr.mono (by decide)) (by rfl) g_law_counts k_law_counts b_law_counts .nil pass0 (pa_cons (pv 4) (pa_cons (pv 5) pa_nil))) pa_nil)) (by rfl))
      (pss_cons (ps_set (i := 8) sc_law.nd rfl (Or.inl rfl) (pe_call G_counts_over (hr.mono (by decide)) (by rfl) g_counts_over k_counts_over b_counts_over .nil pass0 (pa_cons (pv 6) (pa_cons (pv 5) pa_nil))))
      (pss_cons (ps_if (PW.pt (pw_or (pt_not (pt_val (pe_callB call_isi (by rfl) T.isi (by decide +kernel) (pa_cons (pv 8) (pa_cons (pe_bltn (v := .ty "dict") (u := .type "dict") (by rfl) gDict (by decide +kernel) rfl) pa_nil))))) (pw_or1 (pt_cmpR (DX.op_neTT hr.units) (pv 8) (pv 7) (nomark _)))))
       (pss_one (ps_ret pe_bl))
       pss_nil)
      (pss_cons (ps_expr (DX.pe_clearT (pv 8)))
      (pss_cons (ps_if (pt_cmpR (DX.op_neTT hr.units) (pe_call G_counts_over (hr.mono (by decide)) (by rfl) g_counts_over k_counts_over b_counts_over .nil pass0 (pa_cons (pv 6) (pa_cons (pv 5) pa_nil))) (pv 7) (nomark _))
       (pss_one (ps_ret pe_bl))
       pss_nil)
      (pss_cons (ps_set (i := 9) sc_law.nd rfl (Or.inl rfl) (pe_call G_law_degrees (hr.mono (by decide)) (by rfl) g_law_degrees k_law_degrees b_law_degrees .nil pass0 (pa_cons (pv 4) (pa_cons (pe_callB My.c_len (by rfl) T.len PySem.boot_len (pa_cons (pv 5) pa_nil)) pa_nil))))
      (pss_one (ps_for PassesOwn.never rfl (pi_range1 (by rfl) T.range (pa_cons pe_int pa_nil)) (pg_name (i := 10) sc_law.nd rfl (Or.inl rfl))
       (pss_cons (ps_par (i := 11) (j := 12) (by rfl) sc_law.nd rfl rfl (by decide) rfl rfl (pa_cons (pe_lst pa_nil) (pa_cons (pe_lst pa_nil) pa_nil)) (by rfl))
      (pss_cons (ps_for PassesOwn.never rfl (pi_range1 (by rfl) T.range (pa_cons (pe_callB My.c_len (by rfl) T.len PySem.boot_len (pa_cons (pv 5) pa_nil)) pa_nil)) (pg_name (i := 13) sc_law.nd rfl (Or.inl rfl))
       (pss_cons (ps_asg (pe_ix ix_tup (pv 5) (pv 13) (fun _ _ => rfl)) (pg_tup (by rfl) (pgs_cons (pg_tup (by rfl) (pgs_cons (pg_name (i := 14) sc_law.nd rfl (Or.inl rfl)) (pgs_cons (pg_name (i := 15) sc_law.nd rfl (Or.inl rfl)) pgs_nil))) (pgs_cons (pg_tup (by rfl) (pgs_cons (pg_name (i := 16) sc_law.nd rfl (Or.inl rfl)) (pgs_cons (pg_name (i := 17) sc_law.nd rfl (Or.inl rfl)) pgs_nil))) pgs_nil))))
      (pss_cons (ps_set (i := 18) sc_law.nd rfl (Or.inl rfl) (pe_call G_law_any (hr.mono (by decide)) (by rfl) g_law_any k_law_any b_law_any .nil pass0 (pa_cons (pv 1) (pa_cons (pe_lst (pa_cons pe_int (pa_cons pe_int (pa_cons pe_int (pa_cons pe_int pa_nil))))) pa_nil))))
      (pss_cons (ps_set (i := 19) sc_law.nd rfl (Or.inl rfl) (pe_call G_law_draw (hr.mono (by decide)) (by rfl) g_law_draw k_law_draw b_law_draw .nil pass0 (pa_cons (pv 1) (pa_cons (pe_op op_add (pv 18) pe_int) pa_nil))))
      (pss_cons (ps_expr (pe_bm PySem.F.plainAttrs_list PySem.F.slot_list_append PySem.F.type_list_append mt_append (pv 11) (pa_cons (pe_tup (pa_cons (pv 19) (pa_cons (pv 18) pa_nil))) pa_nil)))
      (pss_one (ps_expr (pe_bm PySem.F.plainAttrs_list PySem.F.slot_list_append PySem.F.type_list_append mt_append (pv 12) (pa_cons (pe_call G_law_low (hr.mono (by decide)) (by rfl) g_law_low k_law_low b_law_low .nil pass0 (pa_cons (pe_op op_add (pe_op op_mulW (pe_op op_mulW (pv 14) (pv 17)) (pe_op op_sub (pv 18) (pv 19))) (pe_op op_mulW (pe_op op_mulW (pv 16) (pv 15)) (pv 19))) (pa_cons (pe_op op_mulW (pe_op op_mulW (pv 15) (pv 17)) (pv 18)) pa_nil))) pa_nil)))))))))
      (pss_cons (ps_set (i := 20) sc_law.nd rfl (Or.inl rfl) (pe_call G_law_mixed (hr.mono (by decide)) (by rfl) g_law_mixed k_law_mixed b_law_mixed .nil pass0 (pa_cons (pv 7) (pa_cons (pv 9) (pa_cons (pv 11) pa_nil)))))
      (pss_cons (ps_if (pt_cmpR (DX.op_neB DX.ownR_no (n := 1) (hr.mono (by decide))) (pv 20) (pe_call G_law_worth (hr.mono (by decide)) (by rfl) g_law_worth k_law_worth b_law_worth .nil pass0 (pa_cons (pv 4) (pa_cons (pv 12) pa_nil))) (nomark _))
       (pss_one (ps_ret pe_bl))
       pss_nil)
      (pss_one (ps_if (pt_cmpR (DX.op_neB DX.ownR_no (n := 1) (hr.mono (by decide))) (pe_call G_worth (hr.mono (by decide)) (by rfl) g_worth k_worth b_worth .nil pass0 (pa_cons (pv 6) (pa_cons (pe_tupleOf (by rfl) T.tuple (pe_op op_cat (pv 12) (pe_op op_rep (pe_lst (pa_cons (pe_tup (pa_cons pe_int (pa_cons pe_int pa_nil))) pa_nil)) (pe_op op_sub pe_int (pe_callB My.c_len (by rfl) T.len PySem.boot_len (pa_cons (pv 12) pa_nil)))))) pa_nil))) (pv 20) (nomark _))
       (pss_one (ps_ret pe_bl))
       pss_nil)))))))))))))))))))
      (pss_one (ps_ret pe_bl)))), ?_⟩
    try dsimp only [cxOf, Cx.nox, Cx.wish]
    walk_at "F"
    refine ⟨a, ns, rfl, ha, nl, fun d c H1 nd s1 hh1 => ?_⟩
    walk_at "F"
    refine My.rngI (by omega) (by omega) (fun _ σ' H' => ∃ u2 u3 u4 u5 u6 u7 u8 u9 u10 u11 u12 u13 u14 u15 u16 u17 u18 u19 u20 : Option V, σ' = [some (.ref a), some (.ref d), u2, u3, u4, u5, u6, u7, u8, u9, u10, u11, u12, u13, u14, u15, u16, u17, u18, u19, u20] ∧ Hand K H' d c) ⟨_, _, _, _, _, _, _, _, _, _, _, _, _, _, _, _, _, _, _, rfl, hh1⟩ ?_ ?_
    · rintro i0 σ' H2 hi0 ⟨u2, u3, u4, u5, u6, u7, u8, u9, u10, u11, u12, u13, u14, u15, u16, u17, u18, u19, u20, rfl, hh2⟩
      walk_at "F"
      refine My.new (My.sz (by simp)) fun pl npl => ?_
      have sl := same_new (o := HO.lst [V.int 0, V.int 1, V.int 1, V.int 2, V.int 2, V.int 3]) npl
      walk_at "F"
      refine ⟨d, c, pl, _, rfl, hh2.same sl, SqL.of upd_same, by simp, by simp, fun v H3 hv hh3 b3 _ => ?_⟩
      obtain ⟨kk, rfl, kk3⟩ : ∃ kk : Nat, v = .int (kk : Int) ∧ kk ≤ 3 := by
        simp only [List.mem_cons, List.not_mem_nil, or_false] at hv
        rcases hv with rfl | rfl | rfl | rfl | rfl | rfl <;> first | exact ⟨0, rfl, by decide⟩ | exact ⟨1, rfl, by decide⟩ | exact ⟨2, rfl, by decide⟩ | exact ⟨3, rfl, by decide⟩
      refine My.name rfl (My.seq (My.asg (My.cutV (fun v H' => ∃ (p : Addr) (m : Pol), v = .ref p ∧ Hand K H' d c ∧ PolD H' p m ∧ Lq (kk : Int) 3 m ∧ m.length ≤ 5) (fun Q' hQ => ?_) ?_)))
      · walk_at "F"
        refine ⟨d, c, 8, rfl, by decide, by decide, hh3, fun r H4 r0 r1 hh4 b4 _ => ?_⟩
        walk_at "F"
        · refine ⟨d, c, (kk : Int), 3, 5, rfl, by decide, by decide, by decide, by decide, hh4, fun p H5 m np hh5 b5 hp5 lq ml => ?_⟩
          exact hQ _ _ ⟨p, m, rfl, hh5, hp5, lq, ml⟩
        · refine My.dnewT fun p np => ?_
          exact hQ _ _ ⟨p, [], rfl, hh4.same (same_new np), upd_same, ⟨List.nodup_nil, (fun p hp => nomatch hp), (fun p hp => nomatch hp), (fun p hp => nomatch hp), (fun p hp => nomatch hp)⟩, Nat.zero_le _⟩
      rintro v H4 ⟨p0, m0, rfl, hh4, hp4, lq0, ml0⟩
      refine My.name rfl ?_
      dsimp only
      refine My.cutS (fun σ' H' => ∃ (p : Addr) (m : Pol) (many most : Nat), σ' = [some (.ref a), some (.ref d), some (.int (0 + (i0 : Int))), some (.int (many : Int)), some (.ref p), u5, u6, u7, u8, u9, u10, u11, u12, u13, u14, u15, u16, u17, u18, u19, u20] ∧ Hand K H' d c ∧ PolD H' p m ∧ Lq (many : Int) (most : Int) m ∧ Kind3 many most m ∧ many ≤ 3) (fun N hN => ?_) ?_
      · have old : ∀ H', Hand K H' d c → PolD H' p0 m0 → N [some (.ref a), some (.ref d), some (.int (0 + (i0 : Int))), some (.int (kk : Int)), some (.ref p0), u5, u6, u7, u8, u9, u10, u11, u12, u13, u14, u15, u16, u17, u18, u19, u20] H' := fun H' g1 g2 => hN _ _ ⟨p0, m0, kk, 3, rfl, g1, g2, lq0, .inl ⟨kk3, rfl, ml0⟩, kk3⟩
        walk_at "F"
        · refine ⟨d, c, 12, rfl, by decide, by decide, hh4, fun r H5 r0 r1 hh5 b5 _ => ?_⟩
          walk_at "F"
          · refine My.new (My.sz (by simp)) fun pl npl => ?_
            have sl := same_new (o := HO.lst [V.int 9, V.int 12, V.int 20, V.int 60]) npl
            walk_at "F"
            refine ⟨d, c, pl, _, rfl, hh5.same sl, SqL.of upd_same, by simp, by simp, fun v H6 hv hh6 b6 _ => ?_⟩
            obtain ⟨mm, rfl, mm60⟩ : ∃ mm : Nat, v = .int (mm : Int) ∧ mm ≤ 60 := by
              simp only [List.mem_cons, List.not_mem_nil, or_false] at hv
              rcases hv with rfl | rfl | rfl | rfl <;> first | exact ⟨9, rfl, by decide⟩ | exact ⟨12, rfl, by decide⟩ | exact ⟨20, rfl, by decide⟩ | exact ⟨60, rfl, by decide⟩
            walk_at "F"
            refine ⟨d, c, 1, (mm : Int), 3, rfl, by omega, by omega, by decide, by decide, hh6, fun p H7 m np hh7 b7 hp7 lq ml => ?_⟩
            walk_at "F"
            exact hN _ _ ⟨p, m, 1, mm, rfl, hh7, hp7, lq, .inr ⟨rfl, mm60, ml⟩, by decide⟩
          · exact old _ hh5 (but_pol b5 hh4 hp4)
        · exact old _ hh4 hp4
      rintro σ' H5 ⟨p, m, many, most, rfl, hh5, hp5, lq, k3, m3⟩
      walk_at "F"
      refine My.new (My.sz (by simp)) fun ql nql => ?_
      have sq := same_new (o := HO.lst [V.int (many : Int), V.int (many : Int), V.int 3]) nql
      walk_at "F"
      refine ⟨d, c, ql, _, rfl, hh5.same sq, SqL.of upd_same, by simp, by simp, fun v H6 hv hh6 b6 _ => ?_⟩
      obtain ⟨nb, rfl, nb1, nb3⟩ : ∃ nb : Nat, v = .int (nb : Int) ∧ many ≤ nb ∧ nb ≤ 3 := by
        simp only [List.mem_cons, List.not_mem_nil, or_false] at hv
        rcases hv with rfl | rfl | rfl
        · exact ⟨many, rfl, Nat.le_refl _, m3⟩
        · exact ⟨many, rfl, Nat.le_refl _, m3⟩
        · exact ⟨3, rfl, m3, Nat.le_refl _⟩
      walk_at "F"
      refine ⟨d, c, nb, rfl, nb3, hh6, fun xb H7 sts hh7 b7 hx7 hsl sn => ?_⟩
      have dat := dat_of lq k3 sn (by omega) (by omega)
      have hp7 := but_pol ((Same.but sq).trans (b6.trans b7)) hh5 hp5
      walk_at "F"
      refine ⟨p, m, rfl, hp7, dat.lp, fun ap H8 ts s8 hap pm => ?_⟩
      walk_at "F"
      obtain ⟨W, lc⟩ := dat.lc
      refine ⟨p, xb, m, sts, W, rfl, s8 _ _ hp7, dat.lp, hx7.same s8, lc, fun dd H9 rs9 s9 hdd hpp => ?_⟩
      have ind := idx_nd (dmsP (nzP m) sts)
      have o := dat.spr
      have due9 : CntD H9 dd (BM.idx (dmsP (nzP m) sts)) (cntR (nzP m) sts) := cntD_congr (fun I hI => cnt_eq o hI) ⟨rs9, hdd, hpp⟩
      have s79 := s8.trans s9
      have hh9 := hh7.same s79
      have hp9 : H9 p = some (.dT (kvI m)) := s79 _ _ hp7
      have hx9 := hx7.same s79
      have hap9 := hap.same s9
      have ed := dms_perm (sts := sts) pm
      have told : ∀ {H' : Hp} {td : Addr} {rt : List Addr}, H' td = some (.dT (List.zipWith (fun I r => (ik (ofN I), V.ref r)) (BM.idx (dmsP ts sts)) rt)) → Paired (fun r I => FraAt H' r (cntR ts sts I)) rt (BM.idx (dmsP ts sts)) → CntD H' td (BM.idx (dmsP (nzP m) sts)) (cntR (nzP m) sts) := fun h1 h2 => by
        rw [ed] at h1 h2
        exact cntD_congr (fun I _ => cntR_perm pm I) ⟨_, h1, h2⟩
      have hkap : ∀ I ∈ BM.idx (dmsP ts sts), My.Bd 8990 (BM.kapA (dmsP ts sts) I) := by
        rw [ed]
        exact fun I hI => (dat.kap I hI).mono (by decide)
      have spt := spr_perm pm o
      clear hdd hpp hap hx7 hp7
      walk_at "F"
      refine ⟨ap, xb, ts, sts, rfl, hap9, hx9, spt, hkap, fun td H10 rt ntd s10 htd htp => ?_⟩
      have told10 := told htd htp
      walk_at "F"
      refine (TgV.dT htd).isT mem6 ?_
      walk_at "F"
      refine cnt_ne ind told10 (due9.same s10) ?_
      walk_at "F"
      refine My.bm0T (My.var rfl ⟨.inr (.inr (.inl ⟨rfl, .inr ⟨_, htd⟩⟩)), td, _, rfl, rfl, htd, ?_⟩)
      have s911 : Same H9 (upd H10 td (HO.dT [])) := same_at s10 ntd
      clear htd htp told10
      generalize upd H10 td (HO.dT []) = H11 at s911 ⊢
      walk_at "F"
      refine ⟨ap, xb, ts, sts, rfl, hap9.same s911, hx9.same s911, spt, hkap, fun td2 H12 rt2 ntd2 s12 htd2 htp2 => ?_⟩
      have s912 := s911.trans s12
      walk_at "F"
      refine cnt_ne ind (told htd2 htp2) (due9.same s912) ?_
      clear htd2 htp2
      have hx12 := hx9.same s912
      obtain ⟨bs, hb1, hb2⟩ := id hx12
      have bl := My.plen hb2
      walk_at "F"
      refine My.lenT (SqT.of hb1) ?_
      rw [List.length_map, bl]
      walk_at "F"
      refine ⟨p, m, sts.length, rfl, s912 _ _ hp9, dat.lp, by have := dat.s3; omega, fun gl H13 s13 hg => ?_⟩
      rw [degs_eq dat.s3 fun j => DX.mx_le (fun x hx => by
        obtain ⟨q', hq', rfl⟩ := List.mem_map.mp hx
        exact (o.wi q' hq' j).1) (Int.le_refl 0)] at hg
      have s913 := s912.trans s13
      have hh13 := hh9.same s913
      have hp13 : H13 p = some (.dT (kvI m)) := s913 _ _ hp9
      have hx13 := hx9.same s913
      have hap13 := hap9.same s913
      have due13 := due9.same s913
      clear told ind
      walk_at "F"
      have dl := dms_len (ts := nzP m) dat.s3
      refine My.rngI (by omega) (by omega) (fun _ σ' H' => ∃ v10 v11 v12 v13 v14 v15 v16 v17 v18 v19 v20 : Option V, σ' = [some (.ref a), some (.ref d), some (.int (0 + (i0 : Int))), some (.int (many : Int)), some (.ref p), some (.ref xb), some (.ref ap), some (.ref dd), some (.ref td), some (.ref gl), v10, v11, v12, v13, v14, v15, v16, v17, v18, v19, v20] ∧ Hand K H' d c ∧ But d H13 H') ⟨_, _, _, _, _, _, _, _, _, _, _, rfl, hh13, .refl _ _⟩ ?_ ?_
      · rintro i1 σ' H14 hi1 ⟨v10, v11, v12, v13, v14, v15, v16, v17, v18, v19, v20, rfl, hh14, b14⟩
        walk_at "F"
        refine My.new (My.sz (by simp)) fun sl nsl => ?_
        have s15 := same_new (o := HO.lst []) nsl
        have nsl13 := fresh_of hh13 hh14 b14 nsl
        have hsl15 := upd_same (H := H14) (a := sl) (o := HO.lst [])
        have hh15 := hh14.same s15
        have b15 := b14.trans (Same.but s15)
        generalize upd H14 sl (HO.lst []) = H15 at s15 hsl15 hh15 b15 ⊢
        walk_at "F"
        refine My.new (My.sz (by simp)) fun pl npl => ?_
        have s16 := same_new (o := HO.lst []) npl
        have npl13 := fresh_of hh13 hh15 b15 npl
        have hpl16 := upd_same (H := H15) (a := pl) (o := HO.lst [])
        have hsl16 := s16 _ _ hsl15
        have hh16 := hh15.same s16
        have b16 := b15.trans (Same.but s16)
        have slpl : sl ≠ pl := ne_of_none hsl15 npl
        generalize upd H15 pl (HO.lst []) = H16 at s16 hpl16 hsl16 hh16 b16 ⊢
        walk_at "F"
        obtain ⟨bs3, hb31, hb32⟩ := id hx13
        have bl3 := My.plen hb32
        refine My.lenT (SqT.of (b16.obj hh13 hb31 (fun _ z => by cases z))) ?_
        rw [List.length_map, bl3]
        walk_at "F"
        refine My.rngI (by omega) (by have := dat.s3; omega) (fun k σ' H' => ∃ (ss ts : List Addr) (ps : List BM.Pt) (w13 w14 w15 w16 w17 w18 w19 : Option V), σ' = [some (.ref a), some (.ref d), some (.int (0 + (i0 : Int))), some (.int (many : Int)), some (.ref p), some (.ref xb), some (.ref ap), some (.ref dd), some (.ref td), some (.ref gl), some (.int (0 + (i1 : Int))), some (.ref sl), some (.ref pl), w13, w14, w15, w16, w17, w18, w19, v20] ∧ Hand K H' d c ∧ But d H13 H' ∧ H' sl = some (.lst (ss.map V.ref)) ∧ H' pl = some (.lst (ts.map V.ref)) ∧ ShP H' ss ts ps ((dmsP (nzP m) sts).take k) ∧ ps.length = k) ⟨[], [], [], _, _, _, _, _, _, _, rfl, hh16, b16, hsl16, hpl16, ⟨.nil, .nil, (fun p hp => nomatch hp), (fun x hx => by simp at hx)⟩, rfl⟩ ?_ ?_
        · rintro k σ' H17 hk ⟨ss, ts', ps, w13, w14, w15, w16, w17, w18, w19, rfl, hh17, b17, hsl17, hpl17, shp, psl⟩
          have kn : k < sts.length := by omega
          have s3 := dat.s3
          have es : sts[k]? = some sts[k] := List.getElem?_eq_getElem kn
          have edk := dms_get (ts := nzP m) dat.s3 es
          obtain ⟨sa, ea⟩ : ∃ sa, bs3[k]? = some sa := ⟨_, List.getElem?_eq_getElem (by omega)⟩
          obtain ⟨s0, es0, hs0⟩ := My.pget hb32 ea
          rw [es] at es0
          cases Option.some.inj es0
          obtain ⟨x1, x2, hxa, hx1, hx2⟩ := but_str b17 hh13 hs0
          have snk := dat.sn _ (List.getElem_mem kn)
          have ez : (0 : Int) + (k : Int) = (k : Int) := Int.zero_add _
          rw [ez]
          walk_at "F"
          refine My.ixT (v := .ref sa) (SqT.of (b17.obj hh13 hb31 (fun _ z => by cases z))) (atI_nat (by rw [List.getElem?_map, ea]; rfl)) ?_
          refine My.gtup22 (SqT.of hxa) (SqT.of hx1) (SqT.of hx2) rfl ?_
          walk_at "F"
          refine My.new (My.sz (by simp)) fun ql nql => ?_
          have sq := same_new (o := HO.lst [V.int 1, V.int 2, V.int 3, V.int 10]) nql
          walk_at "F"
          refine ⟨d, c, ql, _, rfl, hh17.same sq, SqL.of upd_same, by simp, by simp, fun v H18 hv hh18 b18 _ => ?_⟩
          obtain ⟨by_, rfl, y0, y1⟩ : ∃ by_ : Int, v = .int by_ ∧ 0 < by_ ∧ by_ ≤ 10 := by
            simp only [List.mem_cons, List.not_mem_nil, or_false] at hv
            rcases hv with rfl | rfl | rfl | rfl <;> exact ⟨_, rfl, by decide, by decide⟩
          have b178 := (Same.but sq).trans b18
          walk_at "F"
          refine ⟨d, c, by_ + 1, rfl, by omega, by omega, hh18, fun s_ H19 z0 z1 hh19 b19 _ => ?_⟩
          have b179 := b178.trans b19
          have hsl19 : H19 sl = some (.lst (ss.map V.ref)) := b179.obj hh17 hsl17 (fun _ z => by cases z)
          have hpl19 : H19 pl = some (.lst (ts'.map V.ref)) := b179.obj hh17 hpl17 (fun _ z => by cases z)
          have shp19 := shp.keep fun b xs e => b179.obj hh17 e (fun _ z => by cases z)
          have b1319 := b17.trans b179
          have sll := My.plen shp.s
          have tll := My.plen shp.t
          walk_at "F"
          refine My.tyL (SqL.of hsl19) ?_
          walk_at "F"
          refine My.new (My.sz (by simp)) fun t1 nt1 => ?_
          have st1 := same_new (o := HO.tup [V.int s_, V.int by_]) nt1
          have ht1 := upd_same (H := H19) (a := t1) (o := HO.tup [V.int s_, V.int by_])
          have hsl20 := st1 _ _ hsl19
          have hpl20 := st1 _ _ hpl19
          have shp20 := shp19.keep fun b xs e => st1 _ _ e
          have hh20 := hh19.same st1
          have b20 := b1319.trans (Same.but st1)
          generalize upd H19 t1 _ = H20 at ht1 hsl20 hpl20 shp20 hh20 b20 ⊢
          have sld : sl ≠ d := fun z => by obtain ⟨ks, e⟩ := hh20.dk; rw [z, e] at hsl20; cases hsl20
          have pld : pl ≠ d := fun z => by obtain ⟨ks, e⟩ := hh20.dk; rw [z, e] at hpl20; cases hpl20
          refine My.nil ?_
          refine My.app hsl20 (by rw [List.length_map]; omega) ?_
          have tn20 : ∀ b xs, H20 b = some (.tup xs) → b ≠ sl := fun b xs e z => by rw [z, hsl20] at e; cases e
          have ht21 : upd H20 sl (.lst (ss.map V.ref ++ [V.ref t1])) t1 = some (.tup [V.int s_, V.int by_]) := by rw [upd_ne (tn20 _ _ ht1)]; exact ht1
          have hpl21 : upd H20 sl (.lst (ss.map V.ref ++ [V.ref t1])) pl = some (.lst (ts'.map V.ref)) := by rw [upd_ne slpl.symm]; exact hpl20
          have hsl21 : upd H20 sl (.lst (ss.map V.ref ++ [V.ref t1])) sl = some (.lst ((ss ++ [t1]).map V.ref)) := by rw [upd_same, List.map_append]; rfl
          have shp21 := shp20.keep (H' := upd H20 sl (.lst (ss.map V.ref ++ [V.ref t1]))) fun b xs e => by rw [upd_ne (tn20 _ _ e)]; exact e
          have hh21 : Hand K (upd H20 sl (.lst (ss.map V.ref ++ [V.ref t1]))) d c := Hand.at hh13 b20 hh20 nsl13
          have b21 : But d H13 (upd H20 sl (.lst (ss.map V.ref ++ [V.ref t1]))) := but_at b20 nsl13
          generalize upd H20 sl _ = H21 at ht21 hpl21 hsl21 shp21 hh21 b21 ⊢
          walk_at "F"
          refine My.tyL (SqL.of hpl21) ?_
          have A := snk.lo
          have C' := snk.hi
          have hA2 := A.pos; have hA3 := A.lo; have hA4 := A.hi; have hA5 := A.top
          have hC2 := C'.pos; have hC3 := C'.lo; have hC4 := C'.hi; have hC5 := C'.top
          have Ba : My.Bd 25 sts[k].1.1 := My.Bd.lit (k := 18000001) (by omega) (by decide)
          have Bb : My.Bd 20 sts[k].1.2 := My.Bd.lit (k := 1000001) (by omega) (by decide)
          have Bc : My.Bd 25 sts[k].2.1 := My.Bd.lit (k := 18000001) (by omega) (by decide)
          have Bd' : My.Bd 20 sts[k].2.2 := My.Bd.lit (k := 1000001) (by omega) (by decide)
          have Bm : My.Bd 10 by_ := My.Bd.lit (k := 1001) (by omega) (by decide)
          have Bt : My.Bd 10 s_ := My.Bd.lit (k := 1001) (by omega) (by decide)
          have Bmt : My.Bd 10 (by_ - s_) := My.Bd.lit (k := 1001) (by omega) (by decide)
          walk_at "F"
          refine My.mulW (Ba.mul Bd') Bmt (by decide) ?_
          walk_at "F"
          refine My.mulW (Bc.mul Bb) Bt (by decide) ?_
          walk_at "F"
          refine My.mulW (Bb.mul Bd') Bm (by decide) ?_
          walk_at "F"
          obtain ⟨U0, nr, ok0⟩ := place_nr snk z0 (show s_ ≤ by_ by omega) y0 y1
          refine ⟨plN sts[k] s_ by_, plU sts[k] by_, rfl, U0, ((Bb.mul Bd').mul Bm).mono (by decide), fun q2 nq2 => ?_⟩
          have sq2 := same_new (o := HO.tup [V.int (low (plN sts[k] s_ by_) (plU sts[k] by_)).1, V.int (low (plN sts[k] s_ by_) (plU sts[k] by_)).2]) nq2
          have hq2 := upd_same (H := H21) (a := q2) (o := HO.tup [V.int (low (plN sts[k] s_ by_) (plU sts[k] by_)).1, V.int (low (plN sts[k] s_ by_) (plU sts[k] by_)).2])
          have ht22 := sq2 _ _ ht21
          have hpl22 := sq2 _ _ hpl21
          have hsl22 := sq2 _ _ hsl21
          have shp22 := shp21.keep fun b xs e => sq2 _ _ e
          have hh22 := hh21.same sq2
          have b22 := b21.trans (Same.but sq2)
          generalize upd H21 q2 _ = H22 at hq2 ht22 hpl22 hsl22 shp22 hh22 b22 ⊢
          walk_at "F"
          refine My.app hpl22 (by rw [List.length_map]; omega) ?_
          have tn22 : ∀ b xs, H22 b = some (.tup xs) → b ≠ pl := fun b xs e z => by rw [z, hpl22] at e; cases e
          have shp23 := shp22.keep (H' := upd H22 pl (.lst (ts'.map V.ref ++ [V.ref q2]))) fun b xs e => by rw [upd_ne (tn22 _ _ e)]; exact e
          have etk : (dmsP (nzP m) sts).take (k + 1) = (dmsP (nzP m) sts).take k ++ [mkDm (mx 0 (colP (nzP m) k)).toNat sts[k]] := by
            rw [List.take_succ, edk]; rfl
          refine ⟨ss ++ [t1], ts' ++ [q2], ps ++ [⟨s_, by_, (low (plN sts[k] s_ by_) (plU sts[k] by_)).1, (low (plN sts[k] s_ by_) (plU sts[k] by_)).2⟩], _, _, _, _, _, _, _, rfl, Hand.at hh13 b22 hh22 npl13, but_at b22 npl13, by rw [upd_ne slpl]; exact hsl22, by rw [upd_same, List.map_append]; rfl, ?_, by rw [List.length_append, psl]; rfl⟩
          rw [etk]
          refine shp23.snoc (by rw [List.length_take, dl, psl]; omega) (by show upd H22 pl _ t1 = _; rw [upd_ne (tn22 _ _ ht22)]; exact ht22) (by show upd H22 pl _ q2 = _; rw [upd_ne (tn22 _ _ hq2)]; exact hq2) ⟨⟨z0, by show s_ ≤ by_; omega, y0, y1⟩, nr⟩ (ok0 _)
        · rintro σ' H17 ⟨ss, ts', ps, w13, w14, w15, w16, w17, w18, w19, rfl, hh17, b17, hsl17, hpl17, shp, psl⟩
          rw [show ((sts.length : Int)).toNat = (dmsP (nzP m) sts).length by rw [dl]; omega] at psl shp
          rw [List.take_length] at shp
          have s3 := dat.s3
          have due17 := but_cnt b17 hh13 due13
          have hg17 := b17.obj hh13 hg (fun _ z => by cases z)
          have hp17 := but_pol b17 hh13 hp13
          have hap17 := but_poly b17 hh13 hap13
          have tll := My.plen shp.t
          have off := dat.off
          obtain ⟨eqW, w0⟩ := mix_worth (pts := ps.map fun p => (p.n, p.b)) o off rfl psl shp.ok
          walk_at "F"
          refine ⟨dd, gl, sl, dmsP (nzP m) sts, ps, BM.rowV (dmsP (nzP m) sts) (natP (cutP sts.length (nzP m))), ss, rfl, due17, hg17, hsl17, shp.s, dat.mix (by omega) fun p hp => (shp.b p hp).1, fun mp H18 s18 hmp => ?_⟩
          rw [eqW] at hmp
          have hpl18 := s18 _ _ hpl17
          have ht18 := Paired.mapP (paired_map (F := FraAt H17) (fun p : BM.Pt => (p.n, p.b)) shp.t) fun t f (z : FraAt H17 t f) => z.same s18
          have hn : ∀ f ∈ ps.map (fun p : BM.Pt => (p.n, p.b)), Nr (10 ^ 13) f := fun f hf => by
            obtain ⟨p', hp', rfl⟩ := List.mem_map.mp hf
            exact (shp.b p' hp').2
          have pml : (ps.map fun p : BM.Pt => (p.n, p.b)).length = sts.length := by rw [List.length_map]; omega
          generalize (ps.map fun p : BM.Pt => (p.n, p.b)) = pts at hmp ht18 hn pml w0
          obtain ⟨W', wl⟩ := dat.wl hn
          walk_at "F"
          refine ⟨p, pl, m, ts', pts, W', rfl, s18 _ _ hp17, dat.lp, hpl18, ht18, wl, by omega, fun wp H19 s19 hw _ _ => ?_⟩
          refine ne_tup (hmp.same s19) hw ?_
          have s1719 := s18.trans s19
          walk_at "F"
          refine My.new (My.sz (by simp)) fun t0 nt0 => ?_
          have st0 := same_new (o := HO.tup [V.int 0, V.int 1]) nt0
          have ht0 := upd_same (H := H19) (a := t0) (o := HO.tup [V.int 0, V.int 1])
          have hpl20 := st0 _ _ (s19 _ _ hpl18)
          have s1920 := s1719.trans st0
          have hs20 := (hmp.same s19).same st0
          have ht20 := Paired.mapP ht18 fun t f (z : FraAt H18 t f) => (z.same s19).same st0
          generalize upd H19 t0 _ = H20 at ht0 hpl20 s1920 hs20 ht20 ⊢
          walk_at "F"
          refine My.new (My.sz (by simp)) fun l0 nl0 => ?_
          have sl0 := same_new (o := HO.lst [V.ref t0]) nl0
          have hl0 := upd_same (H := H20) (a := l0) (o := HO.lst [V.ref t0])
          have hpl21 := sl0 _ _ hpl20
          generalize upd H20 l0 _ = H21 at sl0 hl0 hpl21 ⊢
          walk_at "F"
          refine My.lenL (SqL.of hpl21) ?_
          rw [List.length_map, tll, psl, dl]
          walk_at "F"
          refine My.repL hl0 (by omega) (by omega) (by simp) fun l1 nl1 => ?_
          have sl1 := same_new (o := HO.lst (List.replicate ((4 : Int) - (sts.length : Int)).toNat [V.ref t0]).flatten) nl1
          have e1 : (List.replicate ((4 : Int) - (sts.length : Int)).toNat [V.ref t0]).flatten = (List.replicate (4 - sts.length) t0).map V.ref := by
            rw [show ((4 : Int) - (sts.length : Int)).toNat = 4 - sts.length by omega, List.map_replicate]
            induction 4 - sts.length with
            | zero => rfl
            | succ n ih => rw [List.replicate_succ, List.flatten_cons, ih, List.replicate_succ]; rfl
          rw [e1] at sl1 ⊢
          have hl1 := upd_same (H := H21) (a := l1) (o := HO.lst ((List.replicate (4 - sts.length) t0).map V.ref))
          have hpl22 := sl1 _ _ hpl21
          generalize upd H21 l1 _ = H22 at sl1 hl1 hpl22 ⊢
          refine My.cat hpl22 hl1 (by rw [List.length_map, List.length_map, List.length_replicate, tll]; omega) fun l2 nl2 => ?_
          rw [← List.map_append]
          have sl2 := same_new (o := HO.lst ((ts' ++ List.replicate (4 - sts.length) t0).map V.ref)) nl2
          refine My.tupL (SqL.of upd_same) fun tp ntp => ?_
          have stp := same_new (o := HO.tup ((ts' ++ List.replicate (4 - sts.length) t0).map V.ref)) ntp
          have s23 := ((sl0.trans sl1).trans sl2).trans stp
          have htp := upd_same (H := upd H22 l2 (HO.lst ((ts' ++ List.replicate (4 - sts.length) t0).map V.ref))) (a := tp) (o := HO.tup ((ts' ++ List.replicate (4 - sts.length) t0).map V.ref))
          generalize upd (upd H22 l2 _) tp _ = H23 at s23 htp ⊢
          have s1723 := s1920.trans s23
          have rep : ∀ n, Paired (FraAt H23) (List.replicate n t0) (List.replicate n ((0 : Int), (1 : Int))) := fun n => by
            induction n with
            | zero => exact .nil
            | succ n ih => exact .cons (s23 _ _ ht0) ih
          have ppos : ∀ k, 0 < (plc pts k).2 := fun k => by
            unfold plc
            rw [List.getD_eq_getElem?_getD]
            cases e : pts[k]? with
            | none => exact (by decide : (0 : Int) < 1)
            | some f => exact (hn f (List.mem_iff_getElem?.mpr ⟨k, e⟩)).pos
          have p44 : ∀ k, My.Bd 44 (plc (pts ++ List.replicate (4 - sts.length) ((0 : Int), (1 : Int))) k).2 := fun k => by
            rw [plc_pad]
            unfold plc
            rw [List.getD_eq_getElem?_getD]
            cases e : pts[k]? with
            | none => exact (show (1 : Int).natAbs < 2 ^ 44 by decide)
            | some f => exact (nr_44 (hn f (List.mem_iff_getElem?.mpr ⟨k, e⟩))).2
          have mem : ∀ q ∈ ts, q ∈ m := fun q hq => nz_sub q (pm.mem_iff.mp hq)
          walk_at "F"
          refine ⟨ap, tp, ts, ts' ++ List.replicate (4 - sts.length) t0, pts ++ List.replicate (4 - sts.length) (0, 1), rfl, hap17.same s1723, htp, papp (Paired.mapP ht20 fun t f z => z.same s23) (rep _), by rw [List.length_append, List.length_replicate]; omega, fun f hf => ?_, fun q hq => ⟨dat.lp.len q (mem q hq), dat.k0 q (mem q hq), dat.lp.bd q (mem q hq)⟩, by rw [pm.length_eq]; exact Nat.le_trans nz_few dat.lp.few, dat.ud pm p44, fun wq H24 s24 hwq => ?_⟩
          · rcases List.mem_append.mp hf with g | g
            · exact ((hn f g).mono (by decide)).ok
            · rw [(List.mem_replicate.mp g).2]
              exact ⟨by decide, by decide, (show (0 : Int).natAbs < 2 ^ 150 by decide), (show (1 : Int).natAbs < 2 ^ 150 by decide)⟩
          rw [worth_eq pm (fun q hq k => (dat.k0 q hq k).1) ppos fun k => plc_pad _ k] at hwq
          walk_at "F"
          refine ne_tup hwq ((hs20.same s23).same s24) ?_
          have sall := s1723.trans s24
          walk_at "F"
          exact ⟨_, _, _, _, _, _, _, _, _, _, _, rfl, hh17.same sall, b17.trans (Same.but sall)⟩
      · rintro σ' H14 ⟨v10, v11, v12, v13, v14, v15, v16, v17, v18, v19, v20, rfl, hh14, b14⟩
        exact ⟨_, _, _, _, _, _, _, _, _, _, _, _, _, _, _, _, _, _, _, rfl, hh14⟩
    · rintro σ' H2 ⟨u2, u3, u4, u5, u6, u7, u8, u9, u10, u11, u12, u13, u14, u15, u16, u17, u18, u19, u20, rfl, hh2⟩
      walk_at "F"
      exact k _
end
end K23

set_option Elab.async false
set_option linter.all false
set_option maxRecDepth 100000
set_option maxHeartbeats 0
namespace K23
open PySem PySem.Spec PyProof.Rows L2 XV DX XF He
theorem own_ok {K : PySem.W.Frag} {x : Str} (cl : Cls K (ga K x)) (h : ownB K x = true) (hn : PySem.W.specialIn K (.builtin "object.__class__") "__get__" = some (some (.builtin "getset_descriptor.__get__"))) (ht : PySem.W.takesIn K (.builtin "object.__class__") = some true) : InsT K (ga K x) ∧ ClsN K (ga K x) := by
  obtain ⟨c1, h⟩ := ba h
  obtain ⟨c2, h⟩ := ba h
  obtain ⟨c3, h⟩ := ba h
  obtain ⟨c4, c5⟩ := ba h
  exact ⟨⟨cl, eqO_ok c1, hn, ht, of_decide_eq_true c2, fun T hT => of_decide_eq_true (List.all_eq_true.mp c3 T hT)⟩, ⟨of_decide_eq_true c4, fun T hT => of_decide_eq_true (List.all_eq_true.mp c5 T hT)⟩⟩
theorem facts {P : Program} {w : World} {K : PySem.W.Frag} {h : Heap} {mg : Str → Option Value} {f : Addr} (X : K.In h) (G : h.Ns mainGlobals mg) (hfa : mg ("law" : Str) = some (.ref f)) (c : He.SaysD fa fnH K) (c2 : ex K = true) :
    ∃ fd : FuncData, (∀ (s : Shared) (v : Value), BindsTo s fd ⟨[v], []⟩ [("_law_script", v)]) ∧ ∀ base : Heap, K.In base → base.Ns mainGlobals mg → FnOk P w K mg base CX0 8 f fd ["_law_script"] (spLaw K) := by
  obtain ⟨fd_is_integer, F_is_integer⟩ := c.def_ 0 (d := d_is_integer) rfl
  obtain ⟨fd_is_number_to, F_is_number_to⟩ := c.def_ 1 (d := d_is_number_to) rfl
  obtain ⟨fd_is_fraction, F_is_fraction⟩ := c.def_ 2 (d := d_is_fraction) rfl
  obtain ⟨fd_is_point, F_is_point⟩ := c.def_ 3 (d := d_is_point) rfl
  obtain ⟨fd_greatest_powers, F_greatest_powers⟩ := c.def_ 4 (d := d_greatest_powers) rfl
  obtain ⟨fd_Poly_init, F_Poly_init⟩ := c.def_ 5 (d := d_Poly_init) rfl
  obtain ⟨fd_is_term, F_is_term⟩ := c.def_ 6 (d := d_is_term) rfl
  obtain ⟨fd_is_powers, F_is_powers⟩ := c.def_ 7 (d := d_is_powers) rfl
  obtain ⟨fd_number_raised, F_number_raised⟩ := c.def_ 8 (d := d_number_raised) rfl
  obtain ⟨fd_top, F_top⟩ := c.def_ 9 (d := d_top) rfl
  obtain ⟨fd_worth, F_worth⟩ := c.def_ 10 (d := d_worth) rfl
  obtain ⟨fd_weights_of, F_weights_of⟩ := c.def_ 11 (d := d_weights_of) rfl
  obtain ⟨fd_stands_in, F_stands_in⟩ := c.def_ 12 (d := d_stands_in) rfl
  obtain ⟨fd_ratio, F_ratio⟩ := c.def_ 13 (d := d_ratio) rfl
  obtain ⟨fd_is_less, F_is_less⟩ := c.def_ 14 (d := d_is_less) rfl
  obtain ⟨fd_is_stretch, F_is_stretch⟩ := c.def_ 15 (d := d_is_stretch) rfl
  obtain ⟨fd_is_box, F_is_box⟩ := c.def_ 16 (d := d_is_box) rfl
  obtain ⟨fd_spread, F_spread⟩ := c.def_ 17 (d := d_spread) rfl
  obtain ⟨fd_shared_bottom, F_shared_bottom⟩ := c.def_ 18 (d := d_shared_bottom) rfl
  obtain ⟨fd_spread_by, F_spread_by⟩ := c.def_ 19 (d := d_spread_by) rfl
  obtain ⟨fd_times_line, F_times_line⟩ := c.def_ 20 (d := d_times_line) rfl
  obtain ⟨fd_turned, F_turned⟩ := c.def_ 21 (d := d_turned) rfl
  obtain ⟨fd_counts_over, F_counts_over⟩ := c.def_ 22 (d := d_counts_over) rfl
  obtain ⟨fd_places_to, F_places_to⟩ := c.def_ 23 (d := d_places_to) rfl
  obtain ⟨fd_is_box_for, F_is_box_for⟩ := c.def_ 24 (d := d_is_box_for) rfl
  obtain ⟨fd_law_hand, F_law_hand⟩ := c.def_ 25 (d := d_law_hand) rfl
  obtain ⟨fd_law_draw, F_law_draw⟩ := c.def_ 26 (d := d_law_draw) rfl
  obtain ⟨fd_law_any, F_law_any⟩ := c.def_ 27 (d := d_law_any) rfl
  obtain ⟨fd_law_low, F_law_low⟩ := c.def_ 28 (d := d_law_low) rfl
  obtain ⟨fd_law_power, F_law_power⟩ := c.def_ 29 (d := d_law_power) rfl
  obtain ⟨fd_law_binomial, F_law_binomial⟩ := c.def_ 30 (d := d_law_binomial) rfl
  obtain ⟨fd_law_poly, F_law_poly⟩ := c.def_ 31 (d := d_law_poly) rfl
  obtain ⟨fd_law_parts, F_law_parts⟩ := c.def_ 32 (d := d_law_parts) rfl
  obtain ⟨fd_law_degrees, F_law_degrees⟩ := c.def_ 33 (d := d_law_degrees) rfl
  obtain ⟨fd_law_stretch, F_law_stretch⟩ := c.def_ 34 (d := d_law_stretch) rfl
  obtain ⟨fd_law_box, F_law_box⟩ := c.def_ 35 (d := d_law_box) rfl
  obtain ⟨fd_law_polar, F_law_polar⟩ := c.def_ 36 (d := d_law_polar) rfl
  obtain ⟨fd_law_indexes, F_law_indexes⟩ := c.def_ 37 (d := d_law_indexes) rfl
  obtain ⟨fd_law_counts, F_law_counts⟩ := c.def_ 38 (d := d_law_counts) rfl
  obtain ⟨fd_law_worth, F_law_worth⟩ := c.def_ 39 (d := d_law_worth) rfl
  obtain ⟨fd_law_mixed, F_law_mixed⟩ := c.def_ 40 (d := d_law_mixed) rfl
  obtain ⟨fd_law, F_law⟩ := c.def_ 41 (d := d_law) rfl
  have e := hfa.symm.trans (He.glo_ok X G (c.fact 40 (f := .glo "law") rfl))
  cases e
  obtain ⟨x1, c2⟩ := ba c2
  obtain ⟨x2, c2⟩ := ba c2
  obtain ⟨x3, c2⟩ := ba c2
  obtain ⟨x4, c2⟩ := ba c2
  obtain ⟨x5, c2⟩ := ba c2
  obtain ⟨x6, c2⟩ := ba c2
  have T : Txt0 mg := { len := He.free_ok X G (c.fact 42 (f := .free "len") rfl), int := He.free_ok X G (c.fact 43 (f := .free "int") rfl), abs := He.free_ok X G (c.fact 44 (f := .free "abs") rfl), range := He.free_ok X G (c.fact 45 (f := .free "range") rfl), isi := He.free_ok X G (c.fact 46 (f := .free "isinstance") rfl), bool := He.free_ok X G (c.fact 47 (f := .free "bool") rfl), tuple := He.free_ok X G (c.fact 48 (f := .free "tuple") rfl), enum := He.free_ok X G (c.fact 49 (f := .free "enumerate") rfl), verr := He.free_ok X G (c.fact 50 (f := .free "ValueError") rfl), list := He.free_ok X G (c.fact 51 (f := .free "list") rfl), sorted := He.free_ok X G (c.fact 52 (f := .free "sorted") rfl), max := He.free_ok X G (c.fact 53 (f := .free "max") rfl), min := He.free_ok X G (c.fact 54 (f := .free "min") rfl), sum := He.free_ok X G (c.fact 55 (f := .free "sum") rfl), zip := He.free_ok X G (c.fact 56 (f := .free "zip") rfl), all := He.free_ok X G (c.fact 57 (f := .free "all") rfl), str := He.free_ok X G (c.fact 58 (f := .free "str") rfl), gcd := PySem.W.mg_of X G (eqO_ok x3), lcm := PySem.W.mg_of X G (eqO_ok x4) }
  have gProduct := PySem.W.mg_of X G (eqO_ok x1)
  have gComb := PySem.W.mg_of X G (eqO_ok x2)
  have gProd := gProduct
  have gDict := He.free_ok X G (c.fact 59 (f := .free "dict") rfl)
  have hn := eqO_ok x5
  have ht := of_decide_eq_true x6
  obtain ⟨iP, nP⟩ := own_ok (He.cls_ok (c.fact 60 (f := .cls "Poly") rfl)) c2 hn ht
  have PT : PolF K mg (ga K "Poly") (ma K (ga K "Poly") "__init__") (ma K (ga K "Poly") "__eq__") := ⟨(He.glo_ok X G (c.fact 41 (f := .glo "Poly") rfl)), iP, nP, He.noat_ok (c.fact 63 (f := .noat "Poly" "terms") rfl), He.mkr_ok (c.fact 61 (f := .mkr "Poly") rfl), He.meth_ok (c.fact 62 (f := .meth "Poly" "__eq__") rfl)⟩
  have ins := iP
  have na := PT.na
  obtain ⟨tUNK, gUNK⟩ := He.int_ok X G (c.fact 64 (f := .int "UNKNOWNS" 4) rfl)
  obtain ⟨tPOW, gPOW⟩ := He.int_ok X G (c.fact 65 (f := .int "MOST_POWER" 60) rfl)
  obtain ⟨tTRM, gTRM⟩ := He.int_ok X G (c.fact 66 (f := .int "MOST_TERMS" 300) rfl)
  obtain ⟨tSTR, gSTR⟩ := He.int_ok X G (c.fact 67 (f := .int "MOST_STRETCHES" 3) rfl)
  have b := FunD.bindsA (ps := ["_law_script"]) F_law fun _ _ _ _ _ _ us hl => match us, hl with | [_], _ => rfl
  refine ⟨fd_law, fun s v => b s [v] rfl, fun base _ _ => ?_⟩
  have C_law_hand := cal_law_hand (P := P) (w := w) (base := base) F_law_hand (He.glo_ok X G (c.fact 24 (f := .glo "_law_hand") rfl)) T
  have C_law_draw := cal_law_draw (P := P) (w := w) (base := base) F_law_draw (He.glo_ok X G (c.fact 25 (f := .glo "_law_draw") rfl)) T
  have C_law_any := cal_law_any (P := P) (w := w) (base := base) F_law_any (He.glo_ok X G (c.fact 26 (f := .glo "_law_any") rfl)) T C_law_draw
  have C_is_integer := cal_is_integer (P := P) (w := w) (base := base) F_is_integer (He.glo_ok X G (c.fact 0 (f := .glo "is_integer") rfl)) T
  have C_is_number_to := cal_is_number_to (P := P) (w := w) (base := base) F_is_number_to (He.glo_ok X G (c.fact 1 (f := .glo "is_number_to") rfl)) T C_is_integer
  have C_is_fraction := cal_is_fraction (P := P) (w := w) (base := base) F_is_fraction (He.glo_ok X G (c.fact 2 (f := .glo "is_fraction") rfl)) T C_is_integer
  have C_is_powers := cal_is_powers (P := P) (w := w) (base := base) F_is_powers (He.glo_ok X G (c.fact 6 (f := .glo "is_powers") rfl)) T C_is_number_to gUNK gPOW
  have C_is_term := cal_is_term (P := P) (w := w) (base := base) F_is_term (He.glo_ok X G (c.fact 5 (f := .glo "is_term") rfl)) T C_is_powers C_is_integer
  have G_Poly := ok_Poly_init (P := P) (w := w) (base := base) F_Poly_init C_is_term T ins na gTRM
  have b_Poly : L2.Binds K fd_Poly_init ["self", "terms"] [] := F_Poly_init.bindsN (fun _ _ _ _ _ _ us hl => match us, hl with | [_, _], _ => rfl)
  have C_greatest_powers := cal_greatest_powers (P := P) (w := w) (base := base) F_greatest_powers (He.glo_ok X G (c.fact 4 (f := .glo "greatest_powers") rfl)) T gUNK
  have C_top := cal_top (P := P) (w := w) (base := base) F_top (He.glo_ok X G (c.fact 8 (f := .glo "top") rfl)) T C_greatest_powers PT
  have C_stands_in := cal_stands_in (P := P) (w := w) (base := base) F_stands_in (He.glo_ok X G (c.fact 11 (f := .glo "stands_in") rfl)) T C_top PT
  have C_is_less := cal_is_less (P := P) (w := w) (base := base) F_is_less (He.glo_ok X G (c.fact 13 (f := .glo "is_less") rfl)) T
  have C_is_stretch := cal_is_stretch (P := P) (w := w) (base := base) F_is_stretch (He.glo_ok X G (c.fact 14 (f := .glo "is_stretch") rfl)) T C_is_fraction C_is_less
  have C_is_box := cal_is_box (P := P) (w := w) (base := base) F_is_box (He.glo_ok X G (c.fact 15 (f := .glo "is_box") rfl)) T C_is_stretch gSTR
  have C_law_low := cal_law_low (P := P) (w := w) (base := base) F_law_low (He.glo_ok X G (c.fact 27 (f := .glo "_law_low") rfl)) T
  have C_law_power := cal_law_power (P := P) (w := w) (base := base) F_law_power (He.glo_ok X G (c.fact 28 (f := .glo "_law_power") rfl)) T
  have C_law_binomial := cal_law_binomial (P := P) (w := w) (base := base) F_law_binomial (He.glo_ok X G (c.fact 29 (f := .glo "_law_binomial") rfl)) T
  have C_shared_bottom := cal_shared_bottom (P := P) (w := w) (base := base) F_shared_bottom (He.glo_ok X G (c.fact 17 (f := .glo "shared_bottom") rfl)) T
  have C_times_line := cal_times_line (P := P) (w := w) (base := base) F_times_line (He.glo_ok X G (c.fact 19 (f := .glo "times_line") rfl)) T
  have C_turned := cal_turned (P := P) (w := w) (base := base) F_turned (He.glo_ok X G (c.fact 20 (f := .glo "turned") rfl)) T C_times_line
  have C_spread_by := cal_spread_by (P := P) (w := w) (base := base) F_spread_by (He.glo_ok X G (c.fact 18 (f := .glo "spread_by") rfl)) T C_shared_bottom C_times_line C_turned
  have C_spread := cal_spread (P := P) (w := w) (base := base) F_spread (He.glo_ok X G (c.fact 16 (f := .glo "spread") rfl)) T C_greatest_powers C_spread_by PT
  have C_is_box_for := cal_is_box_for (P := P) (w := w) (base := base) F_is_box_for (He.glo_ok X G (c.fact 23 (f := .glo "is_box_for") rfl)) T C_is_box C_stands_in
  have C_number_raised := cal_number_raised (P := P) (w := w) (base := base) F_number_raised (He.glo_ok X G (c.fact 7 (f := .glo "number_raised") rfl)) T
  have C_ratio := cal_ratio (P := P) (w := w) (base := base) F_ratio (He.glo_ok X G (c.fact 12 (f := .glo "ratio") rfl)) T
  have C_is_point := cal_is_point (P := P) (w := w) (base := base) F_is_point (He.glo_ok X G (c.fact 3 (f := .glo "is_point") rfl)) T C_is_fraction
  have C_weights_of := cal_weights_of (P := P) (w := w) (base := base) F_weights_of (He.glo_ok X G (c.fact 10 (f := .glo "weights_of") rfl)) T C_number_raised PT
  have C_worth := cal_worth (P := P) (w := w) (base := base) F_worth (He.glo_ok X G (c.fact 9 (f := .glo "worth") rfl)) T C_is_point C_greatest_powers C_weights_of C_number_raised gUNK PT
  have C_places_to := cal_places_to (P := P) (w := w) (base := base) F_places_to (He.glo_ok X G (c.fact 22 (f := .glo "places_to") rfl)) T gProd
  have C_counts_over := cal_counts_over (P := P) (w := w) (base := base) F_counts_over (He.glo_ok X G (c.fact 21 (f := .glo "counts_over") rfl)) T C_is_box_for C_spread C_number_raised C_shared_bottom C_places_to C_ratio gComb
  have C_law_poly := cal_law_poly (P := P) (w := w) (base := base) F_law_poly (He.glo_ok X G (c.fact 30 (f := .glo "_law_poly") rfl)) T PT G_Poly b_Poly
  have C_law_parts := cal_law_parts (P := P) (w := w) (base := base) F_law_parts (He.glo_ok X G (c.fact 31 (f := .glo "_law_parts") rfl)) T C_law_draw C_law_any
  have C_law_stretch := cal_law_stretch (P := P) (w := w) (base := base) F_law_stretch (He.glo_ok X G (c.fact 33 (f := .glo "_law_stretch") rfl)) T C_law_any C_law_draw C_law_low
  have C_law_box := cal_law_box (P := P) (w := w) (base := base) F_law_box (He.glo_ok X G (c.fact 34 (f := .glo "_law_box") rfl)) T C_law_stretch
  have C_law_polar := cal_law_polar (P := P) (w := w) (base := base) F_law_polar (He.glo_ok X G (c.fact 35 (f := .glo "_law_polar") rfl)) T C_law_binomial C_law_power
  have C_law_indexes := cal_law_indexes (P := P) (w := w) (base := base) F_law_indexes (He.glo_ok X G (c.fact 36 (f := .glo "_law_indexes") rfl)) T
  have C_law_degrees := cal_law_degrees (P := P) (w := w) (base := base) F_law_degrees (He.glo_ok X G (c.fact 32 (f := .glo "_law_degrees") rfl)) T
  have C_law_counts := cal_law_counts (P := P) (w := w) (base := base) F_law_counts (He.glo_ok X G (c.fact 37 (f := .glo "_law_counts") rfl)) T C_law_degrees C_law_indexes C_law_polar C_law_low
  have C_law_worth := cal_law_worth (P := P) (w := w) (base := base) F_law_worth (He.glo_ok X G (c.fact 38 (f := .glo "_law_worth") rfl)) T C_law_power C_law_low
  have C_law_mixed := cal_law_mixed (P := P) (w := w) (base := base) F_law_mixed (He.glo_ok X G (c.fact 39 (f := .glo "_law_mixed") rfl)) T C_law_binomial C_law_power C_law_low
  exact ok_law (P := P) (w := w) (base := base) F_law C_law_hand C_law_any C_law_draw C_law_parts C_law_box C_law_poly C_law_counts C_counts_over C_law_degrees C_law_low C_law_mixed C_law_worth C_worth T gDict
end K23

set_option Elab.async false
set_option linter.all false
set_option maxRecDepth 100000
set_option maxHeartbeats 0
open PySem PySem.W PySem.Calls PyProof.Rows
theorem PySem.Challenge.cw_boxedroots_k23_whole_counts_over_boxes_holds : PySem.Challenge.rw_boxedroots_k23_whole_counts_over_boxes.Holds := by
  w_on; o_law
  refine HandSHeadRun.head_imp (r := OpenLaw.row PySem.Challenge.rw_boxedroots_k23_whole_counts_over_boxes) (q := view (OpenLaw.row PySem.Challenge.rw_boxedroots_k23_whole_counts_over_boxes).prog [0, 1, 59]) (H := K23.hz) (ob := K23.ob) (M := 60000) (loose := K23.names) (d := HandSHeadRun.topDef (OpenLaw.row PySem.Challenge.rw_boxedroots_k23_whole_counts_over_boxes).prog 59) (kwd := []) K23.ob_eq K23.run
    (by kernel_rfl) (by kernel_rfl) (by kernel_rfl) (by rfl) (by first | assumption | decide +kernel) (by decide +kernel) ⟨rfl, rfl, rfl, rfl, rfl, by decide +kernel⟩ ?hw ?hc
  case hw => w_witness2
  case hc =>
    refine L2.walk_ofE (l := PySem.Challenge.rw_boxedroots_k23_whole_counts_over_boxes) (n := 63) (k := 8) (x := "_law_script") (CX := L2.CX0) rfl (by decide) (by kernel_rfl) ⟨rfl, by decide, by decide⟩ ?F (fun _ _ _ _ z => z)
    intro w mg fa h Y G hmg0
    obtain ⟨K, KX, c, c2⟩ := Y
    have hmg : mg ("law" : PySem.Str) = some (.ref fa) := by
      have e : (HandSHeadRun.topDef (OpenLaw.row PySem.Challenge.rw_boxedroots_k23_whole_counts_over_boxes).prog 59).name = ("law" : PySem.Str) := by kernel_rfl
      rw [← e]
      exact hmg0
    obtain ⟨fd, hb, hF⟩ := K23.facts (P := (PySem.Challenge.rw_boxedroots_k23_whole_counts_over_boxes).prog) (w := w) KX G hmg c c2
    exact ⟨K, fd, K23.spLaw K, KX, hb, fun H a ns hl _ hS => ⟨a, ns, rfl, hS, hl, fun _ => rfl⟩, hF⟩
