import PyProof.Rows.All
import Wide.All
import OpenK.AllK
import Wide.FinOn
import HandS.ForMost
import HandS.ForExc
import HandS.Conv
import HandS.TupSets
import HandS.DictTup
import HandS.DeepEq
import HandS.OwnEq
import KE.KDictPairs
import KE.KDictDisplayH
import KE.KDictItemsList
import HandS.ListItems
import HandS.DictEq
import HandS.ListEq
import KE.DataMinMax
import HandS.SortKw
import KE.KStateDown
import Lean
import HandS.Defaults
import HandS.IsInst
import HandS.Wide
import HandS.Walk
import HandS.Head0
import HandS.Head1
import HandS.Head2
import HandS.HeadEnd
import HandS.HeadHook1
import HandS.HeadHook2
import HandS.ExcInit
import HandS.ExcValue
import HandS.ExcIs
import HandS.TupLe
import HandS.TupMul
import HandS.TupAny
import HandS.TupLen
import HandS.Gcd
import HandS.Flow
import KE.KExcIs
import KE.GoesMore
import KE.GoesEnum
import PySem.Challenge.RW_boxedroots_k09_systems_refused
import HandS.Head3
set_option Elab.async false
set_option linter.all false
set_option maxRecDepth 100000
set_option maxHeartbeats 4000000
/-! dicts whose keys are tuples of ints: sorted(d) -/
namespace DX
open PySem PySem.Spec PyProof.Rows L2
/-- a key of ints -/
abbrev ik (k : List Int) : List L2.Key := k.map Sum.inl
theorem ik_kV (k : List Int) : (ik k).map kV = k.map V.int := by
  rw [List.map_map]; rfl
theorem ik_inj {k l : List Int} (h : ik k = ik l) : k = l := by
  induction k generalizing l with
  | nil => cases l with
    | nil => rfl
    | cons => cases h
  | cons a k ih => cases l with
    | nil => cases h
    | cons b l =>
      rw [ik, ik, List.map_cons, List.map_cons] at h
      injection h with h1 h2
      injection h1 with h1
      rw [h1, ih h2]
theorem perm_lift {α β : Type} {f : α → β} {m n : List β} (h : m.Perm n) : ∀ l : List α, l.map f = n → ∃ l' : List α, l'.map f = m ∧ l'.Perm l := by
  induction h with
  | nil => intro l e; exact ⟨l, e, .refl l⟩
  | @cons x m n _ ih =>
    intro l e
    cases l with
    | nil => cases e
    | cons a l =>
      rw [List.map_cons] at e
      injection e with e1 e2
      obtain ⟨l', g1, g2⟩ := ih l e2
      exact ⟨a :: l', by rw [List.map_cons, e1, g1], g2.cons a⟩
  | swap x y m =>
    intro l e
    match l, e with
    | a :: b :: l, e =>
      rw [List.map_cons, List.map_cons] at e
      injection e with e1 e2
      injection e2 with e2 e3
      exact ⟨b :: a :: l, by rw [List.map_cons, List.map_cons, e1, e2, e3], .swap a b l⟩
  | trans _ _ ih1 ih2 =>
    intro l e
    obtain ⟨l1, g1, g2⟩ := ih2 l e
    obtain ⟨l2, g3, g4⟩ := ih1 l1 g1
    exact ⟨l2, g3, g4.trans g2⟩
/-- the tuple of the ints k stands at b -/
abbrev KAt (H : Hp) (b : Addr) (k : List Int) : Prop := H b = some (.tup (k.map V.int))
def rSortDT (d : Nat) (B : Int) : List V → Hp → VK → Prop := fun vs H Q => ∃ (a : Addr) (kvs : List (List L2.Key × V)) (ks : List (List Int)), vs = [.ref a] ∧ Rd H a (.dT kvs) ∧ kvs.map (·.1) = ks.map ik ∧ ks.length < 64 ∧ (∀ k ∈ ks, k.length = d ∧ TS.Bd B k) ∧
  ∀ (bs : List Addr) (ks' : List (List Int)) (p : Addr), ks'.Perm ks → ks'.Pairwise (fun m n => TS.code B m ≤ TS.code B n) → Paired (KAt H) bs ks' → H p = none → Q (.ref p) (upd H p (.lst (bs.map V.ref)))
/-- the pairs (address, key) of a dict -/
theorem keys_at {H : Hp} : ∀ {kvs : List (List L2.Key × V)} {xs : List (List L2.Key × Addr × Value)} {ks : List (List Int)}, KT H kvs xs → kvs.map (·.1) = ks.map ik → ∃ L : List (Addr × List Int), L.map (·.2) = ks ∧ L.map (·.1) = xs.map (fun x => x.2.1) ∧ ∀ q ∈ L, KAt H q.1 q.2
  | [], _, ks, .nil, e => by
    cases ks with
    | nil => exact ⟨[], rfl, rfl, fun q hq => by cases hq⟩
    | cons => cases e
  | p :: kvs, x :: xs, ks, .cons h t, e => by
    cases ks with
    | nil => cases e
    | cons k ks =>
      rw [List.map_cons, List.map_cons] at e
      injection e with e1 e2
      obtain ⟨L, g1, g2, g3⟩ := keys_at t e2
      refine ⟨(x.2.1, k) :: L, by rw [List.map_cons, g1], by rw [List.map_cons, List.map_cons, g2], fun q hq => ?_⟩
      rcases List.mem_cons.mp hq with z | z
      · rw [z]
        have := h.2.1
        rw [e1, ik_kV] at this
        exact this
      · exact g3 q z
section
variable {X : Cx}
theorem tup_raw {pins : List (Addr × Obj)} {σ : L2.St} {H : Hp} {s : Shared} (I : Inv X pins σ H s) {t : Addr} {ns : List Int} (h : KAt H t ns) : TS.TupInts s.heap (.ref t) ns := tupI_raw I (SqT.of h)
theorem cr_sortDT (hc : X.calm = true) {d : Nat} {B : Int} (hd : 1 ≤ d) : CallR X (.builtin "sorted") (rSortDT d B) := by
  intro pins s σ H vs us Q I r q
  obtain ⟨a, kvs, ks, rfl, rd, hks, h64, hB, q⟩ := q
  obtain ⟨u, rfl, ru⟩ := r.one
  cases ru
  obtain ⟨z, lo, xs, rel, o, es, ep, ho, hx, hdt, he, hn⟩ := (show ObjOk X.prog X.w H s.heap a (.dT kvs) from rd.ok I.hok)
  obtain ⟨L, g1, g2, g3⟩ := keys_at rel hks
  have lx : xs.length = ks.length := by
    have e := congrArg List.length hks
    rw [List.length_map, List.length_map] at e
    rw [← Paired.length rel, e]
  have le : es.size = xs.length := size_of_entries he
  refine Calls.call_function_entry kind_sorted plain_sorted entry_sorted (args_sorted1 _) ?_
  unfold Builtin.«sorted»
  refine wpAny_bind (m := checkCount "sorted" 1 1 _) (wpAny_pure ?_)
  refine wpAny_bind (PySem.W.kdu_collect (A := X.A.in1) (kdl_raw lo hx hdt) (I.ok.hd hc) ho (by rw [le, lx, sizeLine_eq]; omega) fun h' tk acc hk hacc => ?_)
  have hal : acc.toList.length = ks.length := by rw [Array.length_toList, hacc.1, le, lx]
  have hL : L.length = ks.length := by rw [← g1, List.length_map]
  have ev : L.map (fun q => Value.ref q.1) = acc.toList := by
    refine List.ext_getElem? fun j => ?_
    cases hj : acc.toList[j]? with
    | none =>
      have := List.getElem?_eq_none_iff.mp hj
      rw [List.getElem?_eq_none_iff, List.length_map]
      omega
    | some v =>
      obtain ⟨en, hen, hv⟩ := hacc.2 j v (by rw [← Array.getElem?_toList]; exact hj)
      have qe := entry_at he j
      rw [hen] at qe
      have hx1 : (xs.map fun x => x.2.1)[j]? = (L.map (·.1))[j]? := by rw [g2]
      rw [List.getElem?_map, List.getElem?_map] at hx1
      cases hb : xs[j]? with
      | none => rw [hb] at qe; cases qe
      | some b =>
        rw [hb] at qe hx1
        have e2 : en = entryOfKey (tupleKind (mixKind X.prog X.w)) b := Option.some.inj qe
        cases hq : L[j]? with
        | none => rw [hq] at hx1; cases hx1
        | some p =>
          rw [hq] at hx1
          have e3 : b.2.1 = p.1 := Option.some.inj hx1
          rw [List.getElem?_map, hq, hv, e2]
          show some (Value.ref p.1) = some (Value.ref b.2.1)
          rw [e3]
  have I1 : Inv X pins σ H { s with heap := h', toks := tk } := I.kept hk
  refine wpAny_bind (wpAny_newList ?_ (by rw [hal, sizeLine_eq]; omega))
  have ho2 : (h'.push (seqObj "list" acc.toList.toArray 0)).get? h'.objs.size = some (seqObj "list" acc.toList.toArray 0) := Heap.get?_push_size _ rfl
  have I2 : Inv X pins σ H { s with heap := h'.push (seqObj "list" acc.toList.toArray 0), toks := tk } := I1.kept (t' := tk) fun b ob e => Heap.get?_push_of_some _ e
  have ok : TS.TupsOk (h'.push (seqObj "list" acc.toList.toArray 0)) d B acc.toList := fun v hv => by
    rw [← ev] at hv
    obtain ⟨p, hp, rfl⟩ := List.mem_map.mp hv
    have hm : p.2 ∈ ks := by rw [← g1]; exact List.mem_map.mpr ⟨p, hp, rfl⟩
    exact ⟨p.2, tup_raw I2 (g3 p hp), (hB _ hm).1, (hB _ hm).2⟩
  show wpAny _ _ _ _ _ { s with heap := h'.push (seqObj "list" acc.toList.toArray 0), toks := tk }
  refine wpAny_bind (wpAny_holding (TS.call_sort_tups (s := { s with heap := h'.push (seqObj "list" acc.toList.toArray 0), toks := tk }) ho2 (by rw [hal]; exact h64) hd ok fun out a1 a2 => ?_))
  obtain ⟨c, hc2⟩ := PyProof.Rows.sortedHeap_at (vs := acc.toList) (out := out) ho2
  obtain ⟨L', e1, e2⟩ := perm_lift a1 L ev
  have hz : (L'.map fun p => V.ref p.1).length ≤ sizeLine := by rw [List.length_map, e2.length_eq, hL, sizeLine_eq]; omega
  have pr : Paired (KAt H) (L'.map (·.1)) (L'.map (·.2)) := by
    have key : ∀ M : List (Addr × List Int), (∀ p ∈ M, p ∈ L) → Paired (KAt H) (M.map (·.1)) (M.map (·.2)) := by
      intro M
      induction M with
      | nil => intro _; exact .nil
      | cons p M ih => exact fun hM => .cons (g3 p (hM p List.mem_cons_self)) (ih fun x hx => hM x (List.mem_cons_of_mem _ hx))
    exact key L' fun p hp => e2.mem_iff.mp hp
  have q1 := q (L'.map (·.1)) (L'.map (·.2)) h'.objs.size (by rw [← g1]; exact e2.map _) (by
    rw [List.pairwise_map]
    rw [← e1] at a2
    refine List.Pairwise.imp_of_mem (fun {u v} hu hv h => ?_) (List.pairwise_map.mp a2)
    have f1 := (tup_raw I2 (g3 u (e2.mem_iff.mp hu))).ints
    have f2 := (tup_raw I2 (g3 v (e2.mem_iff.mp hv))).ints
    rw [← f1, ← f2]
    exact h) pr (I1.hok.fresh (Nat.le_refl _))
  rw [List.map_map] at q1
  have q2 : Q (.ref h'.objs.size) (upd H h'.objs.size (.lst (L'.map fun p => V.ref p.1))) := q1
  refine wpAny_pure ⟨_, rfl, .ref h'.objs.size, upd H h'.objs.size (.lst (L'.map fun p => V.ref p.1)), I1.laid (t' := tk) (fun b ob e => ?_) (Nat.le_refl _) ⟨hz, out.toList, c, ?_, by rw [Array.toArray_toList]; exact hc2⟩, rfl, q2⟩
  · have hb : b < h'.objs.size := Heap.lt_size e
    rw [PyProof.Rows.sortedHeap_old (Nat.ne_of_lt hb) (by rw [size_push']; exact Nat.lt_succ_of_lt hb)]
    exact Heap.get?_push_of_some _ e
  · rw [← e1]
    have key : ∀ M : List (Addr × List Int), Vals (M.map fun p => V.ref p.1) (M.map fun p => Value.ref p.1) := by
      intro M
      induction M with
      | nil => exact .nil
      | cons p M ih => exact .cons rfl ih
    exact key L'
end
end DX

set_option Elab.async false
set_option linter.all false
set_option maxRecDepth 100000
set_option maxHeartbeats 4000000
/-! dicts whose keys are tuples: dict(pairs), {k: v}, list(d.items()) -/
namespace DX
open PySem PySem.Spec PyProof.Rows L2
/-- a key, its tuple's place, what stands at it -/
abbrev Ent := List L2.Key × Addr × V
abbrev entK (es : List Ent) : List (List L2.Key × V) := es.map fun e => (e.1, e.2.2)
/-- pairs put one behind the other -/
def mT (kvs : List (List L2.Key × V)) (more : List (List L2.Key × V)) : List (List L2.Key × V) := more.foldl (fun acc kv => putK acc kv.1 kv.2) kvs
theorem length_mT : ∀ (more kvs : List (List L2.Key × V)), (mT kvs more).length ≤ kvs.length + more.length
  | [], kvs => Nat.le_refl _
  | p :: r, kvs => by
    have h1 := length_mT r (putK kvs p.1 p.2)
    have h2 := length_putK kvs p.1 p.2
    have e : mT kvs (p :: r) = mT (putK kvs p.1 p.2) r := rfl
    rw [e, List.length_cons]
    omega
/-- the key's tuple stands -/
abbrev KeyAt (H : Hp) (e : Ent) : Prop := H e.2.1 = some (.tup (e.1.map kV))
theorem kt_all {H : Hp} : ∀ {es : List Ent} {rs : List (List L2.Key × Addr × Value)} {kvs : List (List L2.Key × V)} {xs : List (List L2.Key × Addr × Value)}, Paired (fun (e : Ent) (r : List L2.Key × Addr × Value) => e.1 = r.1 ∧ e.2.1 = r.2.1 ∧ KeyAt H e ∧ RelV e.2.2 r.2.2) es rs → KT H kvs xs →
    KT H (mT kvs (entK es)) (storedAllH xs rs)
  | _, _, _, _, .nil, k => k
  | e :: es, r :: rs, kvs, xs, .cons h t, k => by
    obtain ⟨h1, h2, h3, h4⟩ := h
    have k1 : KT H (putK kvs e.1 e.2.2) (storedH xs r.1 r.2.1 r.2.2) := by
      have z := k.put e.1 h3 h4
      rw [h2] at z
      rw [← h1]
      exact z
    have z := kt_all t k1
    exact z
section
variable {X : Cx}
/-- what the pairs of the list are, by the heap -/
theorem raw_pairs {pins : List (Addr × Obj)} {σ : L2.St} {H : Hp} {s : Shared} (I : Inv X pins σ H s) : ∀ {ps : List Addr} {es : List Ent}, Paired (fun p (e : Ent) => SqT X.K H p [.ref e.2.1, e.2.2] ∧ KeyAt H e) ps es →
    ∃ rs : List (List L2.Key × Addr × Value), Paired (fun (e : Ent) (r : List L2.Key × Addr × Value) => e.1 = r.1 ∧ e.2.1 = r.2.1 ∧ KeyAt H e ∧ RelV e.2.2 r.2.2) es rs ∧ rs.length = ps.length ∧
      (∀ (j : Nat) (r : List L2.Key × Addr × Value), rs[j]? = some r → ∃ b, ps[j]? = some b ∧ s.heap.IsTuple b #[.ref r.2.1, r.2.2]) ∧ ∀ r ∈ rs, (tupleKind (mixKind X.prog X.w)).is s.heap r.1 r.2.1
  | _, _, .nil => ⟨[], .nil, rfl, (fun j r e => by cases e), (fun r hr => by cases hr)⟩
  | p :: ps, e :: es, .cons h t => by
    obtain ⟨rs, g1, g2, g3, g4⟩ := raw_pairs I t
    obtain ⟨its, rv, ht, _⟩ := I.tuple h.1
    obtain ⟨u, y, ei, ru, ry⟩ := vals2 rv
    subst ei
    cases ru
    refine ⟨(e.1, e.2.1, y) :: rs, .cons ⟨rfl, rfl, h.2, ry⟩ g1, by rw [List.length_cons, List.length_cons, g2], fun j r q => ?_, fun r hr => ?_⟩
    · cases j with
      | zero =>
        cases Option.some.inj q
        exact ⟨p, rfl, ht⟩
      | succ j => exact g3 j r q
    · rcases List.mem_cons.mp hr with z | z
      · rw [z]
        exact key_of I.hok h.2
      · exact g4 r z
def rDictT (K : PySem.W.Frag) : List V → Hp → VK → Prop := fun xs H Q => ∃ (a : Addr) (ps : List Addr) (es : List Ent), xs = [.ref a] ∧ SqL K H a (ps.map V.ref) ∧ Paired (fun p (e : Ent) => SqT K H p [.ref e.2.1, e.2.2] ∧ KeyAt H e) ps es ∧
  ∀ p, H p = none → Q (.ref p) (upd H p (.dT (mT [] (entK es))))
theorem call_dictPT (hc : X.calm = true) (hu : X.A.units + 2 < cLine) : CallR X (.type "dict") (rDictT X.K) := by
  intro pins s σ H xs us Q I r q
  obtain ⟨a, ps, es, rfl, hl, hp, q⟩ := q
  obtain ⟨u, rfl, ru⟩ := r.one
  cases ru
  obtain ⟨its, rv, pl, hz⟩ := I.list hl
  have ei := refs_at rv
  subst ei
  rw [List.length_map] at hz
  obtain ⟨rs, g1, g2, g3, g4⟩ := raw_pairs I hp
  obtain ⟨o, n, ho, hco, hdo, hdat⟩ := pl
  have pi : PairItems s.heap (ps.map Value.ref).toArray (fun j => ps.getD j 0) (rs.map fun r => (Value.ref r.2.1, r.2.2)) := by
    refine ⟨by simp [g2], fun j k v e => ?_⟩
    rw [List.getElem?_map] at e
    cases e1 : rs[j]? with
    | none => rw [e1] at e; cases e
    | some r =>
      rw [e1] at e
      cases Option.some.inj e
      obtain ⟨b, f1, f2⟩ := g3 j r e1
      have f3 : ps.getD j 0 = b := by rw [List.getD_eq_getElem?_getD, f1]; rfl
      show _ ∧ PairAt s.heap (ps.getD j 0) _ _
      rw [f3]
      exact ⟨by simp [f1, f3], .inl f2⟩
  have big : ∀ b ob, s.heap.get? b = some ob → b ≠ s.heap.objs.size := fun b ob e => Nat.ne_of_lt (Heap.lt_size e)
  refine call_dict_pairsH (knd := tupleKind (mixKind X.prog X.w)) (ps := rs) (PairArg.list a (ps.map Value.ref).toArray (fun j => ps.getD j 0) (rs.map fun r => (Value.ref r.2.1, r.2.2))) (I.ok.hd hc) (by show X.A.units + 1 + 1 < cLine; omega) ⟨⟨o, n, ho, hco, hdo, hdat⟩, pi⟩ ⟨by rw [List.length_map], fun i key v e => ?_⟩ (fun h' hk x hx => ?_) (by rw [List.length_map, g2]; exact hz) fun h' tk hd' hk => ?_
  · have e' : (rs.map fun r => (Value.ref r.2.1, r.2.2))[i]? = some (key, v) := e
    rw [List.getElem?_map] at e'
    cases e1 : rs[i]? with
    | none => rw [e1] at e'; cases e'
    | some r =>
      rw [e1] at e'
      cases Option.some.inj e'
      exact ⟨r.1, r.2.1, rfl, rfl⟩
  · exact PySem.tupleKind_stays.stays (h := s.heap) (fun b ob vs m e _ => hk b ob (big b ob e) (fun z => nomatch z) e) (g4 x hx)
  · have kt : KT H (mT [] (entK es)) (storedAllH [] rs) := kt_all g1 .nil
    have hm : (s.heap.objs.size == sysModules) = false := beq_eq_false_iff_ne.mpr (Nat.ne_of_gt I.big)
    have hlen : (mT [] (entK es)).length ≤ sizeLine := by
      have z := length_mT (entK es) []
      rw [List.length_nil, Nat.zero_add, List.length_map] at z
      have z2 : es.length = rs.length := Paired.length g1
      omega
    have hn := I.hok.fresh (Nat.le_refl s.heap.objs.size)
    obtain ⟨od, eds, ep, f1, f2, f3, f4, f5, f6⟩ := hd'
    refine ⟨.ref s.heap.objs.size, upd H s.heap.objs.size (.dT (mT [] (entK es))), I.laid (t' := tk) (fun b ob e => hk b ob (fun z => nomatch z) e) (Nat.le_refl _) ⟨hlen, hm, _, kt.keeps fun b ys e => ?_, od, eds, ep, f1, f2, f3, f4, f6⟩, rfl, q _ hn⟩
    rw [upd_ne (ne_of_none e hn)]
    exact e
/-- {t: v}, t a tuple -/
def tDispT (trs : List (TE × TE)) : TE := fun σ H Q => ∀ p, H p = none → tPairs trs σ (upd H p (.dT [])) fun ps H2 => H2 p = some (.dT []) ∧ ∃ es : List Ent, ps = es.map (fun e => (V.ref e.2.1, e.2.2)) ∧ es.length ≤ 15 ∧ (∀ e ∈ es, KeyAt H2 e) ∧ Q (.ref p) (upd H2 p (.dT (mT [] (entK es))))
theorem carriesT {P : Program} {w : World} {H : Hp} {h : Heap} (ok : HOk P w H h) : ∀ {es : List Ent} {ws : List (Value × Value)}, VV (es.map fun e => (V.ref e.2.1, e.2.2)) ws → (∀ e ∈ es, KeyAt H e) →
    ∃ rs, CarriesH (tupleKind (mixKind P w)) h ws rs ∧ Paired (fun (e : Ent) (r : List L2.Key × Addr × Value) => e.1 = r.1 ∧ e.2.1 = r.2.1 ∧ KeyAt H e ∧ RelV e.2.2 r.2.2) es rs
  | [], _, r, _ => by
    rw [List.map_nil] at r
    cases r
    exact ⟨[], True.intro, .nil⟩
  | e :: es, _, r, hk => by
    rw [List.map_cons] at r
    cases r with
    | @cons a b as bs h t =>
      obtain ⟨rs, c, q⟩ := carriesT ok t fun x hx => hk x (List.mem_cons_of_mem _ hx)
      obtain ⟨b1, b2⟩ := b
      obtain ⟨h1, h2⟩ := h
      cases (show b1 = Value.ref e.2.1 from h1)
      have ke := hk e List.mem_cons_self
      exact ⟨(e.1, e.2.1, b2) :: rs, ⟨rfl, rfl, key_of ok ke, c⟩, .cons ⟨rfl, rfl, ke, h2⟩ q⟩
theorem pe_dispT {pos : Pos} {keys : List (Option Expr)} {values : List Expr} {trs : List (TE × TE)} (hu : X.A.units < cLine) (h : PPs X pos keys values trs) (hall : keys.all (·.isSome) = true) (hl : keys.length = values.length) (h0 : keys ≠ [])
    (h15 : keys.length ≤ 15) : PE X (.Dict keys values pos) (tDispT trs) := by
  refine ⟨fun pins s σ H Q I q => ?_⟩
  have hn := I.hok.fresh (Nat.le_refl s.heap.objs.size)
  have I1 := I.laid (a := s.heap.objs.size) (o := .dT []) (h' := s.heap.push { cls := .type "dict", data := .dict #[] }) (t' := s.toks) (fun _ _ q => Heap.get?_push_of_some _ q) (Nat.le_refl _) (dt_empty s.heap I.big)
  have hln := pairTrees_length keys values X.env pos hall hl
  have hne : pairTrees keys values X.env pos ≠ [] := fun e => h0 (List.length_eq_zero_iff.mp (by rw [← hln, e]; rfl))
  rw [arm_eval_Dict, zip_pairTrees keys values X.env pos hall hl, dictDisplay_pairs _ hne (by omega)]
  refine wpAny_bind (wpAny_standAt (wpAny_bind ?_))
  refine wpAny_subDictH (knd := tupleKind (mixKind X.prog X.w)) hu (by rw [hln]; exact h15) (thn (h.run pins _ σ _ _ I1 (q _ hn)) fun ws s2 ⟨ps, H2, I2, rel, e, es, ep, lk, ka, q2⟩ => ?_)
  subst ep
  obtain ⟨rs, c, rk⟩ := carriesT I2.hok rel ka
  obtain ⟨z, hd, xs0, r0, dd⟩ := dt_of I2.hok e
  cases r0
  refine ⟨rs, c, dd, fun h' tk dd' hs => wpAny_pure ⟨.ref s.heap.objs.size, _, ?_, rfl, q2⟩⟩
  have kt : KT H2 (mT [] (entK es)) (storedAllH [] rs) := kt_all rk .nil
  have hz : (mT [] (entK es)).length ≤ sizeLine := by
    have z := length_mT (entK es) []
    rw [List.length_nil, Nat.zero_add, List.length_map] at z
    rw [sizeLine_eq]
    omega
  obtain ⟨od, eds, ep, f1, f2, f3, f4, f5, f6⟩ := dd'
  refine d_write I2 (by rw [e]; exact True.intro) hs ⟨od, f1⟩ ⟨hz, hd, _, kt.keeps fun b ys eb => ?_, od, eds, ep, f1, f2, f3, f4, f6⟩
  rw [upd_ne (ne_of eb e (fun z => nomatch z))]
  exact eb
/-! list(d.items()) -/
/-- tuples put at their places -/
def putA : Hp → List (Addr × List V) → Hp
  | H, [] => H
  | H, p :: r => putA (upd H p.1 (.tup p.2)) r
theorem putA_off {b : Addr} : ∀ (ps : List (Addr × List V)) (H : Hp), b ∉ ps.map (·.1) → putA H ps b = H b
  | [], _, _ => rfl
  | p :: r, H, h => by
    rw [List.map_cons, List.mem_cons, not_or] at h
    show putA (upd H p.1 (.tup p.2)) r b = H b
    rw [putA_off r _ h.2, upd_ne h.1]
theorem putA_at : ∀ (ps : List (Addr × List V)) (H : Hp), (ps.map (·.1)).Nodup → ∀ p ∈ ps, putA H ps p.1 = some (.tup p.2)
  | [], _, _, p, hp => by cases hp
  | q :: r, H, nd, p, hp => by
    rw [List.map_cons, List.nodup_cons] at nd
    show putA (upd H q.1 (.tup q.2)) r p.1 = _
    rcases List.mem_cons.mp hp with e | hp
    · rw [e, putA_off r _ nd.1, upd_same]
    · exact putA_at r _ nd.2 p hp
/-- the entries by their places -/
theorem ents_of {H : Hp} : ∀ {kvs : List (List L2.Key × V)} {xs : List (List L2.Key × Addr × Value)}, KT H kvs xs → ∃ es : List Ent, entK es = kvs ∧ (∀ e ∈ es, KeyAt H e) ∧ Paired (fun (e : Ent) (x : List L2.Key × Addr × Value) => e.2.1 = x.2.1 ∧ RelV e.2.2 x.2.2) es xs
  | _, _, .nil => ⟨[], rfl, (fun e he => by cases he), .nil⟩
  | p :: kvs, x :: xs, .cons h t => by
    obtain ⟨es, g1, g2, g3⟩ := ents_of t
    refine ⟨(p.1, x.2.1, p.2) :: es, by rw [entK, List.map_cons]; exact congrArg _ g1, fun e he => ?_, .cons ⟨rfl, h.2.2⟩ g3⟩
    rcases List.mem_cons.mp he with z | z
    · rw [z]
      exact h.2.1
    · exact g2 e z
def rItemsT : V → Hp → VK → Prop := fun x H Q => ∃ (d : Addr) (kvs : List (List L2.Key × V)), x = .ref d ∧ Rd H d (.dT kvs) ∧
  ∀ (H' : Hp) (p : Addr) (ts : List Addr) (es : List Ent), Same H H' → H p = none → H' p = some (.lst (ts.map V.ref)) → entK es = kvs → (∀ e ∈ es, KeyAt H e) → Paired (fun t (e : Ent) => H' t = some (.tup [.ref e.2.1, e.2.2])) ts es → Q (.ref p) H'
def tListItemsT (te : TE) : TE := fun σ H Q => te σ H fun x H1 => rItemsT x H1 Q
theorem laidT {pins : List (Addr × Obj)} {σ : L2.St} {H : Hp} {s : Shared} {h' : Heap} {tk : Nat} {kvs : List (List L2.Key × V)} {xs : List (List L2.Key × Addr × Value)} {eds : Array DictEntry} {acc : Array Value} {c : Nat} {as : List Addr} (I : Inv X pins σ H s) (hz : kvs.length ≤ sizeLine) (kt : KT H kvs xs)
    (he : eds.toList = xs.map (entryOfKey (tupleKind (mixKind X.prog X.w)))) (hk : ∀ b o, s.heap.get? b = some o → h'.get? b = some o) (hS : h'.get? s.heap.objs.size = some { cls := .type "list", dict := none, data := .seq acc c, slots := #[] }) (hl : as.length = eds.size) (hG : PySem.W.DilG eds s.heap.objs.size h' as) (hacc : acc.toList = as.map Value.ref) :
    ∃ (H' : Hp) (es : List Ent), Same H H' ∧ H s.heap.objs.size = none ∧ H' s.heap.objs.size = some (.lst (as.map V.ref)) ∧ entK es = kvs ∧ (∀ e ∈ es, KeyAt H e) ∧ Paired (fun t (e : Ent) => H' t = some (.tup [.ref e.2.1, e.2.2])) as es ∧ Inv X pins σ H' { s with heap := h', toks := tk } := by
  obtain ⟨es, g1, g2, g3⟩ := ents_of kt
  have lx : eds.size = xs.length := size_of_entries he
  have le : es.length = xs.length := Paired.length g3
  have la : as.length = es.length := by omega
  have lk : kvs.length = es.length := by rw [← g1, List.length_map]
  have n0 : H s.heap.objs.size = none := I.hok.fresh (Nat.le_refl _)
  have nn : ∀ t ∈ as, H t = none := fun t ht => I.hok.fresh (Nat.le_of_lt (hG.above t ht))
  have ns : s.heap.objs.size ∉ as := fun z => Nat.lt_irrefl _ (hG.above _ z)
  have nd : as.Nodup := List.Pairwise.imp (fun {a b} (h : a < b) => Nat.ne_of_lt h) hG.rise
  let ps : List (Addr × List V) := as.zip (es.map fun e => [V.ref e.2.1, e.2.2])
  have p1 : ps.map (·.1) = as := List.map_fst_zip (by rw [List.length_map]; omega)
  let H1 := upd H s.heap.objs.size (.lst (as.map V.ref))
  let H' := putA H1 ps
  have off : ∀ b, b ∉ as → H' b = H1 b := fun b hb => putA_off ps H1 (by rw [p1]; exact hb)
  have at' : ∀ p ∈ ps, H' p.1 = some (.tup p.2) := putA_at ps H1 (by rw [p1]; exact nd)
  have sm : Same H H' := fun b o e => by
    rw [off b (fun z => by rw [nn b z] at e; cases e)]
    show upd H s.heap.objs.size _ b = _
    rw [upd_ne (ne_of_none e n0)]
    exact e
  have eS : H' s.heap.objs.size = some (.lst (as.map V.ref)) := by rw [off _ ns]; exact upd_same
  have pr : Paired (fun t (e : Ent) => H' t = some (.tup [.ref e.2.1, e.2.2])) as es := by
    have key : ∀ (as : List Addr) (es : List Ent), as.length = es.length → (∀ p ∈ as.zip (es.map fun e => [V.ref e.2.1, e.2.2]), H' p.1 = some (.tup p.2)) → Paired (fun t (e : Ent) => H' t = some (.tup [.ref e.2.1, e.2.2])) as es := by
      intro as
      induction as with
      | nil =>
        intro es h _
        cases es with
        | nil => exact .nil
        | cons => cases h
      | cons a as ih =>
        intro es h hp
        cases es with
        | nil => cases h
        | cons e es => exact .cons (hp (a, [V.ref e.2.1, e.2.2]) List.mem_cons_self) (ih es (Nat.succ.inj h) fun p hm => hp p (List.mem_cons_of_mem _ hm))
    exact key as es la at'
  have low : ∀ b o, s.heap.get? b = some o → b ∉ as ∧ b ≠ s.heap.objs.size := fun b o e => ⟨fun z => absurd (Heap.lt_size e) (Nat.not_lt.mpr (Nat.le_of_lt (hG.above b z))), Nat.ne_of_lt (Heap.lt_size e)⟩
  refine ⟨H', es, sm, n0, eS, g1, g2, pr, ?_⟩
  refine I.call' (ch := []) rfl ⟨fun b o q _ _ _ => hk b o q, fun b o q _ _ _ => ⟨o.slots, hk b o q⟩, fun b o q n _ => ?_, fun b o q _ => ⟨o, hk b o q⟩, fun b xs q => sm b _ q, fun b o u q => sm b _ q, fun b ps q => ⟨#[], by rw [sm b _ q]; simp⟩⟩ (fun b u q => ?_) I.bare fun b z => by simp at z
  · obtain ⟨z1, z2⟩ := low b o q
    rw [off b z1]
    show upd H s.heap.objs.size _ b = _
    rw [upd_ne z2]
    exact n
  · by_cases hb : b ∈ as
    · obtain ⟨j, hj⟩ := List.mem_iff_getElem?.mp hb
      obtain ⟨e, hej, he2⟩ := LiI.paired_get pr hj
      rw [he2] at q
      cases q
      obtain ⟨x, hxj, hx1, hx2⟩ := LiI.paired_get g3 hej
      obtain ⟨hjl, ho⟩ := hG.pairs j b hj
      have ee := entry_at he j
      rw [Array.getElem?_eq_getElem hjl, hxj] at ee
      have ee := Option.some.inj ee
      rw [ee] at ho
      refine ⟨by show 2 ≤ sizeLine; decide, [.ref x.2.1, x.2.2], .cons (by rw [hx1]; rfl) (.cons hx2 .nil), ⟨_, ho, rfl, _, rfl⟩⟩
    · by_cases hb2 : b = s.heap.objs.size
      · rw [hb2] at q ⊢
        rw [eS] at q
        cases q
        refine ⟨by rw [List.length_map]; omega, acc.toList, c, by rw [hacc]; exact LiI.vals_refs as, ?_⟩
        rw [Array.toArray_toList]
        exact hS
      · have e1 : H' b = H b := by
          rw [off b hb]
          exact upd_ne hb2
        rw [e1] at q
        exact (I.hok b u q).stay (fun d v _ y => hk d v y) (fun d y => sm d _ y) fun d xs y => sm d _ y
variable {e : Expr} {te : TE} {p apos cpos pos : Pos}
theorem pe_listItemsT (hc : X.calm = true) (he : PE X e te) (hg : Gl X "list") (hm : X.mg "list" = none) (hv : bootBuiltins "list" = some (.type "list")) (hbase : attributeBase e "items" X.env (eval e X.env) = eval e X.env := by rfl) (hline : (apos.endLine == cpos.line) = true := by rfl)
    (hs : starEach [.Call (.Attribute e "items" apos) [] [] cpos] X.env = (false, eval (.Call (.Attribute e "items" apos) [] [] cpos) X.env) :: starEach [] X.env := by rfl) :
    PE X (.Call (.Name "list" p) [.Call (.Attribute e "items" apos) [] [] cpos] [] pos) (tListItemsT te) := by
  refine ⟨fun pins s σ H Q I hq => ?_⟩
  refine wpAny_Call_Name_kw (ld_blt I hg hm hv (callWith_type1 ?_ hs rfl))
  rw [hs]
  refine Calls.spliced_cons (wpAny_Call_method (T := "dict") (id := "dict.items") hbase rfl hline F.plainAttrs_dict F.slot_dict_items F.type_dict_items (thn (he.run pins s σ H _ I hq) fun u s1 ⟨x, H1, I1, rx, d, kvs, ex, hd, q⟩ => ?_))
  subst ex
  obtain rfl : u = Value.ref d := rx
  obtain ⟨hz, lo, xs, kt, o, eds, ep, ho, hx, hdt, hen, hnd⟩ := (show ObjOk X.prog X.w H1 s1.heap d (.dT kvs) from hd.ok I1.hok)
  have raw : s1.heap.DictRaw d eds ep := ⟨o, ho, hx, hdt⟩
  have I2 : Inv X pins σ H1 { s1 with heap := s1.heap.push { cls := .type "dict_items", data := .fields #[.ref d] } } := I1.kept (t' := s1.toks) fun b ob q => Heap.get?_push_of_some _ q
  have lx : eds.size = xs.length := size_of_entries hen
  have lk : kvs.length = xs.length := Paired.length kt
  refine ⟨raw.typeIs, fun b q => by cases q; exact ⟨o, ho, hx.2.1⟩, ?_⟩
  show wpAny _ _ (callWith cpos (.builtin "dict.items") [.ref d] [] []) _ X.xe s1
  refine method_meetsIn F.slot_dict_items F.entry_dict_items rfl (PySem.evalArgs_none ⟨rfl, raw.typeIs, F.args_dict_items_1 _, _, DT.meetsItems (es := eds) (ep := ep) lo, ⟨⟨o, ho, hx, hdt⟩, ?_⟩⟩)
  refine Calls.spliced_nil ?_
  refine PySem.W.dil_call (es := eds) (ep := ep) (I1.ok.hd hc) ⟨_, Heap.get?_push_size _ rfl, rfl, rfl⟩ (raw.at fun ob e => Heap.get?_push_of_some _ e) (by omega) fun h' tk acc c as hk hS hl hG hacc => ?_
  obtain ⟨H', es, k1, k2, k3, k4, k5, k6, J⟩ := laidT (tk := tk) I2 hz kt hen hk hS hl hG hacc
  exact ⟨.ref _, H', J, rfl, q H' _ as es k1 k2 k3 k4 k5 k6⟩
end
end DX

set_option Elab.async false
set_option linter.all false
set_option maxRecDepth 100000
set_option maxHeartbeats 4000000
/-! == with either answer: lists, tuples, dicts with tuple keys -/
namespace DX
open PySem PySem.Spec PyProof.Rows L2
section
variable {P : Program} {w : World} {κ : Type} [DecidableEq κ] {knd : HeapKind P w κ} {A : Around} {E : Value → Shared → Prop} {s : Shared}
theorem same_run {nm : String} {a b : Addr} {xs ys : List (κ × Addr × Value)} {e : κ × Addr × Value → Bool} {Q : Bool → Shared → Prop} (ha : (a == sysModules) = false) (hb : (b == sysModules) = false) (hu : knd.room A)
    (da : s.heap.DictOfH knd a xs) (db : s.heap.DictOfH knd b ys) (he : ∀ x ∈ xs, (atKey ys x.1 = none ∧ e x = false) ∨ ∃ p, atKey ys x.1 = some p ∧ SeqAt.EqP P w A s x.2.2 p.2 (e x))
    (h : Q (xs.length == ys.length && xs.all e) s) : wpAny (model P w) A (Builtin.Dict.samePairs nm a b) Q E s := by
  obtain ⟨oa, es, ep, ga, _, va, ea, ia, na⟩ := da
  obtain ⟨ob, fs, ep', gb, _, vb, eb, ib, nb⟩ := db
  have la : es.size = xs.length := size_of_entries ea
  have lb : fs.size = ys.length := size_of_entries eb
  unfold Builtin.Dict.samePairs Builtin.Dict.showsAll
  rw [if_neg (by rw [ha]; decide), if_neg (by rw [hb]; decide)]
  refine wpAny_bind (wpAny_pure (wpAny_bind (wpAny_pure (wpAny_bind (wpAny_dictEntries ga va ?_)))))
  dsimp only
  refine wpAny_bind (wpAny_dictEntries gb vb ?_)
  by_cases z : es.size = fs.size
  · have h1 : Q (xs.all e) s := by
      have z2 : xs.length = ys.length := by omega
      rw [z2] at h
      simpa using h
    rw [if_neg (by rw [z]; simp)]
    refine wpAny_bind (wpAny_dictEpoch ga va (wpAny_bind ?_))
    rw [Std.Legacy.Range.forIn_eq_forIn_range']; simp only [Std.Legacy.Range.size, Nat.sub_zero, Nat.add_sub_cancel, Nat.div_one]
    refine wpAny_forIn_list _ (fun rest q t => t = s ∧ q = (none, ()) ∧ ∃ i, rest = List.range' i (es.size - i) ∧ i ≤ es.size ∧ (xs.take i).all e = true) _ (fun j rest q t hq => ?_) (fun q t hq => ?_) _ _ ⟨rfl, rfl, 0, by simp, Nat.zero_le _, rfl⟩
    · obtain ⟨rfl, rfl, i, hr, hi, hpre⟩ := hq
      have hlt : i < es.size := Nat.lt_of_not_le fun g => by rw [Nat.sub_eq_zero_of_le g] at hr; simp at hr
      have e1 : es.size - i = (es.size - (i + 1)) + 1 := by omega
      rw [e1, List.range'_succ] at hr
      obtain ⟨rfl, hrest⟩ : j = i ∧ rest = List.range' (i + 1) (es.size - (i + 1)) := by
        injection hr with g1 g2; exact ⟨g1, g2⟩
      have hx : xs[j]? = some xs[j] := List.getElem?_eq_getElem (by omega)
      have hm : xs[j] ∈ xs := List.getElem_mem (by omega)
      generalize xs[j] = x at hx hm
      refine wpAny_bind (wpAny_dictEntries ga va ?_)
      rw [entry_at ea j, hx]
      show wpAny _ _ (holding [Value.ref x.2.1, x.2.2] _ >>= _) _ _ _
      have nx : e x = true → (xs.take (j + 1)).all e = true := fun g => by
        rw [List.take_add_one, hx, List.all_append, hpre]; simp [g]
      have no : e x = false → xs.all e = false := fun g => List.all_eq_false.mpr ⟨x, hm, by rw [g]; decide⟩
      refine wpAny_bind (wpAny_holding (wpAny_bind (wpAny_dictFind_heap hu (ia x hm) gb vb eb ib nb (fun g => ?_) fun k p g => ?_)))
      · rcases he x hm with ⟨_, g2⟩ | ⟨p, g1, _⟩
        · refine wpAny_pure ?_
          show wpAny _ _ (if (!false) = true then _ else _) _ _ _
          rw [if_pos (by decide)]
          rw [no g2] at h1
          exact wpAny_pure (wpAny_pure h1)
        · rw [atKey_none_of_get g] at g1; cases g1
      · rcases he x hm with ⟨g1, _⟩ | ⟨p', g1, g2⟩
        · rw [atKey_of_get nb g] at g1; cases g1
        · rw [atKey_of_get nb g] at g1
          cases Option.some.inj g1
          refine wpAny_bind (wpAny_dictEntries gb vb ?_)
          rw [entry_at eb k, g]
          refine wpAny_holding (g2 _ _ ?_)
          cases ec : e x with
          | false =>
            rw [no ec] at h1
            show wpAny _ _ (if (!false) = true then _ else _) _ _ _
            rw [if_pos (by decide)]; exact wpAny_pure (wpAny_pure h1)
          | true =>
            show wpAny _ _ (if (!true) = true then _ else _) _ _ _
            rw [if_neg (by decide)]
            refine wpAny_bind (wpAny_dictEpoch ga va ?_)
            rw [if_neg (by simp)]; exact wpAny_pure ⟨rfl, rfl, j + 1, hrest, hlt, nx ec⟩
    · obtain ⟨rfl, rfl, i, hr, hi, hpre⟩ := hq
      have hin : i = es.size := Nat.le_antisymm hi (Nat.le_of_not_lt fun g => by
        have e1 : es.size - i = (es.size - (i + 1)) + 1 := by omega
        rw [e1, List.range'_succ] at hr; cases hr)
      rw [hin, la, List.take_length] at hpre
      rw [hpre] at h1
      exact wpAny_pure h1
  · rw [if_pos (by simpa using z)]
    have z2 : (xs.length == ys.length) = false := by
      rw [beq_eq_false_iff_ne]; omega
    rw [z2, Bool.false_and] at h
    exact wpAny_bind (wpAny_rule (wpAny_pure h))
theorem rc_dT {a b : Addr} {xs ys : List (κ × Addr × Value)} {e : κ × Addr × Value → Bool} (ha : (a == sysModules) = false) (hb : (b == sysModules) = false) (hr : knd.room A.in1) (hu : A.units < cLine)
    (da : s.heap.DictOfH knd a xs) (db : s.heap.DictOfH knd b ys) (he : ∀ x ∈ xs, (atKey ys x.1 = none ∧ e x = false) ∨ ∃ p, atKey ys x.1 = some p ∧ SeqAt.EqP P w A.in1 s x.2.2 p.2 (e x))
    (E Q : Value → Shared → Prop) (h : Q (.bool (xs.length == ys.length && xs.all e)) s) : wpAny (model P w) A (richCompare .Eq (.ref a) (.ref b)) Q E s := by
  refine wpAny_richCompare_same_room (op := .Eq) da.typeIs db.typeIs F.slot_dict_eq (wpAny_call_entry F.slot_dict_eq da.typeIs F.entry_dict_eq ?_ (F.args_dict_eq_2 _ _)) hu
  show wpAny _ _ (Builtin.Dict.dictSlotArgs "__eq__" ⟨[.ref a, .ref b], []⟩ >>= _) _ _ s
  refine wpAny_bind ?_
  unfold Builtin.Dict.dictSlotArgs
  refine wpAny_bind (wpAny_notOrdered_dict da.typeIs (wpAny_pure (wpAny_bind (wpAny_isInstance (T := "dict") db.typeIs F.sub_dict_dict ?_))))
  simp only [Bool.not_true, Bool.false_eq_true, if_false]
  refine wpAny_bind (wpAny_pure (wpAny_bind (wpAny_pure (wpAny_bind (same_run ha hb hr da db he (wpAny_pure ⟨_, rfl, (fun x => nomatch x), ?_⟩))))))
  simpa using h
end
end DX

set_option Elab.async false
set_option linter.all false
set_option maxRecDepth 100000
set_option maxHeartbeats 4000000
/-! the loops of == of lists and of tuples, with either answer, an invariant kept -/
namespace DX
open PySem PySem.Spec PyProof.Rows L2
open AutoSeq1 (wpAny_loadPart')
open MeetsSeq MeetsSeq2 MeetsSeq3 SeqRoads2
section
variable {P : Program} {w : World} {A : Around} {R : Result → Shared → Prop}
/-- N items in each of the lists, the i-th two comparing as e tells -/
def Lsts (P : Program) (w : World) (A : Around) (E : Value → Shared → Prop) (l b : Addr) (N : Nat) (I : Shared → Prop) (e : Nat → Bool) : Prop :=
  ∀ s, I s → ∃ (xs ys : Array Value) (n m : Nat), s.heap.get? l = some { cls := .type "list", data := .seq xs n } ∧ s.heap.get? b = some { cls := .type "list", data := .seq ys m } ∧ xs.size = N ∧ ys.size = N ∧
    ∀ i (h1 : i < xs.size) (h2 : i < ys.size), wpAny (model P w) A.in1 (eqBool xs[i] ys[i]) (fun r t => r = e i ∧ I t) E s
theorem all_no {N i : Nat} {e : Nat → Bool} (h : i < N) (g : e i = false) : (List.range N).all e = false := List.all_eq_false.mpr ⟨i, List.mem_range.mpr h, by rw [g]; decide⟩
theorem all_next {i : Nat} {e : Nat → Bool} (h : (List.range i).all e = true) (g : e i = true) : (List.range (i + 1)).all e = true := by
  rw [List.range_succ, List.all_append, h]; simp [g]
theorem lst_loop (l b : Addr) (N : Nat) (I : Shared → Prop) (e : Nat → Bool) (hl : Lsts P w A (fun x t => R (.error x) t) l b N I e)
    (fin : ∀ t, I t → R (.ok (.ret (.bool ((List.range N).all e)))) t) (k : Nat) :
    ∀ i : Nat, N - i = k → i ≤ N → (List.range i).all e = true → ∀ s, I s →
      wpAny (model P w) A.in1 (Builtin.«list.__eq__.loop» ⟨[.ref l, .ref b, rawInt i, rawInt 2], []⟩) (GQ.FinOf P w A R) (fun x t => R (.error x) t) s := by
  induction k with
  | zero =>
    intro i hk hi pre s h
    obtain ⟨xs, ys, n, m, g1, g2, z1, z2, _⟩ := hl s h
    obtain rfl : i = N := by omega
    have hR := fin s h
    rw [pre] at hR
    obtain ⟨hp, g, d, tk, os⟩ := s
    have o1 : xs[((i : Nat) : Int).toNat]? = none := by simp; omega
    have o2 : ys[((i : Nat) : Int).toNat]? = none := by simp; omega
    wp_walk using wpAny_loadPart' g1, wpAny_loadPart' g2
    rw [o1, o2]
    wp_walk using wpAny_loadPart' g1, wpAny_loadPart' g2
    show R (.ok (.ret (.bool (xs.size == ys.size)))) _
    rw [z1, z2, beq_self_eq_true]; exact hR
  | succ k ih =>
    intro i hk hi pre s h
    obtain ⟨xs, ys, n, m, g1, g2, z1, z2, turn⟩ := hl s h
    have l1 : i < xs.size := by omega
    have l2 : i < ys.size := by omega
    have ht := turn i l1 l2
    obtain ⟨hp, g, d, tk, os⟩ := s
    have o1 : xs[((i : Nat) : Int).toNat]? = some xs[i] := by simp [l1]
    have o2 : ys[((i : Nat) : Int).toNat]? = some ys[i] := by simp [l2]
    have cast : ((i : Int) + 1) = ((i + 1 : Nat) : Int) := by omega
    wp_walk using wpAny_loadPart' g1, wpAny_loadPart' g2
    rw [o1, o2]
    refine wpAny_bind (wpAny_mono ht (fun r t q => ?_) fun _ _ x => x)
    obtain ⟨rfl, q⟩ := q
    cases ec : e i with
    | true =>
      have rec' := ih (i + 1) (by omega) (by omega) (all_next pre ec) t q
      obtain ⟨hp2, gg2, d2, tk2, os2⟩ := t
      wp_walk
      rw [cast]
      exact ⟨plainId_quiet plain_eq_loop _, codeAny_builtin entry_eq_loop (by rw [Around.under_plainId plain_eq_loop _]; exact rec')⟩
    | false =>
      have hR := fin t q
      rw [all_no (by omega) ec] at hR
      obtain ⟨xs', ys', n', m', g1', g2', z1', z2', _⟩ := hl t q
      have o1' : xs'[((i : Nat) : Int).toNat]? = some (xs'[i]'(by omega)) := by simp [show i < xs'.size by omega]
      have o2' : ys'[((i : Nat) : Int).toNat]? = some (ys'[i]'(by omega)) := by simp [show i < ys'.size by omega]
      obtain ⟨hp2, gg2, d2, tk2, os2⟩ := t
      wp_walk using wpAny_loadPart' g1', wpAny_loadPart' g2'
      rw [o1', o2']
      wp_walk
      simpa using hR
theorem lst_body (l b : Addr) (N : Nat) (I : Shared → Prop) (e : Nat → Bool) (hl : Lsts P w A (fun x t => R (.error x) t) l b N I e)
    (fin : ∀ t, I t → R (.ok (.ret (.bool ((List.range N).all e)))) t) {s : Shared} (h : I s) :
    wpAny (model P w) A.in1 (Builtin.«list.__eq__» ⟨[.ref l, .ref b], []⟩) (GQ.FinOf P w A R) (fun x t => R (.error x) t) s := by
  obtain ⟨xs, ys, n, m, g1, g2, z1, z2, _⟩ := hl s h
  have rec' := lst_loop (A := A) (R := R) l b N I e hl fin N 0 rfl (Nat.zero_le _) rfl s h
  obtain ⟨hp, g, d, tk, os⟩ := s
  have fl := AutoSeq1.sub_list_list
  have ne : ¬ (xs.size != ys.size) = true := by simp [z1, z2]
  wp_walk using wpAny_loadPart' g1, wpAny_loadPart' g2
  exact ⟨plainId_quiet plain_eq_loop _, codeAny_builtin entry_eq_loop (by rw [Around.under_plainId plain_eq_loop _]; exact rec')⟩
theorem tup_body (l b : Addr) (xs ys : Array Value) (n m : Nat) (dd dd2 : Option Addr) (sl sl2 : Array (Option Value)) (I : Shared → Prop) (e : Nat → Bool)
    (turn : ∀ i (h1 : i < xs.size) (h2 : i < ys.size) s, I s → wpAny (model P w) A.in1 (eqBool xs[i] ys[i]) (fun r t => r = e i ∧ I t) (fun x t => R (.error x) t) s)
    (fin : ∀ t, I t → R (.ok (.ret (.bool ((List.range (min xs.size ys.size)).all e && xs.size == ys.size)))) t) {s : Shared} (g1 : s.heap.get? l = some { cls := .type "tuple", dict := dd, data := .seq xs n, slots := sl })
    (g2 : s.heap.get? b = some { cls := .type "tuple", dict := dd2, data := .seq ys m, slots := sl2 }) (h : I s) :
    wpAny (model P w) A.in1 (Builtin.«tuple.__eq__» ⟨[.ref l, .ref b], []⟩) (GQ.FinOf P w A R) (fun x t => R (.error x) t) s := by
  have ft := AutoSeq1.sub_tuple_tuple
  have zl : (xs.toList.zip ys.toList).length = min xs.size ys.size := by simp
  have h0 := h
  obtain ⟨hp, g, d, tk, os⟩ := s
  wp_walk using wpAny_loadPart' g1, wpAny_loadPart' g2, wpAny_forIn_list _ (fun rest q t => q.1 = none ∧ ∃ i, rest = (xs.toList.zip ys.toList).drop i ∧ i ≤ min xs.size ys.size ∧ (List.range i).all e = true ∧ I t) _
  case turn =>
    rintro ⟨y, x⟩ rest q t ⟨hq, i, hz, hi, pre, hI⟩
    have hlt : i < (xs.toList.zip ys.toList).length := Nat.lt_of_not_le fun g => by rw [List.drop_of_length_le g] at hz; cases hz
    have l1 : i < xs.size := by omega
    have l2 : i < ys.size := by omega
    rw [List.drop_eq_getElem_cons hlt] at hz
    injection hz with hyx hrest
    obtain rfl : y = xs[i] := by simpa using congrArg Prod.fst hyx
    obtain rfl : x = ys[i] := by simpa using congrArg Prod.snd hyx
    refine wpAny_bind (wpAny_mono (turn i l1 l2 t hI) (fun r t2 q2 => ?_) fun _ _ x => x)
    obtain ⟨rfl, q2⟩ := q2
    cases ec : e i with
    | true => wp_walk; exact ⟨rfl, i + 1, hrest, by omega, all_next pre ec, q2⟩
    | false =>
      have hR := fin t2 q2
      rw [all_no (by omega) ec, Bool.false_and] at hR
      wp_walk; simpa using hR
  case fin =>
    rintro ⟨b1, b2⟩ t ⟨hq, i, hz, hi, pre, hI⟩
    simp only at hq
    subst hq
    have hge : min xs.size ys.size ≤ i := Nat.le_of_not_lt fun g => by
      rw [List.drop_eq_getElem_cons (by omega)] at hz; cases hz
    have hR := fin t hI
    rw [show min xs.size ys.size = i by omega, pre, Bool.true_and] at hR
    wp_walk
    simpa [Builtin.Tuple.tupleCompareSizes] using hR
  case h => exact ⟨rfl, 0, rfl, Nat.zero_le _, rfl, h0⟩
end
section
variable {P : Program} {w : World} {A : Around} {E : Value → Shared → Prop} {s : Shared}
theorem rc_lsts {l b : Addr} {N : Nat} {Q : Value → Shared → Prop} {e : Nat → Bool} (hu : A.units < cLine) (I : Shared → Prop) (hl : Lsts P w A E l b N I e)
    (fin : ∀ t, I t → Q (.bool ((List.range N).all e)) t) (h : I s) : wpAny (model P w) A (richCompare .Eq (.ref l) (.ref b)) Q E s := by
  obtain ⟨xs, ys, n, m, g1, g2, _⟩ := hl s h
  refine wpAny_richCompare_same_room (op := .Eq) ⟨_, g1, rfl⟩ ⟨_, g2, rfl⟩ F.slot_list_eq (GQ.call_here F.slot_list_eq ⟨_, g1, rfl⟩ F.entry_list_eq (F.args_list_eq_2 _ _) ?_) hu
  exact lst_body (R := wants (fun v t => v ≠ .notImplemented ∧ Q v t) E) l b N I e hl (fun t q => ⟨(fun x => nomatch x), fin t q⟩) h
theorem rc_tups {l b : Addr} {xs ys : Array Value} {Q : Value → Shared → Prop} {e : Nat → Bool} (hu : A.units < cLine) (I : Shared → Prop) (hl : s.heap.IsTuple l xs) (hb : s.heap.IsTuple b ys)
    (turn : ∀ i (h1 : i < xs.size) (h2 : i < ys.size) s, I s → wpAny (model P w) A.in1 (eqBool xs[i] ys[i]) (fun r t => r = e i ∧ I t) E s)
    (fin : ∀ t, I t → Q (.bool ((List.range (min xs.size ys.size)).all e && xs.size == ys.size)) t) (h : I s) : wpAny (model P w) A (richCompare .Eq (.ref l) (.ref b)) Q E s := by
  obtain ⟨⟨c1, d1, v1, s1⟩, o1, e1, n, f1⟩ := id hl
  obtain ⟨⟨c2, d2, v2, s2⟩, o2, e2, m, f2⟩ := id hb
  simp only at e1 f1 e2 f2
  subst e1 f1 e2 f2
  refine wpAny_richCompare_same_room (op := .Eq) ⟨_, o1, rfl⟩ ⟨_, o2, rfl⟩ F.slot_tuple_eq (GQ.call_here F.slot_tuple_eq ⟨_, o1, rfl⟩ F.entry_tuple_eq (F.args_tuple_eq_2 _ _) ?_) hu
  exact tup_body (R := wants (fun v t => v ≠ .notImplemented ∧ Q v t) E) l b xs ys n m d1 d2 s1 s2 I e turn (fun t q => ⟨(fun x => nomatch x), fin t q⟩) o1 o2 h
end
end DX

set_option Elab.async false
set_option linter.all false
set_option maxRecDepth 100000
set_option maxHeartbeats 4000000
/-! == of nested values with either answer -/
namespace DX
open PySem PySem.Spec PyProof.Rows L2
/-- do the two hold the same under the same keys (flat values) -/
def dEq (ks ls : List (List L2.Key × V)) : Bool := ks.length == ls.length && ks.all fun p => match valV ls p.1 with
  | some u => eqV p.2 u
  | none => false
abbrev OwnE := Addr → Addr → Bool → Hp → Prop
/-- one level; E tells of the items -/
def EqS (K : PySem.W.Frag) (H : Hp) (E : V → V → Bool → Prop) (x y : V) (b : Bool) : Prop :=
  (∃ a c xs ys, x = .ref a ∧ y = .ref c ∧ H a = some (.lst xs) ∧ H c = some (.lst ys) ∧ xs.length ≠ ys.length ∧ b = false) ∨
  (∃ a c xs ys, ∃ e : Nat → Bool, x = .ref a ∧ y = .ref c ∧ H a = some (.lst xs) ∧ H c = some (.lst ys) ∧ xs.length = ys.length ∧ (∀ i x y, xs[i]? = some x → ys[i]? = some y → E x y (e i)) ∧ b = (List.range xs.length).all e) ∨
  (∃ a c xs ys, ∃ e : Nat → Bool, x = .ref a ∧ y = .ref c ∧ SqT K H a xs ∧ SqT K H c ys ∧ (∀ i x y, xs[i]? = some x → ys[i]? = some y → E x y (e i)) ∧ b = ((List.range (min xs.length ys.length)).all e && xs.length == ys.length)) ∨
  (∃ a c ks ls, x = .ref a ∧ y = .ref c ∧ Rd H a (.dT ks) ∧ Rd H c (.dT ls) ∧ (∀ p ∈ ks, flatV p.2 = true) ∧ (∀ p ∈ ls, flatV p.2 = true) ∧ b = dEq ks ls)
def EqB (K : PySem.W.Frag) (D : OwnE) (H : Hp) : Nat → V → V → Bool → Prop
  | 0 => fun _ _ _ => False
  | n + 1 => fun x y b => (flatV x = true ∧ flatV y = true ∧ b = eqV x y) ∨ (∃ a, x = .ref a ∧ y = .ref a ∧ b = true) ∨ (∃ a xs z, x = .ref a ∧ H a = some (.lst xs) ∧ y = .str z ∧ b = false) ∨
    ((x = y → b = true) ∧ EqS K H (EqB K D H n) x y b) ∨ ∃ a c, x = .ref a ∧ y = .ref c ∧ (a = c → b = true) ∧ D a c b H
/-- the own == tells what D says, and leaves all as it is -/
def OwnR (X : Cx) (m : Nat) (D : OwnE) : Prop := ∀ (A : Around) (pins : List (Addr × Obj)) (s : Shared) (σ : L2.St) (H : Hp) (a c : Addr) (b : Bool), Sub X m A → Inv X pins σ H s → D a c b H →
  wpAny (model X.prog X.w) A (richCompare .Eq (.ref a) (.ref c)) (fun r t => r = .bool b ∧ Inv X pins σ H t) X.xe s
def noD : OwnE := fun _ _ _ _ => False
theorem ownR_no {X : Cx} : OwnR X 0 noD := fun _ _ _ _ _ _ _ _ _ _ d => d.elim
section
variable {X : Cx} {pins : List (Addr × Obj)} {σ : L2.St} {H : Hp} {s : Shared} {A : Around}
theorem valT {ks : List (List L2.Key × V)} {xs : List (List L2.Key × Addr × Value)} (r : KT H ks xs) (k : List L2.Key) : RelO (valV ks k) ((atKey xs k).map (·.2)) := r.val k
theorem kt_mem : ∀ {ks : List (List L2.Key × V)} {xs : List (List L2.Key × Addr × Value)}, KT H ks xs → ∀ x ∈ xs, ∃ p ∈ ks, p.1 = x.1 ∧ RelV p.2 x.2.2
  | _, _, .nil, x, hx => by cases hx
  | p :: ks, y :: xs, .cons h t, x, hx => by
    rcases List.mem_cons.mp hx with e | hx
    · exact ⟨p, List.mem_cons_self, by rw [e]; exact h.1, by rw [e]; exact h.2.2⟩
    · obtain ⟨q, h1, h2⟩ := kt_mem t x hx
      exact ⟨q, List.mem_cons_of_mem _ h1, h2⟩
theorem kt_all_eq {f : List L2.Key → V → Bool} {g : List L2.Key × Addr × Value → Bool} : ∀ {ks : List (List L2.Key × V)} {xs : List (List L2.Key × Addr × Value)}, KT H ks xs → (∀ p x, p ∈ ks → x ∈ xs → p.1 = x.1 → RelV p.2 x.2.2 → g x = f p.1 p.2) → xs.all g = ks.all fun p => f p.1 p.2
  | _, _, .nil, _ => rfl
  | p :: ks, y :: xs, .cons h t, hh => by
    rw [List.all_cons, List.all_cons, hh p y List.mem_cons_self List.mem_cons_self h.1 h.2.2, kt_all_eq t fun p x hp hx => hh p x (List.mem_cons_of_mem _ hp) (List.mem_cons_of_mem _ hx)]
theorem valV_mem {κ : Type} [DecidableEq κ] {k : κ} {u : V} : ∀ {ls : List (κ × V)}, valV ls k = some u → ∃ p ∈ ls, p.1 = k ∧ p.2 = u
  | [], h => by cases h
  | p :: ls, h => by
    by_cases e : p.1 = k
    · rw [valV_pos e] at h
      exact ⟨p, List.mem_cons_self, e, Option.some.inj h⟩
    · rw [valV_neg e] at h
      obtain ⟨q, h1, h2⟩ := valV_mem h
      exact ⟨q, List.mem_cons_of_mem _ h1, h2⟩
/-- the flag of one entry -/
def fl (ls : List (List L2.Key × V)) (k : List L2.Key) (v : V) : Bool := match valV ls k with
  | some u => eqV v u
  | none => false
theorem dT_run (I : Inv X pins σ H s) {a c : Addr} {ks ls : List (List L2.Key × V)} (ha : Rd H a (.dT ks)) (hc : Rd H c (.dT ls)) (fk : ∀ p ∈ ks, flatV p.2 = true) (fl' : ∀ p ∈ ls, flatV p.2 = true) (hu : A.units + 1 < cLine) (E Q : Value → Shared → Prop)
    (h : Q (.bool (dEq ks ls)) s) : wpAny (model X.prog X.w) A (richCompare .Eq (.ref a) (.ref c)) Q E s := by
  obtain ⟨z1, lo1, xs, r1, d1⟩ := dt_rd I.hok ha
  obtain ⟨z2, lo2, ys, r2, d2⟩ := dt_rd I.hok hc
  -- what the first one holds at a key, as an abstract value
  let e : List L2.Key × Addr × Value → Bool := fun x => match valV ks x.1 with
    | some v => fl ls x.1 v
    | none => false
  have nd : (ks.map (·.1)).Nodup := by
    obtain ⟨_, _, _, _, _, _, _, _, hn⟩ := d1
    have key : ∀ {ks : List (List L2.Key × V)} {xs : List (List L2.Key × Addr × Value)}, KT H ks xs → ks.map (·.1) = xs.map (·.1) := by
      intro ks xs r
      induction r with
      | nil => rfl
      | cons h t ih => rw [List.map_cons, List.map_cons, h.1, ih]
    rw [key r1]
    exact hn
  have ev : ∀ p ∈ ks, valV ks p.1 = some p.2 := fun p hp => by
    have key : ∀ {ks : List (List L2.Key × V)}, (ks.map (·.1)).Nodup → ∀ p ∈ ks, valV ks p.1 = some p.2 := by
      intro ks
      induction ks with
      | nil => intro _ p hp; cases hp
      | cons q ks ih =>
        intro nd p hp
        rw [List.map_cons, List.nodup_cons] at nd
        rcases List.mem_cons.mp hp with z | z
        · rw [z]
          exact valV_pos rfl
        · rw [valV_neg (fun g => nd.1 (by rw [g]; exact List.mem_map.mpr ⟨p, z, rfl⟩))]
          exact ih nd.2 p z
    exact key nd p hp
  refine rc_dT (knd := tupleKind (mixKind X.prog X.w)) (e := e) lo1 lo2 (show A.units + 1 < cLine from hu) (by omega) d1 d2 (fun x hx => ?_) E Q ?_
  · obtain ⟨p, hp, hp1, hp2⟩ := kt_mem r1 x hx
    have e1 : e x = fl ls x.1 p.2 := by
      show (match valV ks x.1 with | some v => fl ls x.1 v | none => false) = _
      rw [← hp1, ev p hp]
    have rv := valT r2 x.1
    cases hv : valV ls x.1 with
    | none =>
      rw [hv] at rv
      refine .inl ⟨?_, by rw [e1]; unfold fl; rw [hv]⟩
      cases ha : atKey ys x.1 with
      | none => rfl
      | some q => rw [ha] at rv; exact rv.elim
    | some u =>
      rw [hv] at rv
      obtain ⟨w', hw, rw'⟩ := RelO.some_of rv
      obtain ⟨q, hq, rfl⟩ := Option.map_eq_some_iff.mp hw
      refine .inr ⟨q, hq, ?_⟩
      obtain ⟨p2, m2, _, m3⟩ := valV_mem hv
      have z := (eqAt_V (A := A.in1) (s := s) hp2 rw' (fk p hp) (by rw [← m3]; exact fl' p2 m2)).eqP (prog := X.prog) (w := X.w)
      rw [e1]
      unfold fl
      rw [hv]
      exact z
  · have a1 : xs.length = ks.length := (Paired.length r1).symm
    have a2 : ys.length = ls.length := (Paired.length r2).symm
    have a3 : xs.all e = ks.all fun p => fl ls p.1 p.2 := kt_all_eq (f := fun k v => fl ls k v) r1 fun p x hp hx h1 h2 => by
      show (match valV ks x.1 with | some v => fl ls x.1 v | none => false) = _
      rw [← h1, ev p hp]
    rw [a1, a2, a3]
    exact h
theorem eqS_run {F : V → V → Bool → Prop} {n : Nat} (sb : Sub X (n + 1) A)
    (ih : ∀ (A' : Around) (s : Shared) (x y : V) (b : Bool) (u v : Value), Sub X n A' → Inv X pins σ H s → RelV x u → RelV y v → F x y b → wpAny (model X.prog X.w) A' (eqBool u v) (fun r t => r = b ∧ Inv X pins σ H t) X.xe s)
    (I : Inv X pins σ H s) {x y : V} {b : Bool} {u v : Value} (rx : RelV x u) (ry : RelV y v) (h : EqS X.K H F x y b) : wpAny (model X.prog X.w) A (richCompare .Eq u v) (fun r t => r = .bool b ∧ Inv X pins σ H t) X.xe s := by
  have hu : A.units + 1 < cLine := by have := sb.room.un; omega
  rcases h with ⟨a, c, xs, ys, rfl, rfl, ha, hc, ne, rfl⟩ | ⟨a, c, xs, ys, e, rfl, rfl, ha, hc, hl, he, rfl⟩ | ⟨a, c, xs, ys, e, rfl, rfl, ha, hc, he, rfl⟩ | ⟨a, c, ks, ls, rfl, rfl, ha, hc, fk, fl, rfl⟩
  · cases rx
    cases ry
    obtain ⟨us, r1, p1, _⟩ := I.list (SqL.of ha)
    obtain ⟨ws, r2, p2, _⟩ := I.list (SqL.of hc)
    refine SeqAt.RcAt.lists_lengths p1.isList p2.isList ?_ (by omega) X.prog X.w X.xe _ ⟨rfl, I⟩
    have z1 := r1.length
    have z2 := r2.length
    simp only [List.size_toArray, bne_iff_ne, ne_eq]
    omega
  · cases rx
    cases ry
    refine rc_lsts (N := xs.length) (e := e) (by omega) (fun t => Inv X pins σ H t) (fun t J => ?_) (fun t J => ⟨rfl, J⟩) I
    obtain ⟨_, us, n1, r1, o1⟩ := J.hok a _ ha
    obtain ⟨_, ws, n2, r2, o2⟩ := J.hok c _ hc
    refine ⟨us.toArray, ws.toArray, n1, n2, o1, o2, by rw [List.size_toArray, ← r1.length], by rw [List.size_toArray, ← r2.length, ← hl], fun i h1 h2 => ?_⟩
    have k1 : i < xs.length := by rw [r1.length]; simpa using h1
    have k2 : i < ys.length := by rw [r2.length]; simpa using h2
    obtain ⟨p, hp, rp⟩ := r1.get (List.getElem?_eq_getElem k1)
    obtain ⟨q, hq, rq⟩ := r2.get (List.getElem?_eq_getElem k2)
    have e1 : us.toArray[i] = p := by
      have : us[i]? = some us.toArray[i] := by simp at h1; simp [h1]
      rw [hp] at this
      exact (Option.some.inj this).symm
    have e2 : ws.toArray[i] = q := by
      have : ws[i]? = some ws.toArray[i] := by simp at h2; simp [h2]
      rw [hq] at this
      exact (Option.some.inj this).symm
    rw [e1, e2]
    exact ih A.in1 t _ _ _ _ _ sb.in1 J rp rq (he i _ _ (List.getElem?_eq_getElem k1) (List.getElem?_eq_getElem k2))
  · cases rx
    cases ry
    obtain ⟨us, r1, o1, _⟩ := I.tuple ha
    obtain ⟨ws, r2, o2, _⟩ := I.tuple hc
    have z1 : us.toArray.size = xs.length := by rw [List.size_toArray, ← r1.length]
    have z2 : ws.toArray.size = ys.length := by rw [List.size_toArray, ← r2.length]
    refine rc_tups (e := e) (by omega) (fun t => Inv X pins σ H t) o1 o2 (fun i h1 h2 t J => ?_) (fun t J => ⟨by rw [z1, z2], J⟩) I
    have k1 : i < xs.length := by omega
    have k2 : i < ys.length := by omega
    obtain ⟨p, hp, rp⟩ := r1.get (List.getElem?_eq_getElem k1)
    obtain ⟨q, hq, rq⟩ := r2.get (List.getElem?_eq_getElem k2)
    have e1 : us.toArray[i] = p := by
      have : us[i]? = some us.toArray[i] := by simp at h1; simp [h1]
      rw [hp] at this
      exact (Option.some.inj this).symm
    have e2 : ws.toArray[i] = q := by
      have : ws[i]? = some ws.toArray[i] := by simp at h2; simp [h2]
      rw [hq] at this
      exact (Option.some.inj this).symm
    rw [e1, e2]
    exact ih A.in1 t _ _ _ _ _ sb.in1 J rp rq (he i _ _ (List.getElem?_eq_getElem k1) (List.getElem?_eq_getElem k2))
  · cases rx
    cases ry
    exact dT_run I ha hc fk fl hu _ _ ⟨rfl, I⟩
theorem refs_run {b : Bool} {a c : Addr} (g : a = c → b = true) (I : Inv X pins σ H s) (h : wpAny (model X.prog X.w) A (richCompare .Eq (.ref a) (.ref c)) (fun r t => r = .bool b ∧ Inv X pins σ H t) X.xe s) :
    wpAny (model X.prog X.w) A (eqBool (.ref a) (.ref c)) (fun r t => r = b ∧ Inv X pins σ H t) X.xe s := by
  by_cases e : a = c
  · subst e
    rw [g rfl]
    exact SeqAt.EqAt.same (A := A) (s := s) (.ref a) X.prog X.w X.xe _ ⟨rfl, I⟩
  · refine GQ.eqBool_refG e (wpAny_mono h (fun r t q => ⟨b, q.1, rfl, q.2⟩) fun _ _ x => x)
theorem eqB_run {D : OwnE} {m : Nat} (own : OwnR X m D) : ∀ (n : Nat) (A : Around) (s : Shared) (x y : V) (b : Bool) (u v : Value), Sub X (n + m) A → Inv X pins σ H s → RelV x u → RelV y v → EqB X.K D H n x y b →
    wpAny (model X.prog X.w) A (eqBool u v) (fun r t => r = b ∧ Inv X pins σ H t) X.xe s
  | 0, _, _, _, _, _, _, _, _, _, _, _, h => h.elim
  | n + 1, A, s, x, y, b, u, v, sb, I, rx, ry, h => by
    have hu : A.units + 1 < cLine := by have := sb.room.un; omega
    rcases h with ⟨fx, fy, rfl⟩ | ⟨a, rfl, rfl, rfl⟩ | ⟨a, xs, z, rfl, ha, rfl, rfl⟩ | ⟨g, h⟩ | ⟨a, c, rfl, rfl, g, d⟩
    · exact eqAt_V (A := A) (s := s) rx ry fx fy X.prog X.w X.xe _ ⟨rfl, I⟩
    · cases rx
      cases ry
      exact SeqAt.EqAt.same (A := A) (s := s) (.ref a) X.prog X.w X.xe _ ⟨rfl, I⟩
    · cases rx
      obtain ⟨t, rfl⟩ := (show ∃ t, v = Value.str z t from ry)
      obtain ⟨us, _, p1, _⟩ := I.list (SqL.of ha)
      exact SeqAt.EqAt.list_str (A := A) (s := s) z t p1.isList (by omega) X.prog X.w X.xe _ ⟨rfl, I⟩
    · have step := eqS_run (n := n + m) (F := EqB X.K D H n) (A := A) (sb.mono (by omega)) (fun A' s' x y b u v sb' J r1 r2 d => eqB_run own n A' s' x y b u v sb' J r1 r2 d) I rx ry h
      obtain ⟨a, c, rfl, rfl⟩ : ∃ a c, x = .ref a ∧ y = .ref c := by
        rcases h with ⟨a, c, _, _, e1, e2, _⟩ | ⟨a, c, _, _, _, e1, e2, _⟩ | ⟨a, c, _, _, _, e1, e2, _⟩ | ⟨a, c, _, _, e1, e2, _⟩ <;> exact ⟨a, c, e1, e2⟩
      cases rx
      cases ry
      exact refs_run (fun e => g (by rw [e])) I step
    · cases rx
      cases ry
      exact refs_run g I (own A pins s σ H a c b (sb.mono (by omega)) I d)
/-- x == y, x != y, lists, tuples, dicts with tuple keys, an own == -/
def rEqB (K : PySem.W.Frag) (D : OwnE) (n : Nat) : R2 := fun x y H Q => ∃ b, ((∃ a c, x = .ref a ∧ y = .ref c ∧ D a c b H) ∨ EqS K H (EqB K D H n) x y b) ∧ Q (.bl b) H
theorem op_eqB {D : OwnE} {n m : Nat} (own : OwnR X m D) (hr : Room (n + m + 1) X.A) : OpR X (compareOp .Eq) (rEqB X.K D n) := by
  intro pins s σ H x y v u Q I rx ry h
  obtain ⟨b, h, q⟩ := h
  show wpAny (model X.prog X.w) X.A (richCompare .Eq v u) (EP X pins σ Q) X.xe s
  have sb : Sub X (n + m + 1) X.A := ⟨hr, rfl⟩
  rcases h with ⟨a, c, rfl, rfl, d⟩ | h
  · cases rx
    cases ry
    refine wpAny_mono (own X.A pins s σ H a c b (sb.mono (by omega)) I d) (fun r t z => ?_) fun _ _ x => x
    obtain ⟨rfl, J⟩ := z
    exact ⟨.bl b, H, J, rfl, q⟩
  · refine wpAny_mono (eqS_run (n := n + m) (F := EqB X.K D H n) sb (fun A' s' x y b u v sb' J r1 r2 d => eqB_run own n A' s' x y b u v sb' J r1 r2 d) I rx ry h) (fun r t z => ?_) fun _ _ x => x
    obtain ⟨rfl, J⟩ := z
    exact ⟨.bl b, H, J, rfl, q⟩
end
end DX

set_option Elab.async false
set_option linter.all false
set_option maxRecDepth 100000
set_option maxHeartbeats 4000000
/-! an own == with either answer; != of tuples; more built-ins -/
namespace DX
open PySem PySem.Spec PyProof.Rows L2
/-- what the own == promises -/
def spEqB (D : OwnE) : Sp := fun vs H Q _ => ∃ a c b, vs = [.ref a, .ref c] ∧ D a c b H ∧ Q (.bl b) H
section
variable {X : Cx} {n : Nat}
theorem ownR_ins {D : OwnE} {CX : CXT} {C f : Addr} {fd : FuncData} {ps : List Str} {E : XK} (F : FnOk X.prog X.w X.K X.mg X.base CX n f fd ps (spEqB D)) (hs : PySem.W.findIn X.K (.ref C) "__eq__" = some (some (.ref f))) (hf : PySem.W.isFn X.K (.ref f) = true) (hb : Binds X.K fd ps []) (hx : Passes CX X E)
    (hD : ∀ a c b H, D a c b H → (∃ dx fs, H a = some (.ins C dx fs)) ∧ ((∃ dy gs, H c = some (.ins C dy gs)) ∨ ((∃ ys, SqT X.K H c ys) ∧ PySem.W.notFirst X.K C (.type "tuple") = true))) : OwnR X n D := by
  intro A pins s σ H a c b sb I d
  obtain ⟨⟨dx, fs, ha⟩, hc⟩ := hD a c b H d
  obtain ⟨mA, J, _⟩ := ins_get I.hok ha
  obtain ⟨od, J, _⟩ := J.look
  obtain ⟨m, hF⟩ := I.fr
  have main : wpAny (model X.prog X.w) A (call (.ref f) [.ref a, .ref c]) (PySem.W.CmpBack fun r t => r = .bool b ∧ Inv X pins σ H t) X.xe s := by
    have hsp : spEqB D [.ref a, .ref c] H (fun v H' => v = .bl b ∧ H' = H) E := ⟨a, c, b, rfl, d, rfl, rfl⟩
    have e0 : Env0 X.prog X.w X.K X.mg X.base A X.stack s H := by
      have e := I.env0
      exact ⟨by rw [sb.fr]; exact e.frames, e.mod, e.bs, e.bsz, e.funs, e.frf, e.hok, e.bare⟩
    have hl := F.len _ _ _ _ hsp
    have r2 : Vals [V.ref a, V.ref c] [Value.ref a, Value.ref c] := .cons rfl (.cons rfl .nil)
    refine wpAny_call (codeAny_mono (F.run A X.stack s H ⟨[.ref a, .ref c], []⟩ [.ref a, .ref c] [.ref a, .ref c] _ E sb.room e0 (by simpa using hb s [.ref a, .ref c] I.kIn (by simpa using hl)) r2 hsp) fun r t hq => ?_)
    cases r with
    | error e => exact hx pins σ H s e t I hq
    | ok fl =>
      cases fl with
      | ret u =>
        obtain ⟨z, H', I', rz, ez, eH⟩ := I.after hq
        subst ez eH
        cases rz
        exact ⟨rfl, I'⟩
      | next => exact False.elim hq
      | brk => exact False.elim hq
      | cont => exact False.elim hq
  rcases hc with ⟨dy, gs, hc⟩ | ⟨⟨ys, hc⟩, hn⟩
  · obtain ⟨mB, J', _⟩ := ins_get I.hok hc
    obtain ⟨od', J', _⟩ := J'.look
    exact PySem.W.cmp_K (op := .Eq) (tb := .ref C) sb.room.units0 hF I.ok.mod.kin J J'.type (by simp [PySem.W.notFirst]) hs hf main
  · obtain ⟨its, _, ⟨o, ho, hcl, _⟩, _⟩ := I.tuple hc
    have tt : PySem.W.Looks (model X.prog X.w) s.heap (typeOf (.ref c)) (.type "tuple") := by
      have tz : PySem.W.Looks (model X.prog X.w) s.heap (typeOf (.ref c)) o.cls := (PySem.W.Looks.ld ho).andThen .now
      rw [hcl] at tz; exact tz
    exact PySem.W.cmp_K (op := .Eq) (tb := .type "tuple") sb.room.units0 hF I.ok.mod.kin J tt hn hs hf main
end
/-! != of tuples -/
section
open AutoSeq1 (wpAny_loadPart')
open MeetsSeq MeetsSeq2 MeetsSeq3 SeqRoads2
variable {P : Program} {w : World} {A : Around} {R : Result → Shared → Prop}
theorem tup_ne_body (l b : Addr) (xs ys : Array Value) (n m : Nat) (dd dd2 : Option Addr) (sl sl2 : Array (Option Value)) (I : Shared → Prop) (e : Nat → Bool)
    (turn : ∀ i (h1 : i < xs.size) (h2 : i < ys.size) s, I s → wpAny (model P w) A.in1 (eqBool xs[i] ys[i]) (fun r t => r = e i ∧ I t) (fun x t => R (.error x) t) s)
    (fin : ∀ t, I t → R (.ok (.ret (.bool (!((List.range (min xs.size ys.size)).all e && xs.size == ys.size))))) t) {s : Shared} (g1 : s.heap.get? l = some { cls := .type "tuple", dict := dd, data := .seq xs n, slots := sl })
    (g2 : s.heap.get? b = some { cls := .type "tuple", dict := dd2, data := .seq ys m, slots := sl2 }) (h : I s) :
    wpAny (model P w) A.in1 (Builtin.«tuple.__ne__» ⟨[.ref l, .ref b], []⟩) (GQ.FinOf P w A R) (fun x t => R (.error x) t) s := by
  have ft := AutoSeq1.sub_tuple_tuple
  have zl : (xs.toList.zip ys.toList).length = min xs.size ys.size := by simp
  have h0 := h
  obtain ⟨hp, g, d, tk, os⟩ := s
  wp_walk using wpAny_loadPart' g1, wpAny_loadPart' g2, wpAny_forIn_list _ (fun rest q t => q.1 = none ∧ ∃ i, rest = (xs.toList.zip ys.toList).drop i ∧ i ≤ min xs.size ys.size ∧ (List.range i).all e = true ∧ I t) _
  case turn =>
    rintro ⟨y, x⟩ rest q t ⟨hq, i, hz, hi, pre, hI⟩
    have hlt : i < (xs.toList.zip ys.toList).length := Nat.lt_of_not_le fun g => by rw [List.drop_of_length_le g] at hz; cases hz
    have l1 : i < xs.size := by omega
    have l2 : i < ys.size := by omega
    rw [List.drop_eq_getElem_cons hlt] at hz
    injection hz with hyx hrest
    obtain rfl : y = xs[i] := by simpa using congrArg Prod.fst hyx
    obtain rfl : x = ys[i] := by simpa using congrArg Prod.snd hyx
    refine wpAny_bind (wpAny_mono (turn i l1 l2 t hI) (fun r t2 q2 => ?_) fun _ _ x => x)
    obtain ⟨rfl, q2⟩ := q2
    cases ec : e i with
    | true => wp_walk; exact ⟨rfl, i + 1, hrest, by omega, all_next pre ec, q2⟩
    | false =>
      have hR := fin t2 q2
      rw [all_no (by omega) ec, Bool.false_and] at hR
      wp_walk; simpa using hR
  case fin =>
    rintro ⟨b1, b2⟩ t ⟨hq, i, hz, hi, pre, hI⟩
    simp only at hq
    subst hq
    have hge : min xs.size ys.size ≤ i := Nat.le_of_not_lt fun g => by
      rw [List.drop_eq_getElem_cons (by omega)] at hz; cases hz
    have hR := fin t hI
    rw [show min xs.size ys.size = i by omega, pre, Bool.true_and] at hR
    have e2 : (xs.size != ys.size) = !(xs.size == ys.size) := rfl
    rw [← e2] at hR
    wp_walk
    simpa [Builtin.Tuple.tupleCompareSizes] using hR
  case h => exact ⟨rfl, 0, rfl, Nat.zero_le _, rfl, h0⟩
end
section
variable {P : Program} {w : World} {A : Around} {E : Value → Shared → Prop} {s : Shared}
theorem rc_tups_ne {l b : Addr} {xs ys : Array Value} {Q : Value → Shared → Prop} {e : Nat → Bool} (hu : A.units < cLine) (I : Shared → Prop) (hl : s.heap.IsTuple l xs) (hb : s.heap.IsTuple b ys)
    (turn : ∀ i (h1 : i < xs.size) (h2 : i < ys.size) s, I s → wpAny (model P w) A.in1 (eqBool xs[i] ys[i]) (fun r t => r = e i ∧ I t) E s)
    (fin : ∀ t, I t → Q (.bool (!((List.range (min xs.size ys.size)).all e && xs.size == ys.size))) t) (h : I s) : wpAny (model P w) A (richCompare .NotEq (.ref l) (.ref b)) Q E s := by
  obtain ⟨⟨c1, d1, v1, s1⟩, o1, e1, n, f1⟩ := id hl
  obtain ⟨⟨c2, d2, v2, s2⟩, o2, e2, m, f2⟩ := id hb
  simp only at e1 f1 e2 f2
  subst e1 f1 e2 f2
  refine wpAny_richCompare_same_room (op := .NotEq) ⟨_, o1, rfl⟩ ⟨_, o2, rfl⟩ F.slot_tuple_ne (GQ.call_here F.slot_tuple_ne ⟨_, o1, rfl⟩ F.entry_tuple_ne (F.args_tuple_ne_2 _ _) ?_) hu
  exact tup_ne_body (R := wants (fun v t => v ≠ .notImplemented ∧ Q v t) E) l b xs ys n m d1 d2 s1 s2 I e turn (fun t q => ⟨(fun x => nomatch x), fin t q⟩) o1 o2 h
end
section
variable {X : Cx}
/-- x != y, tuples -/
def rNeB (K : PySem.W.Frag) (D : OwnE) (n : Nat) : R2 := fun x y H Q => ∃ a c xs ys, ∃ e : Nat → Bool, x = .ref a ∧ y = .ref c ∧ SqT K H a xs ∧ SqT K H c ys ∧ (∀ i x y, xs[i]? = some x → ys[i]? = some y → EqB K D H n x y (e i)) ∧ Q (.bl (!((List.range (min xs.length ys.length)).all e && xs.length == ys.length))) H
theorem op_neB {D : OwnE} {n m : Nat} (own : OwnR X m D) (hr : Room (n + m + 1) X.A) : OpR X (compareOp .NotEq) (rNeB X.K D n) := by
  intro pins s σ H x y v u Q I rx ry h
  obtain ⟨a, c, xs, ys, e, rfl, rfl, ha, hc, he, q⟩ := h
  cases rx
  cases ry
  show wpAny (model X.prog X.w) X.A (richCompare .NotEq (.ref a) (.ref c)) (EP X pins σ Q) X.xe s
  have sb : Sub X (n + m + 1) X.A := ⟨hr, rfl⟩
  obtain ⟨us, r1, o1, _⟩ := I.tuple ha
  obtain ⟨ws, r2, o2, _⟩ := I.tuple hc
  have z1 : us.toArray.size = xs.length := by rw [List.size_toArray, ← r1.length]
  have z2 : ws.toArray.size = ys.length := by rw [List.size_toArray, ← r2.length]
  refine rc_tups_ne (e := e) hr.units0 (fun t => Inv X pins σ H t) o1 o2 (fun i h1 h2 t J => ?_) (fun t J => ⟨.bl _, H, J, by rw [z1, z2]; rfl, q⟩) I
  have k1 : i < xs.length := by omega
  have k2 : i < ys.length := by omega
  obtain ⟨p, hp, rp⟩ := r1.get (List.getElem?_eq_getElem k1)
  obtain ⟨q, hq, rq⟩ := r2.get (List.getElem?_eq_getElem k2)
  have e1 : us.toArray[i] = p := by
    have : us[i]? = some us.toArray[i] := by simp at h1; simp [h1]
    rw [hp] at this
    exact (Option.some.inj this).symm
  have e2 : ws.toArray[i] = q := by
    have : ws[i]? = some ws.toArray[i] := by simp at h2; simp [h2]
    rw [hq] at this
    exact (Option.some.inj this).symm
  rw [e1, e2]
  exact eqB_run own n X.A.in1 t _ _ _ _ _ sb.in1 J rp rq (he i _ _ (List.getElem?_eq_getElem k1) (List.getElem?_eq_getElem k2))
end
end DX

set_option Elab.async false
set_option linter.all false
set_option maxRecDepth 100000
set_option maxHeartbeats 4000000
/-! max(xs, default=d), max(t) -/
namespace DX
open PySem PySem.Spec PyProof.Rows L2
/-- the greatest, d for none -/
def mx (d : Int) : List Int → Int
  | [] => d
  | n :: r => r.foldl max n
theorem reads_of {h : Heap} : ∀ {ns : List Int} {us : List Value}, Vals (ns.map V.int) us → ReadsAll h us (ns.map PyData.int) []
  | [], _, r => by
    rw [List.map_nil] at r; cases r
    exact .nil
  | n :: ns, _, r => by
    rw [List.map_cons] at r
    cases r with
    | cons r t =>
      obtain ⟨k, rfl⟩ := r
      exact .cons (as := []) (bs := []) (.int n k) (reads_of t)
theorem alike_of (ns : List Int) : PySem.W.AlikeAll (ns.map PyData.int) := by
  refine ⟨fun x hx y hy => ?_, fun x hx => ?_⟩
  · obtain ⟨i, _, rfl⟩ := List.mem_map.mp hx
    obtain ⟨j, _, rfl⟩ := List.mem_map.mp hy
    rfl
  · obtain ⟨i, _, rfl⟩ := List.mem_map.mp hx
    intro z; cases z
theorem depth_of : ∀ ns : List Int, PyData.depthAll (ns.map PyData.int) ≤ 1
  | [] => Nat.zero_le _
  | n :: ns => by
    have := depth_of ns
    rw [List.map_cons]
    show max (PyData.depth (.int n)) (PyData.depthAll (ns.map PyData.int)) ≤ 1
    have z : PyData.depth (.int n) ≤ 1 := by simp [PyData.depth]
    omega
theorem reads_int {h : Heap} {v : Value} {n : Int} {bs : List Addr} (r : Reads h v (.int n) bs) : ∃ t, v = .int n t := by
  cases r
  exact ⟨_, rfl⟩
section
variable {X : Cx}
def rMaxDf (K : PySem.W.Frag) : List V → List V → Hp → VK → Prop := fun xs zs H Q => ∃ (a : Addr) (ns : List Int) (d : Int), xs = [.ref a] ∧ zs = [.int d] ∧ SqL K H a (ns.map V.int) ∧ Q (.int (mx d ns)) H
theorem cr_maxDf (hc : X.calm = true) (hu : X.A.units + 8 < cLine) : CallRK X (.builtin "max") ["default"] (rMaxDf X.K) := by
  intro pins s σ H xs zs us ws Q I r r2 q
  obtain ⟨a, ns, d, rfl, rfl, hl, q⟩ := q
  obtain ⟨u, rfl, ru⟩ := r.one
  cases ru
  obtain ⟨v, rfl, rv⟩ := r2.one
  obtain ⟨its, rl, pl, _⟩ := I.list hl
  have dp := depth_of ns
  show wpAny _ _ (call (.builtin "max") [.ref a] [(Str.ofString "default", v)]) _ _ s
  refine PySem.W.max_list_default (I.ok.hd hc) pl.isList (by simpa using reads_of rl) (alike_of ns) (by omega) (fun e h' tk hk => ?_) fun y ys i v' h' tk bs e hi hr hk => ?_
  · have e' : ns = [] := by simpa using e
    subst e'
    exact ⟨.int d, H, I.kept hk, rv, q⟩
  · cases ns with
    | nil => cases e
    | cons n r =>
      rw [List.map_cons] at e
      injection e with e1 e2
      subst e1 e2
      rw [PySem.W.maxD_ints] at hr
      obtain ⟨t, rfl⟩ := reads_int hr
      exact ⟨.int (mx d (n :: r)), H, I.kept hk, ⟨t, rfl⟩, q⟩
def rMaxT (K : PySem.W.Frag) : List V → Hp → VK → Prop := fun xs H Q => ∃ (a : Addr) (ns : List Int), xs = [.ref a] ∧ SqT K H a (ns.map V.int) ∧ ns ≠ [] ∧ Q (.int (mx 0 ns)) H
theorem cr_maxT (hc : X.calm = true) (hu : X.A.units + 8 < cLine) : CallR X (.builtin "max") (rMaxT X.K) := by
  intro pins s σ H xs us Q I r q
  obtain ⟨a, ns, rfl, hl, hne, q⟩ := q
  obtain ⟨u, rfl, ru⟩ := r.one
  cases ru
  obtain ⟨its, rl, pl, _⟩ := I.tuple hl
  have dp := depth_of ns
  cases ns with
  | nil => exact absurd rfl hne
  | cons n r =>
    have rr : ReadsAll s.heap its.toArray.toList (PyData.int n :: r.map PyData.int) [] := by simpa using reads_of (h := s.heap) rl
    refine PySem.W.max_tuple_data (I.ok.hd hc) pl rr (alike_of (n :: r)) (by rw [List.map_cons] at dp; omega) fun i v' h' tk bs hi hr hk => ?_
    rw [PySem.W.maxD_ints] at hr
    obtain ⟨t, rfl⟩ := reads_int hr
    exact ⟨.int (mx 0 (n :: r)), H, I.kept hk, ⟨t, rfl⟩, q⟩
end
theorem mx_le {d : Int} : ∀ {ns : List Int}, (∀ x ∈ ns, 0 ≤ x) → 0 ≤ d → 0 ≤ mx d ns
  | [], _, h => h
  | n :: r, hh, _ => by
    have key : ∀ (r : List Int) (n : Int), 0 ≤ n → 0 ≤ r.foldl max n := by
      intro r
      induction r with
      | nil => exact fun _ h => h
      | cons a r ih => exact fun n h => ih _ (Int.le_trans h (Int.le_max_left ..))
    exact key r n (hh n List.mem_cons_self)
theorem fold_ge : ∀ (r : List Int) (n : Int), n ≤ r.foldl max n ∧ ∀ x ∈ r, x ≤ r.foldl max n
  | [], n => ⟨Int.le_refl _, fun x hx => by cases hx⟩
  | a :: r, n => by
    obtain ⟨h1, h2⟩ := fold_ge r (max n a)
    rw [List.foldl_cons]
    refine ⟨Int.le_trans (Int.le_max_left ..) h1, fun x hx => ?_⟩
    rcases List.mem_cons.mp hx with e | hx
    · rw [e]; exact Int.le_trans (Int.le_max_right ..) h1
    · exact h2 x hx
theorem fold_mem : ∀ (r : List Int) (n : Int), r.foldl max n = n ∨ r.foldl max n ∈ r
  | [], n => .inl rfl
  | a :: r, n => by
    rw [List.foldl_cons]
    rcases fold_mem r (max n a) with h | h
    · rw [h]
      rcases Int.le_total n a with g | g
      · rw [Int.max_eq_right g]; exact .inr List.mem_cons_self
      · rw [Int.max_eq_left g]; exact .inl rfl
    · exact .inr (List.mem_cons_of_mem _ h)
/-- the greatest of numbers from 0 on is 0 just if all are -/
theorem mx_zero {ns : List Int} (h : ∀ x ∈ ns, 0 ≤ x) : mx 0 ns = 0 ↔ ∀ x ∈ ns, x = 0 := by
  cases ns with
  | nil => exact ⟨(fun _ x hx => by cases hx), (fun _ => rfl)⟩
  | cons n r =>
    have g := fold_ge r n
    constructor
    · intro e x hx
      have e' : r.foldl max n = 0 := e
      rw [e'] at g
      have h0 := h x hx
      rcases List.mem_cons.mp hx with z | z
      · rw [z] at h0 ⊢; have := g.1; omega
      · have := g.2 x z; omega
    · intro hh
      show r.foldl max n = 0
      rcases fold_mem r n with z | z
      · rw [z]; exact hh n List.mem_cons_self
      · exact hh _ (List.mem_cons_of_mem _ z)
end DX

set_option Elab.async false
set_option linter.all false
set_option maxRecDepth 100000
set_option maxHeartbeats 4000000
/-! steps of our own: each reading's combinator with what it asks as premises -/
namespace My
open PySem PySem.Spec PyProof.Rows L2
/-- what a for over range(..), over a list asks behind its argument; what a comprehension does -/
def FR (vs : List V) (g : TG) (tb : TS) (D : Ends) (σ : L2.St) (H1 : Hp) : Prop := ∃ j : Int, vs = [.int j] ∧ -(2 ^ 62) ≤ j ∧ j < 2 ^ 62 ∧ ∃ W : Nat → Nat → L2.St → Hp → Prop, (∃ m, W 0 m σ H1) ∧ ∀ i m σ H, W i m σ H →
  ((Itr 0 j.toNat).stop i H ∧ D.nx σ H) ∨ ((Itr 0 j.toNat).go i H ∧ ∃ N : L2.St → Hp → Prop, (∀ σ' H', N σ' H' → ∃ m', m' < m ∧ W (i + 1) m' σ' H') ∧ ∀ x H', (Itr 0 j.toNat).yld i H x H' → g x σ H' fun σ2 H2 => tb { D with nx := N, ct := N, bk := D.nx } σ2 H2)
def FL (K : PySem.W.Frag) (x : V) (g : TG) (tb : TS) (D : Ends) (σ : L2.St) (H1 : Hp) : Prop := ∃ a, x = .ref a ∧ (∃ xs, SqL K H1 a xs) ∧ ∃ W : Nat → Nat → L2.St → Hp → Prop, (∃ m, W 0 m σ H1) ∧ ∀ i m σ H, W i m σ H →
  ((Itl K a).stop i H ∧ D.nx σ H) ∨ ((Itl K a).go i H ∧ ∃ N : L2.St → Hp → Prop, (∀ σ' H', N σ' H' → ∃ m', m' < m ∧ W (i + 1) m' σ' H') ∧ ∀ x H', (Itl K a).yld i H x H' → g x σ H' fun σ2 H2 => tb { D with nx := N, ct := N, bk := D.nx } σ2 H2)
/-- a comprehension over the iterator J -/
def LJ (J : It) (g : TG) (tt : TT) (te : TE) (vs : List Nat) (σ : L2.St) (Q : VK) (H1 : Hp) : Prop := ∀ D, H1 D = none → ∃ W : Nat → Nat → Hp → Prop, (∃ m, W 0 m (upd H1 D (.lst []))) ∧ ∀ i m H, W i m H →
  (J.stop i H ∧ Q (.ref D) H) ∨ (J.go i H ∧ ∃ Nx : Hp → Prop, (∀ H', Nx H' → ∃ m', m' < m ∧ W (i + 1) m' H') ∧ ∀ x H', J.yld i H x H' → g x (wipe σ vs) H' fun σ2 H2 => wipe σ2 vs = wipe σ vs ∧ tt σ2 H2 fun b H3 =>
    if b = true then te σ2 H3 fun y H4 => ∃ acc, H4 D = some (.lst acc) ∧ acc.length < sizeLine ∧ Nx (upd H4 D (.lst (acc ++ [y]))) else Nx H3)
def CR1 (us : List V) (g : TG) (tt : TT) (te : TE) (vs : List Nat) (σ : L2.St) (Q : VK) (H1 : Hp) : Prop := ∃ j : Int, us = [.int j] ∧ -(2 ^ 62) ≤ j ∧ j < 2 ^ 62 ∧ LJ (Itr 0 j.toNat) g tt te vs σ Q H1
def CL1 (K : PySem.W.Frag) (x : V) (g : TG) (tt : TT) (te : TE) (vs : List Nat) (σ : L2.St) (Q : VK) (H1 : Hp) : Prop := ∃ a, x = .ref a ∧ (∃ xs, SqL K H1 a xs) ∧ LJ (Itl K a) g tt te vs σ Q H1
def rInt1 : List V → Hp → VK → Prop := fun xs H Q => (∃ i, xs = [.int i] ∧ Q (.int i) H) ∨ ∃ k, xs = [.bl k] ∧ Q (.int (if k then 1 else 0)) H
theorem c_int1 {X : Cx} : CallR X (.type "int") rInt1 := call_int1
def rAbs1 : List V → Hp → VK → Prop := fun xs H Q => ∃ i, xs = [.int i] ∧ Q (.int (if i < 0 then -i else i)) H
theorem c_abs {X : Cx} : CallR X (.builtin "abs") rAbs1 := call_abs
def rLen1 (K : PySem.W.Frag) : List V → Hp → VK → Prop := fun xs H Q => ∃ x n, xs = [x] ∧ LenV K x H n ∧ Q (.int n) H
theorem c_len {X : Cx} : CallR X (.builtin "len") (rLen1 X.K) := call_len
section
variable {σ : L2.St} {H : Hp} {Q : VK} {QB : Bool → Hp → Prop} {QA : List V → Hp → Prop} {K : PySem.W.Frag} {te td ty tv ta tb tx : TE} {tt tu : TT} {tl tr : TA} {D : Ends} {t u : TS} {x y v z : V} {r : R2} {i j : Int} {n : Nat} {b : Bool}
theorem seq (h : t { D with nx := u D } σ H) : tSeq t u D σ H := h
theorem next (h : D.nx σ H) : tNext D σ H := h
theorem ifs (h : tt σ H fun b H1 => if b = true then t D σ H1 else u D σ H1) : tIfS tt t u D σ H := h
theorem test (h : te σ H fun x H' => ∃ k, x = .bl k ∧ QB k H') : tTest te σ H QB := h
theorem testB (h : te σ H fun x H' => ∃ k, x = .bl k ∧ QB k H') : tB te σ H QB := h
theorem and_ (h : tt σ H fun c H1 => if c = true then tu σ H1 QB else QB false H1) : tAnd tt tu σ H QB := h
theorem or_ (h : tt σ H fun c H1 => if c = true then QB true H1 else tu σ H1 QB) : tOr tt tu σ H QB := h
theorem not_ (h : tt σ H fun c H1 => QB (!c) H1) : tNot tt σ H QB := h
theorem andV (h : ta σ H fun x H1 => ∃ c, x = .bl c ∧ if c = true then tb σ H1 Q else Q (.bl false) H1) : tAndV ta tb σ H Q := h
theorem orV (h : ta σ H fun x H1 => ∃ c, x = .bl c ∧ if c = true then Q (.bl true) H1 else tb σ H1 Q) : tOrV ta tb σ H Q := h
theorem notV (h : ta σ H fun x H1 => ∃ c, x = .bl c ∧ Q (.bl (!c)) H1) : tNotV ta σ H Q := h
theorem ifV (h : tt σ H fun c H1 => if c = true then ta σ H1 Q else tb σ H1 Q) : tIf tt ta tb σ H Q := h
theorem bl {R : Bool → Prop} (q : R b) : ∃ k, V.bl b = .bl k ∧ R k := ⟨b, rfl, q⟩
theorem ite_d {p : Prop} [Decidable p] {A B : Prop} (h1 : p → A) (h2 : ¬ p → B) : if decide p = true then A else B := by
  by_cases h : p
  · rw [if_pos (decide_eq_true h)]; exact h1 h
  · rw [decide_eq_false h, if_neg Bool.false_ne_true]; exact h2 h
theorem ite_nd {p : Prop} [Decidable p] {A B : Prop} (h1 : ¬ p → A) (h2 : p → B) : if (!decide p) = true then A else B := by
  by_cases h : p
  · rw [decide_eq_true h]; exact h2 h
  · rw [decide_eq_false h]; exact h1 h
theorem ite_t {A B : Prop} (h : A) : if true = true then A else B := by rw [if_pos rfl]; exact h
theorem ite_f {A B : Prop} (h : B) : if false = true then A else B := by rw [if_neg Bool.false_ne_true]; exact h
theorem ite_nt {A B : Prop} (h : B) : if (!true) = true then A else B := by simpa using h
theorem ite_nf {A B : Prop} (h : A) : if (!false) = true then A else B := by simpa using h
theorem var (h : σ[n]? = some (some v)) (q : Q v H) : tVar n σ H Q := ⟨v, h, q⟩
theorem cst (q : Q v H) : tC v σ H Q := q
theorem op (h : ta σ H fun x H1 => tb σ H1 fun y H2 => r x y H2 Q) : tOp r ta tb σ H Q := h
theorem un {r : V → Hp → VK → Prop} (h : ta σ H fun x H1 => r x H1 Q) : tUn r ta σ H Q := h
theorem rU_ {g : Int → V} (q : Q (g i) H) : rU g (.int i) H Q := ⟨i, rfl, q⟩
theorem rI0_ {g : Int → Int → V} (q : Q (g i j) H) : rI0 g (.int i) (.int j) H Q := ⟨i, j, rfl, rfl, q⟩
theorem rI_ {C : Int → Int → Prop} {g : Int → Int → V} (c : C i j) (q : Q (g i j) H) : rI C g (.int i) (.int j) H Q := ⟨i, j, rfl, rfl, c, q⟩
theorem modA (c : 0 < j) (q : ∀ k, 0 ≤ k → k < j → Q (.int k) H) : rI (fun _ j => 0 < j) (fun i j => .int (i % j)) (.int i) (.int j) H Q := ⟨i, j, rfl, rfl, c, q _ (Int.emod_nonneg _ (by omega)) (Int.emod_lt_of_pos _ c)⟩
theorem mulR {g : Int → Int → V} (h1 : -18446744073709551616 < j) (h2 : j < 18446744073709551616) (q : Q (g i j) H) : rI CMul g (.int i) (.int j) H Q := ⟨i, j, rfl, rfl, .inr ⟨h1, h2⟩, q⟩
theorem mulL {g : Int → Int → V} (h1 : -18446744073709551616 < i) (h2 : i < 18446744073709551616) (q : Q (g i j) H) : rI CMul g (.int i) (.int j) H Q := ⟨i, j, rfl, rfl, .inl ⟨h1, h2⟩, q⟩
theorem divP {g : Int → Int → V} (h1 : 0 < j) (h2 : j < 1073741824) (q : Q (g i j) H) : rI CDiv g (.int i) (.int j) H Q := ⟨i, j, rfl, rfl, ⟨h1, h2⟩, q⟩
theorem powP {g : Int → Int → V} (c : CPow i j) (q : Q (g i j) H) : rI CPow g (.int i) (.int j) H Q := ⟨i, j, rfl, rfl, c, q⟩
theorem rEqI (q : Q (.bl (decide (i = j))) H) : rEq (.int i) (.int j) H Q := ⟨rfl, by
  have e : decide (V.int i = V.int j) = decide (i = j) := by
    by_cases h : i = j
    · rw [h]; simp
    · simp [h]
  rw [e]; exact q⟩
theorem rNeI (q : Q (.bl (!decide (i = j))) H) : rNe (.int i) (.int j) H Q := ⟨rfl, by
  have e : decide (V.int i = V.int j) = decide (i = j) := by
    by_cases h : i = j
    · rw [h]; simp
    · simp [h]
  rw [e]; exact q⟩
theorem callB {rl : List V → Hp → VK → Prop} (h : tl σ H fun vs H1 => rl vs H1 Q) : tCB rl tl σ H Q := h
theorem cons (h : te σ H fun x H1 => tl σ H1 fun xs H2 => QA (x :: xs) H2) : tCons te tl σ H QA := h
theorem nil (q : QA [] H) : tNil σ H QA := q
theorem int1 (q : Q (.int i) H) : rInt1 [.int i] H Q := .inl ⟨i, rfl, q⟩
theorem int1b (q : Q (.int (if b then 1 else 0)) H) : rInt1 [.bl b] H Q := .inr ⟨b, rfl, q⟩
theorem abs1 (q : Q (.int (if i < 0 then -i else i)) H) : rAbs1 [.int i] H Q := ⟨i, rfl, q⟩
theorem lenL {p : Addr} {xs : List V} (h : SqL K H p xs) (q : Q (.int xs.length) H) : rLen1 K [.ref p] H Q := ⟨_, _, rfl, .inl ⟨xs, h, rfl⟩, q⟩
theorem lenT {p : Addr} {xs : List V} (h : SqT K H p xs) (q : Q (.int xs.length) H) : rLen1 K [.ref p] H Q := ⟨_, _, rfl, .inr ⟨xs, h, rfl⟩, q⟩
theorem dget (h : td σ H fun x H1 => ty σ H1 fun y H2 => ∃ a v, x = .ref a ∧ DGet H2 a y (some v) ∧ Q v H2) : tDGet td ty σ H Q := h
theorem dgetS {a : Addr} {kvs : List (Key × V)} {s : Str} (h : H a = some (.dK kvs)) {R : V → Prop} (hv : valV kvs (.inr s) = some v) (q : R v) : ∃ a' v', V.ref a = .ref a' ∧ DGet H a' (.str s) (some v') ∧ R v' :=
  ⟨a, v, rfl, .inl ⟨kvs, .inr s, .inl h, rfl, hv.symm⟩, q⟩
theorem dput (h : tv σ H fun v H1 => td σ H1 fun x H2 => ty σ H2 fun y H3 => ∃ a H4, x = .ref a ∧ DPut H3 a y v H4 ∧ D.nx σ H4) : sDPut td ty tv D σ H := h
theorem dputS {a : Addr} {kvs kvs' : List (Key × V)} {s : Str} {R : Hp → Prop} (h : H a = some (.dK kvs)) (hl : kvs.length < sizeLine) (e : putK kvs (.inr s) v = kvs') (q : R (upd H a (.dK kvs'))) : ∃ a' H4, V.ref a = .ref a' ∧ DPut H a' (.str s) v H4 ∧ R H4 := by
  subst e
  exact ⟨a, _, rfl, DPut.k (k := Sum.inr s) h hl, q⟩
theorem asg {g : TG} (h : te σ H fun x H1 => g x σ H1 D.nx) : tAsg te g D σ H := h
theorem name {N : L2.St → Hp → Prop} {σ' : L2.St} (e : σ.set n (some v) = σ') (h : N σ' H) : gName n v σ H N := by subst e; exact h
theorem drop (h : te σ H fun _ H1 => D.nx σ H1) : tDrop te D σ H := h
theorem ret (h : te σ H D.rt) : tRet te D σ H := h
theorem retN (h : D.rt .non H) : tRetN D σ H := h
theorem ixL {p : Addr} {xs : List V} (h : SqL K H p xs) (e : atI xs i = some v) (q : Q v H) : rIxL K (.ref p) (.int i) H Q := ⟨p, xs, i, v, rfl, rfl, h, e, q⟩
theorem ixT {p : Addr} {xs : List V} (h : SqT K H p xs) (e : atI xs i = some v) (q : Q v H) : rIxT K (.ref p) (.int i) H Q := ⟨p, xs, i, v, rfl, rfl, h, e, q⟩
theorem call {sp : Sp} {dvs : List V} {E : XK} (h : tl σ H fun vs H1 => sp (vs ++ dvs) H1 Q E) : tCall sp dvs E tl σ H Q := h
theorem lst_ (h : tl σ H fun xs H1 => xs.length ≤ sizeLine ∧ ∀ p, H1 p = none → Q (.ref p) (upd H1 p (.lst xs))) : tLst tl σ H Q := h
theorem tup_ (h : tl σ H fun xs H1 => xs.length ≤ sizeLine ∧ ∀ p, H1 p = none → Q (.ref p) (upd H1 p (.tup xs))) : tTup tl σ H Q := h
theorem new {p : Prop} {R : Addr → Prop} (hl : p) (h : ∀ a, H a = none → R a) : p ∧ ∀ a, H a = none → R a := ⟨hl, h⟩
theorem sz {n : Nat} (h : n ≤ 1000) : n ≤ sizeLine := Nat.le_trans h (by decide)
theorem range1 {R : Int → Prop} {p1 p2 : Int → Prop} (h1 : p1 i) (h2 : p2 i) (q : R i) : ∃ j, [V.int i] = [.int j] ∧ p1 j ∧ p2 j ∧ R j := ⟨i, rfl, h1, h2, q⟩
/-- over range(j): with an invariant -/
theorem rngI {g : TG} {tb : TS} (l1 : -4611686018427387904 ≤ j) (l2 : j < 4611686018427387904) (Pv : Nat → L2.St → Hp → Prop) (h0 : Pv 0 σ H)
    (hs : ∀ i σ H, i < j.toNat → Pv i σ H → g (.int (0 + (i : Int))) σ H fun σ2 H2 => tb { D with nx := Pv (i + 1), ct := Pv (i + 1), bk := D.nx } σ2 H2) (hd : ∀ σ H, Pv j.toNat σ H → D.nx σ H) : FR [.int j] g tb D σ H := ⟨j, rfl, l1, l2, for_range (lo := 0) (n := j.toNat) Pv h0 hs hd⟩
theorem forR1 {g : TG} {tb : TS} (h : tl σ H fun vs H1 => FR vs g tb D σ H1) : tFor (iRng1 tl) g tb D σ H := h
theorem forL1 {g : TG} {tb : TS} (h : te σ H fun x H1 => FL K x g tb D σ H1) : tFor (iList K te) g tb D σ H := h
theorem lstI {g : TG} {tb : TS} {a : Addr} {xs : List V} (hl0 : SqL K H a xs) (Pv : Nat → L2.St → Hp → Prop) (h0 : Pv 0 σ H) (hl : ∀ i σ H, i ≤ xs.length → Pv i σ H → SqL K H a xs)
    (hs : ∀ i x σ H, xs[i]? = some x → Pv i σ H → g x σ H fun σ2 H2 => tb { D with nx := Pv (i + 1), ct := Pv (i + 1), bk := D.nx } σ2 H2) (hd : ∀ σ H, Pv xs.length σ H → D.nx σ H) : FL K (.ref a) g tb D σ H :=
  ⟨a, rfl, ⟨xs, hl0⟩, for_list (xs := xs) Pv h0 hl hs hd⟩
theorem lcR1 {g : TG} {vs : List Nat} (h : tl σ H fun us H1 => CR1 us g tt te vs σ Q H1) : tLc (iRng1 tl) g tt te vs σ H Q := h
theorem lcRI {g : TG} {vs : List Nat} (l1 : -4611686018427387904 ≤ j) (l2 : j < 4611686018427387904) (h : ∀ A, H A = none → ∃ Pv : Nat → Hp → Prop, Pv 0 (upd H A (.lst [])) ∧
    (∀ i H, i < j.toNat → Pv i H → g (.int (0 + (i : Int))) (wipe σ vs) H fun σ2 H2 => wipe σ2 vs = wipe σ vs ∧ tt σ2 H2 fun b H3 =>
      if b = true then te σ2 H3 fun y H4 => ∃ acc, H4 A = some (.lst acc) ∧ acc.length < sizeLine ∧ Pv (i + 1) (upd H4 A (.lst (acc ++ [y]))) else Pv (i + 1) H3) ∧ ∀ H, Pv j.toNat H → Q (.ref A) H) : CR1 [.int j] g tt te vs σ Q H := by
  refine ⟨j, rfl, l1, l2, fun A hA => ?_⟩
  obtain ⟨Pv, h0, hs, hd⟩ := h A hA
  exact lc_range (lo := 0) (n := j.toNat) Pv h0 hs hd
theorem lcL1 {g : TG} {vs : List Nat} (h : ta σ H fun x H1 => CL1 K x g tt te vs σ Q H1) : tLc (iList K ta) g tt te vs σ H Q := h
theorem lcLI {g : TG} {vs : List Nat} {a : Addr} {xs : List V} (hl0 : SqL K H a xs) (h : ∀ A, H A = none → ∃ Pv : Nat → Hp → Prop, Pv 0 (upd H A (.lst [])) ∧ (∀ i H, i ≤ xs.length → Pv i H → SqL K H a xs) ∧
    (∀ i x H, xs[i]? = some x → Pv i H → g x (wipe σ vs) H fun σ2 H2 => wipe σ2 vs = wipe σ vs ∧ tt σ2 H2 fun b H3 =>
      if b = true then te σ2 H3 fun y H4 => ∃ acc, H4 A = some (.lst acc) ∧ acc.length < sizeLine ∧ Pv (i + 1) (upd H4 A (.lst (acc ++ [y]))) else Pv (i + 1) H3) ∧ ∀ H, Pv xs.length H → Q (.ref A) H) : CL1 K (.ref a) g tt te vs σ Q H := by
  refine ⟨a, rfl, ⟨xs, hl0⟩, fun A hA => ?_⟩
  obtain ⟨Pv, h0, hl, hs, hd⟩ := h A hA
  exact lc_list (xs := xs) Pv h0 hl hs hd
theorem disp {trs : List (TE × TE)} (h : ∀ p, H p = none → tPairs trs σ (upd H p (.dK [])) fun ps H2 => H2 p = some (.dK []) ∧ ∃ kvs : List (Key × V), ps = kvs.map (fun kv => (kV kv.1, kv.2)) ∧ kvs.length ≤ 15 ∧ Q (.ref p) (upd H2 p (.dK (mergeK [] kvs)))) : tDisp trs σ H Q := h
theorem pairs {tk tv : TE} {trs : List (TE × TE)} {R : List (V × V) → Hp → Prop} (h : tk σ H fun x H1 => tv σ H1 fun y H2 => tPairs trs σ H2 fun ps H3 => R ((x, y) :: ps) H3) : tPairs ((tk, tv) :: trs) σ H R := h
theorem pairs0 {R : List (V × V) → Hp → Prop} (h : R [] H) : tPairs [] σ H R := h
theorem sl {r : V → Option Int → Option Int → Hp → VK → Prop} {t1 t2 : TO} (h : te σ H fun x H1 => t1 σ H1 fun l H2 => t2 σ H2 fun u H3 => r x l u H3 Q) : tSl r te t1 t2 σ H Q := h
theorem part {QO : Option Int → Hp → Prop} (h : te σ H fun x H1 => ∃ i, x = .int i ∧ QO (some i) H1) : tPart te σ H QO := h
theorem partI {R : Int → Prop} (q : R i) : ∃ i', V.int i = .int i' ∧ R i' := ⟨i, rfl, q⟩
theorem yes (q : QB true H) : tYes σ H QB := q
theorem noPart {QO : Option Int → Hp → Prop} (q : QO none H) : tNoPart σ H QO := q
theorem slL {a : Addr} {xs : List V} {lo hi : Option Int} (h : SqL K H a xs) (q : ∀ p, H p = none → Q (.ref p) (upd H p (.lst (cutV xs lo hi)))) : rSlL K (.ref a) lo hi H Q := ⟨a, xs, rfl, h, q⟩
theorem bm {T : String} {r : V → List V → Hp → VK → Prop} (h : te σ H fun x H1 => tyV K T x H1 ∧ tl σ H1 fun xs H2 => r x xs H2 Q) : tBM K T r te tl σ H Q := h
theorem tyL {p : Addr} {xs : List V} {R : Prop} (h : SqL K H p xs) (q : R) : tyV K "list" (.ref p) H ∧ R := ⟨.inl ⟨rfl, xs, h⟩, q⟩
theorem ext {l a : Addr} {xs zs : List V} (h1 : H l = some (.lst xs)) (h2 : H a = some (.lst zs)) (hz : xs.length + zs.length ≤ 1000) (q : Q .non (upd H l (.lst (xs ++ zs)))) : rExtend (.ref l) [.ref a] H Q := ⟨l, a, xs, zs, rfl, rfl, h1, h2, sz hz, q⟩
theorem app {l : Addr} {xs : List V} (h1 : H l = some (.lst xs)) (hz : xs.length < 1000) (q : Q .non (upd H l (.lst (xs ++ [y])))) : rAppend (.ref l) [y] H Q := ⟨l, xs, y, rfl, rfl, h1, Nat.lt_of_lt_of_le hz (by decide), q⟩
theorem inT {p : Addr} {xs : List V} (h : SqT K H p xs) (hx : flatV x = true) (ha : xs.all flatV = true) (q : Q (.bl (inV x xs)) H) : rIn K false x (.ref p) H Q := ⟨p, xs, rfl, .inr h, hx, ha, q⟩
theorem ite_ct {c : Bool} {A B : Prop} (h : c = true) (q : A) : if c = true then A else B := by rw [h, if_pos rfl]; exact q
theorem ite_cf {c : Bool} {A B : Prop} (h : c = false) (q : B) : if c = true then A else B := by rw [h, if_neg Bool.false_ne_true]; exact q
theorem make {C : Addr} {sp : Sp} {dvs : List V} {E : XK} (h : tl σ H fun vs H1 => ∀ x dx, H1 x = none → H1 dx = none → dx ≠ x → sp (.ref x :: (vs ++ dvs)) (upd (upd H1 dx (.own x)) x (.ins C dx [])) (fun v H2 => v = .non ∧ Q (.ref x) H2) E) : tMake C sp dvs E tl σ H Q := h
theorem cat {l a : Addr} {xs zs : List V} (h1 : H l = some (.lst xs)) (h2 : H a = some (.lst zs)) (hz : xs.length + zs.length ≤ 1000) (q : ∀ p, H p = none → Q (.ref p) (upd H p (.lst (xs ++ zs)))) : rCat (.ref l) (.ref a) H Q := ⟨l, a, xs, zs, rfl, rfl, h1, h2, sz hz, q⟩
theorem atI_of {α : Type} {xs : List α} {i : Int} (h0 : 0 ≤ i) (h1 : i < xs.length) : ∃ v, atI xs i = some v ∧ v ∈ xs := by
  obtain ⟨n, rfl⟩ := Int.eq_ofNat_of_zero_le h0
  have hn : n < xs.length := by omega
  exact ⟨xs[n], atI_nat (by simp [hn]), List.getElem_mem hn⟩
end
end My

set_option Elab.async false
set_option linter.all false
set_option maxRecDepth 100000
set_option maxHeartbeats 4000000
/-! for i, x in enumerate(t), t a tuple -/
namespace PySem
open AutoSeq1 (wpAny_loadPart')
namespace EnT
def itO (t : Addr) : Obj := { cls := .type "tuple_iterator", data := .fields #[.ref t, .int 0 0] }
def enO (it : Addr) : Obj := { cls := .type "enumerate", data := .fields #[.none, .bool false, .ref it, rawInt 0, .none, .none] }
theorem meets_enT (t : Addr) (items : Array Value) :
    Meets (Builtin.«enumerate.__new__» ⟨[.type "enumerate", .ref t], []⟩) (fun _ R s => s.heap.IsTuple t items ∧ R (.ok (.ret (.ref (s.heap.push (itO t)).objs.size))) { s with heap := (s.heap.push (itO t)).push (enO s.heap.objs.size) }) :=
  .of_wp fun prog w A R s h => by
    obtain ⟨hp, g, d, tk, os⟩ := s
    obtain ⟨hl, h⟩ := h
    have hsub := sub_enumerate
    have hL : Heap.IsTuple (Shared.heap ⟨hp, g, d, tk, os⟩) t items := hl
    wp_walk
    refine wpAny_stack_any fun st => wpAny_pure ?_
    split
    · rename_i c _ _ _ _ _
      cases (c == Value.type "enumerate")
      · wp_walk using wpAny_pyIter_tuple hL
        exact ⟨_, rfl, h⟩
      · wp_walk using wpAny_pyIter_tuple hL
        exact ⟨_, rfl, h⟩
    · wp_walk using wpAny_pyIter_tuple hL
      exact ⟨_, rfl, h⟩
theorem call_enT {prog : Program} {w : World} {A : Around} {E : Value → Shared → Prop} {s : Shared} {t : Addr} {items : Array Value} {Q : Value → Shared → Prop} (hl : s.heap.IsTuple t items)
    (k : ∀ h', IsEnum h' (s.heap.objs.size + 1) s.heap.objs.size 0 .none → h'.IsTupleIter s.heap.objs.size t 0 → (∀ b o, s.heap.get? b = some o → h'.get? b = some o) → Q (.ref (s.heap.objs.size + 1)) { s with heap := h' }) :
    wpAny (model prog w) A (call (.type "enumerate") [.ref t]) Q E s := by
  refine callType_new F.called_enumerate (by decide) (F.typeCall_enumerate_1 _) (F.newCall_enumerate_1 _) (fun obj => F.args_object_init_2 obj _) F.entry_enumerate_new (meets_enT t items) ⟨hl, ?_⟩
  have sz : (s.heap.push (itO t)).objs.size = s.heap.objs.size + 1 := Heap.size_push ..
  show _ ∧ _
  rw [sz]
  have e1 : IsEnum ((s.heap.push (itO t)).push (enO s.heap.objs.size)) (s.heap.objs.size + 1) s.heap.objs.size 0 .none := by
    have z := Heap.get?_push_size (s.heap.push (itO t)) (o := enO s.heap.objs.size) rfl
    rw [sz] at z
    exact z
  exact ⟨⟨_, e1, rfl⟩, k _ e1 ⟨_, Heap.get?_push_of_some _ (Heap.get?_push_size _ rfl), rfl, rfl⟩ fun b o x => Heap.get?_push_of_some _ (Heap.get?_push_of_some _ x)⟩
end EnT
end PySem
namespace EnT
open PySem PySem.Spec PyProof.Rows L2
/-- the tuple at a, each item in a new pair -/
def It (K : PySem.W.Frag) (a : Addr) : L2.It :=
  ⟨fun i H => ∃ (xs : List V) (x : V), SqT K H a xs ∧ xs[i]? = some x, fun i H v H' => ∃ T x, v = .ref T ∧ H T = none ∧ H' = upd H T (.tup [.int (i : Nat), x]) ∧ ∀ xs, SqT K H a xs → xs[i]? = some x, fun i H => ∃ xs : List V, SqT K H a xs ∧ xs.length = i⟩
theorem turn {P : Program} {w : World} {K : PySem.W.Frag} {elts : List Expr} {kk : Nat} {tpos : Pos} (a e it : Addr) :
    Turn P w K (.Tuple elts kk tpos) (It K a) [e, it] e (fun i h => (∃ old, IsEnum h e it ((i : Nat) : Int) old) ∧ h.IsTupleIter it a i ∧ e ≠ it) where
  mem := List.mem_cons_self
  obj := fun i h st b hb => by
    obtain ⟨⟨old, he⟩, ⟨o, ho, hc, hd⟩, _⟩ := st
    rcases (show b = e ∨ b = it by simpa using hb) with rfl | rfl
    · exact ⟨_, he, fun v q => nomatch q⟩
    · exact ⟨o, ho, fun v q => by rw [hd] at q; cases q⟩
  keep := fun i h h' st k => by
    obtain ⟨⟨old, he⟩, hi, hne⟩ := st
    exact ⟨⟨old, k e (by simp) _ he⟩, hi.at fun o q => k it (by simp) o q, hne⟩
  item := by
    intro X hP hw hK hc i pins s σ H E I hf st hg
    subst hP hw hK
    obtain ⟨⟨old, he⟩, hit, hne⟩ := st
    obtain ⟨xs, x, hq, hx⟩ := hg
    obtain ⟨its, rv, p, _⟩ := I.tuple hq
    obtain ⟨u, hu, ru⟩ := rv.get hx
    have le : e < s.heap.objs.size := Heap.lt_size he
    have li : it < s.heap.objs.size := by obtain ⟨_, q, _⟩ := hit; exact Heap.lt_size q
    have nai : a ≠ it := fun z => by
      obtain ⟨o1, q1, c1, _⟩ := p
      obtain ⟨o2, q2, c2, _⟩ := hit
      rw [z, q2] at q1
      rw [← Option.some.inj q1, c2] at c1
      simp at c1
    have nae : e ∉ [it, a] := fun z => by
      rcases (show e = it ∨ e = a by simpa using z) with z | z
      · exact hne z
      · obtain ⟨o1, q1, c1, _⟩ := p
        rw [← z, he] at q1
        rw [← Option.some.inj q1] at c1
        simp at c1
    have hi : i < its.toArray.size := by
      have z := (List.getElem?_eq_some_iff.mp hu).1
      simpa using z
    refine wpAny_pyNext_enum_itemD (PySem.Draws.tuple (A := X.A.in1) (show X.A.in1.handled = none from I.ok.hd hc) it a nai its.toArray) he ⟨hit, p⟩ hi hne nae fun y h1 tk py ho st1 hT _ hk => ?_
    have ey : y = u := by
      rw [show its.toArray[i]? = some u by simpa using hu] at py
      exact (Option.some.inj py).symm
    subst ey
    refine ⟨_, rfl, wpAny_letOwnedTupleGo_enum (s := { s with heap := h1, toks := tk + 1 }) ho fun h2 he2 sb => ?_⟩
    have hT2 : h2.get? s.heap.objs.size = some { cls := .type "tuple", data := .seq #[.int i tk, y] } := (sb.2 _ (Nat.ne_of_gt le)).trans hT
    have new : ObjOk X.prog X.w (upd H s.heap.objs.size (.tup [.int (i : Nat), x])) h2 s.heap.objs.size (.tup [.int (i : Nat), x]) :=
      ⟨My.sz (by simp), [.int i tk, y], .cons ⟨_, rfl⟩ (.cons ru .nil), ⟨_, hT2, rfl, _, rfl⟩⟩
    have J : Inv X pins σ (upd H s.heap.objs.size (.tup [.int (i : Nat), x])) { s with heap := h2, toks := tk + 1 } :=
      I.turnedNew (ch := [e, it]) (fun b ob hb q => (sb.2 b (fun z => hb (by simp [z]))).trans (hk b ob (fun z => hb (by simp [z])) (fun z => hb (by simp [z])) q)) hf (Nat.le_refl _) new
    refine ⟨.ref s.heap.objs.size, _, J, rfl, ⟨_, x, rfl, I.hok.fresh (Nat.le_refl _), rfl, fun ys hy => by rw [I.tuple_inj hy hq]; exact hx⟩, ⟨⟨y, ?_⟩, st1.1.at fun o q => (sb.2 it (Ne.symm hne)).trans q, hne⟩, fun b hb => ?_⟩
    · rw [show ((i + 1 : Nat) : Int) = (i : Int) + 1 by omega]
      exact he2
    · have lb : b < s.heap.objs.size := by
        rcases (show b = e ∨ b = it by simpa using hb) with rfl | rfl
        · exact le
        · exact li
      rw [upd_ne (Nat.ne_of_lt lb)]
      exact (hf b hb).1
  done := by
    intro X hP hw hK hc i pins s σ H E I hf st hg
    subst hP hw hK
    obtain ⟨⟨old, he⟩, hit, hne⟩ := st
    obtain ⟨xs, hq, rfl⟩ := hg
    obtain ⟨its, rv, p, _⟩ := I.tuple hq
    obtain ⟨f0, f1, f2, f3, f4, f5⟩ := hf it (by simp)
    have nai : a ≠ it := fun z => by
      obtain ⟨o1, q1, c1, _⟩ := p
      obtain ⟨o2, q2, c2, _⟩ := hit
      rw [z, q2] at q1
      rw [← Option.some.inj q1, c2] at c1
      simp at c1
    have sz : its.toArray.size = xs.length := by rw [List.size_toArray, rv.length]
    have hit' : s.heap.IsTupleIter it a its.toArray.size := by rw [sz]; exact hit
    exact wpAny_pyNext_enum_endD (PySem.Draws.tuple (A := X.A.in1) (show X.A.in1.handled = none from I.ok.hd hc) it a nai its.toArray) he ⟨hit', p⟩ fun h' eb => ⟨rfl, I.turned (t' := s.toks) (fun b o hb q => eb b o hb q) f0 f1 f3 f4 f5⟩
  self := fun A i s Q E st h => let ⟨⟨_, he⟩, _⟩ := st; wpAny_pyIter_enum he h
def iEnT (K : PySem.W.Frag) (ta : TA) : TI := fun σ H R => ta σ H fun vs H1 => ∃ a xs, vs = [.ref a] ∧ SqT K H1 a xs ∧ R (It K a) H1
theorem pi_enumT {X : Cx} {e : Expr} {ta : TA} {p pos tpos : Pos} {elts : List Expr} {kk : Nat} (hg : Gl X "enumerate") (hm : X.mg "enumerate" = none) (ha : PA X [e] ta) (hs : starEach [e] X.env = [(false, eval e X.env)] := by rfl) :
    PI X (.Tuple elts kk tpos) (.Call (.Name "enumerate" p) [e] [] pos) (iEnT X.K ta) := by
  refine ⟨fun pins s σ H R I h => ?_⟩
  refine Call_ (ld_blt I hg hm boot_enumerate (PyProof.Rows.callWith_type1 (thn (ha.run pos pins s σ H _ I h) fun us s1 z => ?_) hs rfl))
  obtain ⟨vs, H1, I1, r1, a, xs, rfl, hq, q⟩ := z
  obtain ⟨u, rfl, ru⟩ := r1.one
  cases ru
  obtain ⟨its, rv, p', _⟩ := I1.tuple hq
  refine PySem.EnT.call_enT p' fun h' he hit hk => wpAny_pyIter_enum he ?_
  have J : Inv X pins σ H1 { s1 with heap := h' } := I1.kept (t' := s1.toks) hk
  refine ⟨s1.heap.objs.size + 1, [s1.heap.objs.size + 1, s1.heap.objs.size], _, _, H1, rfl, J, turn a (s1.heap.objs.size + 1) s1.heap.objs.size, ⟨⟨.none, he⟩, hit, Nat.succ_ne_self _⟩, fun b hb => ?_, q⟩
  have lb : s1.heap.objs.size ≤ b := by
    rcases (show b = s1.heap.objs.size + 1 ∨ b = s1.heap.objs.size by simpa using hb) with rfl | rfl
    · exact Nat.le_succ _
    · exact Nat.le_refl _
  exact I1.fpOk lb (I1.hok.fresh lb)
theorem walk_enT {K : PySem.W.Frag} {a : Addr} {xs : List V} : Walk (It K a) xs.length (fun H => SqT K H a xs) (YPair (fun i => some (.int (i : Nat))) (fun i => xs[i]?)) := by
  refine ⟨fun i _ hi q => ⟨xs, xs[i], q, by simp [hi]⟩, fun _ q => ⟨xs, q, rfl⟩, fun i H v H' _ q y => ?_⟩
  obtain ⟨T, x, h1, h2, h3, h4⟩ := y
  exact ⟨T, .int (i : Nat), x, h1, h2, h3, rfl, h4 xs q⟩
/-- what a for over enumerate(t) asks behind its argument -/
def FT (K : PySem.W.Frag) (vs : List V) (g : TG) (tb : TS) (D : Ends) (σ : L2.St) (H1 : Hp) : Prop := ∃ a xs, vs = [.ref a] ∧ SqT K H1 a xs ∧ ∃ W : Nat → Nat → L2.St → Hp → Prop, (∃ m, W 0 m σ H1) ∧ ∀ i m σ H, W i m σ H →
  ((It K a).stop i H ∧ D.nx σ H) ∨ ((It K a).go i H ∧ ∃ N : L2.St → Hp → Prop, (∀ σ' H', N σ' H' → ∃ m', m' < m ∧ W (i + 1) m' σ' H') ∧ ∀ x H', (It K a).yld i H x H' → g x σ H' fun σ2 H2 => tb { D with nx := N, ct := N, bk := D.nx } σ2 H2)
theorem forT1 {K : PySem.W.Frag} {tl : TA} {g : TG} {tb : TS} {D : Ends} {σ : L2.St} {H : Hp} (h : tl σ H fun vs H1 => FT K vs g tb D σ H1) : tFor (iEnT K tl) g tb D σ H := h
theorem forT {K : PySem.W.Frag} {g : TG} {tb : TS} {D : Ends} {σ : L2.St} {H : Hp} {a : Addr} {xs : List V} (hl : SqT K H a xs) (Pv : Nat → L2.St → Hp → Prop) (h0 : Pv 0 σ H) (hG : ∀ i σ H, i ≤ xs.length → Pv i σ H → SqT K H a xs)
    (hs : ∀ i x T σ H, xs[i]? = some x → Pv i σ H → H T = none → g (.ref T) σ (upd H T (.tup [.int (i : Nat), x])) fun σ2 H2 => tb { D with nx := Pv (i + 1), ct := Pv (i + 1), bk := D.nx } σ2 H2) (hd : ∀ σ H, Pv xs.length σ H → D.nx σ H) : FT K [.ref a] g tb D σ H :=
  ⟨a, xs, rfl, hl, for_it walk_enT Pv h0 hG (fun i v σ H H' hi p y => by
    obtain ⟨T, x, z, rfl, hT, rfl, ex, ez⟩ := y
    cases ex
    exact hs i z T σ H ez p hT) hd⟩
end EnT

set_option Elab.async false
set_option linter.all false
set_option maxRecDepth 100000
set_option maxHeartbeats 4000000
/-! exceptions as values: made, asked for their class, a field read -/
namespace XV
open PySem PySem.Spec PyProof.Rows L2
/-- an exception at a, of the class at C, made by an own __init__, its one field f holding y -/
def ErrF (H : Hp) (a C : Addr) (f : Str) (y : V) : Prop := ∃ d, H a = some (exo a C (some d)) ∧ H d = some (exd d [(f, y)])
/-- an exception at a without fields -/
def ErrN (H : Hp) (a C : Addr) : Prop := H a = some (ExO (.ref C) a)
theorem exo_inst {P : Program} {w : World} {H : Hp} {h : Heap} {a C d : Addr} {f : Str} {y : V} (ok : HOk P w H h) (ha : H a = some (exo a C (some d))) (hd : H d = some (exd d [(f, y)])) :
    ∃ ox od, PySem.W.InstAt h a ox C (some od) ∧ ∃ u, PySem.W.lookIn f od = some (some u) ∧ RelV y u := by
  obtain ⟨t1, ho⟩ := exo_at ok ha
  obtain ⟨mA, hns, rel⟩ := exd_at ok hd
  obtain ⟨od, hod, hl⟩ := lookIn_ns hns
  have l : List.lookup f [(f, y)] = some y := by simp [List.lookup]
  obtain ⟨u, hu, ru⟩ := RelO.some_of (v := y) (o := mA f) (by rw [← l]; exact rel f)
  exact ⟨_, od, ⟨ho, rfl, rfl, hod⟩, u, by rw [hl, hu], ru⟩
section
variable {X : Cx} {e : Expr} {es : List Expr} {te : TE} {ta : TA} {x : Str} {p pos : Pos} {C fI : Addr} {fd : FuncData} {ps : List Str} {sp : Sp} {k : Nat} {CX : CXT}
/-- C(e, ..) -/
def tMkX (C : Addr) (sp : Sp) (ta : TA) : TE := fun σ H Q => ta σ H fun vs H1 => vs.length ≤ 1000 ∧ ∀ a, H1 a = none → sp (.ref a :: vs) (upd H1 a (exo a C none)) (fun v H2 => v = .non ∧ Q (.ref a) H2) (fun _ _ _ => False)
theorem pe_mkX (T : OexC X.K C) (iC : PySem.W.findIn X.K (.ref C) "__init__" = some (some (.ref fI))) (tI : PySem.W.typeIn X.K (.ref fI) = some (.type "function"))
    (F1 : FnOk X.prog X.w X.K X.mg X.base CX k fI fd ps sp) (hr : Room (k + 1) X.A) (hb : Binds X.K fd ps []) (hx : Passes CX X (fun _ _ _ => False)) (hg : Gl X x) (hm : X.mg x = some (.ref C)) (ha : PA X (e :: es) ta)
    (hdb : (x == ("__debug__" : Str)) = false := by decide) (he : starEach (e :: es) X.env = (false, eval e X.env) :: starEach es X.env := by rfl) (hpl : (backTo pos (starEach es X.env)).any (·.1) = false := by rfl) :
    PE X (.Call (.Name x p) (e :: es) [] pos) (tMkX C sp ta) := by
  refine ⟨fun pins s σ H Q I h => ?_⟩
  have TC := T.cls; obtain ⟨_, _, _, _, bm, _, _, _, _, _, _, _, _, _, _, hC, hbm⟩ := TC
  refine wpAny_Call_Name_kw (ld_glob I hg hm ?_ hdb)
  refine PySem.W.callWith_K (h₀ := X.base) I.ok.mod.kin T.kC (thn (ha.run pos pins s σ H _ I h) fun us s1 ⟨vs, H1, I1, r1, hz, q1⟩ => ⟨I1.kIn, ?_⟩) he hpl
  show wpAny _ _ (call (.ref C) us) _ _ _
  obtain ⟨hp, g, dr, tk, os⟩ := s1
  have hsz : hp.objs.size ≤ hp.objs.size + 1 := Nat.le_succ _
  have hn : H1 (hp.objs.size + 1) = none := I1.hok.fresh hsz
  have hq := q1 (hp.objs.size + 1) hn
  have kk : ∀ b o, hp.get? b = some o → ((hp.push (PySem.W.kdv_tup us)).push (PySem.HandSPX.excO C hp.objs.size)).get? b = some o := fun b o e => Heap.get?_push_of_some _ (Heap.get?_push_of_some _ e)
  have hget : ((hp.push (PySem.W.kdv_tup us)).push (PySem.HandSPX.excO C hp.objs.size)).get? (hp.objs.size + 1) = some (PySem.HandSPX.excO C hp.objs.size) := by heap_get
  have I2 : Inv X pins σ (upd H1 (hp.objs.size + 1) (exo (hp.objs.size + 1) C none)) ⟨(hp.push (PySem.W.kdv_tup us)).push (PySem.HandSPX.excO C hp.objs.size), g, dr, tk, os⟩ :=
    I1.laid (t' := tk) (a := hp.objs.size + 1) (o := exo (hp.objs.size + 1) C none) (h' := (hp.push (PySem.W.kdv_tup us)).push (PySem.HandSPX.excO C hp.objs.size)) kk hsz (exo_ok hget)
  have r2 : Vals (V.ref (hp.objs.size + 1) :: vs) (Value.ref (hp.objs.size + 1) :: us) := .cons rfl r1
  have hl : (Value.ref (hp.objs.size + 1) :: us ++ ([] : List Value)).length = ps.length := by
    have e := r2.length
    rw [F1.len _ _ _ _ hq] at e
    simpa using e.symm
  have hus : us.length ≤ sizeLine := by
    rw [← Paired.length r1, sizeLine_eq]
    omega
  have hb2 := hb ⟨(hp.push (PySem.W.kdv_tup us)).push (PySem.HandSPX.excO C hp.objs.size), g, dr, tk, os⟩ (Value.ref (hp.objs.size + 1) :: us) I2.kIn hl
  rw [List.append_nil] at hb2
  refine wpAny_call (PySem.HandSPX.call_own F.excBase_ValueError (fun Y => PySem.HandSPX.refsVE_contains Y bm hbm) (I1.kIn _ _ hC) (PySem.W.looks_findIn I1.kIn iC) (fun self => PySem.W.bind_fn I1.kIn self tI) hus
    (codeAny_mono (F1.run _ X.stack _ _ ⟨Value.ref (hp.objs.size + 1) :: us, []⟩ (Value.ref (hp.objs.size + 1) :: us) _ _ (fun _ _ _ => False) (hr.make C us []) (I2.env0.make C us []) hb2 r2 hq) fun r s' hq' => ?_))
  cases r with
  | error er => exact hx pins σ _ _ er s' I2 hq'
  | ok fl =>
    cases fl with
    | ret u =>
      obtain ⟨v, H', I3, rv, ev, q3⟩ := I2.after hq'
      subst ev
      exact ⟨rv, ⟨V.ref (hp.objs.size + 1), H', I3, rfl, q3⟩⟩
    | next => exact False.elim hq'
    | brk => exact False.elim hq'
    | cont => exact False.elim hq'
/-- C(), C an own exception class without own __init__ -/
def tMk0 (C : Addr) : TE := fun _ H Q => ∀ a, H a = none → Q (.ref a) (upd H a (ExO (.ref C) a))
theorem pe_mk0 {bmB : List Value} {B newId initId : String} (F : ExcBaseFacts B newId initId bmB) (q : PySem.W.excIn X.K C bmB newId = true) (gC : X.mg x = some (.ref C)) (kC : PySem.W.keepIn X.K (.ref C) = true) (hg : Gl X x)
    (hdb : (x == ("__debug__" : Str)) = false := by decide) : PE X (.Call (.Name x p) [] [] pos) (tMk0 C) := by
  refine ⟨fun pins s σ H Q I h => ?_⟩
  refine wpAny_Call_Name_kw (ld_glob I hg gC ?_ hdb)
  refine PySem.W.callWith_K0 I.kIn kC ?_
  show wpAny _ _ (call (.ref C) []) _ _ _
  obtain ⟨bm, N, nm, qn, bs, hdct, sn, sub, ab, col, dd, k0, k1, k2, k3, k5, mN, hC, hN, hni, T⟩ := exc_obj I.kIn q
  refine wpAny_call_exc_subT F T hC hN hni (fun h' a hm => ?_) (Nat.zero_le _)
  have hn : H a = none := I.hok.gone hm.new
  obtain ⟨t, ht, _, _⟩ := hm.there
  exact ⟨.ref a, upd H a (ExO (.ref C) a), I.laidN hm.keeps hm.new hn (exO_ok ht ⟨rfl, rfl⟩ rfl rfl rfl (show 4 < 6 by decide)), rfl, h a hn⟩
/-- isinstance(e, c), e an exception that is held -/
def rIsX (K : PySem.W.Frag) : List V → Hp → VK → Prop := fun xs H Q => ∃ (a C : Addr) (c : V) (cv : Value) (b : Bool), xs = [.ref a, c] ∧ ((∃ f y, ErrF H a C f y) ∨ ErrN H a C) ∧ ExcC K C ∧ (∀ u, RelV c u → u = cv) ∧ PySem.W.kitOne K (.ref C) cv = some b ∧ Q (.bl b) H
theorem call_isX : CallR X (.builtin "isinstance") (rIsX X.K) := by
  intro pins s σ H xs us Q I r h
  obtain ⟨a, C, c, cv, b, rfl, he, G, hcv, e, q⟩ := h
  cases r with
  | cons rx rr =>
    cases rr with
    | cons rt rr =>
      cases rr
      cases rx
      have ec := hcv _ rt
      subst ec
      rcases he with ⟨f, y, d, ha, hd⟩ | ha
      · obtain ⟨ox, od, J, _⟩ := exo_inst I.hok ha hd
        have hcl : (PySem.W.clsIn X.K C).isSome = true := by
          obtain ⟨z, hz, _⟩ := PySem.W.any_some G.hd
          rw [hz]; rfl
        exact PySem.W.kia_one (PySem.W.kitx_exc (ox := ox) (od := some od) hcl G.hg G.hk G.hs G.ha G.hn G.ht G.hm) I.kIn J e (fun z => nomatch z) fun tk => ⟨.bl b, H, I.kept (t' := tk) fun _ _ z => z, rfl, q⟩
      · obtain ⟨⟨oe, vs, ho, hz, hdt, _⟩, _, _⟩ := I.hok a _ ha
        have J : PySem.W.InstAt s.heap a oe C none := by
          obtain ⟨oc, od, oda, osl⟩ := oe
          obtain ⟨h1, h2⟩ := hz
          dsimp only at h1 h2 hdt
          subst h1 h2 hdt
          exact ⟨ho, rfl, rfl, trivial⟩
        exact PySem.W.kia_one (PySem.W.handS_kitx_exc G.hg G.hk G.hs G.hd G.ha G.hn G.ht G.hm) I.kIn J e (fun z => nomatch z) fun tk => ⟨.bl b, H, I.kept (t' := tk) fun _ _ z => z, rfl, q⟩
/-- e.f, e an exception that is held -/
def tFldX (K : PySem.W.Frag) (f : Str) (te : TE) : TE := fun σ H Q => te σ H fun x H1 => ∃ a C y, x = .ref a ∧ ErrF H1 a C f y ∧ ExcC K C ∧ PySem.W.findIn K (.ref C) f = some none ∧ Q y H1
theorem pe_fldX {f : Str} (he : PE X e te) (hb : attributeBase e f X.env (eval e X.env) = eval e X.env := by rfl) : PE X (.Attribute e f pos) (tFldX X.K f te) := by
  refine ⟨fun pins s σ H Q I h => ?_⟩
  refine attr_of hb (thn (he.run pins s σ H _ I h) fun u s1 hh => ?_)
  obtain ⟨x, H1, I1, rx, a, C, y, ex, ⟨d, ha, hd⟩, G, noN, q⟩ := hh
  subst ex
  obtain rfl : u = Value.ref a := rx
  obtain ⟨ox, od, J, v, hl, rv⟩ := exo_inst I1.hok ha hd
  exact HandSPX.exc_get I1.kIn J G.hg G.hk G.hs (PySem.W.findObj_own G.hd noN rfl hl) (handed_of rv) ⟨y, H1, I1.tok _, rv, q⟩

/-! ### == of a value with itself -/
theorem op_or {f : Value → Value → Sem Value} {r r' : R2} (h : OpR X f r) (h' : OpR X f r') : OpR X f (fun x y H Q => r x y H Q ∨ r' x y H Q) := by
  intro pins s σ H a b u v Q I ra rb q
  rcases q with q | q
  · exact h pins s σ H a b u v Q I ra rb q
  · exact h' pins s σ H a b u v Q I ra rb q
def DElem : Eqv := fun x y _ => x = y ∧ (flatB x = true ∨ ∃ a, x = .ref a)
theorem mon_elem : Mon DElem := fun _ _ _ _ _ d => d
theorem eqG_elem {n : Nat} : EqG X n DElem := by
  intro A pins s σ H x y u v sb I rx ry d
  obtain ⟨rfl, d⟩ := d
  rcases d with d | ⟨a, rfl⟩
  · exact eqAt_same (A := A) (s := s) rx ry d X.prog X.w X.xe _ ⟨rfl, H, I, Ext.rfl'⟩
  · cases rx
    cases ry
    exact SeqAt.EqAt.same (A := A) (s := s) (.ref a) X.prog X.w X.xe _ ⟨rfl, H, I, Ext.rfl'⟩
/-- what can be seen to be equal to itself -/
def Own (v : V) : Prop := flatB v = true ∨ ∃ a, v = .ref a
inductive SelfV (K : PySem.W.Frag) (H : Hp) (P : Addr → Hp → Prop) : V → Prop where
  | flat {v : V} (h : scal v v = true) : SelfV K H P v
  | lst {a : Addr} {xs : List V} (h : SqL K H a xs) (o : ∀ v ∈ xs, Own v) : SelfV K H P (.ref a)
  | tup {a : Addr} {xs : List V} (h : SqT K H a xs) (o : ∀ v ∈ xs, Own v) : SelfV K H P (.ref a)
  | dic {a : Addr} {ks : List (Key × V)} (h : H a = some (.dK ks)) (nd : (ks.map (·.1)).Nodup) (o : ∀ p ∈ ks, Own p.2) : SelfV K H P (.ref a)
  | ins {a : Addr} (h : P a H) : SelfV K H P (.ref a)
def rSelf (K : PySem.W.Frag) (D : Eqv) : R2 := fun x y H Q => rEq x y H Q ∨ rEqV K x y H Q ∨ rEqG (DTup K DElem) x y H Q ∨ rEqG D x y H Q
theorem op_self {n : Nat} {D : Eqv} (hr : Room (n + 1) X.A) (h : RcG X n D) : OpR X (compareOp .Eq) (rSelf X.K D) :=
  op_or op_eq (op_or (op_eqV hr.units) (op_or (op_eqG (rcG_tup mon_elem (eqG_elem (n := n))) hr) (op_eqG h (hr.mono (Nat.le_succ n)))))
theorem paired_own {F : V → V → Prop} (h : ∀ v, Own v → F v v) : ∀ {xs : List V}, (∀ v ∈ xs, Own v) → Paired F xs xs
  | [], _ => .nil
  | v :: xs, o => .cons (h v (o v List.mem_cons_self)) (paired_own h fun w hw => o w (List.mem_cons_of_mem _ hw))
theorem eqV_own {K : PySem.W.Frag} {H : Hp} {v : V} (o : Own v) : EqV K H 1 v v := by
  rcases o with o | ⟨a, rfl⟩
  · exact .inl ⟨rfl, o⟩
  · exact .inr (.inl ⟨a, rfl, rfl⟩)
theorem find_nodup {α β : Type} [DecidableEq α] : ∀ {ks : List (α × β)}, (ks.map (·.1)).Nodup → ∀ p ∈ ks, ks.find? (fun q => decide (q.1 = p.1)) = some p
  | [], _, p, hp => by cases hp
  | q :: ks, nd, p, hp => by
    rw [List.map_cons, List.nodup_cons] at nd
    by_cases e : q.1 = p.1
    · rcases List.mem_cons.mp hp with rfl | hm
      · simp
      · exact absurd (List.mem_map.mpr ⟨p, hm, e.symm⟩) nd.1
    · rw [List.find?_cons]
      have d : decide (q.1 = p.1) = false := decide_eq_false e
      rw [d]
      rcases List.mem_cons.mp hp with rfl | hm
      · exact absurd rfl e
      · exact find_nodup nd.2 p hm
theorem self_eq {K : PySem.W.Frag} {H : Hp} {v : V} {D : Eqv} {P : Addr → Hp → Prop} {Q : VK} (s : SelfV K H P v) (hP : ∀ a, P a H → D (.ref a) (.ref a) H) (q : ∀ H', Ext H H' → Q (.bl true) H') : rSelf K D v v H Q := by
  have q0 := q H Ext.rfl'
  cases s with
  | flat h => exact .inl ⟨h, by rw [decide_eq_true rfl]; exact q0⟩
  | @lst a xs h o => exact .inr (.inl ⟨1, by decide, .inl ⟨a, a, xs, xs, rfl, rfl, h, h, paired_own (fun v => eqV_own) o⟩, q0⟩)
  | @tup a xs h o => exact .inr (.inr (.inl ⟨⟨a, a, xs, xs, rfl, rfl, h, h, rfl, fun i x y e1 e2 => by
      rw [e1] at e2
      cases e2
      exact ⟨rfl, o x (List.mem_of_getElem? e1)⟩⟩, q⟩))
  | @dic a ks h nd o => exact .inr (.inl ⟨1, by decide, .inr ⟨a, a, ks, ks, rfl, rfl, h, h, rfl, fun p hp => ⟨p.2, by unfold valV; rw [find_nodup nd p hp]; rfl, eqV_own (o p hp)⟩⟩, q0⟩)
  | @ins a h => exact .inr (.inr (.inr ⟨hP a h, q⟩))

/-! ### within a suite: the exception that is held -/
/-- isinstance(e, c) -/
def rIsS (K : PySem.W.Frag) (a : Addr) (cls : Value) (d : Option Addr) : List V → Hp → VK → Prop := fun xs H Q => ∃ (D dd : Addr) (fs : List (Str × V)) (c : V) (cv : Value) (b : Bool), xs = [.ref a, c] ∧ cls = .ref D ∧ d = some dd ∧ H dd = some (.xd fs) ∧ ExcC K D ∧
  (∀ u, RelV c u → u = cv) ∧ PySem.W.kitOne K (.ref D) cv = some b ∧ Q (.bl b) H
theorem suite_inst {pins pn : List (Addr × Obj)} {σ : L2.St} {H : Hp} {s : Shared} {a D dd : Addr} {oe : Obj} {fs : List (Str × V)} (hz : Zc (.ref D) (some dd) oe) (hf : ∃ vs, oe.data = .fields vs) (I : Inv (X.suite a ((a, oe) :: pn)) pins σ H s) (hx : H dd = some (.xd fs)) :
    ∃ od, PySem.W.InstAt s.heap a oe D (some od) ∧ ∀ f y, fs.lookup f = some y → ∃ u, PySem.W.lookIn f od = some (some u) ∧ RelV y u := by
  obtain ⟨ho, _⟩ := I.pin (a, oe) (List.mem_append_left _ List.mem_cons_self)
  obtain ⟨vs, hv⟩ := hf
  have ox : ObjOk X.prog X.w H s.heap dd (.xd fs) := I.hok dd _ hx
  obtain ⟨mA, hns, rel⟩ := ox
  obtain ⟨od, hod, hl⟩ := lookIn_ns hns
  refine ⟨od, ⟨ho, hz.1, by unfold PySem.W.notCls; rw [hv] <;> rfl, by rw [hz.2]; exact hod⟩, fun f y e => ?_⟩
  obtain ⟨u, hu, ru⟩ := RelO.some_of (v := y) (o := mA f) (by rw [← e]; exact rel f)
  exact ⟨u, by rw [hl, hu], ru⟩
theorem call_isS {a : Addr} {oe : Obj} {cls : Value} {d : Option Addr} {pn : List (Addr × Obj)} (hz : Zc cls d oe) (hf : ∃ vs, oe.data = .fields vs) : CallR (X.suite a ((a, oe) :: pn)) (.builtin "isinstance") (rIsS X.K a cls d) := by
  intro pins s σ H xs us Q I r h
  obtain ⟨D, dd, fs, c, cv, b, rfl, rfl, rfl, hx, G, hcv, e, q⟩ := h
  obtain ⟨u1, u2, rfl, r1, r2⟩ := vals2 r
  cases r1
  obtain rfl := hcv _ r2
  obtain ⟨od, J, _⟩ := suite_inst hz hf I hx
  have hcl : (PySem.W.clsIn X.K D).isSome = true := by
    obtain ⟨z, hz, _⟩ := PySem.W.any_some G.hd
    rw [hz]; rfl
  exact PySem.W.kia_one (PySem.W.kitx_exc (ox := oe) (od := some od) hcl G.hg G.hk G.hs G.ha G.hn G.ht G.hm) I.kIn J e (fun z => nomatch z) fun tk => ⟨.bl b, H, I.kept (t' := tk) fun _ _ z => z, rfl, q⟩
/-- e.f -/
def tFldS (K : PySem.W.Frag) (a : Addr) (cls : Value) (d : Option Addr) (f : Str) (te : TE) : TE := fun σ H Q => te σ H fun x H1 => ∃ (D dd : Addr) (fs : List (Str × V)) (y : V), x = .ref a ∧ cls = .ref D ∧ d = some dd ∧ H1 dd = some (.xd fs) ∧ fs.lookup f = some y ∧ ExcC K D ∧
  PySem.W.findIn K (.ref D) f = some none ∧ Q y H1
theorem pe_fldS {f : Str} {a : Addr} {oe : Obj} {cls : Value} {d : Option Addr} {pn : List (Addr × Obj)} (hz : Zc cls d oe) (hf : ∃ vs, oe.data = .fields vs) (he : PE (X.suite a ((a, oe) :: pn)) e te)
    (hb : attributeBase e f X.env (eval e X.env) = eval e X.env := by rfl) : PE (X.suite a ((a, oe) :: pn)) (.Attribute e f pos) (tFldS X.K a cls d f te) := by
  refine ⟨fun pins s σ H Q I h => ?_⟩
  refine attr_of hb (thn (he.run pins s σ H _ I h) fun u s1 hh => ?_)
  obtain ⟨x, H1, I1, rx, D, dd, fs, y, rfl, rfl, rfl, hx, hy, G, noN, q⟩ := hh
  obtain rfl : u = Value.ref a := rx
  obtain ⟨od, J, hl⟩ := suite_inst hz hf I1 hx
  obtain ⟨v, hv, rv⟩ := hl f y hy
  exact HandSPX.exc_get I1.kIn J G.hg G.hk G.hs (PySem.W.findObj_own G.hd noN rfl hv) (handed_of rv) ⟨y, H1, I1.tok _, rv, q⟩
/-- xs.count(True) -/
def rCntT (K : PySem.W.Frag) : V → List V → Hp → VK → Prop := fun x xs H Q => ∃ (p : Addr) (bs : List Bool) (k : Bool), x = .ref p ∧ xs = [.bl k] ∧ SqL K H p (bs.map V.bl) ∧ Q (.int (bs.count k : Nat)) H
theorem bools_of {bs : List Bool} : ∀ {us : List Value}, Vals (bs.map V.bl) us → us = bs.map Value.bool := by
  induction bs with
  | nil => intro us h; cases h; rfl
  | cons b bs ih =>
    intro us h
    cases h with
    | cons h1 h2 =>
      rw [ih h2, show _ = Value.bool b from h1]
      rfl
theorem countP_bool {k : Bool} {e : Value → Bool} (he : ∀ b, e (Value.bool b) = (b == k)) : ∀ bs : List Bool, (bs.map Value.bool).countP e = bs.count k
  | [] => rfl
  | b :: bs => by
    rw [List.map_cons, List.countP_cons, countP_bool he bs, List.count_cons, he b]
theorem mt_countT : MtR X "list.count" (rCntT X.K) := by
  intro pins s σ H x xs v us Q I rx rs h
  obtain ⟨p, bs, k, rfl, rfl, hs, q⟩ := h
  cases rx
  obtain ⟨u, rfl, ru⟩ := rs.one
  cases ru
  obtain ⟨its, rv, ⟨⟨oc, od, dt, sl⟩, n, ho, h1, h2, h3⟩, hlen⟩ := I.list hs
  simp only at h1 h3
  subst h1 h3
  have hi := bools_of rv
  subst hi
  let e : Value → Bool := fun v => match v with
    | .bool b => b == k
    | _ => false
  have he : ∀ b, e (Value.bool b) = (b == k) := fun _ => rfl
  refine call_meets PySem.F.slot_list_count ⟨_, ho, rfl⟩ PySem.F.entry_list_count (PySem.F.args_list_count_2 _ _) (SeqAt.list_countAt p (bs.map Value.bool).toArray n od sl (.bool k) e) ⟨ho, fun y hy => ?_, ?_⟩
  · obtain ⟨b, _, rfl⟩ := List.mem_map.mp (show y ∈ bs.map Value.bool from List.mem_toArray.mp hy)
    have z := eqAt_V (A := X.A.in1) (s := s) (x := .bl k) (y := .bl b) rfl rfl rfl rfl
    exact z
  · refine ⟨.int (bs.count k : Nat), H, I.tok _, ⟨s.toks, ?_⟩, q⟩
    have ec : (bs.map Value.bool).toArray.toList.countP e = bs.count k := countP_bool he bs
    show Value.int (((bs.map Value.bool).toArray.toList.countP e : Nat) : Int) s.toks = Value.int ((bs.count k : Nat) : Int) s.toks
    rw [ec]
end
end XV

set_option Elab.async false
set_option linter.all false
set_option maxRecDepth 100000
set_option maxHeartbeats 4000000
/-! what the head must say of error classes, as booleans over the written part -/
namespace XF
open PySem PySem.Spec PyProof.Rows L2 He
/-- the class at C is an exception class over ValueError (its line of classes: own ones, then ValueError's) -/
def clsB (K : PySem.W.Frag) (C : Addr) : Bool := match K.lookup C with
  | some ⟨.type "type", _, .cls cd, sl⟩ => (match cd.mro, sl.toList with
    | .ref D :: bm, [_, _, _, _, some (.builtin n), _] => D == C && (n == "ValueError.__new__" && (!cd.hasDel && (cd.hasDict && PySem.HandSPX.refsVE bm)))
    | _, _ => false)
  | _ => false
theorem clsB_ok {K : PySem.W.Frag} {C : Addr} (h : clsB K C = true) : ∃ nm q N bs bm sn sub ab col dd k0 k1 k2 k3 k5, K.lookup C = some (excClassObj nm q C N bs bm true sn sub ab col dd k0 k1 k2 k3 k5 "ValueError.__new__") ∧ PySem.HandSPX.refsVE bm = true := by
  unfold clsB at h
  split at h
  · rename_i dd cd sl lk
    split at h
    · rename_i D bm k0 k1 k2 k3 n k5 hm hs
      simp only [Bool.and_eq_true, beq_iff_eq, Bool.not_eq_true'] at h
      obtain ⟨rfl, rfl, hdel, hdct, hb⟩ := h
      obtain ⟨nm, bs, mro, ns, qn, hd, sn, sub, ab, col, del⟩ := cd
      dsimp only at hm hdel hdct
      subst hm hdel hdct
      obtain ⟨l⟩ := sl
      dsimp only at hs
      subst hs
      exact ⟨nm, qn, ns, bs, bm, sn, sub, ab, col, dd, k0, k1, k2, k3, k5, lk, hb⟩
    · cases h
  · cases h
/-- what is asked of every error class x -/
def errB (K : PySem.W.Frag) (x : Str) : Bool :=
  eqO (PySem.W.nsIn K mainGlobals x) (some (some (.ref (ga K x)))) && (clsB K (ga K x) && (eqO (PySem.W.findIn K (.ref (ga K x)) "__setattr__") (some (some (.builtin "object.__setattr__"))) &&
  (decide (PySem.W.subIn K (.ref (ga K x)) (.type "BaseException") = some true) && (decide (PySem.W.typeIn K (.ref (ga K x)) = some (.type "type")) && (PySem.W.keepIn K (.ref (ga K x)) &&
  (eqO (PySem.W.findIn K (.ref (ga K x)) "__getattribute__") (some (some (.builtin "BaseException.__getattribute__"))) && (eqO (PySem.W.findIn K (.ref (ga K x)) "__getattr__") (some none) && (PySem.W.hasDictIn K (ga K x) &&
  (eqO (PySem.W.findIn K (.ref (ga K x)) "__class__") (some (some (.builtin "object.__class__"))) && (eqO (PySem.W.specialIn K (.builtin "object.__class__") "__get__") (some (some (.builtin "getset_descriptor.__get__"))) &&
  (decide (PySem.W.takesIn K (.builtin "object.__class__") = some true) && decide (PySem.W.mroIn K (ga K x) (.type "object") = some true))))))))))))
structure Err (K : PySem.W.Frag) (mg : Str → Option Value) (x : Str) : Prop where
  g : mg x = some (.ref (ga K x))
  ox : OexC K (ga K x)
  ex : ExcC K (ga K x)
theorem errB_ok {K : PySem.W.Frag} {h : Heap} {mg : Str → Option Value} (X : K.In h) (G : h.Ns mainGlobals mg) {x : Str} (c : errB K x = true) : Err K mg x := by
  obtain ⟨c1, c⟩ := ba c
  obtain ⟨c2, c⟩ := ba c
  obtain ⟨c3, c⟩ := ba c
  obtain ⟨c4, c⟩ := ba c
  obtain ⟨c5, c⟩ := ba c
  obtain ⟨c6, c⟩ := ba c
  obtain ⟨c7, c⟩ := ba c
  obtain ⟨c8, c⟩ := ba c
  obtain ⟨c9, c⟩ := ba c
  obtain ⟨d1, c⟩ := ba c
  obtain ⟨d2, c⟩ := ba c
  obtain ⟨d3, d4⟩ := ba c
  exact ⟨PySem.W.mg_of X G (eqO_ok c1), ⟨clsB_ok c2, eqO_ok c3, of_decide_eq_true c4, of_decide_eq_true c5, c6⟩, ⟨eqO_ok c7, eqO_ok c8, of_decide_eq_true c4, c9, eqO_ok d1, eqO_ok d2, of_decide_eq_true d3, of_decide_eq_true d4⟩⟩
/-- a class with an own __init__ that stores the field f; a class without -/
def fldB (K : PySem.W.Frag) (x f : Str) : Bool := eqO (PySem.W.findIn K (.ref (ga K x)) f) (some none) && (eqO (PySem.W.findIn K (.ref (ga K x)) "__init__") (some (some (.ref (ma K (ga K x) "__init__")))) && decide (PySem.W.typeIn K (.ref (ma K (ga K x) "__init__")) = some (.type "function")))
def plnB (K : PySem.W.Frag) (x : Str) : Bool := PySem.W.excIn K (ga K x) veBase "ValueError.__new__"
structure Fld (K : PySem.W.Frag) (x f : Str) : Prop where
  no : PySem.W.findIn K (.ref (ga K x)) f = some none
  ini : PySem.W.findIn K (.ref (ga K x)) "__init__" = some (some (.ref (ma K (ga K x) "__init__")))
  ty : PySem.W.typeIn K (.ref (ma K (ga K x) "__init__")) = some (.type "function")
theorem fldB_ok {K : PySem.W.Frag} {x f : Str} (c : fldB K x f = true) : Fld K x f := by
  obtain ⟨c1, c⟩ := ba c
  obtain ⟨c2, c3⟩ := ba c
  exact ⟨eqO_ok c1, eqO_ok c2, of_decide_eq_true c3⟩
/-- which class is which: isinstance of an instance of x and the class y -/
def isB (K : PySem.W.Frag) (x y : Str) (b : Bool) : Bool := decide (PySem.W.kitOne K (.ref (ga K x)) (.ref (ga K y)) = some b)
end XF

set_option Elab.async false
set_option linter.all false
set_option maxRecDepth 100000
set_option maxHeartbeats 4000000
/-! more steps: readings of built-ins by name, comprehensions by a relation -/
namespace My
open PySem PySem.Spec PyProof.Rows L2 DX
section
variable {σ : L2.St} {H : Hp} {Q : VK} {QB : Bool → Hp → Prop} {K : PySem.W.Frag} {te td ty tv ta tb tx : TE} {tt tu : TT} {tl tr tk : TA} {D : Ends} {t u : TS} {x y v z : V} {i j : Int} {n : Nat} {b : Bool}
theorem thenK {k : V → Hp → VK → Prop} (h : ta σ H fun x H1 => k x H1 Q) : tThen ta k σ H Q := h
theorem tupL {p : Addr} {xs : List V} (h : SqL K H p xs) (q : ∀ t, H t = none → Q (.ref t) (upd H t (.tup xs))) : kTup K (.ref p) H Q := .inl ⟨p, xs, rfl, h, q⟩
theorem tupT {p : Addr} {xs : List V} (h : SqT K H p xs) (q : Q (.ref p) H) : kTup K (.ref p) H Q := .inr ⟨p, xs, rfl, h, q⟩
theorem lockE {t : TE} {d : Addr} {w : HO} (hd : H d = some w) (m : Mut (some w)) (h : ∀ od, t σ (upd H d (.frz od w)) fun v H' => H' d = some (.frz od w) ∧ Q v (upd H' d w)) : tLockE t σ H Q := ⟨d, w, hd, m, h⟩
theorem chain {r r' : R2} (h : ta σ H fun x H1 => tb σ H1 fun y H2 => r x y H2 fun v H3 => ∃ k, v = .bl k ∧ if k = true then tx σ H3 fun z H4 => r' y z H4 Q else Q (.bl false) H3) : tChain r r' ta tb tx σ H Q := h
theorem dget2 (h : td σ H fun x H1 => ∃ a, x = .ref a ∧ IsD H1 a ∧ ty σ H1 fun y H2 => tx σ H2 fun z H3 => ∃ o, DGet H3 a y o ∧ Q (o.getD z) H3) : tDGet2 td ty tx σ H Q := h
theorem lockS {d : Addr} {w : HO} (hd : H d = some w) (m : Mut (some w)) (h : ∀ od, t ⟨fun σ' H' => H' d = some (.frz od w) ∧ D.nx σ' (upd H' d w), fun v H' => H' d = some (.frz od w) ∧ D.rt v (upd H' d w), fun σ' H' => H' d = some (.frz od w) ∧ D.bk σ' (upd H' d w), fun σ' H' => H' d = some (.frz od w) ∧ D.ct σ' (upd H' d w)⟩ σ (upd H d (.frz od w))) : tLock t D σ H := ⟨d, w, hd, m, h⟩
/-- for k in d, d a dict with tuple keys that is locked -/
theorem forKT {g : TG} {tb : TS} {d : Addr} {od : Obj} {kvs : List (List L2.Key × V)} (hx : td = tVar n) (hσ : σ[n]? = some (some (.ref d))) (hd : H d = some (.frz od (.dT kvs))) (Pv : Nat → L2.St → Hp → Prop) (h0 : Pv 0 σ H) (hG : ∀ i σ H, i ≤ kvs.length → Pv i σ H → H d = some (.frz od (.dT kvs)))
    (hs : ∀ i k v q σ H, kvs[i]? = some (k, v) → H q = some (.tup (k.map kV)) → Pv i σ H → g (.ref q) σ H fun σ2 H2 => tb { D with nx := Pv (i + 1), ct := Pv (i + 1), bk := D.nx } σ2 H2) (he : ∀ σ H, Pv kvs.length σ H → D.nx σ H) : tFor (iKeys td) g tb D σ H := by
  subst hx
  refine ⟨_, hσ, d, od, rfl, .inr ⟨kvs, hd, for_it walk_keysT Pv h0 hG (fun i x σ H H' hi p y => ?_) he⟩⟩
  obtain ⟨rfl, k, v, q, e1, rfl, e2⟩ := y
  exact hs i k v q σ H' e1 e2 p
theorem gtup2 {T : Addr} {i j : Nat} {N : L2.St → Hp → Prop} {σ' : L2.St} (h : SqT K H T [x, y]) (e : (σ.set i (some x)).set j (some y) = σ') (q : N σ' H) : gTup K 2 (gCons (gName i) (gCons (gName j) gNil)) (.ref T) σ H N := by
  subst e
  exact ⟨T, _, rfl, h, rfl, x, [y], rfl, y, [], rfl, rfl, q⟩
theorem gtup3 {T : Addr} {i j k : Nat} {N : L2.St → Hp → Prop} {σ' : L2.St} (h : SqT K H T [x, y, z]) (e : ((σ.set i (some x)).set j (some y)).set k (some z) = σ') (q : N σ' H) : gTup K 3 (gCons (gName i) (gCons (gName j) (gCons (gName k) gNil))) (.ref T) σ H N := by
  subst e
  exact ⟨T, _, rfl, h, rfl, x, [y, z], rfl, y, [z], rfl, z, [], rfl, rfl, q⟩
theorem itemsT (h : te σ H fun x H1 => rItemsT x H1 Q) : tListItemsT te σ H Q := h
theorem callKw {r : List V → List V → Hp → VK → Prop} (h : tl σ H fun vs H1 => tk σ H1 fun zs H2 => r vs zs H2 Q) : tCKw r tl tk σ H Q := h
theorem dispT {trs : List (TE × TE)} (h : ∀ p, H p = none → tPairs trs σ (upd H p (.dT [])) fun ps H2 => H2 p = some (.dT []) ∧ ∃ es : List Ent, ps = es.map (fun e => (V.ref e.2.1, e.2.2)) ∧ es.length ≤ 15 ∧ (∀ e ∈ es, KeyAt H2 e) ∧ Q (.ref p) (upd H2 p (.dT (mT [] (entK es))))) : tDispT trs σ H Q := h
theorem allL {p : Addr} {bs : List Bool} (h : SqL K H p (bs.map V.bl)) (q : Q (.bl (bs.all id)) H) : rAll K [.ref p] H Q := ⟨p, bs, rfl, h, q⟩
theorem isi {x c : V} {t u : Value} {b : Bool} (k : ClsV c u) (hx : TyX K H x t) (e : PySem.W.kitOne K t u = some b) (q : Q (.bl b) H) : rIsi K [x, c] H Q := ⟨x, c, t, u, b, rfl, k, hx, e, q⟩
end
def rListOf (K : PySem.W.Frag) : List V → Hp → VK → Prop := fun xs H Q => ∃ p ys, xs = [.ref p] ∧ (SqL K H p ys ∨ SqT K H p ys) ∧ ∀ l, H l = none → Q (.ref l) (upd H l (.lst ys))
theorem c_listOf {X : Cx} : CallR X (.type "list") (rListOf X.K) := call_list_of
/-- a comprehension without tests: each item as P tells, R what has happened so far -/
theorem lcM {J : It} {n : Nat} {G : Hp → Prop} {Y : Nat → Hp → V → Hp → Prop} (w : Walk J n G Y) {g : TG} {te : TE} {vs : List Nat} {σ : L2.St} {Q : VK} {H1 : Hp} (R : Hp → Hp → Prop) (hn : n ≤ 1000) (h0 : ∀ D, H1 D = none → R H1 (upd H1 D (.lst [])))
    (h : ∀ D, H1 D = none → ∃ P : Nat → V → Hp → Prop, (∀ j y H ys o, H D = some (.lst ys) → P j y H → P j y (upd H D o)) ∧ (∀ H o, R H1 H → R H1 (upd H D o)) ∧ (∀ H ys, R H1 H → H D = some (.lst ys) → G H) ∧
      (∀ i x H H' ys, ∀ N : VK, i < n → R H1 H → H D = some (.lst ys) → ys.length = i → (∀ j v, ys[j]? = some v → P j v H) → Y i H x H' → (∀ y H4, R H1 H4 → H4 D = some (.lst ys) → (∀ j v, ys[j]? = some v → P j v H4) → P i y H4 → N y H4) →
        g x (wipe σ vs) H' fun σ2 H2 => wipe σ2 vs = wipe σ vs ∧ te σ2 H2 N) ∧
      ∀ H ys, H D = some (.lst ys) → ys.length = n → R H1 H → (∀ j y, ys[j]? = some y → P j y H) → Q (.ref D) H) : LJ J g tYes te vs σ Q H1 := by
  intro D hD
  obtain ⟨P, hP, hU, hG, hs, hd⟩ := h D hD
  refine lc_it w (fun i H => ∃ ys, H D = some (.lst ys) ∧ ys.length = i ∧ R H1 H ∧ ∀ j y, ys[j]? = some y → P j y H) ⟨[], upd_same, rfl, h0 D hD, fun j y e => by simp at e⟩ (fun i H _ ⟨ys, e, _, r, _⟩ => hG H ys r e) ?_ (fun H ⟨ys, e, l, r, p⟩ => hd H ys e l r p)
  rintro i x H H' hi ⟨ys, e, l, r, p⟩ y
  refine hs i x H H' ys _ hi r e l p y fun y4 H4 r4 e4 p4 py => ?_
  refine ⟨ys, e4, by rw [l]; exact Nat.lt_of_lt_of_le (show i < 1001 by omega) (by decide), ys ++ [y4], upd_same, by simp [l], hU H4 _ r4, fun j v hv => ?_⟩
  refine hP j v H4 ys _ e4 ?_
  by_cases hj : j < ys.length
  · rw [List.getElem?_append_left hj] at hv
    exact p4 j v hv
  · rw [List.getElem?_append_right (by omega)] at hv
    cases z : j - ys.length with
    | zero =>
      rw [z] at hv
      cases (show y4 = v by simpa using hv)
      rw [show j = i by omega]
      exact py
    | succ k => rw [z] at hv; simp at hv
end My

set_option Elab.async false
set_option linter.all false
set_option maxRecDepth 100000
set_option maxHeartbeats 4000000
/-! isinstance, told by a function of the value -/
namespace DX
open PySem PySem.Spec PyProof.Rows L2
def sixT : List String := ["int", "bool", "tuple", "list", "str", "dict"]
/-- what is asked of an own class -/
structure InsT (K : PySem.W.Frag) (C : Addr) : Prop where
  cl : Cls K C
  ha : PySem.W.findIn K (.ref C) "__class__" = some (some (.builtin "object.__class__"))
  hn : PySem.W.specialIn K (.builtin "object.__class__") "__get__" = some (some (.builtin "getset_descriptor.__get__"))
  ht : PySem.W.takesIn K (.builtin "object.__class__") = some true
  hm : PySem.W.mroIn K C (.type "object") = some true
  ki : ∀ T ∈ sixT, PySem.W.kitOne K (.ref C) (.type T) = some false
/-- of what kind a value is -/
inductive Tg where
  | non | bl | int | str | lst | tup | dic | ins (C : Addr)
  deriving DecidableEq
def Tg.val : Tg → Value
  | .non => .type "NoneType" | .bl => .type "bool" | .int => .type "int" | .str => .type "str" | .lst => .type "list" | .tup => .type "tuple" | .dic => .type "dict" | .ins C => .ref C
inductive TgV (K : PySem.W.Frag) (H : Hp) : V → Tg → Prop
  | non : TgV K H .non .non
  | bl (b : Bool) : TgV K H (.bl b) .bl
  | int (i : Int) : TgV K H (.int i) .int
  | str (z : Str) : TgV K H (.str z) .str
  | lst {a : Addr} {xs : List V} (e : H a = some (.lst xs)) : TgV K H (.ref a) .lst
  | tup {a : Addr} {xs : List V} (e : H a = some (.tup xs)) : TgV K H (.ref a) .tup
  | dK {a : Addr} {ks : List (Key × V)} (e : H a = some (.dK ks)) : TgV K H (.ref a) .dic
  | dT {a : Addr} {ks : List (List Key × V)} (e : H a = some (.dT ks)) : TgV K H (.ref a) .dic
  | ins {a C dx : Addr} {fs : List (Str × V)} (e : H a = some (.ins C dx fs)) (c : InsT K C) : TgV K H (.ref a) (.ins C)
theorem TgV.ty {K : PySem.W.Frag} {H : Hp} {v : V} {t : Tg} (h : TgV K H v t) : TyX K H v t.val := by
  cases h with
  | non => exact .base .non
  | bl b => exact .base (.bl b)
  | int i => exact .base (.int i)
  | str z => exact .base (.str z)
  | lst e => exact .base (.lst e)
  | tup e => exact .base (.tup e)
  | dK e => exact .base (.dK e)
  | dT e => exact .base (.dT e)
  | ins e c => exact .base (.ins e c.cl c.ha c.hn c.ht c.hm)
/-- isinstance(v, T) -/
def Tg.is : Tg → String → Bool
  | .bl, T => T == "bool" || T == "int"
  | .int, T => T == "int"
  | .str, T => T == "str"
  | .lst, T => T == "list"
  | .tup, T => T == "tuple"
  | .dic, T => T == "dict"
  | _, _ => false
theorem TgV.isT {K : PySem.W.Frag} {H : Hp} {v : V} {t : Tg} (h : TgV K H v t) {T : String} (hT : T ∈ sixT) {Q : VK} (q : Q (.bl (t.is T)) H) : rIsi K [v, .ty T] H Q := by
  have ki : PySem.W.kitOne K t.val (.type T) = some (t.is T) := by
    cases h with
    | ins e c =>
      rw [show Tg.is (.ins _) T = false from rfl]
      exact c.ki T hT
    | _ =>
      simp only [sixT, List.mem_cons, List.not_mem_nil, or_false] at hT
      rcases hT with rfl | rfl | rfl | rfl | rfl | rfl <;> exact kit_ty (by decide +kernel)
  exact ⟨v, .ty T, t.val, .type T, t.is T, rfl, .ty T, h.ty, ki, q⟩
/-- isinstance(v, C), C an own class -/
structure ClsN (K : PySem.W.Frag) (C : Addr) : Prop where
  self : PySem.W.kitOne K (.ref C) (.ref C) = some true
  ty : ∀ T ∈ "NoneType" :: sixT, PySem.W.kitOne K (.type T) (.ref C) = some false
def Tg.isC (t : Tg) (C : Addr) : Bool := decide (t = .ins C)
theorem TgV.isOwn {K : PySem.W.Frag} {H : Hp} {v : V} {t : Tg} {C : Addr} (h : TgV K H v t) (n : ClsN K C) (other : ∀ D, t = .ins D → D = C ∨ PySem.W.kitOne K (.ref D) (.ref C) = some false) {Q : VK} (q : Q (.bl (t.isC C)) H) : rIsi K [v, .ref C] H Q := by
  have ki : PySem.W.kitOne K t.val (.ref C) = some (t.isC C) := by
    cases h with
    | @ins a D dx fs e c =>
      rcases other D rfl with rfl | g
      · rw [show Tg.isC (.ins D) D = true from decide_eq_true rfl]
        exact n.self
      · by_cases z : D = C
        · subst z
          rw [n.self] at g
          cases g
        · rw [show Tg.isC (.ins D) C = false from decide_eq_false (fun e => by injection e with e; exact z e)]
          exact g
    | non => exact n.ty "NoneType" (by decide)
    | bl => exact n.ty "bool" (by decide)
    | int => exact n.ty "int" (by decide)
    | str => exact n.ty "str" (by decide)
    | lst => exact n.ty "list" (by decide)
    | tup => exact n.ty "tuple" (by decide)
    | dK => exact n.ty "dict" (by decide)
    | dT => exact n.ty "dict" (by decide)
  exact ⟨v, .ref C, t.val, .ref C, t.isC C, rfl, .own C, h.ty, ki, q⟩
theorem TgV.flat {K : PySem.W.Frag} {H : Hp} : ∀ {v : V}, flatV v = true → ∃ t, TgV K H v t
  | .non, _ => ⟨_, .non⟩
  | .bl b, _ => ⟨_, .bl b⟩
  | .int i, _ => ⟨_, .int i⟩
  | .str z, _ => ⟨_, .str z⟩
  | .ref _, h => by cases h
  | .byt _, h => by cases h
  | .flt _, h => by cases h
  | .ty _, h => by cases h
/-- is it an integer that is no flag -/
def isInt : V → Bool
  | .int _ => true
  | _ => false
theorem TgV.isInt {K : PySem.W.Frag} {H : Hp} {v : V} {t : Tg} (h : TgV K H v t) : (t.is "int" && !t.is "bool") = DX.isInt v := by
  cases h <;> rfl
section
variable {t : Tg} {T : String} {C : Addr} {A B : Prop}
theorem is_t (h : t.is T = true) (q : A) : if t.is T = true then A else B := by rw [if_pos h]; exact q
theorem is_f (h : t.is T = false) (q : B) : if t.is T = true then A else B := by rw [h, if_neg Bool.false_ne_true]; exact q
theorem is_nt (h : t.is T = true) (q : B) : if (!t.is T) = true then A else B := by rw [h]; exact q
theorem is_nf (h : t.is T = false) (q : A) : if (!t.is T) = true then A else B := by rw [h]; exact q
theorem isC_t (h : t.isC C = true) (q : A) : if t.isC C = true then A else B := by rw [if_pos h]; exact q
theorem isC_f (h : t.isC C = false) (q : B) : if t.isC C = true then A else B := by rw [h, if_neg Bool.false_ne_true]; exact q
theorem isC_nt (h : t.isC C = true) (q : B) : if (!t.isC C) = true then A else B := by rw [h]; exact q
theorem isC_nf (h : t.isC C = false) (q : A) : if (!t.isC C) = true then A else B := by rw [h]; exact q
end
/-- a list and a text -/
def rLS : R2 := fun x y H Q => ∃ a xs z, x = .ref a ∧ H a = some (.lst xs) ∧ y = .str z ∧ Q (.bl false) H
theorem op_eqLS {X : Cx} (hu : X.A.units + 1 < cLine) : OpR X (compareOp .Eq) rLS := by
  intro pins s σ H x y v u Q I rx ry h
  obtain ⟨a, xs, z, rfl, ha, rfl, q⟩ := h
  cases rx
  obtain ⟨t, rfl⟩ := (show ∃ t, u = Value.str z t from ry)
  obtain ⟨us, _, p1, _⟩ := I.list (SqL.of ha)
  exact SeqAt.RcAt.list_str (A := X.A) (s := s) z t p1.isList (by omega) X.prog X.w X.xe _ ⟨.bl false, H, I, rfl, q⟩
def rEqS : R2 := fun x y H Q => rEq x y H Q ∨ rLS x y H Q
theorem op_eqS {X : Cx} (hu : X.A.units + 1 < cLine) : OpR X (compareOp .Eq) rEqS := XV.op_or op_eq (op_eqLS hu)
end DX

set_option Elab.async false
set_option linter.all false
set_option maxRecDepth 100000
set_option maxHeartbeats 4000000
/-! more steps: tuples walked, fields of objects, objects made that may refuse -/
namespace My
open PySem PySem.Spec PyProof.Rows L2 DX
theorem same_seqT {K : PySem.W.Frag} {H H' : Hp} {a : Addr} {xs : List V} (e : Same H H') (h : H a = some (.tup xs)) : SqT K H' a xs := .of (e _ _ h)
theorem plen {α β : Type} {F : α → β → Prop} : ∀ {l : List α} {m : List β}, Paired F l m → l.length = m.length
  | _, _, .nil => rfl
  | _, _, .cons _ t => by rw [List.length_cons, List.length_cons, plen t]
theorem pget {α β : Type} {F : α → β → Prop} : ∀ {xs : List α} {ys : List β}, Paired F xs ys → ∀ {i : Nat} {x : α}, xs[i]? = some x → ∃ y, ys[i]? = some y ∧ F x y
  | _, _, .nil, i, x, h => by simp at h
  | _, _, .cons f t, 0, x, h => by
    simp at h
    subst h
    exact ⟨_, rfl, f⟩
  | _, _, .cons _ t, i + 1, x, h => pget t (by simpa using h)
theorem pof {α β : Type} {F : α → β → Prop} : ∀ {xs : List α} {ys : List β}, xs.length = ys.length → (∀ (i : Nat) x y, xs[i]? = some x → ys[i]? = some y → F x y) → Paired F xs ys
  | [], [], _, _ => .nil
  | x :: xs, y :: ys, hl, h => .cons (h 0 x y rfl rfl) (pof (Nat.succ.inj hl) fun i a b ha hb => h (i + 1) a b ha hb)
  | [], _ :: _, hl, _ => by cases hl
  | _ :: _, [], hl, _ => by cases hl
section
variable {σ : L2.St} {H : Hp} {Q : VK} {QB : Bool → Hp → Prop} {K : PySem.W.Frag} {te td ty tv ta tb tx : TE} {tt tu : TT} {tl tr tk : TA} {D : Ends} {t u : TS} {x y v z : V} {i j : Int} {n : Nat} {b : Bool}
/-- a comprehension over a tuple in a variable -/
theorem lcT {g : TG} {vs : List Nat} {a : Addr} {xs : List V} (hσ : σ[n]? = some (some (.ref a))) (ha : SqT K H a xs) (h : LJ (Itt K a) g tt te vs σ Q H) : tLc (iTup K (tVar n)) g tt te vs σ H Q := ⟨_, hσ, a, rfl, ⟨_, ha⟩, h⟩
/-- a comprehension over the keys of a locked dict -/
def CKT (x : V) (g : TG) (tt : TT) (te : TE) (vs : List Nat) (σ : L2.St) (Q : VK) (H1 : Hp) : Prop := ∃ d o, x = .ref d ∧ ((∃ kvs, H1 d = some (.frz o (.dK kvs)) ∧ LJ (Itk d o kvs) g tt te vs σ Q H1) ∨ ∃ kvs, H1 d = some (.frz o (.dT kvs)) ∧ LJ (Itkt d o kvs) g tt te vs σ Q H1)
theorem lcK1 {g : TG} {vs : List Nat} (h : td σ H fun x H1 => CKT x g tt te vs σ Q H1) : tLc (iKeys td) g tt te vs σ H Q := h
theorem ckT {g : TG} {vs : List Nat} {d : Addr} {o : Obj} {kvs : List (List Key × V)} (hd : H d = some (.frz o (.dT kvs))) (h : LJ (Itkt d o kvs) g tt te vs σ Q H) : CKT (.ref d) g tt te vs σ Q H := ⟨d, o, rfl, .inr ⟨kvs, hd, h⟩⟩
/-- for over a tuple in a variable -/
theorem forTv {g : TG} {tb : TS} {a : Addr} {xs : List V} (hσ : σ[n]? = some (some (.ref a))) (ha : SqT K H a xs) (Pv : Nat → L2.St → Hp → Prop) (h0 : Pv 0 σ H) (hG : ∀ i σ H, i ≤ xs.length → Pv i σ H → SqT K H a xs)
    (hs : ∀ i x σ H, xs[i]? = some x → Pv i σ H → g x σ H fun σ2 H2 => tb { D with nx := Pv (i + 1), ct := Pv (i + 1), bk := D.nx } σ2 H2) (he : ∀ σ H, Pv xs.length σ H → D.nx σ H) : tFor (iTup K (tVar n)) g tb D σ H :=
  ⟨_, hσ, a, rfl, ⟨_, ha⟩, for_it walk_tup Pv h0 hG (fun i x σ H H' hi p y => by
    obtain ⟨rfl, e⟩ := y
    exact hs i x σ H' e p) he⟩
def FTp (K : PySem.W.Frag) (x : V) (g : TG) (tb : TS) (D : Ends) (σ : L2.St) (H1 : Hp) : Prop := ∃ a, x = .ref a ∧ (∃ xs, SqT K H1 a xs) ∧ ∃ W : Nat → Nat → L2.St → Hp → Prop, (∃ m, W 0 m σ H1) ∧ ∀ i m σ H, W i m σ H →
  ((Itt K a).stop i H ∧ D.nx σ H) ∨ ((Itt K a).go i H ∧ ∃ N : L2.St → Hp → Prop, (∀ σ' H', N σ' H' → ∃ m', m' < m ∧ W (i + 1) m' σ' H') ∧ ∀ x H', (Itt K a).yld i H x H' → g x σ H' fun σ2 H2 => tb { D with nx := N, ct := N, bk := D.nx } σ2 H2)
theorem forTe1 {g : TG} {tb : TS} (h : td σ H fun x H1 => FTp K x g tb D σ H1) : tFor (iTup K td) g tb D σ H := h
theorem forTe {g : TG} {tb : TS} {a : Addr} {xs : List V} (ha : SqT K H a xs) (Pv : Nat → L2.St → Hp → Prop) (h0 : Pv 0 σ H) (hG : ∀ i σ H, i ≤ xs.length → Pv i σ H → SqT K H a xs)
    (hs : ∀ i x σ H, xs[i]? = some x → Pv i σ H → g x σ H fun σ2 H2 => tb { D with nx := Pv (i + 1), ct := Pv (i + 1), bk := D.nx } σ2 H2) (he : ∀ σ H, Pv xs.length σ H → D.nx σ H) : FTp K (.ref a) g tb D σ H :=
  ⟨a, rfl, ⟨_, ha⟩, for_it walk_tup Pv h0 hG (fun i x σ H H' hi p y => by
    obtain ⟨rfl, e⟩ := y
    exact hs i x σ H' e p) he⟩
theorem fld {f : Str} {a C dx : Addr} {fs : List (Str × V)} (h : H a = some (.ins C dx fs)) (c : Cls K C) (na : NoAttr K C f) (l : fs.lookup f = some v) (hσ : σ[n]? = some (some (.ref a))) (q : Q v H) : tFld K (tVar n) f σ H Q := ⟨_, hσ, a, C, dx, fs, v, rfl, h, c, na, l, q⟩
theorem fldS {f : Str} {a C dx : Addr} {fs : List (Str × V)} {m : Nat} (h : H a = some (.ins C dx fs)) (c : Cls K C) (na : NoAttr K C f) (l : fs.length < 1000) (hσ : σ[n]? = some (some (.ref a))) (hv : σ[m]? = some (some v)) (q : D.nx σ (upd H a (.ins C dx (putF f v fs)))) : sFld K (tVar n) (tVar m) f D σ H :=
  ⟨_, hv, _, hσ, a, C, dx, fs, rfl, h, c, na, l, q⟩
end
def FEn (K : PySem.W.Frag) (vs : List V) (g : TG) (tb : TS) (D : Ends) (σ : L2.St) (H1 : Hp) : Prop := ∃ a xs, vs = [.ref a] ∧ SqL K H1 a xs ∧ ∃ W : Nat → Nat → L2.St → Hp → Prop, (∃ m, W 0 m σ H1) ∧ ∀ i m σ H, W i m σ H →
  ((Ite K a).stop i H ∧ D.nx σ H) ∨ ((Ite K a).go i H ∧ ∃ N : L2.St → Hp → Prop, (∀ σ' H', N σ' H' → ∃ m', m' < m ∧ W (i + 1) m' σ' H') ∧ ∀ x H', (Ite K a).yld i H x H' → g x σ H' fun σ2 H2 => tb { D with nx := N, ct := N, bk := D.nx } σ2 H2)
theorem forEn1 {K : PySem.W.Frag} {tl : TA} {g : TG} {tb : TS} {D : Ends} {σ : L2.St} {H : Hp} (h : tl σ H fun vs H1 => FEn K vs g tb D σ H1) : tFor (iEnum K tl) g tb D σ H := h
theorem forEn {K : PySem.W.Frag} {g : TG} {tb : TS} {D : Ends} {σ : L2.St} {H : Hp} {a : Addr} {xs : List V} (hl : SqL K H a xs) (Pv : Nat → L2.St → Hp → Prop) (h0 : Pv 0 σ H) (hG : ∀ i σ H, i ≤ xs.length → Pv i σ H → SqL K H a xs)
    (hs : ∀ i x T σ H, xs[i]? = some x → Pv i σ H → H T = none → g (.ref T) σ (upd H T (.tup [.int (i : Nat), x])) fun σ2 H2 => tb { D with nx := Pv (i + 1), ct := Pv (i + 1), bk := D.nx } σ2 H2) (hd : ∀ σ H, Pv xs.length σ H → D.nx σ H) : FEn K [.ref a] g tb D σ H :=
  ⟨a, xs, rfl, hl, for_it walk_enum Pv h0 hG (fun i v σ H H' hi p y => by
    obtain ⟨T, x, z, rfl, hT, rfl, ex, ez⟩ := y
    cases ex
    exact hs i z T σ H ez p hT) hd⟩
/-- a comprehension without tests: each item as P tells, R what has happened so far -/
theorem lcM2 {J : It} {n : Nat} {G : Hp → Prop} {Y : Nat → Hp → V → Hp → Prop} (w : Walk J n G Y) {g : TG} {te : TE} {vs : List Nat} {σ : L2.St} {Q : VK} {H1 : Hp} (R : Hp → Hp → Prop) (hn : n ≤ 1000) (h0 : ∀ D, H1 D = none → R H1 (upd H1 D (.lst [])))
    (h : ∀ D, H1 D = none → ∃ P : Nat → V → Hp → Prop, (∀ j y H ys zs, H D = some (.lst ys) → P j y H → P j y (upd H D (.lst zs))) ∧ (∀ H o, R H1 H → R H1 (upd H D o)) ∧ (∀ H ys, R H1 H → H D = some (.lst ys) → G H) ∧
      (∀ i x H H' ys, ∀ N : VK, i < n → R H1 H → H D = some (.lst ys) → ys.length = i → (∀ j v, ys[j]? = some v → P j v H) → Y i H x H' → (∀ y H4, R H1 H4 → H4 D = some (.lst ys) → (∀ j v, ys[j]? = some v → P j v H4) → P i y H4 → N y H4) →
        g x (wipe σ vs) H' fun σ2 H2 => wipe σ2 vs = wipe σ vs ∧ te σ2 H2 N) ∧
      ∀ H ys, H D = some (.lst ys) → ys.length = n → R H1 H → (∀ j y, ys[j]? = some y → P j y H) → Q (.ref D) H) : LJ J g tYes te vs σ Q H1 := by
  intro D hD
  obtain ⟨P, hP, hU, hG, hs, hd⟩ := h D hD
  refine lc_it w (fun i H => ∃ ys, H D = some (.lst ys) ∧ ys.length = i ∧ R H1 H ∧ ∀ j y, ys[j]? = some y → P j y H) ⟨[], upd_same, rfl, h0 D hD, fun j y e => by simp at e⟩ (fun i H _ ⟨ys, e, _, r, _⟩ => hG H ys r e) ?_ (fun H ⟨ys, e, l, r, p⟩ => hd H ys e l r p)
  rintro i x H H' hi ⟨ys, e, l, r, p⟩ y
  refine hs i x H H' ys _ hi r e l p y fun y4 H4 r4 e4 p4 py => ?_
  refine ⟨ys, e4, by rw [l]; exact Nat.lt_of_lt_of_le (show i < 1001 by omega) (by decide), ys ++ [y4], upd_same, by simp [l], hU H4 _ r4, fun j v hv => ?_⟩
  refine hP j v H4 ys _ e4 ?_
  by_cases hj : j < ys.length
  · rw [List.getElem?_append_left hj] at hv
    exact p4 j v hv
  · rw [List.getElem?_append_right (by omega)] at hv
    cases z : j - ys.length with
    | zero =>
      rw [z] at hv
      cases (show y4 = v by simpa using hv)
      rw [show j = i by omega]
      exact py
    | succ k => rw [z] at hv; simp at hv
end My
namespace DX
open PySem PySem.Spec PyProof.Rows L2
theorem tuple_mul1 (l : Addr) (items : Array Value) (n : Nat) (dd : Option Addr) (sl : Array (Option Value)) (x : Int) (u : Tok) (c0 : (decide (x < -(2 ^ 63)) || decide (x ≥ 2 ^ 63)) = false) (c1 : (items.isEmpty || x == 1) = true) :
    Meets (Builtin.«tuple.__mul__» ⟨[.ref l, .int x u], []⟩) (fun _ R s => s.heap.get? l = some { cls := .type "tuple", dict := dd, data := .seq items n, slots := sl } ∧ R (.ok (.ret (Value.ref l))) s) :=
  .of_wp fun prog w A R s h => by
    obtain ⟨hp, g, d, tk, os⟩ := s
    obtain ⟨hl, h⟩ := h
    have f1 := AutoSeq1.idx_int
    wp_walk using wpAny_loadPart' hl
    refine wpAny_ite_false (decide_eq_false (by rw [c0]; exact Bool.false_ne_true)) ?_
    wp_walk using wpAny_loadPart' hl
    exact ⟨_, rfl, h⟩
theorem tuple_mul0 (l : Addr) (items : Array Value) (n : Nat) (dd : Option Addr) (sl : Array (Option Value)) (x : Int) (u : Tok) (c0 : (decide (x < -(2 ^ 63)) || decide (x ≥ 2 ^ 63)) = false) (c1 : (items.isEmpty || x == 1) = false) (c2 : (decide (x ≤ 0) || items.isEmpty) = true) :
    Meets (Builtin.«tuple.__mul__» ⟨[.ref l, .int x u], []⟩) (fun _ R s => s.heap.get? l = some { cls := .type "tuple", dict := dd, data := .seq items n, slots := sl } ∧ R (.ok (.ret (Value.ref s.heap.objs.size))) { s with heap := s.heap.push { cls := Value.type "tuple", data := Data.seq #[] }, toks := s.toks }) :=
  .of_wp fun prog w A R s h => by
    obtain ⟨hp, g, d, tk, os⟩ := s
    obtain ⟨hl, h⟩ := h
    have f1 := AutoSeq1.idx_int
    wp_walk using wpAny_loadPart' hl
    refine wpAny_ite_false (decide_eq_false (by rw [c0]; exact Bool.false_ne_true)) ?_
    wp_walk using wpAny_loadPart' hl
    exact ⟨_, rfl, h⟩
def rRepA (K : PySem.W.Frag) : R2 := fun x y H Q => ∃ l k xs, x = .ref l ∧ y = .int k ∧ SqT K H l xs ∧ -1000 ≤ k ∧ k ≤ 1000 ∧ xs.length ≤ 1000 ∧ (xs = [] ∨ k = 1 → Q (.ref l) H) ∧
  (xs ≠ [] → k ≠ 1 → ∀ p, H p = none → Q (.ref p) (upd H p (.tup (List.replicate k.toNat xs).flatten)))
/-- t * k, any k -/
theorem op_repA {X : Cx} : OpR X (binaryOp .Mult) (rRepA X.K) := by
  intro pins s σ H x y v u Q I rx ry h
  obtain ⟨l, k, xs, rfl, rfl, hT, h1, h2, hz, q1, q2⟩ := h
  by_cases g2 : xs ≠ [] ∧ 2 ≤ k
  · exact op_repT pins s σ H _ _ v u Q I rx ry ⟨l, k, xs, rfl, rfl, hT, g2.1, g2.2, h2, hz, q2 g2.1 (by omega)⟩
  cases rx
  obtain ⟨t, rfl⟩ := ry
  obtain ⟨its, r, ⟨⟨cls, dd, data, sl⟩, ho, hc, n, hd⟩, hs⟩ := I.tuple hT
  simp only at hc hd
  subst hc hd
  have hle : its.length = xs.length := r.length.symm
  have c0 : (decide (k < -(2 ^ 63)) || decide (k ≥ 2 ^ 63)) = false := by
    rw [decide_eq_false (by omega), decide_eq_false (by omega)] <;> rfl
  by_cases g1 : xs = [] ∨ k = 1
  · have c1 : (its.toArray.isEmpty || k == 1) = true := by
      rcases g1 with g | g
      · have : its = [] := List.eq_nil_of_length_eq_zero (by rw [hle, g]; rfl)
        rw [this]; rfl
      · rw [g]; simp
    refine wpAny_binaryOp_repeat_ref (T := "tuple") (U := "int") (by decide) ⟨_, ho, rfl⟩ (fun s' => typeIs_int s' k t) noFill_tuple_mul F.fills_int_mul F.slot_int_rmul repeat_tuple F.slot_int_index.lookup
      (call_meets F.slot_int_rmul (typeIs_int s k t) F.entry_int_rmul (F.args_int_rmul_2 _ _) (int_rmul_tuple k t l its.toArray n dd sl)
        ⟨ho, rfl, ⟨_, ho, rfl⟩, call_meets F.slot_tuple_mul ⟨_, ho, rfl⟩ F.entry_tuple_mul (F.args_tuple_mul_2 _ _) (tuple_mul1 l its.toArray n dd sl k t c0 c1) ⟨ho, ?_⟩⟩)
    exact ⟨.ref l, H, I, rfl, q1 g1⟩
  · have k0 : k ≤ 0 := by
      rcases Int.lt_or_le k 2 with z | z
      · have : k ≠ 1 := fun e => g1 (.inr e)
        omega
      · exact absurd ⟨fun e => g1 (.inl e), z⟩ g2
    have hi : its.toArray.isEmpty = false := by
      cases its with
      | nil => exact absurd (.inl (List.eq_nil_of_length_eq_zero hle.symm)) g1
      | cons a b => rfl
    have c1 : (its.toArray.isEmpty || k == 1) = false := by
      rw [hi, Bool.false_or]
      exact beq_eq_false_iff_ne.mpr (by omega)
    have c2 : (decide (k ≤ 0) || its.toArray.isEmpty) = true := by rw [decide_eq_true k0]; rfl
    refine wpAny_binaryOp_repeat_ref (T := "tuple") (U := "int") (by decide) ⟨_, ho, rfl⟩ (fun s' => typeIs_int s' k t) noFill_tuple_mul F.fills_int_mul F.slot_int_rmul repeat_tuple F.slot_int_index.lookup
      (call_meets F.slot_int_rmul (typeIs_int s k t) F.entry_int_rmul (F.args_int_rmul_2 _ _) (int_rmul_tuple k t l its.toArray n dd sl)
        ⟨ho, rfl, ⟨_, ho, rfl⟩, call_meets F.slot_tuple_mul ⟨_, ho, rfl⟩ F.entry_tuple_mul (F.args_tuple_mul_2 _ _) (tuple_mul0 l its.toArray n dd sl k t c0 c1 c2) ⟨ho, ?_⟩⟩)
    have e0 : (List.replicate k.toNat xs).flatten = [] := by
      rw [show k.toNat = 0 by omega]; rfl
    have q := q2 (fun e => g1 (.inl e)) (fun e => g1 (.inr e)) _ (I.hok.fresh (Nat.le_refl s.heap.objs.size))
    rw [e0] at q
    exact ⟨.ref s.heap.objs.size, _, I.laid (t' := s.toks) (o := .tup []) (fun b ob q => Heap.get?_push_of_some _ q) (Nat.le_refl _) ⟨Nat.zero_le _, [], .nil, IsTup.new _ _⟩, rfl, q⟩
/-- what is never reached -/
def tNevE : TE := fun _ _ _ => False
theorem pe_nev {X : Cx} {e : Expr} : PE X e tNevE := ⟨fun _ _ _ _ _ _ h => h.elim⟩
def tNevT : TT := fun _ _ _ => False
theorem pt_nev {X : Cx} {e : Expr} : PT X e tNevT := ⟨fun _ _ _ _ _ _ h => h.elim⟩
def rIsNn : R2 := fun x y H Q => y = .non ∧ Q (.bl (decide (x = .non))) H
theorem op_isNn {X : Cx} : OpR X (compareOp .Is) rIsNn := op_isN
/-- C(..), an __init__ that may refuse, within a suite -/
def tMakeS (C : Addr) (sp : Sp) (E : L2.St → XK) (t : TA) : TE := fun σ H Q => t σ H fun vs H1 => ∀ x dx, H1 x = none → H1 dx = none → dx ≠ x →
  sp (.ref x :: vs) (upd (upd H1 dx (.own x)) x (.ins C dx [])) (fun v H2 => v = .non ∧ Q (.ref x) H2) (E σ)
section
variable {X : Cx} {k : Nat} {f C : Addr} {fd : FuncData} {ps : List Str} {sp : Sp} {W : WX} {x : Str} {p pos : Pos} {e : Expr} {es : List Expr} {t : TA}
theorem run_makeS {pins : List (Addr × Obj)} {σ : L2.St} {H : Hp} {s : Shared} {Q : VK} {us : List Value} {vs : List V} (M : Mk X.K C f) (F : FnOk X.prog X.w X.K X.mg X.base (L2.CX X.prog X.w) k f fd ps sp) (hr : Room (k + 1) X.A) (hb : Binds X.K fd ps [])
    (tk : Takes X W) (I : Inv X pins σ H s) (r : Vals vs us)
    (h : ∀ x dx, H x = none → H dx = none → dx ≠ x → sp (.ref x :: vs) (upd (upd H dx (.own x)) x (.ins C dx [])) (fun v H2 => v = .non ∧ Q (.ref x) H2) (WE W σ)) :
    wpAny (model X.prog X.w) X.A (call (.ref C) us) (EP X pins σ Q) X.xe s := by
  have hq := h (s.heap.objs.size + 1) s.heap.objs.size (I.hok.fresh (Nat.le_succ _)) (I.hok.fresh (Nat.le_refl _)) (Nat.ne_of_lt (Nat.lt_succ_self _))
  have I2 := Inv.made (C := C) I
  have r2 : Vals (V.ref (s.heap.objs.size + 1) :: vs) (Value.ref (s.heap.objs.size + 1) :: us) := .cons rfl r
  have hl : (Value.ref (s.heap.objs.size + 1) :: us).length = ps.length := by
    have e := r2.length
    rw [F.len _ _ _ _ hq] at e
    exact e.symm
  have hbb := hb
  refine wpAny_call (make_map (f := f) I.kIn M.makes M.init (beq_iff_eq.mp M.fn) (codeAny_mono (F.run _ X.stack _ _ ⟨Value.ref (s.heap.objs.size + 1) :: us, []⟩ (Value.ref (s.heap.objs.size + 1) :: us) _ _ (WE W σ) (hr.make C us [])
    (I2.env0.make C us []) (by
      have z := hb _ (Value.ref (s.heap.objs.size + 1) :: us) I2.kIn (by rw [List.append_nil]; exact hl)
      rw [List.append_nil] at z
      exact z) r2 hq) fun r s' hq' => ?_))
  cases r with
  | error e => exact passAt tk σ pins _ _ e s' I2 hq'
  | ok fl =>
    cases fl with
    | ret u =>
      obtain ⟨v, H', I3, rv, ev, q3⟩ := I2.after hq'
      subst ev
      exact ⟨rv, ⟨V.ref (s.heap.objs.size + 1), H', I3, rfl, q3⟩⟩
    | next => exact False.elim hq'
    | brk => exact False.elim hq'
    | cont => exact False.elim hq'
theorem pe_makeS (M : Mk X.K C f) (F : FnOk X.prog X.w X.K X.mg X.base (L2.CX X.prog X.w) k f fd ps sp) (hr : Room (k + 1) X.A) (hg : Gl X x) (hm : X.mg x = some (.ref C)) (hb : Binds X.K fd ps []) (tk : Takes X W)
    (ha : PA X (e :: es) t) (hdb : (x == ("__debug__" : Str)) = false := by decide) (he : starEach (e :: es) X.env = (false, eval e X.env) :: starEach es X.env := by rfl) (hpl : (backTo pos (starEach es X.env)).any (·.1) = false := by rfl) :
    PE X (.Call (.Name x p) (e :: es) [] pos) (tMakeS C sp (WE W) t) := by
  refine ⟨fun pins s σ H Q I h => ?_⟩
  refine wpAny_Call_Name_kw (ld_glob I hg hm ?_ hdb)
  refine PySem.W.callWith_K (h₀ := X.base) I.ok.mod.kin M.kp (thn (ha.run pos pins s σ H _ I h) fun us s1 ⟨vs, H1, I1, r, q⟩ => ⟨I1.kIn, ?_⟩) he hpl
  exact run_makeS M F hr hb tk I1 r q
end
end DX
namespace My
open PySem PySem.Spec PyProof.Rows L2 DX
section
variable {σ : L2.St} {H : Hp} {Q : VK} {tl : TA}
theorem makeS {C : Addr} {sp : Sp} {E : L2.St → XK} (h : tl σ H fun vs H1 => ∀ x dx, H1 x = none → H1 dx = none → dx ≠ x → sp (.ref x :: vs) (upd (upd H1 dx (.own x)) x (.ins C dx [])) (fun v H2 => v = .non ∧ Q (.ref x) H2) (E σ)) : tMakeS C sp E tl σ H Q := h
end
end My
namespace My
open PySem PySem.Spec PyProof.Rows L2 DX
theorem same_nw {H : Hp} {p : Addr} {o : HO} (h : H p = none) : Same H (upd H p o) := fun b u e => by
  rw [upd_ne (ne_of_none e h)]; exact e
section
variable {H : Hp} {Q : VK} {K : PySem.W.Frag}
theorem slA {t : Addr} {xs : List V} {lo hi : Option Int} (h : H t = some (.tup xs)) (q : ∀ p H', Same H H' → H' p = some (.tup (cutV xs lo hi)) → Q (.ref p) H') : rSlA K (.ref t) lo hi H Q := by
  refine ⟨t, xs, rfl, SqT.of h, fun z => ?_, fun _ p np => q p _ (same_nw np) upd_same⟩
  refine q t H (.refl _) ?_
  have e : cutV xs lo hi = xs := by
    unfold cutV
    rw [z.1, z.2, Nat.sub_zero, List.drop_zero, List.take_length]
  rw [e]; exact h
theorem cut_mem {xs : List V} {lo hi : Option Int} {x : V} (h : x ∈ cutV xs lo hi) : x ∈ xs := List.mem_of_mem_drop (List.mem_of_mem_take h)
theorem catA {a b : Addr} {xs ys : List V} (h1 : H a = some (.tup xs)) (h2 : H b = some (.tup ys)) (hz : xs.length + ys.length ≤ 1000) (q : ∀ p H', Same H H' → H' p = some (.tup (xs ++ ys)) → Q (.ref p) H') : rCatA K (.ref a) (.ref b) H Q := by
  refine ⟨a, b, xs, ys, rfl, rfl, SqT.of h1, SqT.of h2, My.sz hz, fun z => ?_, fun _ z => ?_, fun _ _ p np => q p _ (same_nw np) upd_same⟩
  · subst z
    exact q b H (.refl _) h2
  · subst z
    exact q a H (.refl _) (by rw [List.append_nil]; exact h1)
theorem repA {l : Addr} {k : Int} {xs : List V} (h : H l = some (.tup xs)) (k1 : -1000 ≤ k) (k2 : k ≤ 1000) (hz : xs.length ≤ 1000) (q : ∀ p H', Same H H' → H' p = some (.tup (List.replicate k.toNat xs).flatten) → Q (.ref p) H') : rRepA K (.ref l) (.int k) H Q := by
  refine ⟨l, k, xs, rfl, rfl, SqT.of h, k1, k2, hz, fun z => q l H (.refl _) ?_, fun _ _ p np => q p _ (same_nw np) upd_same⟩
  rcases z with rfl | rfl
  · rw [show (List.replicate k.toNat ([] : List V)).flatten = [] by simp]; exact h
  · rw [show (List.replicate (1 : Int).toNat xs).flatten = xs by simp]; exact h
theorem rep_mem {k : Nat} {xs : List V} {x : V} (h : x ∈ (List.replicate k xs).flatten) : x ∈ xs := by
  obtain ⟨l, h1, h2⟩ := List.mem_flatten.mp h
  rw [(List.mem_replicate.mp h1).2] at h2
  exact h2
theorem rep_len {k : Nat} {xs : List V} : (List.replicate k xs).flatten.length = k * xs.length := by
  induction k with
  | zero => simp
  | succ k ih => rw [List.replicate_succ, List.flatten_cons, List.length_append, ih, Nat.succ_mul]; omega
end
end My

set_option Elab.async false
set_option linter.all false
set_option maxRecDepth 100000
set_option maxHeartbeats 4000000
namespace K09
open PySem PySem.Spec PyProof.Rows L2
def top (i : Nat) : Stmt := PySem.Challenge.pw_boxedroots_k09_systems_refused.main.body.getD i (.Pass ⟨0, 0, 0, 0⟩)
abbrev s_BadPoly_init : Stmt := inClass (top 4) 0
abbrev s_BadSystem_init : Stmt := inClass (top 5) 0
abbrev s_is_integer : Stmt := top 12
abbrev s_is_number_to : Stmt := top 13
abbrev s_is_unknown : Stmt := top 14
abbrev s_is_fraction : Stmt := top 15
abbrev s_is_point : Stmt := top 16
abbrev s_greatest_powers : Stmt := top 18
abbrev s_packed : Stmt := top 19
abbrev s_unpacked : Stmt := top 20
abbrev s_scaled_terms : Stmt := top 21
abbrev s_product_terms : Stmt := top 22
abbrev s_added_products : Stmt := top 23
abbrev s_Poly_init : Stmt := inClass (top 28) 0
abbrev s_Poly_eq : Stmt := inClass (top 28) 1
abbrev s_is_term : Stmt := top 29
abbrev s_is_powers : Stmt := top 30
abbrev s_poly_with : Stmt := top 31
abbrev s_gathered : Stmt := top 32
abbrev s_number_poly : Stmt := top 33
abbrev s_with_power : Stmt := top 34
abbrev s_plus : Stmt := top 35
abbrev s_added : Stmt := top 36
abbrev s_times : Stmt := top 37
abbrev s_raised : Stmt := top 38
abbrev s_number_raised : Stmt := top 39
abbrev s_top : Stmt := top 40
abbrev s_degree : Stmt := top 41
abbrev s_lead : Stmt := top 42
abbrev s_slope : Stmt := top 43
abbrev s_worth : Stmt := top 44
abbrev s_weights_of : Stmt := top 45
abbrev s_stands_in : Stmt := top 46
abbrev s_System_init : Stmt := inClass (top 50) 0
abbrev s_System_eq : Stmt := inClass (top 50) 1
abbrev s_is_root : Stmt := top 51
abbrev s_has_root_at : Stmt := top 52
abbrev s_lacks : Stmt := top 54
abbrev s_is_paper_by : Stmt := top 56
abbrev s_are_polys : Stmt := top 57
abbrev s_sum_of_products : Stmt := top 58
abbrev s_is_chain : Stmt := top 59
abbrev s_needed : Stmt := top 60
abbrev s_cover_fault : Stmt := top 63
abbrev s_is_cover : Stmt := top 64
abbrev s_followed : Stmt := top 65
abbrev s_states_behind : Stmt := top 66
abbrev s_adds_up : Stmt := top 67
abbrev s_may_be_product : Stmt := top 68
abbrev s_powers_together : Stmt := top 69
abbrev s_matches : Stmt := top 70
abbrev s_chain_of : Stmt := top 71
abbrev s_holds_as_leaf : Stmt := top 72
abbrev s_law_hand : Stmt := top 74
abbrev s_law_draw : Stmt := top 75
abbrev s_law_any : Stmt := top 76
abbrev s_law_var : Stmt := top 77
abbrev s_law_plus : Stmt := top 78
abbrev s_law_mark : Stmt := top 79
abbrev s_law_marks : Stmt := top 80
abbrev s_law_is_marked : Stmt := top 81
abbrev s_law_small : Stmt := top 82
abbrev s_law_is_int : Stmt := top 83
abbrev s_law_is_in : Stmt := top 84
abbrev s_law_deep : Stmt := top 85
abbrev s_law_packed : Stmt := top 86
abbrev s_law_unpacked : Stmt := top 87
abbrev s_law_wrong : Stmt := top 88
abbrev s_law_made : Stmt := top 89
abbrev s_law_odd : Stmt := top 90
abbrev s_law_bent_rows : Stmt := top 91
abbrev s_law_flag : Stmt := top 92
abbrev s_law_bent_parts : Stmt := top 93
abbrev s_law_is_odd_told : Stmt := top 94
abbrev s_law : Stmt := top 95
def d_BadPoly_init : He.DefD := ⟨("BadPoly", some "__init__"), "__init__", "BadPoly.__init__", defArgs s_BadPoly_init, defBody s_BadPoly_init, defScope s_BadPoly_init, [], []⟩
def d_BadSystem_init : He.DefD := ⟨("BadSystem", some "__init__"), "__init__", "BadSystem.__init__", defArgs s_BadSystem_init, defBody s_BadSystem_init, defScope s_BadSystem_init, [], []⟩
def d_is_integer : He.DefD := ⟨("is_integer", none), "is_integer", "is_integer", defArgs s_is_integer, defBody s_is_integer, defScope s_is_integer, [], []⟩
def d_is_number_to : He.DefD := ⟨("is_number_to", none), "is_number_to", "is_number_to", defArgs s_is_number_to, defBody s_is_number_to, defScope s_is_number_to, [], []⟩
def d_is_unknown : He.DefD := ⟨("is_unknown", none), "is_unknown", "is_unknown", defArgs s_is_unknown, defBody s_is_unknown, defScope s_is_unknown, [], []⟩
def d_is_fraction : He.DefD := ⟨("is_fraction", none), "is_fraction", "is_fraction", defArgs s_is_fraction, defBody s_is_fraction, defScope s_is_fraction, [], []⟩
def d_is_point : He.DefD := ⟨("is_point", none), "is_point", "is_point", defArgs s_is_point, defBody s_is_point, defScope s_is_point, [], []⟩
def d_greatest_powers : He.DefD := ⟨("greatest_powers", none), "greatest_powers", "greatest_powers", defArgs s_greatest_powers, defBody s_greatest_powers, defScope s_greatest_powers, [], []⟩
def d_packed : He.DefD := ⟨("packed", none), "packed", "packed", defArgs s_packed, defBody s_packed, defScope s_packed, [], []⟩
def d_unpacked : He.DefD := ⟨("unpacked", none), "unpacked", "unpacked", defArgs s_unpacked, defBody s_unpacked, defScope s_unpacked, [], []⟩
def d_scaled_terms : He.DefD := ⟨("scaled_terms", none), "scaled_terms", "scaled_terms", defArgs s_scaled_terms, defBody s_scaled_terms, defScope s_scaled_terms, [], []⟩
def d_product_terms : He.DefD := ⟨("product_terms", none), "product_terms", "product_terms", defArgs s_product_terms, defBody s_product_terms, defScope s_product_terms, [], []⟩
def d_added_products : He.DefD := ⟨("added_products", none), "added_products", "added_products", defArgs s_added_products, defBody s_added_products, defScope s_added_products, [], []⟩
def d_Poly_init : He.DefD := ⟨("Poly", some "__init__"), "__init__", "Poly.__init__", defArgs s_Poly_init, defBody s_Poly_init, defScope s_Poly_init, [], []⟩
def d_Poly_eq : He.DefD := ⟨("Poly", some "__eq__"), "__eq__", "Poly.__eq__", defArgs s_Poly_eq, defBody s_Poly_eq, defScope s_Poly_eq, [], []⟩
def d_is_term : He.DefD := ⟨("is_term", none), "is_term", "is_term", defArgs s_is_term, defBody s_is_term, defScope s_is_term, [], []⟩
def d_is_powers : He.DefD := ⟨("is_powers", none), "is_powers", "is_powers", defArgs s_is_powers, defBody s_is_powers, defScope s_is_powers, [], []⟩
def d_poly_with : He.DefD := ⟨("poly_with", none), "poly_with", "poly_with", defArgs s_poly_with, defBody s_poly_with, defScope s_poly_with, [], []⟩
def d_gathered : He.DefD := ⟨("gathered", none), "gathered", "gathered", defArgs s_gathered, defBody s_gathered, defScope s_gathered, [], []⟩
def d_number_poly : He.DefD := ⟨("number_poly", none), "number_poly", "number_poly", defArgs s_number_poly, defBody s_number_poly, defScope s_number_poly, [], []⟩
def d_with_power : He.DefD := ⟨("with_power", none), "with_power", "with_power", defArgs s_with_power, defBody s_with_power, defScope s_with_power, [], []⟩
def d_plus : He.DefD := ⟨("plus", none), "plus", "plus", defArgs s_plus, defBody s_plus, defScope s_plus, [], []⟩
def d_added : He.DefD := ⟨("added", none), "added", "added", defArgs s_added, defBody s_added, defScope s_added, [], []⟩
def d_times : He.DefD := ⟨("times", none), "times", "times", defArgs s_times, defBody s_times, defScope s_times, [], []⟩
def d_raised : He.DefD := ⟨("raised", none), "raised", "raised", defArgs s_raised, defBody s_raised, defScope s_raised, [], []⟩
def d_number_raised : He.DefD := ⟨("number_raised", none), "number_raised", "number_raised", defArgs s_number_raised, defBody s_number_raised, defScope s_number_raised, [], []⟩
def d_top : He.DefD := ⟨("top", none), "top", "top", defArgs s_top, defBody s_top, defScope s_top, [], []⟩
def d_degree : He.DefD := ⟨("degree", none), "degree", "degree", defArgs s_degree, defBody s_degree, defScope s_degree, [], []⟩
def d_lead : He.DefD := ⟨("lead", none), "lead", "lead", defArgs s_lead, defBody s_lead, defScope s_lead, [], []⟩
def d_slope : He.DefD := ⟨("slope", none), "slope", "slope", defArgs s_slope, defBody s_slope, defScope s_slope, [], []⟩
def d_worth : He.DefD := ⟨("worth", none), "worth", "worth", defArgs s_worth, defBody s_worth, defScope s_worth, [], []⟩
def d_weights_of : He.DefD := ⟨("weights_of", none), "weights_of", "weights_of", defArgs s_weights_of, defBody s_weights_of, defScope s_weights_of, [], []⟩
def d_stands_in : He.DefD := ⟨("stands_in", none), "stands_in", "stands_in", defArgs s_stands_in, defBody s_stands_in, defScope s_stands_in, [], []⟩
def d_System_init : He.DefD := ⟨("System", some "__init__"), "__init__", "System.__init__", defArgs s_System_init, defBody s_System_init, defScope s_System_init, [], []⟩
def d_System_eq : He.DefD := ⟨("System", some "__eq__"), "__eq__", "System.__eq__", defArgs s_System_eq, defBody s_System_eq, defScope s_System_eq, [], []⟩
def d_is_root : He.DefD := ⟨("is_root", none), "is_root", "is_root", defArgs s_is_root, defBody s_is_root, defScope s_is_root, [], []⟩
def d_has_root_at : He.DefD := ⟨("has_root_at", none), "has_root_at", "has_root_at", defArgs s_has_root_at, defBody s_has_root_at, defScope s_has_root_at, [], []⟩
def d_lacks : He.DefD := ⟨("lacks", none), "lacks", "lacks", defArgs s_lacks, defBody s_lacks, defScope s_lacks, [], []⟩
def d_is_paper_by : He.DefD := ⟨("is_paper_by", none), "is_paper_by", "is_paper_by", defArgs s_is_paper_by, defBody s_is_paper_by, defScope s_is_paper_by, [], []⟩
def d_are_polys : He.DefD := ⟨("are_polys", none), "are_polys", "are_polys", defArgs s_are_polys, defBody s_are_polys, defScope s_are_polys, [], []⟩
def d_sum_of_products : He.DefD := ⟨("sum_of_products", none), "sum_of_products", "sum_of_products", defArgs s_sum_of_products, defBody s_sum_of_products, defScope s_sum_of_products, [], []⟩
def d_is_chain : He.DefD := ⟨("is_chain", none), "is_chain", "is_chain", defArgs s_is_chain, defBody s_is_chain, defScope s_is_chain, [], []⟩
def d_needed : He.DefD := ⟨("needed", none), "needed", "needed", defArgs s_needed, defBody s_needed, defScope s_needed, [], []⟩
def d_cover_fault : He.DefD := ⟨("cover_fault", none), "cover_fault", "cover_fault", defArgs s_cover_fault, defBody s_cover_fault, defScope s_cover_fault, [], []⟩
def d_is_cover : He.DefD := ⟨("is_cover", none), "is_cover", "is_cover", defArgs s_is_cover, defBody s_is_cover, defScope s_is_cover, [], []⟩
def d_followed : He.DefD := ⟨("followed", none), "followed", "followed", defArgs s_followed, defBody s_followed, defScope s_followed, [], []⟩
def d_states_behind : He.DefD := ⟨("states_behind", none), "states_behind", "states_behind", defArgs s_states_behind, defBody s_states_behind, defScope s_states_behind, [], []⟩
def d_adds_up : He.DefD := ⟨("adds_up", none), "adds_up", "adds_up", defArgs s_adds_up, defBody s_adds_up, defScope s_adds_up, [], []⟩
def d_may_be_product : He.DefD := ⟨("may_be_product", none), "may_be_product", "may_be_product", defArgs s_may_be_product, defBody s_may_be_product, defScope s_may_be_product, [], []⟩
def d_powers_together : He.DefD := ⟨("powers_together", none), "powers_together", "powers_together", defArgs s_powers_together, defBody s_powers_together, defScope s_powers_together, [], []⟩
def d_matches : He.DefD := ⟨("matches", none), "matches", "matches", defArgs s_matches, defBody s_matches, defScope s_matches, [], []⟩
def d_chain_of : He.DefD := ⟨("chain_of", none), "chain_of", "chain_of", defArgs s_chain_of, defBody s_chain_of, defScope s_chain_of, [], []⟩
def d_holds_as_leaf : He.DefD := ⟨("holds_as_leaf", none), "holds_as_leaf", "holds_as_leaf", defArgs s_holds_as_leaf, defBody s_holds_as_leaf, defScope s_holds_as_leaf, [], []⟩
def d_law_hand : He.DefD := ⟨("_law_hand", none), "_law_hand", "_law_hand", defArgs s_law_hand, defBody s_law_hand, defScope s_law_hand, [], []⟩
def d_law_draw : He.DefD := ⟨("_law_draw", none), "_law_draw", "_law_draw", defArgs s_law_draw, defBody s_law_draw, defScope s_law_draw, [], []⟩
def d_law_any : He.DefD := ⟨("_law_any", none), "_law_any", "_law_any", defArgs s_law_any, defBody s_law_any, defScope s_law_any, [], []⟩
def d_law_var : He.DefD := ⟨("_law_var", none), "_law_var", "_law_var", defArgs s_law_var, defBody s_law_var, defScope s_law_var, [], []⟩
def d_law_plus : He.DefD := ⟨("_law_plus", none), "_law_plus", "_law_plus", defArgs s_law_plus, defBody s_law_plus, defScope s_law_plus, [], []⟩
def d_law_mark : He.DefD := ⟨("_law_mark", none), "_law_mark", "_law_mark", defArgs s_law_mark, defBody s_law_mark, defScope s_law_mark, [], []⟩
def d_law_marks : He.DefD := ⟨("_law_marks", none), "_law_marks", "_law_marks", defArgs s_law_marks, defBody s_law_marks, defScope s_law_marks, [], []⟩
def d_law_is_marked : He.DefD := ⟨("_law_is_marked", none), "_law_is_marked", "_law_is_marked", defArgs s_law_is_marked, defBody s_law_is_marked, defScope s_law_is_marked, [], []⟩
def d_law_small : He.DefD := ⟨("_law_small", none), "_law_small", "_law_small", defArgs s_law_small, defBody s_law_small, defScope s_law_small, [], []⟩
def d_law_is_int : He.DefD := ⟨("_law_is_int", none), "_law_is_int", "_law_is_int", defArgs s_law_is_int, defBody s_law_is_int, defScope s_law_is_int, [], []⟩
def d_law_is_in : He.DefD := ⟨("_law_is_in", none), "_law_is_in", "_law_is_in", defArgs s_law_is_in, defBody s_law_is_in, defScope s_law_is_in, [], []⟩
def d_law_deep : He.DefD := ⟨("_law_deep", none), "_law_deep", "_law_deep", defArgs s_law_deep, defBody s_law_deep, defScope s_law_deep, [], []⟩
def d_law_packed : He.DefD := ⟨("_law_packed", none), "_law_packed", "_law_packed", defArgs s_law_packed, defBody s_law_packed, defScope s_law_packed, [], []⟩
def d_law_unpacked : He.DefD := ⟨("_law_unpacked", none), "_law_unpacked", "_law_unpacked", defArgs s_law_unpacked, defBody s_law_unpacked, defScope s_law_unpacked, [], []⟩
def d_law_wrong : He.DefD := ⟨("_law_wrong", none), "_law_wrong", "_law_wrong", defArgs s_law_wrong, defBody s_law_wrong, defScope s_law_wrong, [], []⟩
def d_law_made : He.DefD := ⟨("_law_made", none), "_law_made", "_law_made", defArgs s_law_made, defBody s_law_made, defScope s_law_made, [], []⟩
def d_law_odd : He.DefD := ⟨("_law_odd", none), "_law_odd", "_law_odd", defArgs s_law_odd, defBody s_law_odd, defScope s_law_odd, [], []⟩
def d_law_bent_rows : He.DefD := ⟨("_law_bent_rows", none), "_law_bent_rows", "_law_bent_rows", defArgs s_law_bent_rows, defBody s_law_bent_rows, defScope s_law_bent_rows, [], []⟩
def d_law_flag : He.DefD := ⟨("_law_flag", none), "_law_flag", "_law_flag", defArgs s_law_flag, defBody s_law_flag, defScope s_law_flag, [], []⟩
def d_law_bent_parts : He.DefD := ⟨("_law_bent_parts", none), "_law_bent_parts", "_law_bent_parts", defArgs s_law_bent_parts, defBody s_law_bent_parts, defScope s_law_bent_parts, [], []⟩
def d_law_is_odd_told : He.DefD := ⟨("_law_is_odd_told", none), "_law_is_odd_told", "_law_is_odd_told", defArgs s_law_is_odd_told, defBody s_law_is_odd_told, defScope s_law_is_odd_told, [], []⟩
def d_law : He.DefD := ⟨("law", none), "law", "law", defArgs s_law, defBody s_law, defScope s_law, [], []⟩
def fn0 : List He.DefD := [d_BadPoly_init, d_BadSystem_init, d_is_integer, d_is_number_to, d_is_unknown, d_is_fraction, d_is_point, d_greatest_powers, d_packed, d_unpacked, d_scaled_terms, d_product_terms, d_added_products, d_Poly_init, d_Poly_eq, d_is_term]
def fn1 : List He.DefD := [d_is_powers, d_poly_with, d_gathered, d_number_poly, d_with_power, d_plus, d_added, d_times, d_raised, d_number_raised, d_top, d_degree, d_lead, d_slope, d_worth, d_weights_of]
def fn2 : List He.DefD := [d_stands_in, d_System_init, d_System_eq, d_is_root, d_has_root_at, d_lacks, d_is_paper_by, d_are_polys, d_sum_of_products, d_is_chain, d_needed, d_cover_fault, d_is_cover, d_followed, d_states_behind, d_adds_up]
def fn3 : List He.DefD := [d_may_be_product, d_powers_together, d_matches, d_chain_of, d_holds_as_leaf, d_law_hand, d_law_draw, d_law_any, d_law_var, d_law_plus, d_law_mark, d_law_marks, d_law_is_marked, d_law_small, d_law_is_int, d_law_is_in]
def fn4 : List He.DefD := [d_law_deep, d_law_packed, d_law_unpacked, d_law_wrong, d_law_made, d_law_odd, d_law_bent_rows, d_law_flag, d_law_bent_parts, d_law_is_odd_told, d_law]
def fn : List He.DefD := fn0 ++ fn1 ++ fn2 ++ fn3 ++ fn4

abbrev FnP (K : PySem.W.Frag) (x qual : Str) (st : Stmt) (f : Addr) (fd : FuncData) : Prop := FunD K x qual (defArgs st) (defBody st) (defScope st) [] [] f fd
end K09

set_option Elab.async false
set_option linter.all false
set_option maxRecDepth 100000
set_option maxHeartbeats 0
namespace K09
open PySem PySem.Spec PyProof.Rows L2 XV DX XF He HandSHeadRun
/-! ### the head -/
def names0 : List PySem.Str := ["RootError", "BadPoly", "BadSystem", "NoInteger", "NoUnknown", "NoPoint", "NoChain", "UNKNOWNS", "is_integer", "is_number_to", "is_unknown", "is_fraction", "is_point", "greatest_powers"]
def names1 : List PySem.Str := ["packed", "unpacked", "scaled_terms", "product_terms", "added_products", "MOST_TERMS", "MOST_POWER", "NO_POWERS", "Poly", "is_term", "is_powers", "poly_with", "gathered", "number_poly"]
def names2 : List PySem.Str := ["with_power", "plus", "added", "times", "raised", "number_raised", "top", "degree", "lead", "slope", "worth", "weights_of", "stands_in", "MOST_UNKNOWNS"]
def names3 : List PySem.Str := ["MOST_POLYS", "System", "is_root", "has_root_at", "lacks", "is_paper_by", "are_polys", "sum_of_products", "is_chain", "needed", "MOST_TIMES", "cover_fault", "is_cover", "followed"]
def names4 : List PySem.Str := ["states_behind", "adds_up", "may_be_product", "powers_together", "matches", "chain_of", "holds_as_leaf", "_law_hand", "_law_draw", "_law_any", "_law_var", "_law_plus", "_law_mark", "_law_marks"]
def names5 : List PySem.Str := ["_law_is_marked", "_law_small", "_law_is_int", "_law_is_in", "_law_deep", "_law_packed", "_law_unpacked", "_law_wrong", "_law_made", "_law_odd", "_law_bent_rows", "_law_flag", "_law_bent_parts", "_law_is_odd_told"]
def names : List PySem.Str := names0 ++ (names1 ++ (names2 ++ (names3 ++ (names4 ++ (names5)))))
def fa0 : List He.Fa := [.glo "is_integer", .glo "is_number_to", .glo "is_fraction", .glo "is_point", .glo "greatest_powers", .glo "is_term", .glo "is_powers", .glo "top", .glo "stands_in", .glo "is_root", .glo "cover_fault", .glo "is_cover", .glo "followed", .glo "states_behind"]
def fa1 : List He.Fa := [.glo "_law_hand", .glo "_law_draw", .glo "_law_any", .glo "_law_var", .glo "_law_plus", .glo "_law_mark", .glo "_law_marks", .glo "_law_is_marked", .glo "_law_small", .glo "_law_is_int", .glo "_law_is_in", .glo "_law_deep", .glo "_law_packed", .glo "_law_unpacked"]
def fa2 : List He.Fa := [.glo "_law_wrong", .glo "_law_made", .glo "_law_odd", .glo "_law_bent_rows", .glo "_law_flag", .glo "_law_bent_parts", .glo "_law_is_odd_told", .glo "law", .glo "Poly", .glo "System", .glo "RootError", .free "len", .free "int", .free "abs"]
def fa3 : List He.Fa := [.free "range", .free "isinstance", .free "bool", .free "tuple", .free "enumerate", .free "ValueError", .free "list", .free "dict", .free "sorted", .free "max", .free "all", .free "str", .cls "Poly", .mkr "Poly"]
def fa4 : List He.Fa := [.meth "Poly" "__eq__", .noat "Poly" "terms", .cls "System", .mkr "System", .meth "System" "__eq__", .noat "System" "many", .noat "System" "equations", .noat "System" "barred", .int "UNKNOWNS" 4, .int "MOST_POWER" 60, .int "MOST_TERMS" 300, .int "MOST_UNKNOWNS" 3, .int "MOST_POLYS" 6]
def fa : List He.Fa := fa0 ++ (fa1 ++ (fa2 ++ (fa3 ++ (fa4))))
def fnH0 : List He.DefD := [d_BadSystem_init, d_is_integer, d_is_number_to, d_is_fraction, d_is_point, d_greatest_powers, d_Poly_init, d_Poly_eq, d_is_term, d_is_powers, d_top, d_stands_in, d_System_init, d_System_eq]
def fnH1 : List He.DefD := [d_is_root, d_cover_fault, d_is_cover, d_followed, d_states_behind, d_law_hand, d_law_draw, d_law_any, d_law_var, d_law_plus, d_law_mark, d_law_marks, d_law_is_marked, d_law_small]
def fnH2 : List He.DefD := [d_law_is_int, d_law_is_in, d_law_deep, d_law_packed, d_law_unpacked, d_law_wrong, d_law_made, d_law_odd, d_law_bent_rows, d_law_flag, d_law_bent_parts, d_law_is_odd_told, d_law]
def fnH : List He.DefD := fnH0 ++ (fnH1 ++ (fnH2))
def kitB2 (K : PySem.W.Frag) (x : Str) (c : Value) (b : Bool) : Bool := decide (PySem.W.kitOne K (.ref (ga K x)) c = some b)
/-- what is asked of an own class -/
def ownB (K : PySem.W.Frag) (x : Str) : Bool := eqO (PySem.W.findIn K (.ref (ga K x)) "__class__") (some (some (.builtin "object.__class__"))) && (decide (PySem.W.mroIn K (ga K x) (.type "object") = some true) && ((sixT.all fun T => kitB2 K x (.type T) false) && (isB K x x true && (("NoneType" :: sixT).all fun T => decide (PySem.W.kitOne K (.type T) (.ref (ga K x)) = some false)))))
/-- all else that is asked of the written part -/
def ex (K : PySem.W.Frag) : Bool := errB K "BadSystem" && (fldB K "BadSystem" "part" && (decide (PySem.W.exmOne K (.ref (ga K "BadSystem")) (.ref (ga K "BadSystem")) = some true) && (isB K "BadSystem" "RootError" true && (kitB2 K "BadSystem" (.type "ValueError") true &&
  (eqO (PySem.W.nsIn K mainGlobals "gcd") (some (some (.builtin "math.gcd"))) && (eqO (PySem.W.specialIn K (.builtin "object.__class__") "__get__") (some (some (.builtin "getset_descriptor.__get__"))) && (decide (PySem.W.takesIn K (.builtin "object.__class__") = some true) &&
  (ownB K "Poly" && (ownB K "System" && PySem.W.notFirst K (ga K "System") (.type "tuple"))))))))))
abbrev R : PySem.W.OpenRow := PySem.W.OpenLaw.row PySem.Challenge.rw_boxedroots_k09_systems_refused
def hookZ (n : Nat) (fa : List Fa) (fn : List DefD) (ex : PySem.W.Frag → Bool) : PySem.W.Hook where
  α := AlD × Bool
  obs := fun s => (obsDG n fa fn s.heap.get?, ex (frG s.heap.get? (asD s.heap.get? n)))
  val := fun _ => (valD fn, true)
  says := fun _ h => ∃ K : PySem.W.Frag, K.In h ∧ SaysD fa fn K ∧ ex K = true
  of := fun _ _ e => ⟨_, frG_in, congrArg Prod.fst e, congrArg Prod.snd e⟩
  keeps := fun _ _ _ ⟨K, hK, c, c2⟩ k => ⟨K, PySem.W.Frag.In.keeps hK k, c, c2⟩
abbrev hz : PySem.W.Hook := hookZ 5 fa fnH ex
def ob (s : PySem.W.SharedT) : AlD × Bool := (obsDG 5 fa fnH (HandSHeadRun.getT s), ex (frG (HandSHeadRun.getT s) (asD (HandSHeadRun.getT s) 5)))
theorem ob_eq (s : PySem.W.SharedT) : ob s = hz.obs s.abs := by
  have e : HandSHeadRun.getT s = s.abs.heap.get? := funext (HandSHeadRun.getT_eq s)
  show (obsDG 5 fa fnH (HandSHeadRun.getT s), ex (frG (HandSHeadRun.getT s) (asD (HandSHeadRun.getT s) 5))) = (obsDG 5 fa fnH s.abs.heap.get?, ex (frG s.abs.heap.get? (asD s.abs.heap.get? 5)))
  rw [e]
section
open PySem.W
/-- the top's run, bound 60000 -/
noncomputable abbrev hdR (w : World) : Option (Shared × SharedT) := wholeF (fun p => stepQ (denQ tabQ) p w) fenceQ 60000 R.prog
noncomputable abbrev hdV : Program := PySem.W.view R.prog [0, 1, 95]
theorem run1 (w : World) : (hdR w).map (fun x => (looksF R.prog x.1.heap x.2.abs, seenQ hdV names (importedModules R.prog.main.body) (fun s => xlAt hdV [] s && recOk R.toRowW.records s) x.2.abs)) = some (true, openGood hdV names) := by kernel_rfl
theorem run2 (w : World) : (hdR w).map (fun x => obsDG 5 fa [] (HandSHeadRun.getT x.2)) = some (valD []) := by kernel_rfl
theorem run3 (w : World) : (hdR w).map (fun x => obsDG 5 [] fnH (HandSHeadRun.getT x.2)) = some (valD fnH) := by kernel_rfl
theorem run4 (w : World) : (hdR w).map (fun x => ex (frG (HandSHeadRun.getT x.2) (asD (HandSHeadRun.getT x.2) 5))) = some true := by kernel_rfl
theorem obsD_cat {fa : List Fa} {fn : List DefD} {K : PySem.W.Frag} (h1 : obsD fa [] K = valD []) (h2 : obsD [] fn K = valD fn) : obsD fa fn K = valD fn := by
  have a1 : ((fa.all fun f => f.ok K) && ([] : List DefD).all fun d => d.ok K) = true := congrArg Prod.fst h1
  have b1 : ((([] : List Fa).all fun f => f.ok K) && fn.all fun d => d.ok K) = true := congrArg Prod.fst h2
  have b2 : fn.map (fun d => fnW K d.at_) = fn.map DefD.val := congrArg Prod.snd h2
  obtain ⟨a, _⟩ := ba a1
  obtain ⟨_, b⟩ := ba b1
  show (((fa.all fun f => f.ok K) && fn.all fun d => d.ok K), fn.map fun d => fnW K d.at_) = (true, fn.map DefD.val)
  rw [a, b, b2]; rfl
theorem run_cat {α β γ δ : Type} {o : Option α} {A : α → β} {C1 C2 : α → γ} {C : α → γ} {X : α → Bool} {b : β} {c1 c2 c : γ} (h1 : o.map A = some b) (h2 : o.map C1 = some c1) (h3 : o.map C2 = some c2) (h4 : o.map X = some true) (f : β × γ × Bool → δ) (hc : ∀ x, C1 x = c1 → C2 x = c2 → C x = c) :
    o.map (fun x => f (A x, C x, X x)) = some (f (b, c, true)) := by
  cases o with
  | none => cases h1
  | some x =>
    have e1 := Option.some.inj h1
    have e4 := Option.some.inj h4
    have e := hc x (Option.some.inj h2) (Option.some.inj h3)
    show some (f (A x, C x, X x)) = _
    rw [e1, e, e4]
theorem run (w : World) : HandSHeadRun.RunEqI R hdV hz ob 60000 names w := by
  unfold HandSHeadRun.RunEqI
  exact run_cat (run1 w) (run2 w) (run3 w) (run4 w) (fun z => (z.1.1, z.1.2, z.2)) fun x e1 e2 => obsD_cat e1 e2
end
end K09

set_option Elab.async false
set_option linter.all false
set_option maxRecDepth 100000
set_option maxHeartbeats 4000000
namespace K09
open PySem PySem.Spec PyProof.Rows L2

/-- the drawing hand's pairs -/
def hk (c : Addr) (a g s t : Int) : List (Key × V) := [(.inr "cells", .ref c), (.inr "at", .int a), (.inr "great", .int g), (.inr "seed", .int s), (.inr "turn", .int t)]
section
variable {c : Addr} {a g s t z : Int}
theorem hk_cells : valV (hk c a g s t) (.inr "cells") = some (.ref c) := by rfl
theorem hk_at : valV (hk c a g s t) (.inr "at") = some (.int a) := by rfl
theorem hk_great : valV (hk c a g s t) (.inr "great") = some (.int g) := by rfl
theorem hk_seed : valV (hk c a g s t) (.inr "seed") = some (.int s) := by rfl
theorem hk_turn : valV (hk c a g s t) (.inr "turn") = some (.int t) := by rfl
theorem hp_at : putK (hk c a g s t) (.inr "at") (.int z) = hk c z g s t := by rfl
theorem hp_great : putK (hk c a g s t) (.inr "great") (.int z) = hk c a z s t := by rfl
theorem hp_seed : putK (hk c a g s t) (.inr "seed") (.int z) = hk c a g z t := by rfl
theorem hp_turn : putK (hk c a g s t) (.inr "turn") (.int z) = hk c a g s z := by rfl
theorem hk_len : (hk c a g s t).length < sizeLine := by show 5 < sizeLine; decide
end
end K09
local macro_rules | `(tactic| walk_at "s") => `(tactic| first
  | with_reducible refine My.seq ?_
  | with_reducible refine My.ifs ?_
  | with_reducible refine My.test ?_
  | with_reducible refine My.testB ?_
  | with_reducible refine My.and_ ?_
  | with_reducible refine My.or_ ?_
  | with_reducible refine My.not_ ?_
  | with_reducible refine My.andV ?_
  | with_reducible refine My.orV ?_
  | with_reducible refine My.notV ?_
  | with_reducible refine My.ifV ?_
  | with_reducible refine My.cst ?_
  | with_reducible refine My.op ?_
  | with_reducible refine My.un ?_
  | with_reducible refine My.callB ?_
  | with_reducible refine My.cons ?_
  | with_reducible refine My.nil ?_
  | with_reducible refine My.dget ?_
  | with_reducible refine My.dput ?_
  | with_reducible refine My.asg ?_
  | with_reducible refine My.drop ?_
  | with_reducible refine My.ret ?_
  | with_reducible refine My.retN ?_
  | with_reducible refine My.call ?_
  | with_reducible refine My.lst_ ?_
  | with_reducible refine My.tup_ ?_
  | with_reducible refine My.next ?_
  | with_reducible refine My.forR1 ?_
  | with_reducible refine My.make ?_
  | with_reducible refine My.yes ?_
  | with_reducible refine My.part ?_
  | with_reducible refine My.partI ?_
  | with_reducible refine My.abs1 ?_
  | with_reducible refine My.sl ?_
  | with_reducible refine My.noPart ?_
  | with_reducible refine My.bm ?_
  | with_reducible refine My.pairs ?_
  | with_reducible refine My.pairs0 ?_
  | with_reducible refine My.forL1 ?_
  | with_reducible refine My.lcR1 ?_
  | with_reducible refine My.lcL1 ?_
  | with_reducible refine My.thenK ?_
  | with_reducible refine My.dget2 ?_
  | with_reducible refine My.chain ?_
  | with_reducible refine My.itemsT ?_
  | with_reducible refine My.callKw ?_
  | ((with_reducible apply My.var); (next => exact rfl))
  | ((with_reducible apply My.name); (next => exact rfl))
  | ((with_reducible apply My.dgetS); (next => with_reducible first | exact L2.upd_same | assumption); (next => with_reducible first | exact K09.hk_great | exact K09.hk_at | exact K09.hk_seed | exact K09.hk_turn | exact K09.hk_cells))
  | ((with_reducible apply My.dputS); (next => with_reducible first | exact L2.upd_same | assumption); (next => exact K09.hk_len); (next => with_reducible first | exact K09.hp_great | exact K09.hp_at | exact K09.hp_seed | exact K09.hp_turn))
  | ((with_reducible apply My.modA); (next => omega); intro _ _ _)
  | ((with_reducible apply My.mulR); (next => omega); (next => omega))
  | ((with_reducible apply My.mulL); (next => omega); (next => omega))
  | ((with_reducible apply My.divP); (next => omega); (next => omega))
  | ((with_reducible apply My.powP); (next => exact ⟨by decide, by decide, by decide⟩))
  | ((with_reducible apply My.lenL); (next => with_reducible assumption))
  | with_reducible refine My.rEqI ?_
  | with_reducible refine My.rNeI ?_
  | with_reducible refine My.rI0_ ?_
  | with_reducible refine My.rU_ ?_
  | with_reducible refine My.int1 ?_
  | with_reducible refine My.bl ?_
  | with_reducible refine My.ite_t ?_
  | with_reducible refine My.ite_f ?_
  | with_reducible refine My.ite_nt ?_
  | with_reducible refine My.ite_nf ?_
  | ((with_reducible apply DX.is_t); (next => exact rfl))
  | ((with_reducible apply DX.is_f); (next => exact rfl))
  | ((with_reducible apply DX.is_nt); (next => exact rfl))
  | ((with_reducible apply DX.is_nf); (next => exact rfl))
  | dsimp only)
local macro_rules | `(tactic| walk_at "f") => `(tactic| repeat' (first | walk_at "s" | with_reducible refine My.ite_d (fun _ => ?_) (fun _ => ?_)))
local macro_rules | `(tactic| walk_at "w") => `(tactic| repeat (walk_at "s"))
namespace K09
open PySem PySem.Spec PyProof.Rows L2
/-- the drawing hand at d -/
structure Hand (K : PySem.W.Frag) (H : Hp) (d c : Addr) : Prop where
  ex : ∃ (cs : List Int) (at_ gr sd tn : Int), H d = some (.dK (hk c at_ gr sd tn)) ∧ SqL K H c (cs.map V.int) ∧ c ≠ d ∧ 0 ≤ at_
/-- all but d stands -/
def But (d : Addr) (H H' : Hp) : Prop := ∀ b o, b ≠ d → H b = some o → H' b = some o
theorem But.refl (d : Addr) (H : Hp) : But d H H := fun _ _ _ h => h
theorem But.trans {d : Addr} {H H1 H2 : Hp} (a : But d H H1) (b : But d H1 H2) : But d H H2 := fun x o n h => b x o n (a x o n h)
def spDraw (K : PySem.W.Frag) : Sp := fun vs H Q _ => ∃ (d c : Addr) (m : Int), vs = [.ref d, .int m] ∧ 0 < m ∧ m < 1073741824 ∧ Hand K H d c ∧
  ∀ (r : Int) (H' : Hp), 0 ≤ r → r < m → Hand K H' d c → But d H H' → (∀ b, H b = none → H' b = none) → Q (.int r) H'
structure Txt0 (mg : Str → Option Value) : Prop where
  len : mg "len" = none
  int : mg "int" = none
  abs : mg "abs" = none
  range : mg "range" = none
  isi : mg "isinstance" = none
  bool : mg "bool" = none
  tuple : mg "tuple" = none
  enum : mg "enumerate" = none
  verr : mg "ValueError" = none
  list : mg "list" = none
  dict : mg "dict" = none
  sorted : mg "sorted" = none
  max : mg "max" = none
  all : mg "all" = none
  str : mg "str" = none
  gcd : mg "gcd" = some (.builtin "math.gcd")
theorem draw_end {K : PySem.W.Frag} {H : Hp} {d c : Addr} {cs : List Int} {o : HO} {a g s t : Int} (hd : H d = some o) (hc : SqL K H c (cs.map V.int)) (cd : c ≠ d) (a0 : 0 ≤ a) :
    Hand K (upd H d (.dK (hk c a g s t))) d c ∧ But d H (upd H d (.dK (hk c a g s t))) ∧ ∀ b, H b = none → upd H d (.dK (hk c a g s t)) b = none := by
  refine ⟨⟨cs, a, g, s, t, upd_same, ?_, cd, a0⟩, fun b o n e => ?_, fun b n => ?_⟩
  · rcases hc with h | h
    · refine .inl ?_
      rcases h with h | ⟨o, h⟩
      · exact .inl (by rw [upd_ne cd]; exact h)
      · exact .inr ⟨o, by rw [upd_ne cd]; exact h⟩
    · exact .inr h
  · rw [upd_ne n]; exact e
  · rw [upd_ne (fun z => by rw [z, hd] at n; cases n)]; exact n
theorem draw_q {K : PySem.W.Frag} {H : Hp} {d c : Addr} {cs : List Int} {o : HO} {a g s t m r : Int} {Q : VK} (k : ∀ (r : Int) (H' : Hp), 0 ≤ r → r < m → Hand K H' d c → But d H H' → (∀ b, H b = none → H' b = none) → Q (.int r) H') (hd : H d = some o) (hc : SqL K H c (cs.map V.int)) (cd : c ≠ d)
    (a0 : 0 ≤ a) (r0 : 0 ≤ r) (r1 : r < m) : Q (.int r) (upd H d (.dK (hk c a g s t))) := by
  obtain ⟨x1, x2, x3⟩ := draw_end (a := a) (g := g) (s := s) (t := t) hd hc cd a0
  exact k _ _ r0 r1 x1 x2 x3
section
variable {P : Program} {w : World} {K : PySem.W.Frag} {mg : Str → Option Value} {base : Heap}
abbrev nDraw : List Str := ["_law_hand_here", "_law_many", "_law_cell", "_law_digit", "_law_number"]
theorem sc_draw : FnScope nDraw ["_law_hand_here", "_law_many"] (defScope s_law_draw) := ⟨rfl, rfl, rfl, by decide +kernel, rfl, by decide +kernel, by decide +kernel⟩
theorem ok_draw {f : Addr} {fd : FuncData} (F : FnP K "_law_draw" "_law_draw" s_law_draw f fd) (T : Txt0 mg) : FnOk P w K mg base CX0 1 f fd ["_law_hand_here", "_law_many"] (spDraw K) := by
  refine F.ok sc_draw (fun vs H Q E h => ?_) (fun cdv A outer s H vs Q E hr h => ?_)
  · obtain ⟨d, c, m, rfl, _⟩ := h
    rfl
  · obtain ⟨d, c, m, rfl, m0, m1, ⟨cs, at_, gr, sd, tn, hd, hc, cd, a0⟩, k⟩ := h
    have hu := hu_of hr
    refine ⟨_, PSs.nox (pss_cons (ps_if (PW.pt (pw_and (pt_cmpR op_eq (pe_dget hu (pv 0) pe_str (fun _ _ => rfl)) pe_int (nomark _)) (pw_and1 (pt_cmpR op_lt (pe_dget hu (pv 0) pe_str (fun _ _ => rfl)) (pe_callB My.c_len (by rfl) T.len PySem.boot_len (pa_cons (pe_dget hu (pv 0) pe_str (fun _ _ => rfl)) pa_nil)) (nomark _)))))
        (pss_cons (ps_set (i := 2) sc_draw.nd rfl (Or.inl rfl) (pe_ix ix_list (pe_dget hu (pv 0) pe_str (fun _ _ => rfl)) (pe_dget hu (pv 0) pe_str (fun _ _ => rfl)) (fun _ _ => rfl)))
        (pss_cons (ps_dput hu (pv 0) pe_str (pe_op op_add (pe_dget hu (pv 0) pe_str (fun _ _ => rfl)) pe_int) rfl)
        (pss_cons (ps_dput hu (pv 0) pe_str (pe_op op_mod (pe_callTy My.c_int1 (by rfl) T.int boot_int (pa_cons (pe_op op_add (pe_op op_add (pe_op op_mul (pe_dget hu (pv 0) pe_str (fun _ _ => rfl)) pe_int) (pv 2)) pe_int) pa_nil)) pe_int) rfl)
        (pss_one (ps_if (pt_cmpR op_ge (pv 2) (pe_op op_pow pe_int pe_int) (nomark _)) (pss_one (ps_dput hu (pv 0) pe_str (pv 2) rfl)) pss_nil))))) pss_nil)
      (pss_cons (ps_if (pt_cmpR op_gt (pe_dget hu (pv 0) pe_str (fun _ _ => rfl)) pe_int (nomark _))
        (pss_cons (ps_set (i := 3) sc_draw.nd rfl (Or.inl rfl) (pe_op op_mod (pe_callTy My.c_int1 (by rfl) T.int boot_int (pa_cons (pe_dget hu (pv 0) pe_str (fun _ _ => rfl)) pa_nil)) (pv 1)))
        (pss_cons (ps_dput hu (pv 0) pe_str (pe_op op_fdiv (pe_dget hu (pv 0) pe_str (fun _ _ => rfl)) (pv 1)) rfl)
        (pss_one (ps_ret (pv 3))))) pss_nil)
      (pss_cons (ps_dput hu (pv 0) pe_str (pe_op op_add (pe_dget hu (pv 0) pe_str (fun _ _ => rfl)) pe_int) rfl)
      (pss_cons (ps_set (i := 4) sc_draw.nd rfl (Or.inl rfl) (pe_op op_mod (pe_callTy My.c_int1 (by rfl) T.int boot_int (pa_cons (pe_op op_mul (pe_callTy My.c_int1 (by rfl) T.int boot_int (pa_cons (pe_op op_add (pe_op op_add (pe_dget hu (pv 0) pe_str (fun _ _ => rfl)) pe_int) (pe_op op_mul pe_int (pe_dget hu (pv 0) pe_str (fun _ _ => rfl)))) pa_nil)) pe_int) pa_nil)) pe_int))
      (pss_cons (ps_set (i := 4) sc_draw.nd rfl (Or.inl rfl) (pe_op op_mod (pe_callTy My.c_int1 (by rfl) T.int boot_int (pa_cons (pe_op op_mul (pv 4) (pe_op op_add (pe_op op_fdiv (pv 4) pe_int) pe_int)) pa_nil)) pe_int))
      (pss_cons (ps_set (i := 4) sc_draw.nd rfl (Or.inl rfl) (pe_op op_mod (pe_callTy My.c_int1 (by rfl) T.int boot_int (pa_cons (pe_op op_mul (pv 4) (pe_op op_add (pe_op op_fdiv (pv 4) pe_int) pe_int)) pa_nil)) pe_int))
      (pss_one (ps_ret (pe_op op_mod (pe_callTy My.c_int1 (by rfl) T.int boot_int (pa_cons (pe_op op_fdiv (pv 4) pe_int) pa_nil)) (pv 1)))))))))), ?_⟩
    dsimp only [cxOf, Cx.nox, Cx.wish]
    walk_at "f"
    · rename_i h1 h2
      obtain ⟨v, e, hm⟩ := My.atI_of (xs := cs.map V.int) a0 h2
      obtain ⟨z, _, rfl⟩ := List.mem_map.mp hm
      refine My.ixL hc e ?_
      walk_at "f"
      all_goals
        simp only [upd_upd]
        exact draw_q k hd hc cd (by omega) (by assumption) (by assumption)
    all_goals exact draw_q k hd hc cd a0 (by assumption) (by assumption)
end
end K09

set_option Elab.async false
set_option linter.all false
set_option maxRecDepth 100000
set_option maxHeartbeats 4000000
namespace K09
open PySem PySem.Spec PyProof.Rows L2 XV
/-! ### heaps -/
theorem same_new {H : Hp} {p : Addr} {o : HO} (h : H p = none) : Same H (upd H p o) := fun b u e => by
  rw [upd_ne (ne_of_none e h)]; exact e
theorem Same.but {d : Addr} {H H' : Hp} (s : Same H H') : But d H H' := fun b o _ e => s b o e
theorem Hand.same {K : PySem.W.Frag} {H H' : Hp} {d c : Addr} (h : Hand K H d c) (s : Same H H') : Hand K H' d c := by
  obtain ⟨cs, a, g, sd, tn, hd, hc, cd, a0⟩ := h
  exact ⟨cs, a, g, sd, tn, s _ _ hd, s.seq hc, cd, a0⟩
theorem Hand.dk {K : PySem.W.Frag} {H : Hp} {d c : Addr} (h : Hand K H d c) : ∃ kvs, H d = some (.dK kvs) := by
  obtain ⟨cs, a, g, sd, tn, hd, _⟩ := h
  exact ⟨_, hd⟩
theorem But.list {K : PySem.W.Frag} {H H' : Hp} {d c p : Addr} {xs : List V} (b : But d H H') (h : Hand K H d c) (l : SqL K H p xs) : SqL K H' p xs := by
  obtain ⟨kvs, hd⟩ := h.dk
  have ne : ∀ o, H p = some o → (∀ ks, o ≠ .dK ks) → p ≠ d := fun o e n z => by
    rw [z, hd] at e
    exact n kvs (Option.some.inj e).symm
  rcases l with (l | ⟨o, l⟩) | l
  · exact .inl (.inl (b _ _ (ne _ l (fun ks z => by cases z)) l))
  · exact .inl (.inr ⟨o, b _ _ (ne _ l (fun ks z => by cases z)) l⟩)
  · exact .inr l
theorem But.obj {K : PySem.W.Frag} {H H' : Hp} {d c p : Addr} {o : HO} (b : But d H H') (h : Hand K H d c) (e : H p = some o) (n : ∀ ks, o ≠ .dK ks) : H' p = some o := by
  obtain ⟨kvs, hd⟩ := h.dk
  exact b _ _ (fun z => by rw [z, hd] at e; exact n kvs (Option.some.inj e).symm) e
/-! ### polynomials: their keys and counts -/
abbrev Pol := List (List Int × Int)
def kvI (m : Pol) : List (List L2.Key × V) := m.map fun p => (DX.ik p.1, .int p.2)
/-- the dict of a polynomial -/
abbrev PolD (H : Hp) (b : Addr) (m : Pol) : Prop := H b = some (.dT (kvI m))
/-- powers up to 60, four of them, no two alike, no count 0 -/
structure WF (m : Pol) : Prop where
  nd : (m.map (·.1)).Nodup
  len : ∀ p ∈ m, p.1.length = 4
  bd : ∀ p ∈ m, ∀ i ∈ p.1, 0 ≤ i ∧ i ≤ 60
  nz : ∀ p ∈ m, p.2 ≠ 0
  few : m.length ≤ 50
/-- the list ['P', dict] -/
def Mark (H : Hp) (v : V) (m : Pol) : Prop := ∃ a b, v = .ref a ∧ H a = some (.lst [.str "P", .ref b]) ∧ PolD H b m
/-- a list that is no mark -/
def Unm (H : Hp) (xs : List V) : Prop := (xs.length = 2 → ∃ a ys, xs[0]? = some (.ref a) ∧ H a = some (.lst ys)) ∧ ∀ i : Int, xs[0]? ≠ some (.int i)
/-- what can be packed, nested less than n deep -/
def Pk (d : Addr) (H : Hp) : Nat → V → Prop
  | 0 => fun _ => False
  | n + 1 => fun v => flatV v = true ∨ (∃ m, Mark H v m ∧ WF m) ∨ (∃ a xs, v = .ref a ∧ H a = some (.tup xs) ∧ xs.length ≤ 1000 ∧ ∀ x ∈ xs, Pk d H n x) ∨ (∃ a xs, v = .ref a ∧ H a = some (.lst xs) ∧ Unm H xs ∧ xs.length ≤ 1000 ∧ ∀ x ∈ xs, Pk d H n x) ∨
    ∃ a ks, v = .ref a ∧ H a = some (.dK ks) ∧ a ≠ d
/-- d stands, and all else that matters -/
def Keep (d : Addr) (H H' : Hp) : Prop := ∀ b o, b ≠ d → H b = some o → H' b = some o
theorem Mark.keep {d : Addr} {H H' : Hp} {v : V} {m : Pol} (hd : ∀ o, H d = some o → ∃ ks, o = .dK ks) (k : But d H H') (h : Mark H v m) : Mark H' v m := by
  obtain ⟨a, b, e, ha, hb⟩ := h
  have ne : ∀ {a : Addr} {o : HO}, H a = some o → (∀ ks, o ≠ .dK ks) → a ≠ d := fun h n z => by
    rw [z] at h
    obtain ⟨ks, e⟩ := hd _ h
    exact n ks e
  exact ⟨a, b, e, k _ _ (ne ha (fun _ z => by cases z)) ha, k _ _ (ne hb (fun _ z => by cases z)) hb⟩
theorem Pk.keep {d : Addr} {H H' : Hp} (hd : ∀ o, H d = some o → ∃ ks, o = .dK ks) (k : But d H H') : ∀ {n : Nat} {v : V}, Pk d H n v → Pk d H' n v
  | 0, _, h => h.elim
  | n + 1, v, h => by
    have ne : ∀ {a : Addr} {o : HO}, H a = some o → (∀ ks, o ≠ .dK ks) → a ≠ d := fun h n z => by
      rw [z] at h
      obtain ⟨ks, e⟩ := hd _ h
      exact n ks e
    rcases h with h | ⟨m, h, w⟩ | ⟨a, xs, e, ha, ll, h⟩ | ⟨a, xs, e, ha, u, ll, h⟩ | ⟨a, ks, e, ha, na⟩
    · exact .inl h
    · exact .inr (.inl ⟨m, h.keep hd k, w⟩)
    · exact .inr (.inr (.inl ⟨a, xs, e, k _ _ (ne ha (fun _ z => by cases z)) ha, ll, fun x hx => Pk.keep hd k (h x hx)⟩))
    · refine .inr (.inr (.inr (.inl ⟨a, xs, e, k _ _ (ne ha (fun _ z => by cases z)) ha, ⟨fun z => ?_, u.2⟩, ll, fun x hx => Pk.keep hd k (h x hx)⟩)))
      obtain ⟨b, ys, g1, g2⟩ := u.1 z
      exact ⟨b, ys, g1, k _ _ (ne g2 (fun _ z => by cases z)) g2⟩
    · exact .inr (.inr (.inr (.inr ⟨a, ks, e, k _ _ na ha, na⟩)))
theorem Pk.mono {d : Addr} {H : Hp} : ∀ {n m : Nat} {v : V}, Pk d H n v → n ≤ m → Pk d H m v
  | 0, _, _, h, _ => h.elim
  | n + 1, 0, _, _, z => absurd z (by omega)
  | n + 1, m + 1, v, h, z => by
    rcases h with h | h | ⟨a, xs, e, ha, ll, h⟩ | ⟨a, xs, e, ha, u, ll, h⟩ | h
    · exact .inl h
    · exact .inr (.inl h)
    · exact .inr (.inr (.inl ⟨a, xs, e, ha, ll, fun x hx => Pk.mono (h x hx) (by omega)⟩))
    · exact .inr (.inr (.inr (.inl ⟨a, xs, e, ha, u, ll, fun x hx => Pk.mono (h x hx) (by omega)⟩)))
    · exact .inr (.inr (.inr (.inr h)))
theorem Pk.same {d : Addr} {H H' : Hp} {n : Nat} {v : V} (hd : ∀ o, H d = some o → ∃ ks, o = .dK ks) (s : Same H H') (h : Pk d H n v) : Pk d H' n v := h.keep hd (Same.but s)
theorem Hand.dko {K : PySem.W.Frag} {H : Hp} {d c : Addr} (h : Hand K H d c) : ∀ o, H d = some o → ∃ ks, o = .dK ks := fun o e => by
  obtain ⟨ks, hd⟩ := h.dk
  rw [hd] at e
  exact ⟨ks, (Option.some.inj e).symm⟩
/-- what _law_deep makes: one item a level -/
def Dp (d : Addr) (H : Hp) : Nat → V → Prop
  | 0 => fun _ => False
  | n + 1 => fun v => (flatV v = true ∧ ∀ i : Int, v ≠ .int i) ∨ (∃ a xs, v = .ref a ∧ H a = some (.tup xs) ∧ xs.length ≤ 1 ∧ ∀ x ∈ xs, Dp d H n x) ∨ (∃ a xs, v = .ref a ∧ H a = some (.lst xs) ∧ xs.length ≤ 1 ∧ ∀ x ∈ xs, Dp d H n x) ∨ ∃ a ks, v = .ref a ∧ H a = some (.dK ks) ∧ a ≠ d
theorem Dp.ni {d : Addr} {H : Hp} {n : Nat} {v : V} (h : Dp d H n v) (i : Int) : v ≠ .int i := by
  cases n with
  | zero => exact h.elim
  | succ n =>
    rcases h with h | ⟨a, xs, e, _⟩ | ⟨a, xs, e, _⟩ | ⟨a, xs, e, _⟩
    · exact h.2 i
    all_goals (rw [e]; intro z; cases z)
theorem Dp.pk {d : Addr} {H : Hp} : ∀ {n : Nat} {v : V}, Dp d H n v → Pk d H n v
  | 0, _, h => h.elim
  | n + 1, v, h => by
    rcases h with h | ⟨a, xs, e, ha, l, h⟩ | ⟨a, xs, e, ha, l, h⟩ | h
    · exact .inl h.1
    · exact .inr (.inr (.inl ⟨a, xs, e, ha, by omega, fun x hx => Dp.pk (h x hx)⟩))
    · exact .inr (.inr (.inr (.inl ⟨a, xs, e, ha, ⟨fun z => absurd z (by omega), fun i z => Dp.ni (h _ (List.mem_iff_getElem?.mpr ⟨0, z⟩)) i rfl⟩, by omega, fun x hx => Dp.pk (h x hx)⟩)))
    · exact .inr (.inr (.inr (.inr h)))
theorem Dp.keep {d : Addr} {H H' : Hp} (hd : ∀ o, H d = some o → ∃ ks, o = .dK ks) (k : But d H H') : ∀ {n : Nat} {v : V}, Dp d H n v → Dp d H' n v
  | 0, _, h => h.elim
  | n + 1, v, h => by
    have ne : ∀ {a : Addr} {o : HO}, H a = some o → (∀ ks, o ≠ .dK ks) → a ≠ d := fun h n z => by
      rw [z] at h
      obtain ⟨ks, e⟩ := hd _ h
      exact n ks e
    rcases h with h | ⟨a, xs, e, ha, l, h⟩ | ⟨a, xs, e, ha, l, h⟩ | ⟨a, ks, e, ha, na⟩
    · exact .inl h
    · exact .inr (.inl ⟨a, xs, e, k _ _ (ne ha (fun _ z => by cases z)) ha, l, fun x hx => Dp.keep hd k (h x hx)⟩)
    · exact .inr (.inr (.inl ⟨a, xs, e, k _ _ (ne ha (fun _ z => by cases z)) ha, l, fun x hx => Dp.keep hd k (h x hx)⟩))
    · exact .inr (.inr (.inr ⟨a, ks, e, k _ _ na ha, na⟩))
theorem Dp.mono {d : Addr} {H : Hp} : ∀ {n m : Nat} {v : V}, Dp d H n v → n ≤ m → Dp d H m v
  | 0, _, _, h, _ => h.elim
  | n + 1, 0, _, _, z => absurd z (by omega)
  | n + 1, m + 1, v, h, z => by
    rcases h with h | ⟨a, xs, e, ha, l, h⟩ | ⟨a, xs, e, ha, l, h⟩ | h
    · exact .inl h
    · exact .inr (.inl ⟨a, xs, e, ha, l, fun x hx => Dp.mono (h x hx) (by omega)⟩)
    · exact .inr (.inr (.inl ⟨a, xs, e, ha, l, fun x hx => Dp.mono (h x hx) (by omega)⟩))
    · exact .inr (.inr (.inr h))
theorem Dp.same {d : Addr} {H H' : Hp} {n : Nat} {v : V} (hd : ∀ o, H d = some o → ∃ ks, o = .dK ks) (s : Same H H') (h : Dp d H n v) : Dp d H' n v := h.keep hd (Same.but s)
/-! ### _law_any -/
def spAny (K : PySem.W.Frag) : Sp := fun vs H Q _ => ∃ (d c p : Addr) (xs : List V), vs = [.ref d, .ref p] ∧ Hand K H d c ∧ SqL K H p xs ∧ 0 < xs.length ∧ xs.length < 1000 ∧
  ∀ (v : V) (H' : Hp), v ∈ xs → Hand K H' d c → But d H H' → (∀ b, H b = none → H' b = none) → Q v H'
section
variable {P : Program} {w : World} {K : PySem.W.Frag} {mg : Str → Option Value} {base : Heap}
theorem sc_any : FnScope ["_law_hand_here", "_law_things"] ["_law_hand_here", "_law_things"] (defScope s_law_any) := ⟨rfl, rfl, rfl, by decide +kernel, rfl, by decide +kernel, by decide +kernel⟩
theorem ok_any {f fD : Addr} {fd fdD : FuncData} (F : FnP K "_law_any" "_law_any" s_law_any f fd) (T : Txt0 mg) (F_law_draw : FnP K "_law_draw" "_law_draw" s_law_draw fD fdD) (g_law_draw : mg "_law_draw" = some (.ref fD)) :
    FnOk P w K mg base CX0 2 f fd ["_law_hand_here", "_law_things"] (spAny K) := by
  have G_law_draw : FnOk P w K mg base CX0 1 fD fdD ["_law_hand_here", "_law_many"] (spDraw K) := ok_draw F_law_draw T
  have b_law_draw : Binds K fdD ["_law_hand_here", "_law_many"] [] := F_law_draw.bindsN fun _ _ _ _ _ _ us hl => match us, hl with | [_, _], _ => rfl
  refine F.ok sc_any (fun vs H Q E h => ?_) (fun cdv A outer s H vs Q E hr h => ?_)
  · obtain ⟨d, c, p, xs, rfl, _⟩ := h
    rfl
  · obtain ⟨d, c, p, xs, rfl, hh, hl, l0, l1, k⟩ := h
    refine ⟨_, PSs.nox (pss_one (ps_ret (pe_ix ix_list (pv 1) (pe_call G_law_draw (hr.mono (by decide)) (by rfl) g_law_draw F_law_draw.kp b_law_draw .nil pass0 (pa_cons (pv 0) (pa_cons (pe_callB My.c_len (by rfl) T.len PySem.boot_len (pa_cons (pv 1) pa_nil)) pa_nil))) (fun _ _ => rfl)))), ?_⟩
    dsimp only [cxOf, Cx.nox, Cx.wish]
    walk_at "f"
    refine ⟨d, c, xs.length, rfl, by omega, by omega, hh, fun r H' r0 r1 h1 bt fr => ?_⟩
    obtain ⟨v, e, hm⟩ := My.atI_of (xs := xs) r0 r1
    exact My.ixL (bt.list hh hl) e (k v H' hm h1 bt fr)
/-! ### _law_deep -/
def spDeep (K : PySem.W.Frag) : Sp := fun vs H Q _ => ∃ (d c : Addr), vs = [.ref d] ∧ Hand K H d c ∧ ∀ (v : V) (H' : Hp), Dp d H' 24 v → Hand K H' d c → But d H H' → Q v H'
theorem sc_deep : FnScope ["_law_hand_here", "_law_found", "_law_turn"] ["_law_hand_here"] (defScope s_law_deep) := ⟨rfl, rfl, rfl, by decide +kernel, rfl, by decide +kernel, by decide +kernel⟩
theorem ok_deep {f fD : Addr} {fd fdD : FuncData} (F : FnP K "_law_deep" "_law_deep" s_law_deep f fd) (T : Txt0 mg) (F_law_draw : FnP K "_law_draw" "_law_draw" s_law_draw fD fdD) (g_law_draw : mg "_law_draw" = some (.ref fD)) :
    FnOk P w K mg base CX0 2 f fd ["_law_hand_here"] (spDeep K) := by
  have G_law_draw : FnOk P w K mg base CX0 1 fD fdD ["_law_hand_here", "_law_many"] (spDraw K) := ok_draw F_law_draw T
  have b_law_draw : Binds K fdD ["_law_hand_here", "_law_many"] [] := F_law_draw.bindsN fun _ _ _ _ _ _ us hl => match us, hl with | [_, _], _ => rfl
  refine F.ok sc_deep (fun vs H Q E h => ?_) (fun cdv A outer s H vs Q E hr h => ?_)
  · obtain ⟨d, c, rfl, _⟩ := h
    rfl
  · obtain ⟨d, c, rfl, hh, k⟩ := h
    refine ⟨_, PSs.nox (pss_cons (ps_set (i := 1) sc_deep.nd rfl (Or.inl rfl) (pe_ix ix_list (pe_lst (pa_cons pe_non (pa_cons (pe_tup pa_nil) (pa_cons pe_str pa_nil)))) (pe_call G_law_draw (hr.mono (by decide)) (by rfl) g_law_draw F_law_draw.kp b_law_draw .nil pass0 (pa_cons (pv 0) (pa_cons pe_int pa_nil))) (fun _ _ => rfl)))
      (pss_cons (ps_for PassesOwn.never rfl (pi_range1 (by rfl) T.range (pa_cons (pe_op op_add pe_int (pe_call G_law_draw (hr.mono (by decide)) (by rfl) g_law_draw F_law_draw.kp b_law_draw .nil pass0 (pa_cons (pv 0) (pa_cons pe_int pa_nil)))) pa_nil)) (pg_name (i := 2) sc_deep.nd rfl (Or.inl rfl))
       (pss_one (ps_set (i := 1) sc_deep.nd rfl (Or.inl rfl) (pe_ix ix_list (pe_lst (pa_cons (pe_lst (pa_cons (pv 1) pa_nil)) (pa_cons (pe_tup (pa_cons (pv 1) pa_nil)) (pa_cons (pe_disp (pps_cons pe_int (pv 1) pps_nil) (by rfl) (by rfl) (fun z => by cases z) (by decide)) pa_nil)))) (pe_call G_law_draw (hr.mono (by decide)) (by rfl) g_law_draw F_law_draw.kp b_law_draw .nil pass0 (pa_cons (pv 0) (pa_cons pe_int pa_nil))) (fun _ _ => rfl)))))
      (pss_one (ps_ret (pv 1))))), ?_⟩
    dsimp only [cxOf, Cx.nox, Cx.wish]
    walk_at "f"
    refine My.new (My.sz (by simp)) fun p1 n1 => ?_
    walk_at "f"
    refine My.new (My.sz (by simp)) fun p2 n2 => ?_
    walk_at "f"
    refine ⟨d, c, 3, rfl, by decide, by decide, (hh.same (same_new n1)).same (same_new n2), fun r H1 r0 r1 h1 b1 _ => ?_⟩
    have hh2 := (hh.same (same_new (o := .tup []) n1)).same (same_new (o := .lst [V.non, .ref p1, .str "x"]) n2)
    have o1 := b1.obj hh2 (same_new n2 _ _ upd_same) (fun _ z => by cases z)
    have o2 := b1.list hh2 (SqL.of upd_same)
    obtain ⟨v, e, hm⟩ := My.atI_of (xs := [V.non, .ref p1, .str "x"]) r0 (by simpa using r1)
    refine My.ixL o2 e ?_
    have tv : Dp d H1 1 v := by
      simp only [List.mem_cons, List.not_mem_nil, or_false] at hm
      rcases hm with rfl | rfl | rfl
      · exact .inl ⟨rfl, fun i z => by cases z⟩
      · exact .inr (.inl ⟨_, _, rfl, o1, Nat.zero_le _, fun v hv => by cases hv⟩)
      · exact .inl ⟨rfl, fun i z => by cases z⟩
    have bt : But d H H1 := (Same.but ((same_new n1).trans (same_new n2))).trans b1
    walk_at "f"
    refine ⟨d, c, 8, rfl, by decide, by decide, h1, fun m H2 m0 m1 h2 b2 _ => ?_⟩
    have bt2 := bt.trans b2
    have tv2 := tv.keep h1.dko b2
    walk_at "f"
    refine My.rngI (by omega) (by omega) (fun i σ H' => ∃ v u, σ = [some (.ref d), some v, u] ∧ Dp d H' (i + 1) v ∧ Hand K H' d c ∧ But d H H') ⟨v, none, rfl, tv2, h2, bt2⟩ ?_ ?_
    · rintro i σ H3 hi ⟨v3, u, rfl, t3, h3, b3⟩
      walk_at "f"
      refine My.new (My.sz (by simp)) fun p1 n1 => ?_
      walk_at "f"
      refine My.new (My.sz (by simp)) fun p2 n2 => ?_
      walk_at "f"
      refine My.disp fun p3 n3 => ?_
      walk_at "f"
      refine ⟨upd_same, [(.inl 0, v3)], rfl, by simp, ?_⟩
      walk_at "f"
      refine My.new (My.sz (by simp)) fun p4 n4 => ?_
      walk_at "f"
      have em : mergeK [] [((.inl 0 : Key), v3)] = [(.inl 0, v3)] := rfl
      rw [em] at n4 ⊢
      simp only [upd_upd] at n4 ⊢
      have a1 := same_new (o := HO.lst [v3]) n1
      have a2 := same_new (o := HO.tup [v3]) n2
      have a3 := same_new (o := HO.dK [((.inl 0 : Key), v3)]) n3
      have a4 := same_new (o := HO.lst [V.ref p1, V.ref p2, V.ref p3]) n4
      have al := ((a1.trans a2).trans a3).trans a4
      have h4 := h3.same al
      have e1 := a4 _ _ (a3 _ _ (a2 _ _ (upd_same (H := H3) (a := p1) (o := HO.lst [v3]))))
      have e2 := a4 _ _ (a3 _ _ (upd_same (H := upd H3 p1 (HO.lst [v3])) (a := p2) (o := HO.tup [v3])))
      have e3 := a4 _ _ (upd_same (H := upd (upd H3 p1 (HO.lst [v3])) p2 (HO.tup [v3])) (a := p3) (o := HO.dK [((.inl 0 : Key), v3)]))
      have ne : p3 ≠ d := fun z => by
        obtain ⟨_, hd3⟩ := ((h3.same a1).same a2).dk
        rw [z, hd3] at n3
        cases n3
      have t4 := t3.same h3.dko al
      refine ⟨d, c, 3, rfl, by decide, by decide, h4, fun r H5 r0 r1 h5 b5 _ => ?_⟩
      have t5 := t4.keep h4.dko b5
      obtain ⟨v, e, hm⟩ := My.atI_of (xs := [V.ref p1, V.ref p2, V.ref p3]) r0 (by simpa using r1)
      refine My.ixL (b5.list h4 (SqL.of upd_same)) e ?_
      walk_at "f"
      refine ⟨v, _, rfl, ?_, h5, b3.trans ((Same.but al).trans b5)⟩
      have f1 := b5.obj h4 e1 (fun _ z => by cases z)
      have f2 := b5.obj h4 e2 (fun _ z => by cases z)
      have f3 := b5 _ _ ne e3
      simp only [List.mem_cons, List.not_mem_nil, or_false] at hm
      rcases hm with rfl | rfl | rfl
      · refine .inr (.inr (.inl ⟨_, _, rfl, f1, Nat.le_refl _, fun x hx => ?_⟩))
        rw [List.mem_singleton.mp hx]; exact t5
      · refine .inr (.inl ⟨_, _, rfl, f2, Nat.le_refl _, fun x hx => ?_⟩)
        rw [List.mem_singleton.mp hx]; exact t5
      · exact .inr (.inr (.inr ⟨_, _, rfl, f3, ne⟩))
    · rintro σ H3 ⟨v3, u, rfl, t3, h3, b3⟩
      walk_at "f"
      exact k v3 H3 (t3.mono (by omega)) h3 b3
/-! ### _law_hand -/
def spHand (K : PySem.W.Frag) : Sp := fun vs H Q _ => ∃ (a : Addr) (ns : List Int), vs = [.ref a] ∧ SqL K H a (ns.map V.int) ∧ ns.length ≤ 63 ∧ ∀ (d c : Addr) (H' : Hp), H d = none → Same H H' → Hand K H' d c → Q (.ref d) H'
theorem sc_hand : FnScope ["_law_script", "_law_cell", "_law_cells"] ["_law_script"] (defScope s_law_hand) := ⟨rfl, rfl, rfl, by decide +kernel, rfl, by decide +kernel, by decide +kernel⟩
theorem cut_ints (ns : List Int) (lo hi : Option Int) : ∃ ms : List Int, cutV (ns.map V.int) lo hi = ms.map V.int :=
  ⟨(ns.drop _).take _, by unfold cutV; rw [← List.map_drop, ← List.map_take]⟩
theorem ok_hand {f : Addr} {fd : FuncData} (F : FnP K "_law_hand" "_law_hand" s_law_hand f fd) (T : Txt0 mg) : FnOk P w K mg base CX0 1 f fd ["_law_script"] (spHand K) := by
  refine F.ok sc_hand (fun vs H Q E h => ?_) (fun cdv A outer s H vs Q E hr h => ?_)
  · obtain ⟨a, ns, rfl, _⟩ := h
    rfl
  · obtain ⟨a, ns, rfl, hl, h63, k⟩ := h
    refine ⟨_, PSs.nox (pss_cons (ps_setLc (i := 2) (own := [("_law_cell", 1)]) (tt := tYes) (g := gName 1) (by rfl) sc_hand.nd rfl rfl (sw_true rfl rfl rfl (by decide +kernel)) (pi_list (pe_slice sl_list (pv 0) po_none (po_some pe_int))) (blkOk_by (own := [("_law_cell", 1)]) (N := ["_law_script", "_law_cell", "_law_cells"]) (sc := (defScope s_law_hand)) (by decide +kernel)) (fun _ _ _ _ _ => (pg_name (i := 1) sc_hand.nd rfl (Or.inl rfl))) (fun _ _ _ _ _ => pts_nil) (fun _ _ _ _ _ => (pe_callB My.c_abs (by rfl) T.abs (by decide +kernel) (pa_cons (pe_callTy My.c_int1 (by rfl) T.int boot_int (pa_cons (pv 1) pa_nil)) pa_nil))))
      (pss_one (ps_ret (pe_disp (pps_cons pe_str (pv 2) (pps_cons pe_str pe_int (pps_cons pe_str pe_int (pps_cons pe_str (pe_op op_add pe_int (pe_callB My.c_len (by rfl) T.len PySem.boot_len (pa_cons (pv 2) pa_nil))) (pps_cons pe_str pe_int pps_nil))))) (by rfl) (by rfl) (fun z => by cases z) (by decide))))), ?_⟩
    dsimp only [cxOf, Cx.nox, Cx.wish]
    walk_at "f"
    refine My.slL hl fun p1 n1 => ?_
    obtain ⟨ms, em⟩ := cut_ints ns none (some 63)
    have hms : ms.length ≤ 63 := by
      have z := cutV_length (ns.map V.int) none (some 63)
      rw [em, List.length_map, List.length_map] at z
      omega
    rw [em]
    refine My.lcLI (xs := ms.map V.int) (SqL.of upd_same) fun p2 n2 => ?_
    have a1 := same_new (o := HO.lst (ms.map V.int)) n1
    have a2 := same_new (o := HO.lst []) n2
    refine ⟨fun i H' => ∃ cs : List Int, H' p2 = some (.lst (cs.map V.int)) ∧ cs.length = i ∧ Same H H' ∧ H' p1 = some (.lst (ms.map V.int)), ⟨[], upd_same, rfl, a1.trans a2, a2 _ _ upd_same⟩, fun i H' hi ⟨cs, _, _, _, h1⟩ => SqL.of h1, ?_, ?_⟩
    · rintro i x H' hx ⟨cs, h2, rfl, sm, h1⟩
      obtain ⟨z, hz, rfl⟩ : ∃ z, ms[cs.length]? = some z ∧ x = V.int z := by
        rw [List.getElem?_map] at hx
        cases e : ms[cs.length]? with
        | none => rw [e] at hx; cases hx
        | some z => rw [e] at hx; exact ⟨z, rfl, (Option.some.inj hx).symm⟩
      walk_at "f"
      refine ⟨rfl, ?_⟩
      walk_at "f"
      have hlt : cs.length < ms.length := (List.getElem?_eq_some_iff.mp hz).1
      refine ⟨_, h2, by rw [List.length_map]; exact Nat.lt_of_lt_of_le (show cs.length < 1000 by omega) (by decide), cs ++ [if z < 0 then -z else z], ?_, by simp, ?_, ?_⟩
      · rw [upd_same, List.map_append]; rfl
      · exact fun b o e => by
          rw [upd_ne (ne_of_none (a1 _ _ e) n2)]
          exact sm b o e
      · rw [upd_ne (fun z => by rw [z, h2] at h1; have z3 := Option.some.inj h1; exact absurd (ne_of_none (upd_same (H := H) (a := p1) (o := HO.lst (ms.map V.int))) n2) (fun w => w z))]
        exact h1
    · rintro H' ⟨cs, h2, hl2, sm, h1⟩
      walk_at "f"
      refine My.disp fun p3 n3 => ?_
      walk_at "f"
      refine My.lenL (SqL.of (same_new n3 _ _ h2)) ?_
      walk_at "f"
      refine ⟨upd_same, hk p2 0 0 (977 + ((cs.map V.int).length : Int)) 0, rfl, by show 5 ≤ 15; decide, ?_⟩
      have em2 : mergeK [] (hk p2 0 0 (977 + ((cs.map V.int).length : Int)) 0) = hk p2 0 0 (977 + ((cs.map V.int).length : Int)) 0 := rfl
      rw [em2, upd_upd]
      have a3 := same_new (o := HO.dK (hk p2 0 0 (977 + ((cs.map V.int).length : Int)) 0)) n3
      exact k p3 p2 _ (sm.free n3) (sm.trans a3) ⟨cs, 0, 0, _, 0, upd_same, SqL.of (a3 _ _ h2), (fun z => by rw [z] at h2; rw [h2] at n3; cases n3), Int.le_refl 0⟩
end
end K09

set_option Elab.async false
set_option linter.all false
set_option maxRecDepth 100000
set_option maxHeartbeats 4000000
namespace K09
open PySem PySem.Spec PyProof.Rows L2 XV DX
/-- a def of the text as callers need it -/
def Cal (P : Program) (w : World) (K : PySem.W.Frag) (mg : Str → Option Value) (base : Heap) (x : Str) (k : Nat) (ps : List Str) (sp : Sp) : Prop :=
  ∃ f fd, mg x = some (.ref f) ∧ FnOk P w K mg base CX0 k f fd ps sp ∧ Binds K fd ps [] ∧ PySem.W.keepIn K (.ref f) = true
theorem mem6 {T : String} (h : T ∈ sixT := by decide) : T ∈ sixT := h
/-- is it an integer that is no flag -/
def spIsInt (K : PySem.W.Frag) : Sp := fun vs H Q _ => ∃ v t, vs = [v] ∧ TgV K H v t ∧ Q (.bl (DX.isInt v)) H
/-- a number up to m -/
def inTo (m : Int) : V → Bool
  | .int i => decide (0 ≤ i) && decide (i ≤ m)
  | _ => false
def spNumTo (K : PySem.W.Frag) : Sp := fun vs H Q _ => ∃ (m : Int) (v : V) (t : Tg), vs = [.int m, v] ∧ TgV K H v t ∧ Q (.bl (inTo m v)) H
def spMark : Sp := fun vs H Q _ => ∃ v, vs = [v] ∧ ∀ p, H p = none → Q (.ref p) (upd H p (.lst [.str "P", v]))
/-- is it a mark -/
def spIsMarked (K : PySem.W.Frag) : Sp := fun vs H Q _ => ∃ v, vs = [v] ∧ (((∃ m, Mark H v m) ∧ Q (.bl true) H) ∨ ((∃ t, TgV K H v t) ∧ (∀ a xs, v = .ref a → H a = some (.lst xs) → Unm H xs) ∧ Q (.bl false) H))
section
variable {P : Program} {w : World} {K : PySem.W.Frag} {mg : Str → Option Value} {base : Heap}
theorem sc_is_integer : FnScope ["thing"] ["thing"] (defScope s_is_integer) := ⟨rfl, rfl, rfl, by decide +kernel, rfl, by decide +kernel, by decide +kernel⟩
theorem cal_is_integer {f : Addr} {fd : FuncData} (F : FnP K "is_integer" "is_integer" s_is_integer f fd) (g : mg "is_integer" = some (.ref f)) (T : Txt0 mg) : Cal P w K mg base "is_integer" 1 ["thing"] (spIsInt K) := by
  refine ⟨f, fd, g, ?_, F.bindsN (fun _ _ _ _ _ _ us hl => match us, hl with | [_], _ => rfl), F.kp⟩
  refine F.ok sc_is_integer (fun vs H Q E h => ?_) (fun cdv A outer s H vs Q E hr h => ?_)
  · obtain ⟨v, t, rfl, tv, k⟩ := h
    rfl
  · obtain ⟨v, t, rfl, tv, k⟩ := h
    refine ⟨_, PSs.nox (pss_one (ps_ret (pe_and (pe_callB call_isi (by rfl) T.isi (by decide +kernel) (pa_cons (pv 0) (pa_cons (pe_bltn (v := .ty "int") (u := .type "int") (by rfl) T.int (by decide +kernel) rfl) pa_nil))) (pe_one (pe_not (pe_callB call_isi (by rfl) T.isi (by decide +kernel) (pa_cons (pv 0) (pa_cons (pe_bltn (v := .ty "bool") (u := .type "bool") (by rfl) T.bool (by decide +kernel) rfl) pa_nil)))))))), ?_⟩
    try dsimp only [cxOf, Cx.nox, Cx.wish]
    walk_at "f"
    refine tv.isT mem6 ?_
    walk_at "f"
    cases z : t.is "int" with
    | false =>
      have e := tv.isInt
      rw [z, Bool.false_and] at e
      rw [← e] at k
      exact k
    | true =>
      walk_at "f"
      refine tv.isT mem6 ?_
      have e := tv.isInt
      rw [z, Bool.true_and] at e
      rw [← e] at k
      walk_at "f"
      exact k
theorem sc_law_is_int : FnScope ["_law_thing"] ["_law_thing"] (defScope s_law_is_int) := ⟨rfl, rfl, rfl, by decide +kernel, rfl, by decide +kernel, by decide +kernel⟩
theorem cal_law_is_int {f : Addr} {fd : FuncData} (F : FnP K "_law_is_int" "_law_is_int" s_law_is_int f fd) (g : mg "_law_is_int" = some (.ref f)) (T : Txt0 mg) : Cal P w K mg base "_law_is_int" 1 ["_law_thing"] (spIsInt K) := by
  refine ⟨f, fd, g, ?_, F.bindsN (fun _ _ _ _ _ _ us hl => match us, hl with | [_], _ => rfl), F.kp⟩
  refine F.ok sc_law_is_int (fun vs H Q E h => ?_) (fun cdv A outer s H vs Q E hr h => ?_)
  · obtain ⟨v, t, rfl, tv, k⟩ := h
    rfl
  · obtain ⟨v, t, rfl, tv, k⟩ := h
    refine ⟨_, PSs.nox (pss_one (ps_ret (pe_and (pe_callB call_isi (by rfl) T.isi (by decide +kernel) (pa_cons (pv 0) (pa_cons (pe_bltn (v := .ty "int") (u := .type "int") (by rfl) T.int (by decide +kernel) rfl) pa_nil))) (pe_one (pe_not (pe_callB call_isi (by rfl) T.isi (by decide +kernel) (pa_cons (pv 0) (pa_cons (pe_bltn (v := .ty "bool") (u := .type "bool") (by rfl) T.bool (by decide +kernel) rfl) pa_nil)))))))), ?_⟩
    try dsimp only [cxOf, Cx.nox, Cx.wish]
    walk_at "f"
    refine tv.isT mem6 ?_
    walk_at "f"
    cases z : t.is "int" with
    | false =>
      have e := tv.isInt
      rw [z, Bool.false_and] at e
      rw [← e] at k
      exact k
    | true =>
      walk_at "f"
      refine tv.isT mem6 ?_
      have e := tv.isInt
      rw [z, Bool.true_and] at e
      rw [← e] at k
      walk_at "f"
      exact k
theorem sc_is_number_to : FnScope ["most", "thing"] ["most", "thing"] (defScope s_is_number_to) := ⟨rfl, rfl, rfl, by decide +kernel, rfl, by decide +kernel, by decide +kernel⟩
theorem cal_is_number_to {f : Addr} {fd : FuncData} (F : FnP K "is_number_to" "is_number_to" s_is_number_to f fd) (g : mg "is_number_to" = some (.ref f)) (T : Txt0 mg) (C_is_integer : Cal P w K mg base "is_integer" 1 ["thing"] (spIsInt K)) : Cal P w K mg base "is_number_to" 2 ["most", "thing"] (spNumTo K) := by
  obtain ⟨f_is_integer, fd_is_integer, g_is_integer, G_is_integer, b_is_integer, k_is_integer⟩ := C_is_integer
  refine ⟨f, fd, g, ?_, F.bindsN (fun _ _ _ _ _ _ us hl => match us, hl with | [_, _], _ => rfl), F.kp⟩
  refine F.ok sc_is_number_to (fun vs H Q E h => ?_) (fun cdv A outer s H vs Q E hr h => ?_)
  · obtain ⟨m, v, t, rfl, tv, k⟩ := h
    rfl
  · obtain ⟨m, v, t, rfl, tv, k⟩ := h
    refine ⟨_, PSs.nox (pss_one (ps_ret (pe_and (pe_call G_is_integer (hr.mono (by decide)) (by rfl) g_is_integer k_is_integer b_is_integer .nil pass0 (pa_cons (pv 1) pa_nil)) (pe_one (pe_chain op_le op_le pe_int (pv 1) (pv 0)))))), ?_⟩
    try dsimp only [cxOf, Cx.nox, Cx.wish]
    walk_at "f"
    refine ⟨v, t, rfl, tv, _, rfl, ?_⟩
    cases v with
    | int i =>
      show (if true = true then _ else _)
      rw [if_pos rfl]
      walk_at "f"
      · rename_i h0
        have k' : Q (.bl (decide (0 ≤ i) && decide (i ≤ m))) H := k
        rw [decide_eq_true h0, Bool.true_and] at k'
        exact k'
      · rename_i h0
        have k' : Q (.bl (decide (0 ≤ i) && decide (i ≤ m))) H := k
        rw [decide_eq_false h0, Bool.false_and] at k'
        exact k'
    | _ => exact k
theorem sc_law_is_marked : FnScope ["_law_thing"] ["_law_thing"] (defScope s_law_is_marked) := ⟨rfl, rfl, rfl, by decide +kernel, rfl, by decide +kernel, by decide +kernel⟩
theorem cal_law_is_marked {f : Addr} {fd : FuncData} (F : FnP K "_law_is_marked" "_law_is_marked" s_law_is_marked f fd) (g : mg "_law_is_marked" = some (.ref f)) (T : Txt0 mg) : Cal P w K mg base "_law_is_marked" 1 ["_law_thing"] (spIsMarked K) := by
  refine ⟨f, fd, g, ?_, F.bindsN (fun _ _ _ _ _ _ us hl => match us, hl with | [_], _ => rfl), F.kp⟩
  refine F.ok sc_law_is_marked (fun vs H Q E h => ?_) (fun cdv A outer s H vs Q E hr h => ?_)
  · obtain ⟨v, rfl, k⟩ := h
    rfl
  · obtain ⟨v, rfl, k⟩ := h
    refine ⟨_, PSs.nox (pss_one (ps_ret (pe_and (pe_callB call_isi (by rfl) T.isi (by decide +kernel) (pa_cons (pv 0) (pa_cons (pe_bltn (v := .ty "list") (u := .type "list") (by rfl) T.list (by decide +kernel) rfl) pa_nil))) (pe_and (pe_cmpR op_eq (pe_callB My.c_len (by rfl) T.len PySem.boot_len (pa_cons (pv 0) pa_nil)) pe_int (nomark _)) (pe_and (pe_cmpR (DX.op_eqS (hu_of hr)) (pe_ix ix_list (pv 0) pe_int (fun _ _ => rfl)) pe_str (nomark _)) (pe_one (pe_callB call_isi (by rfl) T.isi (by decide +kernel) (pa_cons (pe_ix ix_list (pv 0) pe_int (fun _ _ => rfl)) (pa_cons (pe_bltn (v := .ty "dict") (u := .type "dict") (by rfl) T.dict (by decide +kernel) rfl) pa_nil))))))))), ?_⟩
    try dsimp only [cxOf, Cx.nox, Cx.wish]
    rcases k with ⟨⟨m, a, b, rfl, ha, hb⟩, k⟩ | ⟨⟨t, tv⟩, un, k⟩
    · walk_at "f"
      refine (TgV.lst ha).isT mem6 ?_
      walk_at "f"
      refine My.lenL (SqL.of ha) ?_
      walk_at "f"
      · refine My.ixL (SqL.of ha) (v := .str "P") (by rfl) ?_
        walk_at "f"
        refine .inl ⟨rfl, ?_⟩
        rw [decide_eq_true rfl]
        walk_at "f"
        refine My.ixL (SqL.of ha) (v := .ref b) (by rfl) ?_
        walk_at "f"
        exact (TgV.dT hb).isT mem6 k
      · rename_i z
        exact absurd rfl z
    · walk_at "f"
      refine tv.isT mem6 ?_
      walk_at "f"
      cases tv with
      | @lst a xs e =>
        walk_at "f"
        refine My.lenL (SqL.of e) ?_
        walk_at "f"
        · rename_i z
          obtain ⟨b, ys, g1, g2⟩ := (un a xs rfl e).1 (by omega)
          refine My.ixL (SqL.of e) (atI_nat (j := 0) g1) ?_
          walk_at "f"
          refine .inr ⟨b, ys, _, rfl, g2, rfl, ?_⟩
          walk_at "f"
          exact k
        · exact k
      | _ => exact k
theorem sc_law_mark : FnScope ["_law_parts"] ["_law_parts"] (defScope s_law_mark) := ⟨rfl, rfl, rfl, by decide +kernel, rfl, by decide +kernel, by decide +kernel⟩
theorem cal_law_mark {f : Addr} {fd : FuncData} (F : FnP K "_law_mark" "_law_mark" s_law_mark f fd) (g : mg "_law_mark" = some (.ref f)) (T : Txt0 mg) : Cal P w K mg base "_law_mark" 1 ["_law_parts"] spMark := by
  refine ⟨f, fd, g, ?_, F.bindsN (fun _ _ _ _ _ _ us hl => match us, hl with | [_], _ => rfl), F.kp⟩
  refine F.ok sc_law_mark (fun vs H Q E h => ?_) (fun cdv A outer s H vs Q E hr h => ?_)
  · obtain ⟨v, rfl, k⟩ := h
    rfl
  · obtain ⟨v, rfl, k⟩ := h
    refine ⟨_, PSs.nox (pss_one (ps_ret (pe_lst (pa_cons pe_str (pa_cons (pv 0) pa_nil))))), ?_⟩
    try dsimp only [cxOf, Cx.nox, Cx.wish]
    walk_at "f"
    exact My.new (My.sz (by simp)) k
end
end K09

set_option Elab.async false
set_option linter.all false
set_option maxRecDepth 100000
set_option maxHeartbeats 4000000
/-! sums of polynomials, as lists of keys and counts -/
namespace K09
open PySem PySem.Spec PyProof.Rows L2 DX
theorem kvI_len (m : Pol) : (kvI m).length = m.length := List.length_map ..
def getP (m : Pol) (k : List Int) : Option Int := (m.find? fun p => decide (p.1 = k)).map (·.2)
def putP (m : Pol) (k : List Int) (v : Int) : Pol := if (m.any fun p => decide (p.1 = k)) = true then m.map (fun p => if p.1 = k then (p.1, v) else p) else m ++ [(k, v)]
theorem ik_eq {k l : List Int} : ik k = ik l ↔ k = l := ⟨ik_inj, fun e => by rw [e]⟩
theorem valV_kvI (k : List Int) : ∀ m : Pol, valV (kvI m) (ik k) = (getP m k).map V.int
  | [] => rfl
  | p :: m => by
    have ih := valV_kvI k m
    by_cases e : p.1 = k
    · rw [show kvI (p :: m) = (ik p.1, .int p.2) :: kvI m from rfl, valV_pos (by rw [e])]
      simp [getP, List.find?_cons, e]
    · rw [show kvI (p :: m) = (ik p.1, .int p.2) :: kvI m from rfl, valV_neg (fun z => e (ik_inj z)), ih]
      simp [getP, List.find?_cons, e]
theorem kvI_put (m : Pol) (k : List Int) (v : Int) : putK (kvI m) (ik k) (.int v) = kvI (putP m k v) := by
  have e : (kvI m).any (fun kv => decide (kv.1 = ik k)) = m.any fun p => decide (p.1 = k) := by
    rw [kvI, List.any_map]
    congr 1
    funext p
    exact decide_eq_decide.mpr ik_eq
  unfold putK putP
  rw [e]
  by_cases z : (m.any fun p => decide (p.1 = k)) = true
  · rw [if_pos z, if_pos z, kvI, kvI, List.map_map, List.map_map]
    refine List.map_congr_left fun p _ => ?_
    show (if ik p.1 = ik k then _ else _) = _
    by_cases g : p.1 = k
    · rw [if_pos (ik_eq.mpr g)]
      show _ = (ik (if p.1 = k then (p.1, v) else p).1, V.int (if p.1 = k then (p.1, v) else p).2)
      rw [if_pos g]
    · rw [if_neg (fun z => g (ik_inj z))]
      show _ = (ik (if p.1 = k then (p.1, v) else p).1, V.int (if p.1 = k then (p.1, v) else p).2)
      rw [if_neg g]
  · rw [if_neg z, if_neg z, kvI, kvI, List.map_append]
    rfl
def keysP (m : Pol) : List (List Int) := m.map (·.1)
theorem keys_put (m : Pol) (k : List Int) (v : Int) : keysP (putP m k v) = if k ∈ keysP m then keysP m else keysP m ++ [k] := by
  have e : (m.any fun p => decide (p.1 = k)) = true ↔ k ∈ keysP m := by
    rw [List.any_eq_true, keysP, List.mem_map]
    exact ⟨fun ⟨p, h1, h2⟩ => ⟨p, h1, of_decide_eq_true h2⟩, fun ⟨p, h1, h2⟩ => ⟨p, h1, decide_eq_true h2⟩⟩
  unfold putP
  by_cases z : (m.any fun p => decide (p.1 = k)) = true
  · rw [if_pos z, if_pos (e.mp z), keysP, List.map_map]
    refine List.map_congr_left fun p _ => ?_
    show (if p.1 = k then (p.1, v) else p).1 = p.1
    split <;> rfl
  · rw [if_neg z, if_neg (fun g => z (e.mpr g)), keysP, List.map_append]
    rfl
theorem nodup_put {m : Pol} {k : List Int} {v : Int} (h : (keysP m).Nodup) : (keysP (putP m k v)).Nodup := by
  rw [keys_put]
  split
  · exact h
  · rename_i z
    exact List.nodup_append.mpr ⟨h, List.nodup_cons.mpr ⟨by simp, List.nodup_nil⟩, fun a ha b hb e => z (by rw [List.mem_singleton.mp hb] at e; rw [← e]; exact ha)⟩
/-- the sum as the law makes it, 0s not yet left out; left out -/
def addP (one other : Pol) (by_ : Int) : Pol := other.foldl (fun acc p => putP acc p.1 ((getP acc p.1).getD 0 + by_ * p.2)) one
def plusP (one other : Pol) (by_ : Int) : Pol := (addP one other by_).filter fun p => !decide (p.2 = 0)
theorem nodup_add {by_ : Int} : ∀ {other one : Pol}, (keysP one).Nodup → (keysP (addP one other by_)).Nodup
  | [], _, h => h
  | p :: r, one, h => nodup_add (other := r) (nodup_put h)
theorem mem_add {by_ : Int} {k : List Int} : ∀ {other one : Pol}, k ∈ keysP (addP one other by_) → k ∈ keysP one ∨ k ∈ keysP other
  | [], _, h => .inl h
  | p :: r, one, h => by
    rcases mem_add (other := r) h with g | g
    · rw [keys_put] at g
      split at g
      · exact .inl g
      · rcases List.mem_append.mp g with g | g
        · exact .inl g
        · rw [List.mem_singleton.mp g]
          exact .inr List.mem_cons_self
    · exact .inr (List.mem_cons_of_mem _ g)
theorem len_put (m : Pol) (k : List Int) (v : Int) : (putP m k v).length ≤ m.length + 1 := by
  unfold putP
  split
  · rw [List.length_map]; omega
  · rw [List.length_append, List.length_singleton]; omega
theorem len_add {by_ : Int} : ∀ (other one : Pol), (addP one other by_).length ≤ one.length + other.length
  | [], _ => Nat.le_refl _
  | p :: r, one => by
    have h1 := len_add (by_ := by_) r (putP one p.1 ((getP one p.1).getD 0 + by_ * p.2))
    have h2 := len_put one p.1 ((getP one p.1).getD 0 + by_ * p.2)
    show (addP (putP one p.1 ((getP one p.1).getD 0 + by_ * p.2)) r by_).length ≤ _
    rw [List.length_cons]; omega
theorem mT_nodup : ∀ {m acc : Pol}, (keysP (acc ++ m)).Nodup → mT (kvI acc) (kvI m) = kvI (acc ++ m)
  | [], acc, _ => by rw [List.append_nil]; rfl
  | p :: m, acc, h => by
    have hn : p.1 ∉ keysP acc := fun z => by
      rw [keysP, List.map_append, List.map_cons] at h
      exact (List.nodup_append.mp h).2.2 _ z p.1 List.mem_cons_self rfl
    have e : putK (kvI acc) (ik p.1) (.int p.2) = kvI (acc ++ [p]) := by
      rw [kvI_put]
      unfold putP
      rw [if_neg]
      intro z
      obtain ⟨q, h1, h2⟩ := List.any_eq_true.mp z
      exact hn (List.mem_map.mpr ⟨q, h1, of_decide_eq_true h2⟩)
    show mT (putK (kvI acc) (ik p.1) (.int p.2)) (kvI m) = _
    rw [e, mT_nodup (by rw [List.append_assoc]; exact h), List.append_assoc]
    rfl
theorem mT_nil {m : Pol} (h : (keysP m).Nodup) : mT [] (kvI m) = kvI m := mT_nodup (acc := []) h
theorem kvI_get {m : Pol} {i : Nat} {k : List L2.Key} {v : V} (h : (kvI m)[i]? = some (k, v)) : ∃ l c, m[i]? = some (l, c) ∧ k = ik l ∧ v = .int c := by
  rw [kvI, List.getElem?_map] at h
  cases e : m[i]? with
  | none => rw [e] at h; cases h
  | some p =>
    rw [e] at h
    cases (Option.some.inj h)
    exact ⟨p.1, p.2, rfl, rfl, rfl⟩
theorem getP_at {m : Pol} (h : (keysP m).Nodup) : ∀ {i : Nat} {l : List Int} {c : Int}, m[i]? = some (l, c) → getP m l = some c := by
  induction m with
  | nil => intro i l c e; cases e
  | cons p m ih =>
    intro i l c e
    rw [keysP, List.map_cons, List.nodup_cons] at h
    cases i with
    | zero =>
      cases (Option.some.inj e)
      simp [getP, List.find?_cons]
    | succ i =>
      have e' : m[i]? = some (l, c) := e
      have hm : l ∈ m.map (·.1) := List.mem_map.mpr ⟨(l, c), List.mem_of_getElem? e', rfl⟩
      have ne : ¬ p.1 = l := fun z => h.1 (by rw [z]; exact hm)
      have := ih h.2 e'
      simp only [getP, List.find?_cons, ne, decide_false] at this ⊢
      exact this
end K09

set_option Elab.async false
set_option linter.all false
set_option maxRecDepth 100000
set_option maxHeartbeats 4000000
namespace K09
open PySem PySem.Spec PyProof.Rows L2 XV DX
def spPlus : Sp := fun vs H Q _ => ∃ (a b : Addr) (m1 m2 : Pol) (z : Int), vs = [.ref a, .ref b, .int z] ∧ PolD H a m1 ∧ PolD H b m2 ∧ (keysP m1).Nodup ∧ (keysP m2).Nodup ∧ m1.length + m2.length ≤ 900 ∧ -18446744073709551616 < z ∧ z < 18446744073709551616 ∧
  ∀ p H', H p = none → Same H H' → PolD H' p (plusP m1 m2 z) → Q (.ref p) H'
section
variable {P : Program} {w : World} {K : PySem.W.Frag} {mg : Str → Option Value} {base : Heap}
theorem sc_law_plus : FnScope ["_law_one", "_law_other", "_law_by", "_law_found", "_law_powers"] ["_law_one", "_law_other", "_law_by"] (defScope s_law_plus) := ⟨rfl, rfl, rfl, by decide +kernel, rfl, by decide +kernel, by decide +kernel⟩
theorem cal_law_plus {f : Addr} {fd : FuncData} (F : FnP K "_law_plus" "_law_plus" s_law_plus f fd) (g : mg "_law_plus" = some (.ref f)) (T : Txt0 mg) : Cal P w K mg base "_law_plus" 1 ["_law_one", "_law_other", "_law_by"] spPlus := by
  refine ⟨f, fd, g, ?_, F.bindsN (fun _ _ _ _ _ _ us hl => match us, hl with | [_, _, _], _ => rfl), F.kp⟩
  refine F.ok sc_law_plus (fun vs H Q E h => ?_) (fun cdv A outer s H vs Q E hr h => ?_)
  · obtain ⟨a, b, m1, m2, z, rfl, ha, hb, n1, n2, hz, z1, z2, k⟩ := h
    rfl
  · obtain ⟨a, b, m1, m2, z, rfl, ha, hb, n1, n2, hz, z1, z2, k⟩ := h
    have hu := hu_of hr
    refine ⟨_, PSs.nox (pss_cons (ps_set (i := 3) sc_law_plus.nd rfl (Or.inr rfl) (pe_callTy (DX.call_dictPT rfl (Nat.lt_of_le_of_lt (Nat.add_le_add_left (by decide) _) hr.units)) (by rfl) T.dict (by decide +kernel) (pa_cons (DX.pe_listItemsT rfl (pv 0) (by rfl) T.list (by decide +kernel)) pa_nil)))
      (pss_cons (ps_lock (ps_for PassesOwn.never rfl (pi_keys (pv 1)) (pg_name (i := 4) sc_law_plus.nd rfl (Or.inl rfl))
       (pss_one (ps_dput hu (pv 3) (pv 4) (pe_op op_add (pe_dget2 hu (pv 3) (pv 4) pe_int ⟨rfl, rfl, rfl, rfl⟩) (pe_op op_mul (pv 2) (pe_dget hu (pv 1) (pv 4) (fun _ _ => rfl)))) rfl))))
      (pss_one (ps_ret (pe_callTy (DX.call_dictPT rfl (Nat.lt_of_le_of_lt (Nat.add_le_add_left (by decide) _) hr.units)) (by rfl) T.dict (by decide +kernel) (pa_cons (pe_lock (pe_lc (own := [("_law_powers", 4)]) (by rfl) sc_law_plus.nd (pi_keys (pv 3)) (blkOk_by (own := [("_law_powers", 4)]) (N := ["_law_one", "_law_other", "_law_by", "_law_found", "_law_powers"]) (sc := (defScope s_law_plus)) (by decide +kernel)) (fun _ _ _ _ _ => (pg_name (i := 4) sc_law_plus.nd rfl (Or.inl rfl))) (fun _ _ _ _ _ => (pts_one (pt_cmpR op_ne (pe_dget hu (pv 3) (pv 4) (fun _ _ => rfl)) pe_int (nomark _)))) (fun _ _ _ _ _ => (pe_tup (pa_cons (pv 4) (pa_cons (pe_dget hu (pv 3) (pv 4) (fun _ _ => rfl)) pa_nil)))))) pa_nil)))))), ?_⟩
    try dsimp only [cxOf, Cx.nox, Cx.wish]
    walk_at "f"
    refine ⟨a, kvI m1, rfl, .inl ha, fun H1 p ts es s1 np hp ek ka pr => ?_⟩
    walk_at "f"
    have pr' : Paired (fun p (e : Ent) => SqT K H1 p [.ref e.2.1, e.2.2] ∧ KeyAt H1 e) ts es := by
      have key : ∀ {ts : List Addr} {es : List Ent}, Paired (fun t (e : Ent) => H1 t = some (.tup [.ref e.2.1, e.2.2])) ts es → (∀ e ∈ es, KeyAt H e) → Paired (fun p (e : Ent) => SqT K H1 p [.ref e.2.1, e.2.2] ∧ KeyAt H1 e) ts es := by
        intro ts es r
        induction r with
        | nil => exact fun _ => .nil
        | cons h t ih => exact fun hh => .cons ⟨SqT.of h, s1 _ _ (hh _ List.mem_cons_self)⟩ (ih fun e he => hh e (List.mem_cons_of_mem _ he))
      exact key pr ka
    refine ⟨p, ts, es, rfl, SqL.of hp, pr', fun pf nf => ?_⟩
    rw [ek, mT_nil n1]
    have sf := same_new (o := HO.dT (kvI m1)) nf
    have of := upd_same (H := H1) (a := pf) (o := HO.dT (kvI m1))
    have hb1 := sf _ _ (s1 _ _ hb)
    have nfb : pf ≠ b := fun e => by rw [e, s1 _ _ hb] at nf; cases nf
    have nf0 : H pf = none := s1.free nf
    generalize upd H1 pf _ = H2 at sf of hb1 ⊢
    have s2 := s1.trans sf
    walk_at "f"
    refine My.lockS hb1 trivial fun od => ?_
    refine My.forKT rfl rfl upd_same (fun i σ H' => ∃ u, σ = [some (.ref a), some (.ref b), some (.int z), some (.ref pf), u] ∧ H' b = some (.frz od (.dT (kvI m2))) ∧ H' pf = some (.dT (kvI (addP m1 (m2.take i) z))) ∧ ∀ x o, x ≠ b → H x = some o → H' x = some o) ⟨none, rfl, upd_same, by rw [upd_ne nfb]; exact of, fun x o nx e => by rw [upd_ne nx]; exact s2 _ _ e⟩ (fun i σ H' _ ⟨_, _, h, _⟩ => h) ?_ ?_
    · rintro i kk v q σ H3 e1 hq ⟨u, rfl, hb3, hf3, s3⟩
      obtain ⟨l, c, e2, rfl, rfl⟩ := kvI_get e1
      walk_at "f"
      refine ⟨pf, rfl, .inr ⟨_, .inl hf3⟩, ?_⟩
      walk_at "f"
      refine ⟨_, DGet.t hf3 hq, ?_⟩
      rw [valV_kvI, show (Option.map V.int (getP (addP m1 (m2.take i) z) l)).getD (V.int 0) = V.int ((getP (addP m1 (m2.take i) z) l).getD 0) by cases getP (addP m1 (m2.take i) z) l <;> rfl]
      walk_at "f"
      refine ⟨b, .int c, rfl, .inr ⟨kvI m2, ik l, q, .inr ⟨od, hb3⟩, rfl, hq, ?_⟩, ?_⟩
      · rw [valV_kvI, getP_at n2 e2]; rfl
      walk_at "f"
      have ln := len_add (by_ := z) (m2.take i) m1
      have ln2 : (m2.take i).length ≤ m2.length := by rw [List.length_take]; omega
      refine ⟨pf, _, rfl, DPut.t hf3 hq (by rw [kvI, List.length_map, sizeLine_eq]; omega), ?_⟩
      refine ⟨_, rfl, by rw [upd_ne (Ne.symm nfb)]; exact hb3, ?_, fun x o nx e => ?_⟩
      · rw [upd_same, kvI_put, List.take_add_one, e2]
        show some (HO.dT (kvI _)) = some (HO.dT (kvI (addP m1 (m2.take i ++ [(l, c)]) z)))
        unfold addP
        rw [List.foldl_append]
        rfl
      · rw [upd_ne (fun g => by rw [g, nf0] at e; cases e)]
        exact s3 x o nx e
    · rintro σ H3 ⟨u, rfl, hb3, hf3, s3⟩
      refine ⟨hb3, ?_⟩
      rw [kvI_len, List.take_length] at hf3
      have hfU : upd H3 b (.dT (kvI m2)) pf = some (.dT (kvI (addP m1 m2 z))) := by rw [upd_ne nfb]; exact hf3
      have s4 : Same H (upd H3 b (.dT (kvI m2))) := fun x o e => by
        by_cases g : x = b
        · rw [g] at e ⊢
          rw [hb] at e
          rw [upd_same]
          exact e
        · rw [upd_ne g]
          exact s3 x o g e
      generalize upd H3 b (.dT (kvI m2)) = H4 at hfU s4 ⊢
      have ln := len_add (by_ := z) m2 m1
      have nd := nodup_add (by_ := z) (other := m2) n1
      generalize hM : addP m1 m2 z = M at hfU ln nd
      walk_at "f"
      refine My.lockE hfU trivial fun od => ?_
      show tLc _ _ _ _ _ _ _ _
      refine ⟨_, rfl, pf, od, rfl, .inr ⟨kvI M, upd_same, fun D nD => ?_⟩⟩
      have nDf : D ≠ pf := fun e => by rw [e, upd_same] at nD; cases nD
      refine lc_it walk_keysT (fun i H' => ∃ (ts : List Addr) (es : List Ent), H' D = some (.lst (ts.map V.ref)) ∧ ts.length ≤ i ∧ entK es = kvI ((M.take i).filter fun p => !decide (p.2 = 0)) ∧ Paired (fun t (e : Ent) => H' t = some (.tup [.ref e.2.1, e.2.2]) ∧ KeyAt H' e) ts es ∧ H' pf = some (.frz od (.dT (kvI M))) ∧ ∀ x o, x ≠ pf → H4 x = some o → H' x = some o)
        ⟨[], [], upd_same, Nat.le_refl _, rfl, .nil, by rw [upd_ne (Ne.symm nDf)]; exact upd_same, fun x o nx e => ?_⟩ (fun i H' _ ⟨_, _, _, _, _, _, h, _⟩ => h) ?_ ?_
      · rw [upd_ne (ne_of_none (by rw [upd_ne nx]; exact e) nD), upd_ne nx]
        exact e
      · rintro i x H5 H6 hi ⟨ts, es, h1, h2, h3, h4, h5, h6⟩ ⟨rfl, kk, v, q, e1, rfl, hq⟩
        obtain ⟨l, c, e2, rfl, rfl⟩ := kvI_get e1
        walk_at "f"
        refine ⟨rfl, ?_⟩
        walk_at "f"
        refine ⟨pf, .int c, rfl, .inr ⟨kvI M, ik l, q, .inr ⟨od, h5⟩, rfl, hq, by rw [valV_kvI, getP_at nd e2]; rfl⟩, ?_⟩
        walk_at "f"
        have tk : M.take (i + 1) = M.take i ++ [(l, c)] := by rw [List.take_add_one, e2]; rfl
        refine My.ite_nd (fun cz => ?_) (fun cz => ?_)
        · walk_at "f"
          refine ⟨pf, .int c, rfl, .inr ⟨kvI M, ik l, q, .inr ⟨od, h5⟩, rfl, hq, by rw [valV_kvI, getP_at nd e2]; rfl⟩, ?_⟩
          walk_at "f"
          refine My.new (My.sz (by show 2 ≤ 1000; decide)) fun t nt => ?_
          have keep : ∀ (x : Addr) (o : HO), x ≠ D → H6 x = some o → upd (upd H6 t (.tup [.ref q, .int c])) D (.lst (ts.map V.ref ++ [V.ref t])) x = some o := fun x o nx e => by
            rw [upd_ne nx, upd_ne (ne_of_none e nt)]
            exact e
          have ntD : t ≠ D := fun e => by rw [e, h1] at nt; cases nt
          have ntup : ∀ (x : Addr) (xs : List V), H6 x = some (.tup xs) → x ≠ D := fun x xs e g => by rw [g, h1] at e; cases e
          refine ⟨ts.map V.ref, by rw [upd_ne (Ne.symm ntD)]; exact h1, by rw [List.length_map]; exact Nat.lt_of_le_of_lt h2 (by rw [kvI_len] at hi; exact Nat.lt_of_lt_of_le (show i < 1000 by omega) (by decide)), ts ++ [t], es ++ [(ik l, q, .int c)], ?_, ?_, ?_, ?_, ?_, ?_⟩
          · rw [upd_same, List.map_append]; rfl
          · rw [List.length_append, List.length_singleton]; omega
          · rw [tk, List.filter_append, entK, List.map_append]
            have f1 : [(l, c)].filter (fun p => !decide (p.2 = 0)) = [(l, c)] := by simp [cz]
            rw [f1, kvI, List.map_append]
            rw [show List.map (fun e => (e.1, e.2.2)) es = kvI ((M.take i).filter fun p => !decide (p.2 = 0)) from h3]
            rfl
          · refine Paired.snoc (Paired.mapP h4 fun t' e h => ⟨keep _ _ (ntup _ _ h.1) h.1, keep _ _ (ntup _ _ h.2) h.2⟩) ⟨?_, keep _ _ (ntup _ _ hq) hq⟩
            rw [upd_ne ntD]
            exact upd_same
          · exact keep _ _ (Ne.symm nDf) h5
          · refine fun x o nx e => keep _ _ (fun g => ?_) (h6 x o nx e)
            rw [upd_ne nDf] at nD
            rw [g, nD] at e
            cases e
        · refine ⟨ts, es, h1, by omega, ?_, h4, h5, h6⟩
          rw [tk, List.filter_append]
          have f1 : [(l, c)].filter (fun p => !decide (p.2 = 0)) = [] := by simp [cz]
          rw [f1, List.append_nil]
          exact h3
      · rintro H5 ⟨ts, es, h1, h2, h3, h4, h5, h6⟩
        refine ⟨h5, ?_⟩
        rw [kvI_len, List.take_length] at h3
        have ntup : ∀ (x : Addr) (xs : List V), H5 x = some (.tup xs) → x ≠ pf := fun x xs e g => by rw [g, h5] at e; cases e
        have k1 : ∀ (x : Addr) (o : HO), x ≠ pf → H5 x = some o → upd H5 pf (.dT (kvI M)) x = some o := fun x o nx e => by rw [upd_ne nx]; exact e
        have hD : upd H5 pf (.dT (kvI M)) D = some (.lst (ts.map V.ref)) := k1 _ _ nDf h1
        have pr2 : Paired (fun p (e : Ent) => SqT K (upd H5 pf (.dT (kvI M))) p [.ref e.2.1, e.2.2] ∧ KeyAt (upd H5 pf (.dT (kvI M))) e) ts es := Paired.mapP h4 fun t e h => ⟨SqT.of (k1 _ _ (ntup _ _ h.1) h.1), k1 _ _ (ntup _ _ h.2) h.2⟩
        have s5 : Same H (upd H5 pf (.dT (kvI M))) := fun x o e => by
          have e4 := s4 _ _ e
          by_cases g : x = pf
          · rw [g] at e4 ⊢
            rw [upd_same, ← hfU, e4]
          · exact k1 _ _ g (h6 _ _ g e4)
        walk_at "f"
        refine ⟨D, ts, es, rfl, SqL.of hD, pr2, fun p np => ?_⟩
        have ndf : (keysP (M.filter fun p => !decide (p.2 = 0))).Nodup := by
          rw [keysP]
          exact List.Pairwise.sublist (List.Sublist.map _ List.filter_sublist) nd
        rw [h3, mT_nil ndf]
        exact k p _ (s5.free np) (s5.trans (same_new np)) (by rw [plusP, hM]; exact upd_same)
end
end K09

set_option Elab.async false
set_option linter.all false
set_option maxRecDepth 100000
set_option maxHeartbeats 4000000
namespace K09
open PySem PySem.Spec PyProof.Rows L2 XV DX
theorem but_at {d D : Addr} {H0 H' : Hp} {o : HO} (b : But d H0 H') (nD : H0 D = none) : But d H0 (upd H' D o) := fun x u nx e => by
  rw [upd_ne (ne_of_none e nD)]
  exact b x u nx e
theorem Hand.at {K : PySem.W.Frag} {d c D : Addr} {H0 H' : Hp} {o : HO} (h0 : Hand K H0 d c) (b : But d H0 H') (h : Hand K H' d c) (nD : H0 D = none) : Hand K (upd H' D o) d c := by
  have ne : d ≠ D := fun z => by
    obtain ⟨_, hd⟩ := h0.dk
    rw [z, nD] at hd
    cases hd
  have b2 := but_at (o := o) b nD
  obtain ⟨cs, _, _, _, _, _, hc, _, _⟩ := id h0
  obtain ⟨_, a, g, sd, tn, hd, _, cd, a0⟩ := h
  exact ⟨cs, a, g, sd, tn, by rw [upd_ne ne]; exact hd, b2.list h0 hc, cd, a0⟩
theorem same_at {H1 H : Hp} {D : Addr} {o : HO} (s : Same H1 H) (nD : H1 D = none) : Same H1 (upd H D o) := fun x u e => by
  rw [upd_ne (ne_of_none e nD)]
  exact s x u e
theorem map_of {α : Type} {f : Nat → α} : ∀ {n : Nat} {ys : List α}, ys.length = n → (∀ j y, ys[j]? = some y → y = f j) → ys = (List.range n).map f
  | n, ys, hl, h => by
    refine List.ext_getElem? fun j => ?_
    rw [List.getElem?_map]
    by_cases hj : j < ys.length
    · rw [List.getElem?_eq_getElem hj, h j _ (List.getElem?_eq_getElem hj), List.getElem?_eq_getElem (by rw [List.length_range]; omega), List.getElem_range]
      rfl
    · rw [List.getElem?_eq_none (by omega), List.getElem?_eq_none (by rw [List.length_range]; omega)]
      rfl
/-- the key of an unknown -/
def varK (k : Int) : List Int := (List.range 4).map fun j : Nat => if (0 + (j : Int)) = k then (1 : Int) else 0
def spVar : Sp := fun vs H Q _ => ∃ (k : Int), vs = [.int k] ∧ ∀ p H', H p = none → Same H H' → PolD H' p [(varK k, 1)] → Q (.ref p) H'
/-- the tuple of marks -/
def Marks (H : Hp) (t : Addr) (bs : List Addr) : Prop := ∃ ls : List Addr, H t = some (.tup (ls.map V.ref)) ∧ Paired (fun l b => H l = some (.lst [.str "P", .ref b])) ls bs
def spMarks (K : PySem.W.Frag) : Sp := fun vs H Q _ => ∃ (a : Addr) (bs : List Addr), vs = [.ref a] ∧ SqL K H a (bs.map V.ref) ∧ bs.length ≤ 1000 ∧ ∀ t H', H t = none → Same H H' → Marks H' t bs → Q (.ref t) H'
theorem ints_of {P : Nat → Int → Prop} : ∀ {ys : List V}, (∀ (j : Nat) (y : V), ys[j]? = some y → ∃ e : Int, y = V.int e ∧ P j e) → ∃ ks : List Int, ys = ks.map V.int ∧ ∀ (j : Nat) e, ks[j]? = some e → P j e := by
  intro ys
  induction ys generalizing P with
  | nil => exact fun _ => ⟨[], rfl, fun j e h => by simp at h⟩
  | cons y ys ih =>
    intro hh
    obtain ⟨e, rfl, he⟩ := hh 0 y rfl
    obtain ⟨ks, rfl, hk⟩ := ih (P := fun j e => P (j + 1) e) fun j y h => hh (j + 1) y h
    refine ⟨e :: ks, rfl, fun j x hx => ?_⟩
    cases j with
    | zero => cases (show e = x by simpa using hx); exact he
    | succ j => exact hk j x (by simpa using hx)
/-- small ones: powers up to most, in the first unknowns alone -/
structure WFs (many most : Int) (m : Pol) : Prop where
  nd : (keysP m).Nodup
  ky : ∀ k ∈ keysP m, k.length = 4 ∧ (∀ e ∈ k, 0 ≤ e ∧ e ≤ most) ∧ ∀ (j : Nat) e, many ≤ (j : Int) → k[j]? = some e → e = 0
  nz : ∀ p ∈ m, p.2 ≠ 0
theorem WFs.plus {many most z : Int} {m : Pol} {k : List Int} (w : WFs many most m) (hk : k.length = 4 ∧ (∀ e ∈ k, 0 ≤ e ∧ e ≤ most) ∧ ∀ (j : Nat) e, many ≤ (j : Int) → k[j]? = some e → e = 0) : WFs many most (plusP m [(k, 1)] z) := by
  refine ⟨?_, fun l hl => ?_, fun p hp => ?_⟩
  · exact List.Pairwise.sublist (List.Sublist.map _ List.filter_sublist) (nodup_add w.nd)
  · obtain ⟨p, hp, rfl⟩ := List.mem_map.mp hl
    rcases mem_add (List.mem_map.mpr ⟨p, (List.mem_filter.mp hp).1, rfl⟩) with g | g
    · exact w.ky _ g
    · have e : p.1 = k := by simpa [keysP] using g
      rw [e]; exact hk
  · have := (List.mem_filter.mp hp).2
    simpa using this
theorem len_plus (one other : Pol) (z : Int) : (plusP one other z).length ≤ one.length + other.length := Nat.le_trans (List.length_filter_le _ _) (len_add other one)
def spSmall (K : PySem.W.Frag) : Sp := fun vs H Q _ => ∃ (d c : Addr) (many most : Int), vs = [.ref d, .int many, .int most] ∧ 0 ≤ most ∧ most < 1000 ∧ Hand K H d c ∧ ∀ b H' m, Hand K H' d c → But d H H' → PolD H' b m → WFs many most m → m.length ≤ 3 → Q (.ref b) H'
section
variable {P : Program} {w : World} {K : PySem.W.Frag} {mg : Str → Option Value} {base : Heap}
theorem sc_law_var : FnScope ["_law_k", "_law_other"] ["_law_k"] (defScope s_law_var) := ⟨rfl, rfl, rfl, by decide +kernel, rfl, by decide +kernel, by decide +kernel⟩
theorem cal_law_var {f : Addr} {fd : FuncData} (F : FnP K "_law_var" "_law_var" s_law_var f fd) (g : mg "_law_var" = some (.ref f)) (T : Txt0 mg) : Cal P w K mg base "_law_var" 1 ["_law_k"] spVar := by
  refine ⟨f, fd, g, ?_, F.bindsN (fun _ _ _ _ _ _ us hl => match us, hl with | [_], _ => rfl), F.kp⟩
  refine F.ok sc_law_var (fun vs H Q E h => ?_) (fun cdv A outer s H vs Q E hr h => ?_)
  · obtain ⟨k, rfl, q⟩ := h
    rfl
  · obtain ⟨k, rfl, q⟩ := h
    refine ⟨_, PSs.nox (pss_one (ps_ret (DX.pe_dispT hr.units0 (pps_cons (pe_tupleOf (by rfl) T.tuple (pe_lc (own := [("_law_other", 1)]) (tt := tYes) (by rfl) sc_law_var.nd (pi_range1 (by rfl) T.range (pa_cons pe_int pa_nil)) (blkOk_by (own := [("_law_other", 1)]) (N := ["_law_k", "_law_other"]) (sc := (defScope s_law_var)) (by decide +kernel)) (fun _ _ _ _ _ => (pg_name (i := 1) sc_law_var.nd rfl (Or.inl rfl))) (fun _ _ _ _ _ => pts_nil) (fun _ _ _ _ _ => (pe_callTy My.c_int1 (by rfl) T.int boot_int (pa_cons (pe_cmpR op_eq (pv 1) (pv 0) (nomark _)) pa_nil))))) pe_int pps_nil) (by rfl) (by rfl) (fun z => by cases z) (by decide)))), ?_⟩
    try dsimp only [cxOf, Cx.nox, Cx.wish]
    walk_at "f"
    refine My.dispT fun p np => ?_
    walk_at "f"
    refine ⟨4, rfl, by decide, by decide, My.lcM walk_range Same (by decide) (fun D hD => same_new hD) fun D nD => ⟨fun j y H => y = .int (if (0 + (j : Int)) = k then 1 else 0), fun j y H ys o _ h => h, fun H o s => same_at s nD, fun _ _ _ _ => trivial, ?_, ?_⟩⟩
    · rintro i x H2 H3 ys N hi r e l p' ⟨rfl, rfl⟩ hN
      walk_at "f"
      refine ⟨rfl, ?_⟩
      walk_at "f"
      refine My.int1b ?_
      walk_at "f"
      refine hN _ _ r e (fun j v hv => p' j v hv) ?_
      by_cases z : 0 + (i : Int) = k
      · rw [decide_eq_true z]
        show V.int _ = V.int (if 0 + (i : Int) = k then 1 else 0)
        rw [if_pos z]; rfl
      · rw [decide_eq_false z]
        show V.int _ = V.int (if 0 + (i : Int) = k then 1 else 0)
        rw [if_neg z]; rfl
    · intro H2 ys hD hl s2 hy
      have ey : ys = (List.range 4).map fun j : Nat => V.int (if (0 + (j : Int)) = k then 1 else 0) := map_of hl hy
      refine My.tupL (SqL.of hD) fun t nt => ?_
      walk_at "f"
      have hp2 := s2 _ _ (upd_same (H := H) (a := p) (o := .dT []))
      refine ⟨(same_new nt) _ _ hp2, [((ik (varK k)), t, .int 1)], rfl, by show 1 ≤ 15; decide, fun e he => ?_, ?_⟩
      · rw [List.mem_singleton.mp he]
        show upd H2 t (.tup ys) t = some (.tup ((ik (varK k)).map kV))
        rw [upd_same, ik_kV, ey, varK, List.map_map]; rfl
      · refine q p _ np (fun b o e => ?_) upd_same
        have nb : b ≠ p := ne_of_none e np
        rw [upd_ne nb]
        exact same_new nt _ _ (s2 _ _ (by rw [upd_ne nb]; exact e))
theorem sc_law_marks : FnScope ["_law_some", "_law_parts"] ["_law_some"] (defScope s_law_marks) := ⟨rfl, rfl, rfl, by decide +kernel, rfl, by decide +kernel, by decide +kernel⟩
theorem cal_law_marks {f : Addr} {fd : FuncData} (F : FnP K "_law_marks" "_law_marks" s_law_marks f fd) (g : mg "_law_marks" = some (.ref f)) (T : Txt0 mg) (C_law_mark : Cal P w K mg base "_law_mark" 1 ["_law_parts"] spMark) : Cal P w K mg base "_law_marks" 2 ["_law_some"] (spMarks K) := by
  obtain ⟨f_law_mark, fd_law_mark, g_law_mark, G_law_mark, b_law_mark, k_law_mark⟩ := C_law_mark
  refine ⟨f, fd, g, ?_, F.bindsN (fun _ _ _ _ _ _ us hl => match us, hl with | [_], _ => rfl), F.kp⟩
  refine F.ok sc_law_marks (fun vs H Q E h => ?_) (fun cdv A outer s H vs Q E hr h => ?_)
  · obtain ⟨a, bs, rfl, hl, h1000, k⟩ := h
    rfl
  · obtain ⟨a, bs, rfl, hl, h1000, k⟩ := h
    refine ⟨_, PSs.nox (pss_one (ps_ret (pe_tupleOf (by rfl) T.tuple (pe_lc (own := [("_law_parts", 1)]) (tt := tYes) (by rfl) sc_law_marks.nd (pi_list (pv 0)) (blkOk_by (own := [("_law_parts", 1)]) (N := ["_law_some", "_law_parts"]) (sc := (defScope s_law_marks)) (by decide +kernel)) (fun _ _ _ _ _ => (pg_name (i := 1) sc_law_marks.nd rfl (Or.inl rfl))) (fun _ _ _ _ _ => pts_nil) (fun _ _ _ _ _ => (pe_call G_law_mark (hr.mono (by decide)) (by rfl) g_law_mark k_law_mark b_law_mark .nil pass0 (pa_cons (pv 1) pa_nil))))))), ?_⟩
    try dsimp only [cxOf, Cx.nox, Cx.wish]
    walk_at "f"
    refine ⟨a, rfl, ⟨_, hl⟩, My.lcM (walk_list (xs := bs.map V.ref)) Same (by rw [List.length_map]; exact h1000) (fun D hD => same_new hD) fun D nD => ⟨fun j y H => ∃ l b, bs[j]? = some b ∧ y = .ref l ∧ l ≠ D ∧ H l = some (.lst [.str "P", .ref b]), fun j y H ys o _ ⟨l, b, h1, h2, h3, h4⟩ => ⟨l, b, h1, h2, h3, by rw [upd_ne h3]; exact h4⟩, fun H o s => same_at s nD, fun H2 _ s _ => s.seq hl, ?_, ?_⟩⟩
    · rintro i x H2 H3 ys N hi r e l p' ⟨rfl, ex⟩ hN
      rw [List.getElem?_map] at ex
      cases eb : bs[i]? with
      | none => rw [eb] at ex; cases ex
      | some b =>
        rw [eb] at ex
        cases Option.some.inj ex
        walk_at "f"
        refine ⟨rfl, ?_⟩
        walk_at "f"
        refine ⟨.ref b, rfl, fun q nq => ?_⟩
        have sq := same_new (o := HO.lst [.str "P", .ref b]) nq
        refine hN _ _ (r.trans sq) (sq _ _ e) (fun j v hv => ?_) ⟨q, b, eb, rfl, (fun g => by rw [g, e] at nq; cases nq), upd_same⟩
        obtain ⟨l, b', h1, h2, h3, h4⟩ := p' j v hv
        exact ⟨l, b', h1, h2, h3, sq _ _ h4⟩
    · intro H2 ys hD hl2 s2 hy
      rw [List.length_map] at hl2
      refine My.tupL (SqL.of hD) fun t nt => ?_
      have key : ∀ (bs : List Addr) (ys : List V), ys.length = bs.length → (∀ (j : Nat) (y : V), ys[j]? = some y → ∃ (l b : Addr), bs[j]? = some b ∧ y = V.ref l ∧ l ≠ D ∧ H2 l = some (.lst [.str "P", .ref b])) → ∃ ls : List Addr, ys = ls.map V.ref ∧ Paired (fun l b => H2 l = some (.lst [.str "P", .ref b])) ls bs := by
        intro bs
        induction bs with
        | nil =>
          intro ys h _
          cases ys with
          | nil => exact ⟨[], rfl, .nil⟩
          | cons => cases h
        | cons b bs ih =>
          intro ys h hh
          cases ys with
          | nil => cases h
          | cons y ys =>
            obtain ⟨l, b', e1, e2, _, e4⟩ := hh 0 y rfl
            cases Option.some.inj e1
            obtain ⟨ls, g1, g2⟩ := ih ys (Nat.succ.inj h) fun j y hj => hh (j + 1) y hj
            exact ⟨l :: ls, by rw [e2, g1]; rfl, .cons e4 g2⟩
      obtain ⟨ls, g1, g2⟩ := key bs ys hl2 hy
      exact k t _ (s2.free nt) (s2.trans (same_new nt)) ⟨ls, by rw [upd_same, g1], Paired.mapP g2 fun l b h => same_new nt _ _ h⟩
theorem sc_law_small : FnScope ["_law_hand_here", "_law_many", "_law_most", "_law_found", "_law_turn", "_law_k", "_law_powers"] ["_law_hand_here", "_law_many", "_law_most"] (defScope s_law_small) := ⟨rfl, rfl, rfl, by decide +kernel, rfl, by decide +kernel, by decide +kernel⟩
theorem cal_law_small {f : Addr} {fd : FuncData} (F : FnP K "_law_small" "_law_small" s_law_small f fd) (g : mg "_law_small" = some (.ref f)) (T : Txt0 mg) (C_law_draw : Cal P w K mg base "_law_draw" 1 ["_law_hand_here", "_law_many"] (spDraw K)) (C_law_any : Cal P w K mg base "_law_any" 2 ["_law_hand_here", "_law_things"] (spAny K)) (C_law_plus : Cal P w K mg base "_law_plus" 1 ["_law_one", "_law_other", "_law_by"] spPlus) : Cal P w K mg base "_law_small" 3 ["_law_hand_here", "_law_many", "_law_most"] (spSmall K) := by
  obtain ⟨f_law_draw, fd_law_draw, g_law_draw, G_law_draw, b_law_draw, k_law_draw⟩ := C_law_draw
  obtain ⟨f_law_any, fd_law_any, g_law_any, G_law_any, b_law_any, k_law_any⟩ := C_law_any
  obtain ⟨f_law_plus, fd_law_plus, g_law_plus, G_law_plus, b_law_plus, k_law_plus⟩ := C_law_plus
  refine ⟨f, fd, g, ?_, F.bindsN (fun _ _ _ _ _ _ us hl => match us, hl with | [_, _, _], _ => rfl), F.kp⟩
  refine F.ok sc_law_small (fun vs H Q E h => ?_) (fun cdv A outer s H vs Q E hr h => ?_)
  · obtain ⟨d, c, many, most, rfl, m0, m1, hh, k⟩ := h
    rfl
  · obtain ⟨d, c, many, most, rfl, m0, m1, hh, k⟩ := h
    refine ⟨_, PSs.nox (pss_cons (ps_set (i := 3) sc_law_small.nd rfl (Or.inl rfl) pe_dnewT)
      (pss_cons (ps_for PassesOwn.never rfl (pi_range1 (by rfl) T.range (pa_cons (pe_op op_add pe_int (pe_call G_law_draw (hr.mono (by decide)) (by rfl) g_law_draw k_law_draw b_law_draw .nil pass0 (pa_cons (pv 0) (pa_cons pe_int pa_nil)))) pa_nil)) (pg_name (i := 4) sc_law_small.nd rfl (Or.inl rfl))
       (pss_cons (ps_set (i := 6) sc_law_small.nd rfl (Or.inl rfl) (pe_tupleOf (by rfl) T.tuple (pe_lc (own := [("_law_k", 5)]) (tt := tYes) (by rfl) sc_law_small.nd (pi_range1 (by rfl) T.range (pa_cons pe_int pa_nil)) (blkOk_by (own := [("_law_k", 5)]) (N := ["_law_hand_here", "_law_many", "_law_most", "_law_found", "_law_turn", "_law_k", "_law_powers"]) (sc := (defScope s_law_small)) (by decide +kernel)) (fun _ _ _ _ _ => (pg_name (i := 5) sc_law_small.nd rfl (Or.inl rfl))) (fun _ _ _ _ _ => pts_nil) (fun _ _ _ _ _ => (pe_ifExp (pt_cmpR op_lt (pv 5) (pv 1) (nomark _)) (pe_call G_law_draw (hr.mono (by decide)) (by rfl) g_law_draw k_law_draw b_law_draw .nil pass0 (pa_cons (pv 0) (pa_cons (pe_op op_add (pv 2) pe_int) pa_nil))) pe_int)))))
      (pss_one (ps_set (i := 3) sc_law_small.nd rfl (Or.inl rfl) (pe_call G_law_plus (hr.mono (by decide)) (by rfl) g_law_plus k_law_plus b_law_plus .nil pass0 (pa_cons (pv 3) (pa_cons (DX.pe_dispT hr.units0 (pps_cons (pv 6) pe_int pps_nil) (by rfl) (by rfl) (fun z => by cases z) (by decide)) (pa_cons (pe_call G_law_any (hr.mono (by decide)) (by rfl) g_law_any k_law_any b_law_any .nil pass0 (pa_cons (pv 0) (pa_cons (pe_lst (pa_cons pe_int (pa_cons (pe_un un_neg pe_int) (pa_cons pe_int (pa_cons (pe_un un_neg pe_int) (pa_cons pe_int pa_nil)))))) pa_nil))) pa_nil))))))))
      (pss_one (ps_ret (pv 3))))), ?_⟩
    try dsimp only [cxOf, Cx.nox, Cx.wish]
    walk_at "f"
    intro pf nf
    walk_at "f"
    have h1 := hh.same (same_new (o := HO.dT []) nf)
    refine ⟨d, c, 3, rfl, by decide, by decide, h1, fun r H1 r0 r1 hh1 b1 fr => ?_⟩
    have bt : But d H H1 := (Same.but (same_new nf)).trans b1
    have hp1 : PolD H1 pf [] := b1 _ _ (fun g => by obtain ⟨ks, e⟩ := h1.dk; rw [← g, upd_same] at e; cases e) upd_same
    walk_at "f"
    refine My.rngI (by omega) (by omega) (fun i σ H' => ∃ (p : Addr) (m : Pol) (u v x : Option V), σ = [some (.ref d), some (.int many), some (.int most), some (.ref p), u, v, x] ∧ Hand K H' d c ∧ But d H H' ∧ PolD H' p m ∧ WFs many most m ∧ m.length ≤ i) ⟨pf, [], none, none, none, rfl, hh1, bt, hp1, ⟨List.nodup_nil, (fun k hk => by cases hk), (fun p hp => by cases hp)⟩, Nat.le_refl _⟩ ?_ ?_
    · rintro i σ H2 hi ⟨p2, m, u, v, x, rfl, hh2, b2, hp2, wf, hl⟩
      walk_at "f"
      refine ⟨4, rfl, by decide, by decide, My.lcM walk_range (fun H1 H' => But d H1 H' ∧ Hand K H' d c) (by decide) (fun D hD => ⟨Same.but (same_new hD), hh2.same (same_new hD)⟩) fun D nD => ⟨fun j y H => ∃ e : Int, y = .int e ∧ (0 ≤ e ∧ e ≤ most) ∧ (many ≤ (j : Int) → e = 0), fun j y H ys o _ h => h, fun H o s => ⟨but_at s.1 nD, Hand.at hh2 s.1 s.2 nD⟩, fun _ _ _ _ => trivial, ?_, ?_⟩⟩
      · rintro i x H3 H4 ys N hi r e l p' ⟨rfl, rfl⟩ hN
        walk_at "f"
        refine ⟨rfl, ?_⟩
        walk_at "f"
        · refine ⟨d, c, most + 1, rfl, by omega, by omega, r.2, fun q H5 q0 q1 hh5 b5 _ => ?_⟩
          refine hN _ _ ⟨r.1.trans b5, hh5⟩ (b5.obj r.2 e (fun _ z => by cases z)) (fun j v hv => p' j v hv) ⟨q, rfl, ⟨q0, by omega⟩, fun g => by omega⟩
        · exact hN _ _ r e (fun j v hv => p' j v hv) ⟨0, rfl, ⟨Int.le_refl _, m0⟩, fun _ => rfl⟩
      · intro H3 ys hD hl3 r hy
        obtain ⟨ks, rfl, hk⟩ := ints_of hy
        rw [List.length_map] at hl3
        have kk : ks.length = 4 ∧ (∀ e ∈ ks, 0 ≤ e ∧ e ≤ most) ∧ ∀ (j : Nat) e, many ≤ (j : Int) → ks[j]? = some e → e = 0 := by
          refine ⟨hl3, fun e he => ?_, fun j e hj he => (hk j e he).2 hj⟩
          obtain ⟨j, hj⟩ := List.mem_iff_getElem?.mp he
          exact (hk j e hj).1
        refine My.tupL (SqL.of hD) fun t nt => ?_
        have st := same_new (o := HO.tup (ks.map V.int)) nt
        have ot := upd_same (H := H3) (a := t) (o := HO.tup (ks.map V.int))
        generalize upd H3 t _ = H4 at st ot ⊢
        walk_at "f"
        refine My.dispT fun q nq => ?_
        walk_at "f"
        have sq := same_new (o := HO.dT []) nq
        refine ⟨upd_same, [(ik ks, t, .int 1)], rfl, by show 1 ≤ 15; decide, fun e he => ?_, ?_⟩
        · rw [List.mem_singleton.mp he]
          show _ = some (HO.tup ((ik ks).map kV))
          rw [ik_kV]
          exact sq _ _ ot
        rw [upd_upd]
        have sq2 := same_new (o := HO.dT (mT [] (entK [(ik ks, t, V.int 1)]))) nq
        have oq : upd H4 q (.dT (mT [] (entK [(ik ks, t, V.int 1)]))) q = some (.dT (kvI [(ks, 1)])) := upd_same
        generalize upd H4 q (.dT (mT [] (entK [(ik ks, t, V.int 1)]))) = H5 at sq2 oq ⊢
        walk_at "f"
        refine My.new (My.sz (by show 5 ≤ 1000; decide)) fun pl nl => ?_
        have sl := same_new (o := HO.lst [V.int 1, V.int (-1), V.int 2, V.int (-3), V.int 5]) nl
        have s35 := (st.trans sq2).trans sl
        have h6 := r.2.same s35
        walk_at "f"
        refine ⟨d, c, pl, _, rfl, h6, SqL.of upd_same, by simp, by simp, fun zv H6 hz hh6 b6 fr6 => ?_⟩
        obtain ⟨zi, rfl, zb⟩ : ∃ zi : Int, zv = .int zi ∧ -10 < zi ∧ zi < 10 := by
          simp only [List.mem_cons, List.not_mem_nil, or_false] at hz
          rcases hz with rfl | rfl | rfl | rfl | rfl <;> exact ⟨_, rfl, by omega, by omega⟩
        have nd : ∀ {x : Addr} {m : Pol} {H' : Hp}, Hand K H' d c → PolD H' x m → x ≠ d := fun {x m H'} h e g => by
          obtain ⟨ks, z⟩ := h.dk
          have e2 : H' x = some (HO.dT (kvI m)) := e
          rw [g, z] at e2
          cases e2
        have bb : But d H2 H6 := (r.1.trans (Same.but s35)).trans b6
        have hp6 : PolD H6 p2 m := bb _ _ (nd hh2 hp2) hp2
        have hq6 : PolD H6 q [(ks, 1)] := b6 _ _ (nd h6 (sl _ _ oq)) (sl _ _ oq)
        walk_at "f"
        refine ⟨p2, q, m, [(ks, 1)], zi, rfl, hp6, hq6, wf.nd, List.nodup_cons.mpr ⟨by simp, List.nodup_nil⟩, ?_, by omega, by omega, fun p7 H7 n7 s7 hp7 => ?_⟩
        · show m.length + 1 ≤ 900
          omega
        walk_at "f"
        exact ⟨p7, _, _, _, _, rfl, hh6.same s7, (b2.trans bb).trans (Same.but s7), hp7, wf.plus kk, Nat.le_trans (len_plus _ _ _) (by show m.length + 1 ≤ i + 1; omega)⟩
    · rintro σ H2 ⟨p2, m, u, v, x, rfl, hh2, b2, hp2, wf, hl⟩
      walk_at "f"
      exact k p2 H2 m hh2 b2 hp2 wf (by omega)
end
end K09

set_option Elab.async false
set_option linter.all false
set_option maxRecDepth 100000
set_option maxHeartbeats 4000000
namespace K09
open PySem PySem.Spec PyProof.Rows L2 XV DX
/-- the terms of a Poly, as they stand -/
def TermsAt (H : Hp) (t : Addr) (ts : Pol) : Prop := ∃ rs : List Addr, H t = some (.tup (rs.map V.ref)) ∧ Paired (fun r (p : List Int × Int) => ∃ q, H r = some (.tup [.ref q, .int p.2]) ∧ KAt H q p.1) rs ts
theorem TermsAt.same {H H' : Hp} {t : Addr} {ts : Pol} (s : Same H H') (h : TermsAt H t ts) : TermsAt H' t ts := by
  obtain ⟨rs, h1, h2⟩ := h
  exact ⟨rs, s _ _ h1, Paired.mapP h2 fun r p ⟨q, e1, e2⟩ => ⟨q, s _ _ e1, s _ _ e2⟩⟩
structure WFt (ts : Pol) : Prop where
  ky : ∀ p ∈ ts, p.1.length = 4 ∧ ∀ e ∈ p.1, 0 ≤ e ∧ e ≤ 60
  nz : ∀ p ∈ ts, p.2 ≠ 0
  few : ts.length ≤ 300
  asc : ts.Pairwise fun p q => TS.code 64 p.1 < TS.code 64 q.1
theorem four {k : List Int} (h : k.length = 4) : ∃ a b c d, k = [a, b, c, d] := by
  match k, h with
  | [a, b, c, d], _ => exact ⟨a, b, c, d, rfl⟩
theorem le_no {k l : List Int} (hk : k.length = 4) (hl : l.length = 4) (bk : ∀ e ∈ k, 0 ≤ e ∧ e ≤ 60) (bl : ∀ e ∈ l, 0 ≤ e ∧ e ≤ 60) (h : TS.code 64 k < TS.code 64 l) :
    Ob.lexAt (fun j => decide (l.getD j 0 = k.getD j 0)) (fun j => decide (l.getD j 0 ≤ k.getD j 0)) (decide (l.length ≤ k.length)) 0 (min l.length k.length) = false := by
  obtain ⟨a, b, c, d, rfl⟩ := four hk
  obtain ⟨a', b', c', d', rfl⟩ := four hl
  have A := bk a (by simp); have B := bk b (by simp); have C := bk c (by simp); have D := bk d (by simp)
  have A' := bl a' (by simp); have B' := bl b' (by simp); have C' := bl c' (by simp); have D' := bl d' (by simp)
  have e : a * 262144 + b * 4096 + c * 64 + d < a' * 262144 + b' * 4096 + c' * 64 + d' := by
    simp [TS.code] at h
    omega
  simp only [List.length_cons, List.length_nil, Nat.zero_add, Nat.reduceAdd, Nat.min_self, Ob.lexAt_succ, Ob.lexAt_zero, List.getD_cons_zero, List.getD_cons_succ, decide_eq_true_eq]
  split
  · split
    · split
      · split
        · omega
        · exact decide_eq_false (by omega)
      · exact decide_eq_false (by omega)
    · exact decide_eq_false (by omega)
  · exact decide_eq_false (by omega)
def spPowers (K : PySem.W.Frag) : Sp := fun vs H Q _ => ∃ (q : Addr) (k : List Int), vs = [.ref q] ∧ KAt H q k ∧ k.length = 4 ∧ (∀ e ∈ k, 0 ≤ e ∧ e ≤ 60) ∧ ∀ H', Same H H' → Q (.bl true) H'
def spTerm (K : PySem.W.Frag) : Sp := fun vs H Q _ => ∃ (r q : Addr) (k : List Int) (c : Int), vs = [.ref r] ∧ H r = some (.tup [.ref q, .int c]) ∧ KAt H q k ∧ k.length = 4 ∧ (∀ e ∈ k, 0 ≤ e ∧ e ≤ 60) ∧ c ≠ 0 ∧ ∀ H', Same H H' → Q (.bl true) H'
def spPolyI (C : Addr) : Sp := fun vs H Q _ => ∃ (p dx t : Addr) (ts : Pol), vs = [.ref p, .ref t] ∧ H p = some (.ins C dx []) ∧ TermsAt H t ts ∧ WFt ts ∧ ∀ H', Same H H' → Q .non (upd H' p (.ins C dx [("terms", .ref t)]))
section
variable {P : Program} {w : World} {K : PySem.W.Frag} {mg : Str → Option Value} {base : Heap}
theorem sc_is_powers : FnScope ["thing", "high"] ["thing"] (defScope s_is_powers) := ⟨rfl, rfl, rfl, by decide +kernel, rfl, by decide +kernel, by decide +kernel⟩
theorem cal_is_powers {f : Addr} {fd : FuncData} (F : FnP K "is_powers" "is_powers" s_is_powers f fd) (g : mg "is_powers" = some (.ref f)) (T : Txt0 mg) (C_is_number_to : Cal P w K mg base "is_number_to" 2 ["most", "thing"] (spNumTo K)) {tU tP : Tok} (gUNK : mg "UNKNOWNS" = some (.int 4 tU)) (gPOW : mg "MOST_POWER" = some (.int 60 tP)) : Cal P w K mg base "is_powers" 3 ["thing"] (spPowers K) := by
  obtain ⟨f_is_number_to, fd_is_number_to, g_is_number_to, G_is_number_to, b_is_number_to, k_is_number_to⟩ := C_is_number_to
  refine ⟨f, fd, g, ?_, F.bindsN (fun _ _ _ _ _ _ us hl => match us, hl with | [_], _ => rfl), F.kp⟩
  refine F.ok sc_is_powers (fun vs H Q E h => ?_) (fun cdv A outer s H vs Q E hr h => ?_)
  · obtain ⟨q, kk, rfl, hq, h4, hb, k⟩ := h
    rfl
  · obtain ⟨q, kk, rfl, hq, h4, hb, k⟩ := h
    refine ⟨_, PSs.nox (pss_cons (ps_if (PW.pt (pw_or (pt_not (pt_val (pe_callB call_isi (by rfl) T.isi (by decide +kernel) (pa_cons (pv 0) (pa_cons (pe_bltn (v := .ty "tuple") (u := .type "tuple") (by rfl) T.tuple (by decide +kernel) rfl) pa_nil))))) (pw_or1 (pt_cmpR op_ne (pe_callB My.c_len (by rfl) T.len PySem.boot_len (pa_cons (pv 0) pa_nil)) (pe_glob (v := .int 4) (by rfl) gUNK ⟨_, rfl⟩) (nomark _)))))
       (pss_one (ps_ret pe_bl))
       pss_nil)
      (pss_one (ps_ret (pe_callB (cr_all rfl) (by rfl) T.all (by decide +kernel) (pa_cons (pe_lc (own := [("high", 1)]) (tt := tYes) (by rfl) sc_is_powers.nd (pi_tup (pv 0)) (blkOk_by (own := [("high", 1)]) (N := ["thing", "high"]) (sc := (defScope s_is_powers)) (by decide +kernel)) (fun _ _ _ _ _ => (pg_name (i := 1) sc_is_powers.nd rfl (Or.inl rfl))) (fun _ _ _ _ _ => pts_nil) (fun _ _ _ _ _ => (pe_call G_is_number_to (hr.mono (by decide)) (by rfl) g_is_number_to k_is_number_to b_is_number_to .nil pass0 (pa_cons (pe_glob (v := .int 60) (by rfl) gPOW ⟨_, rfl⟩) (pa_cons (pv 1) pa_nil))))) pa_nil))))), ?_⟩
    try dsimp only [cxOf, Cx.nox, Cx.wish]
    walk_at "f"
    refine (TgV.tup hq).isT mem6 ?_
    walk_at "f"
    refine My.lenT (SqT.of hq) ?_
    walk_at "f"
    refine My.ite_nd (fun z => absurd (by rw [List.length_map, h4]; rfl) z) fun _ => ?_
    walk_at "f"
    refine My.lcT rfl (SqT.of hq) (My.lcM (walk_tup (xs := kk.map V.int)) Same (by rw [List.length_map, h4]; decide) (fun D hD => same_new hD) fun D nD => ⟨fun j y H => y = .bl true, fun j y H ys o _ h => h, fun H o s => same_at s nD, fun H2 _ s _ => My.same_seqT s hq, ?_, ?_⟩)
    · rintro i x H2 H3 ys N hi r e l p' ⟨rfl, ex⟩ hN
      rw [List.getElem?_map] at ex
      cases eb : kk[i]? with
      | none => rw [eb] at ex; cases ex
      | some b =>
        rw [eb] at ex
        cases Option.some.inj ex
        walk_at "f"
        refine ⟨rfl, ?_⟩
        walk_at "f"
        refine ⟨60, .int b, .int, rfl, .int b, ?_⟩
        have B := hb b (List.mem_iff_getElem?.mpr ⟨i, eb⟩)
        have z : inTo 60 (.int b) = true := by
          show (decide (0 ≤ b) && decide (b ≤ 60)) = true
          rw [decide_eq_true B.1, decide_eq_true B.2]; rfl
        rw [z]
        exact hN _ _ r e (fun j v hv => p' j v hv) rfl
    · intro H2 ys hD hl2 s2 hy
      have ey : ys = (List.replicate ys.length true).map V.bl := by
        refine List.ext_getElem? fun j => ?_
        rw [List.getElem?_map, List.getElem?_replicate]
        split
        · rename_i z
          rw [List.getElem?_eq_getElem z, hy j _ (List.getElem?_eq_getElem z)]; rfl
        · rw [List.getElem?_eq_none (by omega)]; rfl
      walk_at "f"
      rw [ey] at hD
      refine My.allL (SqL.of hD) ?_
      rw [show (List.replicate ys.length true).all id = true by simp]
      exact k _ s2
theorem sc_is_term : FnScope ["thing", "powers", "count"] ["thing"] (defScope s_is_term) := ⟨rfl, rfl, rfl, by decide +kernel, rfl, by decide +kernel, by decide +kernel⟩
theorem cal_is_term {f : Addr} {fd : FuncData} (F : FnP K "is_term" "is_term" s_is_term f fd) (g : mg "is_term" = some (.ref f)) (T : Txt0 mg) (C_is_powers : Cal P w K mg base "is_powers" 3 ["thing"] (spPowers K)) (C_is_integer : Cal P w K mg base "is_integer" 1 ["thing"] (spIsInt K)) : Cal P w K mg base "is_term" 4 ["thing"] (spTerm K) := by
  obtain ⟨f_is_powers, fd_is_powers, g_is_powers, G_is_powers, b_is_powers, k_is_powers⟩ := C_is_powers
  obtain ⟨f_is_integer, fd_is_integer, g_is_integer, G_is_integer, b_is_integer, k_is_integer⟩ := C_is_integer
  refine ⟨f, fd, g, ?_, F.bindsN (fun _ _ _ _ _ _ us hl => match us, hl with | [_], _ => rfl), F.kp⟩
  refine F.ok sc_is_term (fun vs H Q E h => ?_) (fun cdv A outer s H vs Q E hr h => ?_)
  · obtain ⟨r, q, kk, c, rfl, hr2, hq, h4, hb, hc, k⟩ := h
    rfl
  · obtain ⟨r, q, kk, c, rfl, hr2, hq, h4, hb, hc, k⟩ := h
    refine ⟨_, PSs.nox (pss_cons (ps_if (PW.pt (pw_or (pt_not (pt_val (pe_callB call_isi (by rfl) T.isi (by decide +kernel) (pa_cons (pv 0) (pa_cons (pe_bltn (v := .ty "tuple") (u := .type "tuple") (by rfl) T.tuple (by decide +kernel) rfl) pa_nil))))) (pw_or1 (pt_cmpR op_ne (pe_callB My.c_len (by rfl) T.len PySem.boot_len (pa_cons (pv 0) pa_nil)) pe_int (nomark _)))))
       (pss_one (ps_ret pe_bl))
       pss_nil)
      (pss_cons (ps_asg (pv 0) (pg_tup (by rfl) (pgs_cons (pg_name (i := 1) sc_is_term.nd rfl (Or.inl rfl)) (pgs_cons (pg_name (i := 2) sc_is_term.nd rfl (Or.inl rfl)) pgs_nil))))
      (pss_one (ps_ret (pe_and (pe_call G_is_powers (hr.mono (by decide)) (by rfl) g_is_powers k_is_powers b_is_powers .nil pass0 (pa_cons (pv 1) pa_nil)) (pe_and (pe_call G_is_integer (hr.mono (by decide)) (by rfl) g_is_integer k_is_integer b_is_integer .nil pass0 (pa_cons (pv 2) pa_nil)) (pe_one (pe_cmpR op_ne (pv 2) pe_int (nomark _))))))))), ?_⟩
    try dsimp only [cxOf, Cx.nox, Cx.wish]
    walk_at "f"
    refine (TgV.tup hr2).isT mem6 ?_
    walk_at "f"
    refine My.lenT (SqT.of hr2) ?_
    walk_at "f"
    refine My.ite_nd (fun z => absurd rfl z) fun _ => ?_
    walk_at "f"
    refine My.gtup2 (SqT.of hr2) rfl ?_
    walk_at "f"
    refine ⟨q, kk, rfl, hq, h4, hb, fun H1 s1 => ?_⟩
    refine ⟨_, rfl, ?_⟩
    walk_at "f"
    refine ⟨_, .int, rfl, .int c, ?_⟩
    refine ⟨_, rfl, ?_⟩
    refine My.ite_ct rfl ?_
    walk_at "f"
    rw [decide_eq_false hc]
    exact k _ s1
theorem sc_Poly_init : FnScope ["self", "terms", "index", "term"] ["self", "terms"] (defScope s_Poly_init) := ⟨rfl, rfl, rfl, by decide +kernel, rfl, by decide +kernel, by decide +kernel⟩
theorem ok_Poly_init {f : Addr} {fd : FuncData} {C : Addr} (F : FnP K "__init__" "Poly.__init__" s_Poly_init f fd) (C_is_term : Cal P w K mg base "is_term" 4 ["thing"] (spTerm K)) (T : Txt0 mg) {tM : Tok} (ins : InsT K C) (na : NoAttr K C "terms") (gTRM : mg "MOST_TERMS" = some (.int 300 tM)) : FnOk P w K mg base CX0 5 f fd ["self", "terms"] (spPolyI C) := by
  obtain ⟨f_is_term, fd_is_term, g_is_term, G_is_term, b_is_term, k_is_term⟩ := C_is_term
  refine F.ok sc_Poly_init (fun vs H Q E h => ?_) (fun cdv A outer s H vs Q E hr h => ?_)
  · obtain ⟨p, dx, t, ts, rfl, hp, ht, wf, k⟩ := h
    rfl
  · obtain ⟨p, dx, t, ts, rfl, hp, ht, wf, k⟩ := h
    refine ⟨_, PSs.nox (pss_cons (ps_if (PW.pt (pw_or (pt_not (pt_val (pe_callB call_isi (by rfl) T.isi (by decide +kernel) (pa_cons (pv 1) (pa_cons (pe_bltn (v := .ty "tuple") (u := .type "tuple") (by rfl) T.tuple (by decide +kernel) rfl) pa_nil))))) (pw_or1 (pt_cmpR op_gt (pe_callB My.c_len (by rfl) T.len PySem.boot_len (pa_cons (pv 1) pa_nil)) (pe_glob (v := .int 300) (by rfl) gTRM ⟨_, rfl⟩) (nomark _)))))
       (pss_one ps_never)
       pss_nil)
      (pss_cons (ps_for PassesOwn.never rfl (EnT.pi_enumT (by rfl) T.enum (pa_cons (pv 1) pa_nil)) (pg_tup (by rfl) (pgs_cons (pg_name (i := 2) sc_Poly_init.nd rfl (Or.inl rfl)) (pgs_cons (pg_name (i := 3) sc_Poly_init.nd rfl (Or.inl rfl)) pgs_nil)))
       (pss_one (ps_if (PW.pt (pw_or (pt_not (pt_val (pe_call G_is_term (hr.mono (by decide)) (by rfl) g_is_term k_is_term b_is_term .nil pass0 (pa_cons (pv 3) pa_nil)))) (pw_or1 (PW.pt (pw_and (pt_cmpR op_gt (pv 2) pe_int (nomark _)) (pw_and1 (pt_cmpR (op_leT hr.units0) (pe_ix ix_tup (pv 3) pe_int (fun _ _ => rfl)) (pe_ix ix_tup (pe_ix ix_tup (pv 1) (pe_op op_sub (pv 2) pe_int) (fun _ _ => rfl)) pe_int (fun _ _ => rfl)) (nomark _))))))))
       (pss_one ps_never)
       pss_nil)))
      (pss_one (ps_fld (pv 0) (pv 1) rfl)))), ?_⟩
    try dsimp only [cxOf, Cx.nox, Cx.wish]
    obtain ⟨rs, ht1, ht2⟩ := id ht
    walk_at "f"
    refine (TgV.tup ht1).isT mem6 ?_
    walk_at "f"
    refine My.lenT (SqT.of ht1) ?_
    have hl := wf.few
    have hl2 : rs.length = ts.length := My.plen ht2
    walk_at "f"
    · rename_i z
      rw [List.length_map] at z
      omega
    refine EnT.forT1 ?_
    walk_at "f"
    refine EnT.forT (SqT.of ht1) (fun i σ' H' => Same H H' ∧ ∃ u v, σ' = [some (.ref p), some (.ref t), u, v]) ⟨.refl _, none, none, rfl⟩ (fun _ _ _ _ z => My.same_seqT z.1 ht1) ?_ ?_
    · rintro i x T σ' H1 ex ⟨s1, u, v, rfl⟩ nT
      rw [List.getElem?_map] at ex
      cases er : rs[i]? with
      | none => rw [er] at ex; cases ex
      | some r =>
        rw [er] at ex
        cases Option.some.inj ex
        obtain ⟨⟨kk, c⟩, ep, q, hr1, hr2⟩ := My.pget ht2 er
        have hm : (kk, c) ∈ ts := List.mem_iff_getElem?.mpr ⟨i, ep⟩
        have sT := same_new (o := HO.tup [V.int (i : Nat), V.ref r]) nT
        have s2 := s1.trans sT
        refine My.gtup2 (SqT.of upd_same) rfl ?_
        generalize upd H1 T _ = H2 at s2 ⊢
        walk_at "f"
        refine ⟨r, q, kk, c, rfl, s2 _ _ hr1, s2 _ _ hr2, (wf.ky _ hm).1, (wf.ky _ hm).2, wf.nz _ hm, fun H3 s3 => ?_⟩
        have s3' := s2.trans s3
        walk_at "f"
        · rename_i hpos
          refine My.ixT (SqT.of (s3' _ _ hr1)) (v := .ref q) (by rfl) ?_
          walk_at "f"
          obtain ⟨i0, rfl⟩ : ∃ i0, i = i0 + 1 := ⟨i - 1, by omega⟩
          have hlt : i0 < rs.length := by have := (List.getElem?_eq_some_iff.mp er).1; omega
          have er0 : rs[i0]? = some rs[i0] := List.getElem?_eq_getElem hlt
          obtain ⟨⟨k0, c0⟩, ep0, q0, g1, g2⟩ := My.pget ht2 er0
          have hm0 : (k0, c0) ∈ ts := List.mem_iff_getElem?.mpr ⟨i0, ep0⟩
          have eq0 : ((((i0 + 1 : Nat) : Int)) - 1) = (i0 : Int) := by omega
          rw [eq0]
          refine My.ixT (SqT.of (s3' _ _ ht1)) (atI_nat (by rw [List.getElem?_map, er0]; rfl)) ?_
          walk_at "f"
          refine My.ixT (SqT.of (s3' _ _ g1)) (v := .ref q0) (by rfl) ?_
          refine ⟨q, q0, kk, k0, rfl, rfl, SqT.of (s3' _ _ hr2), SqT.of (s3' _ _ g2), ?_⟩
          have asc : TS.code 64 k0 < TS.code 64 kk := by
            have l1 := (List.getElem?_eq_some_iff.mp ep).1
            have l0 := (List.getElem?_eq_some_iff.mp ep0).1
            have z := (List.pairwise_iff_getElem.mp wf.asc) i0 (i0 + 1) l0 l1 (by omega)
            rw [(List.getElem?_eq_some_iff.mp ep).2, (List.getElem?_eq_some_iff.mp ep0).2] at z
            exact z
          rw [le_no (wf.ky _ hm0).1 (wf.ky _ hm).1 (wf.ky _ hm0).2 (wf.ky _ hm).2 asc]
          walk_at "f"
          exact ⟨s3', _, _, rfl⟩
        · exact ⟨s3', _, _, rfl⟩
    · rintro σ' H' ⟨s1, u, v, rfl⟩
      exact My.fldS (s1 _ _ hp) ins.cl na (by decide) rfl rfl (k _ s1)
end
end K09

set_option Elab.async false
set_option linter.all false
set_option maxRecDepth 100000
set_option maxHeartbeats 4000000
namespace K09
open PySem PySem.Spec PyProof.Rows L2 XV DX
/-- what the head says of Poly -/
structure PolF (K : PySem.W.Frag) (mg : Str → Option Value) (C fI fE : Addr) : Prop where
  g : mg "Poly" = some (.ref C)
  ins : InsT K C
  cn : ClsN K C
  na : NoAttr K C "terms"
  mkr : Mk K C fI
  eq : Meth K C "__eq__" fE
/-- a Poly with the terms ts -/
def PolyAt (C : Addr) (H : Hp) (a : Addr) (ts : Pol) : Prop := ∃ dx t, H a = some (.ins C dx [("terms", .ref t)]) ∧ TermsAt H t ts
theorem PolyAt.same {C : Addr} {H H' : Hp} {a : Addr} {ts : Pol} (s : Same H H') (h : PolyAt C H a ts) : PolyAt C H' a ts := by
  obtain ⟨dx, t, h1, h2⟩ := h
  exact ⟨dx, t, s _ _ h1, h2.same s⟩
theorem all_eq {α : Type} [DecidableEq α] (ks ls : List α) : ((List.range (min ks.length ls.length)).all (fun i => decide (ks[i]? = ls[i]?)) && ks.length == ls.length) = decide (ks = ls) := by
  rw [Bool.eq_iff_iff]
  simp only [Bool.and_eq_true, List.all_eq_true, List.mem_range, decide_eq_true_eq, beq_iff_eq]
  constructor
  · rintro ⟨h, hl⟩
    refine List.ext_getElem? fun i => ?_
    by_cases hi : i < ks.length
    · exact h i (by omega)
    · rw [List.getElem?_eq_none (by omega), List.getElem?_eq_none (by omega)]
  · rintro rfl
    exact ⟨fun _ _ => rfl, rfl⟩
theorem map_inj {α β : Type} {f : α → β} (h : ∀ a b, f a = f b → a = b) : ∀ {k l : List α}, k.map f = l.map f → k = l
  | [], [], _ => rfl
  | [], _ :: _, e => by cases e
  | _ :: _, [], e => by cases e
  | a :: k, b :: l, e => by
    rw [List.map_cons, List.map_cons] at e
    injection e with e1 e2
    rw [h _ _ e1, map_inj h e2]
theorem kat_inj {H : Hp} {q : Addr} {k l : List Int} (h1 : KAt H q k) (h2 : KAt H q l) : k = l := by
  have e : k.map V.int = l.map V.int := by
    have := Option.some.inj ((show H q = _ from h1).symm.trans h2)
    injection this
  exact map_inj (fun a b e => by injection e) e
theorem eqB_ints {K : PySem.W.Frag} {D : OwnE} {H : Hp} {n : Nat} {q r : Addr} {k l : List Int} (hq : KAt H q k) (hr : KAt H r l) : EqB K D H (n + 2) (.ref q) (.ref r) (decide (k = l)) := by
  refine .inr (.inr (.inr (.inl ⟨fun e => ?_, .inr (.inr (.inl ⟨q, r, _, _, fun i => decide (k[i]? = l[i]?), rfl, rfl, SqT.of hq, SqT.of hr, fun i x y hx hy => ?_, ?_⟩))⟩)))
  · cases e
    exact decide_eq_true (kat_inj hq hr)
  · rw [List.getElem?_map] at hx hy
    cases ea : k[i]? with
    | none => rw [ea] at hx; cases hx
    | some a =>
      cases eb : l[i]? with
      | none => rw [eb] at hy; cases hy
      | some b =>
        rw [ea] at hx
        rw [eb] at hy
        cases Option.some.inj hx
        cases Option.some.inj hy
        refine .inl ⟨rfl, rfl, ?_⟩
        show decide (k[i]? = l[i]?) = (a == b)
        rw [ea, eb]
        rw [Bool.eq_iff_iff]
        simp
  · rw [List.length_map, List.length_map]
    exact (all_eq k l).symm
theorem terms_inj {H : Hp} : ∀ {rs : List Addr} {ts us : Pol}, Paired (fun r (p : List Int × Int) => ∃ q, H r = some (.tup [.ref q, .int p.2]) ∧ KAt H q p.1) rs ts → Paired (fun r (p : List Int × Int) => ∃ q, H r = some (.tup [.ref q, .int p.2]) ∧ KAt H q p.1) rs us → ts = us
  | _, _, _, .nil, .nil => rfl
  | _, _, _, .cons (b := p) h t, .cons (b := p') h' t' => by
    obtain ⟨q, e1, e2⟩ := h
    obtain ⟨q', e1', e2'⟩ := h'
    rw [e1] at e1'
    injection e1' with e1'
    injection e1' with e1'
    injection e1' with a b
    injection a with a
    injection b with b _
    injection b with b
    subst a
    have k := kat_inj e2 e2'
    rw [terms_inj t t', Prod.ext k b]
theorem eqS_terms {K : PySem.W.Frag} {D : OwnE} {H : Hp} {n : Nat} {t u : Addr} {ts us : Pol} (ht : TermsAt H t ts) (hu : TermsAt H u us) : EqS K H (EqB K D H (n + 3)) (.ref t) (.ref u) (decide (ts = us)) := by
  obtain ⟨rs, h1, h2⟩ := ht
  obtain ⟨ss, g1, g2⟩ := hu
  refine .inr (.inr (.inl ⟨t, u, _, _, fun i => decide (ts[i]? = us[i]?), rfl, rfl, SqT.of h1, SqT.of g1, fun i x y hx hy => ?_, ?_⟩))
  · rw [List.getElem?_map] at hx hy
    cases ea : rs[i]? with
    | none => rw [ea] at hx; cases hx
    | some r =>
      cases eb : ss[i]? with
      | none => rw [eb] at hy; cases hy
      | some s =>
        rw [ea] at hx
        rw [eb] at hy
        cases Option.some.inj hx
        cases Option.some.inj hy
        obtain ⟨p, ep, q, f1, f2⟩ := My.pget h2 ea
        obtain ⟨p', ep', q', f1', f2'⟩ := My.pget g2 eb
        show EqB K D H (n + 3) (V.ref r) (V.ref s) (decide (ts[i]? = us[i]?))
        rw [ep, ep']
        have key : decide (some p = some p') = (decide (p.1 = p'.1) && (decide (p.2 = p'.2) && true)) := by
          rw [Bool.eq_iff_iff]
          simp only [Bool.and_eq_true, decide_eq_true_eq, Option.some.injEq, and_true]
          exact ⟨fun e => by rw [e]; exact ⟨rfl, rfl⟩, fun ⟨e1, e2⟩ => Prod.ext e1 e2⟩
        refine .inr (.inr (.inr (.inl ⟨fun e => ?_, .inr (.inr (.inl ⟨r, s, _, _, fun i => if i = 0 then decide (p.1 = p'.1) else decide (p.2 = p'.2), rfl, rfl, SqT.of f1, SqT.of f1', fun i x y hx hy => ?_, ?_⟩))⟩)))
        · cases e
          rw [f1] at f1'
          injection f1' with f1'
          injection f1' with f1'
          injection f1' with a b
          injection a with a
          injection b with b _
          injection b with b
          subst a
          rw [Prod.ext (kat_inj f2 f2') b]
          exact decide_eq_true rfl
        · match i, hx, hy with
          | 0, hx, hy =>
            cases Option.some.inj hx
            cases Option.some.inj hy
            exact eqB_ints f2 f2'
          | 1, hx, hy =>
            cases Option.some.inj hx
            cases Option.some.inj hy
            exact .inl ⟨rfl, rfl, rfl⟩
          | i + 2, hx, hy => simp at hx
        · rw [key]
          simp [List.range_succ]
  · rw [List.length_map, List.length_map, My.plen h2, My.plen g2]
    exact (all_eq ts us).symm
/-- the == of Poly -/
def PEq (C : Addr) : OwnE := fun a c b H => ∃ ts us, PolyAt C H a ts ∧ PolyAt C H c us ∧ b = decide (ts = us)
/-- the greatest power of an unknown -/
def colP (ts : Pol) (j : Nat) : List Int := ts.map fun p => p.1.getD j 0
def greatP (ts : Pol) : List Int := (List.range 4).map fun j => mx 0 (colP ts j)
def spGreat : Sp := fun vs H Q _ => ∃ (t : Addr) (ts : Pol), vs = [.ref t] ∧ TermsAt H t ts ∧ (∀ p ∈ ts, p.1.length = 4) ∧ ts.length ≤ 1000 ∧ ∀ p H', H p = none → Same H H' → H' p = some (.lst ((greatP ts).map V.int)) → Q (.ref p) H'
def gpS : Scope := { kind := ScopeKind.function, names := [(".0", NameKind.local), ("k", NameKind.cell), ("max", NameKind.globalImplicit), ("terms", NameKind.cell)], isGenerator := false, isCoroutine := false }
section
variable {P : Program} {w : World} {K : PySem.W.Frag} {mg : Str → Option Value} {base : Heap}
theorem sc_Poly_eq : FnScope ["self", "other"] ["self", "other"] (defScope s_Poly_eq) := ⟨rfl, rfl, rfl, by decide +kernel, rfl, by decide +kernel, by decide +kernel⟩
theorem ok_Poly_eq {f : Addr} {fd : FuncData} {C fI fE : Addr} (F : FnP K "__eq__" "Poly.__eq__" s_Poly_eq f fd) (T : Txt0 mg) (PT : PolF K mg C fI fE) : FnOk P w K mg base CX0 5 f fd ["self", "other"] (spEqB (PEq C)) := by
  refine F.ok sc_Poly_eq (fun vs H Q E h => ?_) (fun cdv A outer s H vs Q E hr h => ?_)
  · obtain ⟨a, c, b, rfl, ⟨ts, us, ⟨dx, t, ha, ht⟩, ⟨dx2, t2, hc, hu⟩, rfl⟩, k⟩ := h
    rfl
  · obtain ⟨a, c, b, rfl, ⟨ts, us, ⟨dx, t, ha, ht⟩, ⟨dx2, t2, hc, hu⟩, rfl⟩, k⟩ := h
    have gPoly := PT.g
    refine ⟨_, PSs.nox (pss_one (ps_ret (pe_and (pe_callB call_isi (by rfl) T.isi (by decide +kernel) (pa_cons (pv 1) (pa_cons (pe_glob (v := .ref C) (by rfl) gPoly rfl) pa_nil))) (pe_one (pe_cmpR (DX.op_eqB DX.ownR_no (n := 3) (hr.mono (by decide))) (pe_fld (pv 0) rfl) (pe_fld (pv 1) rfl) (nomark _)))))), ?_⟩
    try dsimp only [cxOf, Cx.nox, Cx.wish]
    walk_at "f"
    refine (TgV.ins hc PT.ins).isOwn PT.cn (fun D e => by injection e with e; exact .inl e.symm) ?_
    rw [show (Tg.ins C).isC C = true from decide_eq_true rfl]
    walk_at "f"
    have lk : ∀ v : V, ([("terms", v)] : List (Str × V)).lookup ("terms" : Str) = some v := fun v => by simp [List.lookup]
    refine My.fld ha PT.ins.cl PT.na (lk _) rfl ?_
    refine My.fld hc PT.ins.cl PT.na (lk _) rfl ?_
    exact ⟨_, .inr (eqS_terms ht hu), k⟩
theorem sc_greatest_powers : FnScope ["terms", "k", "powers", "_"] ["terms"] (defScope s_greatest_powers) := ⟨rfl, rfl, rfl, by decide +kernel, rfl, by decide +kernel, by decide +kernel⟩
theorem cal_greatest_powers {f : Addr} {fd : FuncData} (F : FnP K "greatest_powers" "greatest_powers" s_greatest_powers f fd) (g : mg "greatest_powers" = some (.ref f)) (T : Txt0 mg) {tU : Tok} (gUNK : mg "UNKNOWNS" = some (.int 4 tU)) : Cal P w K mg base "greatest_powers" 1 ["terms"] spGreat := by
  refine ⟨f, fd, g, ?_, F.bindsN (fun _ _ _ _ _ _ us hl => match us, hl with | [_], _ => rfl), F.kp⟩
  refine F.ok sc_greatest_powers (fun vs H Q E h => ?_) (fun cdv A outer s H vs Q E hr h => ?_)
  · obtain ⟨t, ts, rfl, ht, h4, hl, k⟩ := h
    rfl
  · obtain ⟨t, ts, rfl, ht, h4, hl, k⟩ := h
    refine ⟨_, PSs.nox (pss_one (ps_ret (pe_lc (own := [("k", 1)]) (tt := tYes) (te := tCKw (rMaxDf K) (tCons (tLc (iTup K (tVar 0)) (gTup K 2 (gCons (gName 2) (gCons (gName 3) gNil))) tYes (tOp (rIxT K) (tVar 2) (tVar 1)) [2, 3]) tNil) (tCons (tC (.int 0)) tNil)) (by rfl) sc_greatest_powers.nd (pi_range1 (by rfl) T.range (pa_cons (pe_glob (v := .int 4) (by rfl) gUNK ⟨_, rfl⟩) pa_nil)) (blkOk_by (own := [("k", 1)]) (N := ["terms", "k", "powers", "_"]) (sc := (defScope s_greatest_powers)) (by decide +kernel)) (fun _ _ _ _ _ => (pg_name (i := 1) sc_greatest_powers.nd rfl (Or.inr rfl))) (fun _ _ _ _ _ => pts_nil) (fun _ _ _ _ _ => (pe_callBK (DX.cr_maxDf rfl (Nat.lt_of_le_of_lt (Nat.add_le_add_left (by decide) _) hr.units)) (by rfl) T.max (by decide +kernel) (pa_cons (pe_lc (own := [("powers", 2), ("_", 3)]) (tt := tYes) (te := tOp (rIxT K) (tVar 2) (tVar 1)) (wi := iTup K (tVar 0)) (g := gTup K 2 (gCons (gName 2) (gCons (gName 3) gNil))) (by rfl) sc_greatest_powers.nd (pi_tup (pv 0)) (blkOk_by (own := [("powers", 2), ("_", 3)]) (N := ["terms", "k", "powers", "_"]) (sc := gpS) (by decide +kernel)) (fun _ _ _ _ _ => (pg_tup (by rfl) (pgs_cons (pg_name (i := 2) sc_greatest_powers.nd rfl (Or.inl rfl)) (pgs_cons (pg_name (i := 3) sc_greatest_powers.nd rfl (Or.inl rfl)) pgs_nil)))) (fun _ _ _ _ _ => pts_nil) (fun _ _ _ _ _ => (pe_ix ix_tup (pv 2) (pv 1) (fun _ _ => rfl)))) pa_nil) (pk_cons pe_int pk_nil)))))), ?_⟩
    try dsimp only [cxOf, Cx.nox, Cx.wish]
    obtain ⟨rs, ht1, ht2⟩ := id ht
    have hrl := My.plen ht2
    walk_at "f"
    refine ⟨4, rfl, by decide, by decide, My.lcM walk_range Same (by decide) (fun D hD => same_new hD) fun D nD => ⟨fun j y H => y = .int (mx 0 (colP ts j)), fun j y H ys o _ h => h, fun H o s => same_at s nD, fun _ _ _ _ => trivial, ?_, ?_⟩⟩
    · rintro i x H2 H3 ys N hi r e l p' ⟨rfl, rfl⟩ hN
      walk_at "f"
      refine ⟨rfl, ?_⟩
      walk_at "f"
      refine My.lcT rfl (SqT.of (r _ _ ht1)) (My.lcM (walk_tup (xs := rs.map V.ref)) Same (by rw [List.length_map]; omega) (fun D hD => same_new hD) fun D2 nD2 => ⟨fun j y H => ∃ p, ts[j]? = some p ∧ y = .int (p.1.getD i 0), fun j y H ys o _ h => h, fun H o s => same_at s nD2, fun H2 _ s _ => My.same_seqT (r.trans s) ht1, ?_, ?_⟩)
      · rintro j x H4 H5 zs N2 hj r2 e2 l2 p2 ⟨rfl, ex⟩ hN2
        rw [List.getElem?_map] at ex
        cases er : rs[j]? with
        | none => rw [er] at ex; cases ex
        | some a =>
          rw [er] at ex
          cases Option.some.inj ex
          obtain ⟨⟨kk, c⟩, ep, q, g1, g2⟩ := My.pget ht2 er
          have s4 := r.trans r2
          refine My.gtup2 (SqT.of (s4 _ _ g1)) rfl ?_
          refine ⟨rfl, ?_⟩
          walk_at "f"
          have hk4 := h4 _ (List.mem_iff_getElem?.mpr ⟨j, ep⟩)
          have hik : (kk.map V.int)[i]? = some (V.int (kk.getD i 0)) := by
            rw [List.getElem?_map, List.getElem?_eq_getElem (show i < kk.length by rw [hk4]; exact hi), List.getD_eq_getElem?_getD, List.getElem?_eq_getElem (show i < kk.length by rw [hk4]; exact hi)]
            rfl
          have ei : (0 + (i : Int)) = (i : Int) := by omega
          rw [ei]
          refine My.ixT (SqT.of (s4 _ _ g2)) (atI_nat hik) ?_
          exact hN2 _ _ r2 e2 p2 ⟨_, ep, rfl⟩
      · intro H4 zs hD2 hl2 r2 hz
        have ez : zs = (colP ts i).map V.int := by
          refine List.ext_getElem? fun j => ?_
          rw [List.getElem?_map, colP, List.getElem?_map]
          by_cases hj : j < zs.length
          · obtain ⟨p, e1, e2⟩ := hz j _ (List.getElem?_eq_getElem hj)
            rw [List.getElem?_eq_getElem hj, e1, e2]; rfl
          · rw [List.getElem?_eq_none (by omega), List.getElem?_eq_none (by rw [List.length_map] at hl2; omega)]; rfl
        walk_at "f"
        rw [ez] at hD2
        refine ⟨D2, colP ts i, 0, rfl, rfl, SqL.of hD2, ?_⟩
        exact hN _ _ (r.trans r2) (r2 _ _ e) p' rfl
    · intro H2 ys hD hl2 s2 hy
      refine k D _ nD s2 ?_
      rw [hD, map_of hl2 hy, greatP, List.map_map]
      rfl
/-- the last unknown that stands in it -/
def topP (ts : Pol) : Option Nat := (List.range 4).foldl (fun acc j => if 0 < mx 0 (colP ts j) then some j else acc) none
def topV (ts : Pol) : V := match topP ts with
  | none => .non
  | some j => .int (j : Nat)
/-- are all unknowns below many -/
def inP (many : Int) (ts : Pol) : Bool := match topP ts with
  | none => true
  | some j => decide ((j : Int) < many)
def spTop (C : Addr) : Sp := fun vs H Q _ => ∃ (a : Addr) (ts : Pol), vs = [.ref a] ∧ PolyAt C H a ts ∧ (∀ p ∈ ts, p.1.length = 4) ∧ ts.length ≤ 1000 ∧ ∀ H', Same H H' → Q (topV ts) H'
/-- an item of a tuple: a polynomial, or none -/
def Itm (K : PySem.W.Frag) (C : Addr) (H : Hp) (v : V) : Option Pol → Prop
  | some ts => ∃ a, v = .ref a ∧ PolyAt C H a ts ∧ (∀ p ∈ ts, p.1.length = 4) ∧ ts.length ≤ 1000
  | none => ∃ t, TgV K H v t ∧ (∀ D, t = .ins D → D ≠ C ∧ PySem.W.kitOne K (.ref D) (.ref C) = some false)
def inO (many : Int) : Option Pol → Bool
  | some ts => inP many ts
  | none => false
def spStands (K : PySem.W.Frag) (C : Addr) : Sp := fun vs H Q _ => ∃ (many : Int) (v : V) (o : Option Pol), vs = [.int many, v] ∧ Itm K C H v o ∧ ∀ H', Same H H' → Q (.bl (inO many o)) H'

theorem sc_top : FnScope ["poly", "found", "k", "high"] ["poly"] (defScope s_top) := ⟨rfl, rfl, rfl, by decide +kernel, rfl, by decide +kernel, by decide +kernel⟩
theorem cal_top {f : Addr} {fd : FuncData} {C fI fE : Addr} (F : FnP K "top" "top" s_top f fd) (g : mg "top" = some (.ref f)) (T : Txt0 mg) (C_greatest_powers : Cal P w K mg base "greatest_powers" 1 ["terms"] spGreat) (PT : PolF K mg C fI fE) : Cal P w K mg base "top" 2 ["poly"] (spTop C) := by
  obtain ⟨f_greatest_powers, fd_greatest_powers, g_greatest_powers, G_greatest_powers, b_greatest_powers, k_greatest_powers⟩ := C_greatest_powers
  refine ⟨f, fd, g, ?_, F.bindsN (fun _ _ _ _ _ _ us hl => match us, hl with | [_], _ => rfl), F.kp⟩
  refine F.ok sc_top (fun vs H Q E h => ?_) (fun cdv A outer s H vs Q E hr h => ?_)
  · obtain ⟨a, ts, rfl, hp, h4, hl, k⟩ := h
    rfl
  · obtain ⟨a, ts, rfl, hp, h4, hl, k⟩ := h
    refine ⟨_, PSs.nox (pss_cons (ps_set (i := 1) sc_top.nd rfl (Or.inl rfl) pe_non)
      (pss_cons (ps_for PassesOwn.never rfl (pi_enum (by rfl) T.enum (pa_cons (pe_call G_greatest_powers (hr.mono (by decide)) (by rfl) g_greatest_powers k_greatest_powers b_greatest_powers .nil pass0 (pa_cons (pe_fld (pv 0) rfl) pa_nil)) pa_nil)) (pg_tup (by rfl) (pgs_cons (pg_name (i := 2) sc_top.nd rfl (Or.inl rfl)) (pgs_cons (pg_name (i := 3) sc_top.nd rfl (Or.inl rfl)) pgs_nil)))
       (pss_one (ps_if (pt_cmpR op_gt (pv 3) pe_int (nomark _))
       (pss_one (ps_set (i := 1) sc_top.nd rfl (Or.inl rfl) (pv 2)))
       pss_nil)))
      (pss_one (ps_ret (pv 1))))), ?_⟩
    try dsimp only [cxOf, Cx.nox, Cx.wish]
    obtain ⟨dx, t, ha, ht⟩ := id hp
    walk_at "f"
    refine My.forEn1 ?_
    walk_at "f"
    have lk : ∀ v : V, ([("terms", v)] : List (Str × V)).lookup ("terms" : Str) = some v := fun v => by simp [List.lookup]
    refine My.fld ha PT.ins.cl PT.na (lk _) rfl ?_
    walk_at "f"
    refine ⟨t, ts, rfl, ht, h4, hl, fun g H1 ng s1 hg => ?_⟩
    have e4 : (greatP ts).map V.int = (List.range 4).map fun j => V.int (mx 0 (colP ts j)) := by rw [greatP, List.map_map]; rfl
    walk_at "f"
    refine My.forEn (SqL.of hg) (fun i σ' H' => Same H H' ∧ H' g = some (.lst ((greatP ts).map V.int)) ∧ ∃ u v, σ' = [some (.ref a), some (match (List.range i).foldl (fun acc j => if 0 < mx 0 (colP ts j) then some j else acc) none with | none => .non | some j => .int (j : Nat)), u, v]) ⟨s1, hg, none, none, rfl⟩ (fun _ _ _ _ z => SqL.of z.2.1) ?_ ?_
    · rintro i x T σ' H2 ex ⟨s2, hg2, u, v, rfl⟩ nT
      rw [e4, List.getElem?_map] at ex
      cases er : (List.range 4)[i]? with
      | none => rw [er] at ex; cases ex
      | some j =>
        rw [er] at ex
        cases Option.some.inj ex
        obtain ⟨hi4, rfl⟩ : i < 4 ∧ j = i := by
          have z := List.getElem?_eq_some_iff.mp er
          exact ⟨by simpa using z.1, by simpa using z.2.symm⟩
        have sT := same_new (o := HO.tup [V.int (j : Nat), V.int (mx 0 (colP ts j))]) nT
        refine My.gtup2 (SqT.of upd_same) rfl ?_
        have s3 := s2.trans sT
        have hg3 := sT _ _ hg2
        generalize upd H2 T _ = H3 at s3 hg3 ⊢
        walk_at "f"
        · rename_i hpos
          refine ⟨s3, hg3, some (.int (j : Nat)), some (.int (mx 0 (colP ts j))), ?_⟩
          rw [List.range_succ, List.foldl_append]
          simp only [List.foldl_cons, List.foldl_nil, if_pos hpos]
          rfl
        · rename_i hpos
          refine ⟨s3, hg3, some (.int (j : Nat)), some (.int (mx 0 (colP ts j))), ?_⟩
          rw [List.range_succ, List.foldl_append]
          simp only [List.foldl_cons, List.foldl_nil, if_neg hpos]
          rfl
    · rintro σ' H2 ⟨s2, hg2, u, v, rfl⟩
      rw [e4, List.length_map]
      walk_at "f"
      exact k _ s2
theorem sc_stands_in : FnScope ["many", "thing", "highest"] ["many", "thing"] (defScope s_stands_in) := ⟨rfl, rfl, rfl, by decide +kernel, rfl, by decide +kernel, by decide +kernel⟩
theorem cal_stands_in {f : Addr} {fd : FuncData} {C fI fE : Addr} (F : FnP K "stands_in" "stands_in" s_stands_in f fd) (g : mg "stands_in" = some (.ref f)) (T : Txt0 mg) (C_top : Cal P w K mg base "top" 2 ["poly"] (spTop C)) (PT : PolF K mg C fI fE) : Cal P w K mg base "stands_in" 3 ["many", "thing"] (spStands K C) := by
  obtain ⟨f_top, fd_top, g_top, G_top, b_top, k_top⟩ := C_top
  refine ⟨f, fd, g, ?_, F.bindsN (fun _ _ _ _ _ _ us hl => match us, hl with | [_, _], _ => rfl), F.kp⟩
  refine F.ok sc_stands_in (fun vs H Q E h => ?_) (fun cdv A outer s H vs Q E hr h => ?_)
  · obtain ⟨many, v, o, rfl, hv, k⟩ := h
    rfl
  · obtain ⟨many, v, o, rfl, hv, k⟩ := h
    have gPoly := PT.g
    refine ⟨_, PSs.nox (pss_cons (ps_if (pt_not (pt_val (pe_callB call_isi (by rfl) T.isi (by decide +kernel) (pa_cons (pv 1) (pa_cons (pe_glob (v := .ref C) (by rfl) gPoly rfl) pa_nil)))))
       (pss_one (ps_ret pe_bl))
       pss_nil)
      (pss_cons (ps_set (i := 2) sc_stands_in.nd rfl (Or.inl rfl) (pe_call G_top (hr.mono (by decide)) (by rfl) g_top k_top b_top .nil pass0 (pa_cons (pv 1) pa_nil)))
      (pss_one (ps_ret (pe_or (pe_cmpR DX.op_isNn (pv 2) pe_non (nomark _)) (pe_one (pe_cmpR op_lt (pv 2) (pv 0) (nomark _)))))))), ?_⟩
    try dsimp only [cxOf, Cx.nox, Cx.wish]
    walk_at "f"
    cases o with
    | none =>
      obtain ⟨t, tv, ne⟩ := hv
      have z : t.isC C = false := decide_eq_false fun e => (ne C e).1 rfl
      refine tv.isOwn PT.cn (fun D e => .inr (ne D e).2) ?_
      rw [z]
      walk_at "f"
      exact k _ (.refl _)
    | some ts =>
      obtain ⟨a, rfl, hp, h4, hl⟩ := hv
      obtain ⟨dx, t, ha, ht⟩ := id hp
      refine (TgV.ins ha PT.ins).isOwn PT.cn (fun D e => by injection e with e; exact .inl e.symm) ?_
      rw [show (Tg.ins C).isC C = true from decide_eq_true rfl]
      walk_at "f"
      refine ⟨a, ts, rfl, hp, h4, hl, fun H1 s1 => ?_⟩
      have kk := k _ s1
      have e : inO many (some ts) = (match topP ts with | none => true | some j => decide ((j : Int) < many)) := rfl
      rw [e] at kk
      unfold topV
      walk_at "f"
      refine ⟨rfl, ?_⟩
      cases e2 : topP ts with
      | none =>
        rw [e2] at kk
        walk_at "f"
        · exact kk
        · rename_i z
          exact absurd rfl z
      | some j =>
        rw [e2] at kk
        walk_at "f"
        · rename_i z
          cases z
        · exact kk
end
end K09

set_option Elab.async false
set_option linter.all false
set_option maxRecDepth 100000
set_option maxHeartbeats 4000000
namespace K09
open PySem PySem.Spec PyProof.Rows L2 XV DX XF He
structure SysF (K : PySem.W.Frag) (mg : Str → Option Value) (S fI fE : Addr) : Prop where
  g : mg "System" = some (.ref S)
  ins : InsT K S
  cn : ClsN K S
  n1 : NoAttr K S "many"
  n2 : NoAttr K S "equations"
  n3 : NoAttr K S "barred"
  mkr : Mk K S fI
  eq : Meth K S "__eq__" fE
  nf : PySem.W.notFirst K S (.type "tuple") = true
/-- a part: a tuple of items, or none -/
def Prt (K : PySem.W.Frag) (C : Addr) (H : Hp) (v : V) : Option (List (Option Pol)) → Prop
  | some os => ∃ a xs, v = .ref a ∧ H a = some (.tup xs) ∧ Paired (Itm K C H) xs os
  | none => ∃ t, TgV K H v t ∧ t.is "tuple" = false
inductive Wr where
  | many | part (b : Bool) | at (b : Bool) (i : Nat)
/-- some none: the part itself; some (some i): its item i -/
def prtW (many : Int) : Option (List (Option Pol)) → Option (Option Nat)
  | none => some none
  | some os => if 6 < os.length then some none else (os.findIdx? fun o => !inO many o).map some
def okMany : V → Option Int
  | .int i => if 1 ≤ i ∧ i ≤ 3 then some i else none
  | _ => none
def sysWr (v : V) (p q : Option (List (Option Pol))) : Option Wr := match okMany v with
  | none => some .many
  | some many => match prtW many p with
    | some none => some (.part false)
    | some (some i) => some (.at false i)
    | none => match prtW many q with
      | some none => some (.part true)
      | some (some i) => some (.at true i)
      | none => none
def wrOf (b : Bool) : Option Nat → Wr
  | none => .part b
  | some i => .at b i
def WrV (H : Hp) (v : V) : Wr → Prop
  | .many => v = .str "many"
  | .part b => v = .str (if b then "barred" else "equations")
  | .at b i => ∃ a, v = .ref a ∧ H a = some (.tup [.str (if b then "barred" else "equation"), .int (i : Nat)])
def SysO (S dx : Addr) (a b c : V) : HO := .ins S dx [("many", a), ("equations", b), ("barred", c)]
def spSysI (K : PySem.W.Frag) (C S : Addr) : Sp := fun vs H Q E => ∃ (p dx : Addr) (vm ve vb : V) (tm : Tg) (re rb : Option (List (Option Pol))), vs = [.ref p, vm, ve, vb] ∧ H p = some (.ins S dx []) ∧ TgV K H vm tm ∧ Prt K C H ve re ∧ Prt K C H vb rb ∧
  match sysWr vm re rb with
  | none => ∀ H', Same H H' → Q .non (upd H' p (SysO S dx vm ve vb))
  | some W => ∀ H' d y, Same H H' → H' d = some (.xd [("part", y)]) → WrV H' y W → E (.ref (ga K "BadSystem")) (some d) H'
/-- __init__ of a class with the field f -/
def spInitX (C : Addr) (f : Str) : Sp := fun vs H Q _ => ∃ (a : Addr) (y : V), vs = [.ref a, y] ∧ H a = some (exo a C none) ∧ ∀ dx, H dx = none → dx ≠ a → Q .non (upd (upd H dx (exd dx [(f, y)])) a (exo a C (some dx)))
theorem _root_.DX.TgV.same {K : PySem.W.Frag} {H H' : Hp} {v : V} {t : Tg} (s : Same H H') (h : TgV K H v t) : TgV K H' v t := by
  cases h with
  | non => exact .non
  | bl b => exact .bl b
  | int i => exact .int i
  | str z => exact .str z
  | lst e => exact .lst (s _ _ e)
  | tup e => exact .tup (s _ _ e)
  | dK e => exact .dK (s _ _ e)
  | dT e => exact .dT (s _ _ e)
  | ins e c => exact .ins (s _ _ e) c
section
variable {P : Program} {w : World} {K : PySem.W.Frag} {mg : Str → Option Value} {base : Heap}
theorem init_read {C a : Addr} {f : Str} {y : V} {H : Hp} {Q : VK} (OX : OexC K C) (no : PySem.W.findIn K (.ref C) f = some none) (ha : H a = some (exo a C none)) (k : ∀ dx, H dx = none → dx ≠ a → Q .non (upd (upd H dx (exd dx [(f, y)])) a (exo a C (some dx)))) :
    tOst K f (tVar 0) (tVar 1) { nx := fun _ H' => Q .non H', rt := Q } [some (.ref a), some y] H :=
  ⟨y, rfl, .ref a, rfl, a, C, rfl, OX, no, .inl ⟨ha, k⟩⟩
theorem sc_BadSystem : FnScope ["self", "part"] ["self", "part"] (defScope s_BadSystem_init) := ⟨rfl, rfl, rfl, by decide +kernel, rfl, by decide +kernel, by decide +kernel⟩
theorem ok_BadSystem {f : Addr} {fd : FuncData} (F : FnP K "__init__" "BadSystem.__init__" s_BadSystem_init f fd) (OX : OexC K (ga K "BadSystem")) (no : PySem.W.findIn K (.ref (ga K "BadSystem")) "part" = some none) : FnOk P w K mg base CX0 1 f fd ["self", "part"] (spInitX (ga K "BadSystem") "part") := by
  refine F.ok sc_BadSystem (fun vs H Q E h => ?_) (fun cdv A outer s H vs Q E hr h => ?_)
  · obtain ⟨a, y, rfl, _⟩ := h
    rfl
  · obtain ⟨a, y, rfl, ha, k⟩ := h
    exact ⟨_, PSs.nox (pss_one (ps_ost (pv 0) (pv 1))), init_read OX no ha k⟩
/-- what a raise does: the error's dict d is new -/
def MkE (C : Addr) (H1 : Hp) (vs : List V) (Q : XK) : Prop := vs.length ≤ 1000 ∧ ∀ a, H1 a = none → spInitX C "part" (.ref a :: (vs ++ [])) (upd H1 a (exo a C none))
  (fun v H2 => v = .non ∧ ∃ (d : Addr) (fs : List (Str × V)), H2 a = some (exo a C (some d)) ∧ H2 d = some (exd d fs) ∧ H1 d = none ∧ Q (.ref C) (some d) (upd (del H2 a) d (.xd fs))) (fun _ _ _ => False)
theorem mkO {C : Addr} {ta : TA} {σ : L2.St} {H : Hp} {Q : XK} (h : ta σ H fun vs H1 => MkE C H1 vs Q) : tMkO C (spInitX C "part") [] ta σ H Q := h
theorem mkE {C : Addr} {H : Hp} {v : V} {Q : XK} (k : ∀ d H', Same H H' → H' d = some (.xd [("part", v)]) → Q (.ref C) (some d) H') : MkE C H [v] Q := by
  refine ⟨(by decide : 1 ≤ 1000), fun a n => ⟨a, v, rfl, upd_same, fun dx nx ne => ⟨rfl, dx, [("part", v)], upd_same, ?_, ?_, ?_⟩⟩⟩
  · rw [upd_ne ne, upd_same]
  · rw [upd_ne ne] at nx
    exact nx
  · rw [upd_ne ne] at nx
    refine k dx _ (fun b o e => ?_) upd_same
    rw [upd_ne (ne_of_none e nx), del_ne (ne_of_none e n), upd_ne (ne_of_none e n), upd_ne (ne_of_none e nx), upd_ne (ne_of_none e n)]
    exact e
theorem sys_at {vm : V} {m : Int} {re rb : Option (List (Option Pol))} (hm : okMany vm = some m) {b : Bool} {x : Option Nat} (h : b = true → prtW m re = none) (e : prtW m (if b then rb else re) = some x) : sysWr vm re rb = some (wrOf b x) := by
  unfold sysWr
  rw [hm]
  cases b with
  | false =>
    rw [if_neg Bool.false_ne_true] at e
    simp only [e]
    cases x <;> rfl
  | true =>
    rw [if_pos rfl] at e
    simp only [h rfl, e]
    cases x <;> rfl
theorem sys_no {vm : V} {m : Int} {re rb : Option (List (Option Pol))} (hm : okMany vm = some m) (h1 : prtW m re = none) (h2 : prtW m rb = none) : sysWr vm re rb = none := by
  unfold sysWr
  rw [hm]
  simp only [h1, h2]
theorem Itm.same {C : Addr} {H H' : Hp} {v : V} {o : Option Pol} (s : Same H H') (h : Itm K C H v o) : Itm K C H' v o := by
  cases o with
  | some ts =>
    obtain ⟨a, e, p, h⟩ := h
    exact ⟨a, e, p.same s, h⟩
  | none =>
    obtain ⟨t, tv, h⟩ := h
    exact ⟨t, tv.same s, h⟩
theorem sc_System_init : FnScope ["self", "many", "equations", "barred", "part", "single", "polys", "index", "poly"] ["self", "many", "equations", "barred"] (defScope s_System_init) := ⟨rfl, rfl, rfl, by decide +kernel, rfl, by decide +kernel, by decide +kernel⟩
theorem ok_System_init {f : Addr} {fd : FuncData} {C S fI fE : Addr} {fdB : FuncData} (F : FnP K "__init__" "System.__init__" s_System_init f fd) (C_is_integer : Cal P w K mg base "is_integer" 1 ["thing"] (spIsInt K)) (C_stands_in : Cal P w K mg base "stands_in" 3 ["many", "thing"] (spStands K C)) (T : Txt0 mg) {tU tP : Tok} (gMU : mg "MOST_UNKNOWNS" = some (.int 3 tU)) (gMP : mg "MOST_POLYS" = some (.int 6 tP)) (ST : SysF K mg S fI fE) (F_BS : FnP K "__init__" "BadSystem.__init__" s_BadSystem_init (ma K (ga K "BadSystem") "__init__") fdB) (EB : Err K mg "BadSystem") (FB : Fld K "BadSystem" "part") : FnOk P w K mg base (L2.CX P w) 4 f fd ["self", "many", "equations", "barred"] (spSysI K C S) := by
  obtain ⟨f_is_integer, fd_is_integer, g_is_integer, G_is_integer, b_is_integer, k_is_integer⟩ := C_is_integer
  obtain ⟨f_stands_in, fd_stands_in, g_stands_in, G_stands_in, b_stands_in, k_stands_in⟩ := C_stands_in
  refine F.ok sc_System_init (fun vs H Q E h => ?_) (fun cdv A outer s H vs Q E hr h => ?_)
  · obtain ⟨p, dx, vm, ve, vb, tm, re, rb, rfl, hp, tvm, hre, hrb, k⟩ := h
    rfl
  · obtain ⟨p, dx, vm, ve, vb, tm, re, rb, rfl, hp, tvm, hre, hrb, k⟩ := h
    have B_BS : Binds K fdB ["self", "part"] [] := F_BS.bindsN fun _ _ _ _ _ _ us hl => match us, hl with | [_, _], _ => rfl
    refine ⟨_, (pss_cons (ps_if (PW.pt (pw_or (pt_not (pt_val (pe_call G_is_integer (hr.mono (by decide)) (by rfl) g_is_integer k_is_integer b_is_integer .nil pass0 (pa_cons (pv 1) pa_nil)))) (pw_or1 (pt_not (pt_chain op_le op_le pe_int (pv 1) (pe_glob (v := .int 3) (by rfl) gMU ⟨_, rfl⟩))))))
       (pss_one (ps_raise (by rfl) (takes_of rfl rfl rfl rfl) (pmk_oex EB.ox FB.ini FB.ty (ok_BadSystem F_BS EB.ox FB.no) (hr.mono (by decide)) B_BS .nil pass0 (by rfl) EB.g (by exact (pa_cons pe_str pa_nil)))))
       pss_nil)
      (pss_cons (ps_for (passes_of rfl) rfl (pi_tup (pe_tup (pa_cons (pe_tup (pa_cons pe_str (pa_cons pe_str (pa_cons (pv 2) pa_nil)))) (pa_cons (pe_tup (pa_cons pe_str (pa_cons pe_str (pa_cons (pv 3) pa_nil)))) pa_nil)))) (pg_tup (by rfl) (pgs_cons (pg_name (i := 4) sc_System_init.nd rfl (Or.inl rfl)) (pgs_cons (pg_name (i := 5) sc_System_init.nd rfl (Or.inl rfl)) (pgs_cons (pg_name (i := 6) sc_System_init.nd rfl (Or.inl rfl)) pgs_nil))))
       (pss_cons (ps_if (PW.pt (pw_or (pt_not (pt_val (pe_callB call_isi (by rfl) T.isi (by decide +kernel) (pa_cons (pv 6) (pa_cons (pe_bltn (v := .ty "tuple") (u := .type "tuple") (by rfl) T.tuple (by decide +kernel) rfl) pa_nil))))) (pw_or1 (pt_cmpR op_gt (pe_callB My.c_len (by rfl) T.len PySem.boot_len (pa_cons (pv 6) pa_nil)) (pe_glob (v := .int 6) (by rfl) gMP ⟨_, rfl⟩) (nomark _)))))
       (pss_one (ps_raise (by rfl) (takes_of rfl rfl rfl rfl) (pmk_oex EB.ox FB.ini FB.ty (ok_BadSystem F_BS EB.ox FB.no) (hr.mono (by decide)) B_BS .nil pass0 (by rfl) EB.g (by exact (pa_cons (pv 4) pa_nil)))))
       pss_nil)
      (pss_one (ps_for (passes_of rfl) rfl (EnT.pi_enumT (by rfl) T.enum (pa_cons (pv 6) pa_nil)) (pg_tup (by rfl) (pgs_cons (pg_name (i := 7) sc_System_init.nd rfl (Or.inl rfl)) (pgs_cons (pg_name (i := 8) sc_System_init.nd rfl (Or.inl rfl)) pgs_nil)))
       (pss_one (ps_if (pt_not (pt_val (pe_call G_stands_in (hr.mono (by decide)) (by rfl) g_stands_in k_stands_in b_stands_in .nil pass0 (pa_cons (pv 1) (pa_cons (pv 8) pa_nil)))))
       (pss_one (ps_raise (by rfl) (takes_of rfl rfl rfl rfl) (pmk_oex EB.ox FB.ini FB.ty (ok_BadSystem F_BS EB.ox FB.no) (hr.mono (by decide)) B_BS .nil pass0 (by rfl) EB.g (by exact (pa_cons (pe_tup (pa_cons (pv 5) (pa_cons (pv 7) pa_nil))) pa_nil)))))
       pss_nil))))))
      (pss_cons (ps_fld (pv 0) (pv 1) rfl)
      (pss_cons (ps_fld (pv 0) (pv 2) rfl)
      (pss_one (ps_fld (pv 0) (pv 3) rfl)))))), ?_⟩
    try dsimp only [cxOf, Cx.nox, Cx.wish]
    walk_at "f"
    refine ⟨vm, tm, rfl, tvm, ?_⟩
    have kN : sysWr vm re rb = none → ∀ H', Same H H' → Q .non (upd H' p (SysO S dx vm ve vb)) := fun e => by rw [e] at k; exact k
    have kS : ∀ W, sysWr vm re rb = some W → ∀ H' d y, Same H H' → H' d = some (.xd [("part", y)]) → WrV H' y W → E (.ref (ga K "BadSystem")) (some d) H' := fun W e => by rw [e] at k; exact k
    have kM : okMany vm = none → tMkO (ga K "BadSystem") (spInitX (ga K "BadSystem") "part") [] (tCons (tC (V.str "many")) tNil) (L2.start ["self", "many", "equations", "barred", "part", "single", "polys", "index", "poly"] [V.ref p, vm, ve, vb]) H fun cls d H' => E cls d H' := fun e => by
      refine mkO ?_
      walk_at "f"
      exact mkE fun d H' s1 hd => kS .many (by unfold sysWr; rw [e]) H' d _ s1 hd rfl
    clear k
    refine ⟨_, rfl, ?_⟩
    cases vm with
    | int m =>
      refine My.ite_cf (by rfl) ?_
      walk_at "f"
      rotate_left
      · rename_i z1
        exact kM (by show (if 1 ≤ m ∧ m ≤ 3 then _ else _) = none; rw [if_neg (fun z => z1 z.1)])
      rename_i z1
      refine My.ite_nd (fun z2 => kM (by show (if 1 ≤ m ∧ m ≤ 3 then _ else _) = none; rw [if_neg (fun z => z2 z.2)])) fun z2 => ?_
      clear kM
      have hm : okMany (.int m) = some m := if_pos ⟨z1, z2⟩
      walk_at "f"
      refine My.forTe1 ?_
      walk_at "f"
      refine My.new (My.sz (by simp)) fun t1 n1 => ?_
      walk_at "f"
      refine My.new (My.sz (by simp)) fun t2 n2 => ?_
      walk_at "f"
      refine My.new (My.sz (by simp)) fun t3 n3 => ?_
      have s1 := ((same_new (o := HO.tup [V.str "equations", V.str "equation", ve]) n1).trans (same_new (o := HO.tup [V.str "barred", V.str "barred", vb]) n2)).trans (same_new (o := HO.tup [V.ref t1, V.ref t2]) n3)
      have h1 := (same_new (o := HO.tup [V.ref t1, V.ref t2]) n3) _ _ ((same_new (o := HO.tup [V.str "barred", V.str "barred", vb]) n2) _ _ (upd_same (H := H) (a := t1) (o := HO.tup [V.str "equations", V.str "equation", ve])))
      have h2 := (same_new (o := HO.tup [V.ref t1, V.ref t2]) n3) _ _ (upd_same (H := upd H t1 (HO.tup [V.str "equations", V.str "equation", ve])) (a := t2) (o := HO.tup [V.str "barred", V.str "barred", vb]))
      have h3 := upd_same (H := upd (upd H t1 (HO.tup [V.str "equations", V.str "equation", ve])) t2 (HO.tup [V.str "barred", V.str "barred", vb])) (a := t3) (o := HO.tup [V.ref t1, V.ref t2])
      generalize upd (upd (upd H t1 _) t2 _) t3 _ = H1 at s1 h1 h2 h3 ⊢
      refine My.forTe (SqT.of h3) (fun i σ' H' => Same H1 H' ∧ (0 < i → prtW m re = none) ∧ (1 < i → prtW m rb = none) ∧ ∃ u4 u5 u6 u7 u8, σ' = [some (.ref p), some (.int m), some ve, some vb, u4, u5, u6, u7, u8]) ⟨.refl _, (fun z => absurd z (by omega)), (fun z => absurd z (by omega)), none, none, none, none, none, rfl⟩ (fun _ _ _ _ z => SqT.of (z.1 _ _ h3)) ?_ ?_
      · rintro i x σ' H2 ex ⟨s2, w1, w2, u4, u5, u6, u7, u8, rfl⟩
        obtain ⟨b, T', hb, rfl, hT, hi⟩ : ∃ (b : Bool) (T' : Addr), (b = true → prtW m re = none) ∧ x = .ref T' ∧ H2 T' = some (.tup [V.str (if b then "barred" else "equations"), V.str (if b then "barred" else "equation"), if b then vb else ve]) ∧ i = if b then 1 else 0 := by
          match i, ex with
          | 0, ex => exact ⟨false, t1, (fun z => by cases z), (Option.some.inj ex).symm, s2 _ _ h1, rfl⟩
          | 1, ex => exact ⟨true, t2, (fun _ => w1 (by omega)), (Option.some.inj ex).symm, s2 _ _ h2, rfl⟩
          | i + 2, ex => simp at ex
        have hr : Prt K C H (if b then vb else ve) (if b then rb else re) := by cases b <;> assumption
        have nx : prtW m (if b then rb else re) = none → (0 < i + 1 → prtW m re = none) ∧ (1 < i + 1 → prtW m rb = none) := fun z => by
          cases b with
          | false => exact ⟨fun _ => z, fun y => absurd y (by rw [hi]; decide)⟩
          | true => exact ⟨fun _ => hb rfl, fun _ => z⟩
        have kS2 := fun x e => kS _ (sys_at hm hb (x := x) e)
        clear w1 w2 hi h1 h2 h3 hre hrb kS kN
        generalize (if b then rb else re) = r at hr nx kS2
        generalize (if b then vb else ve) = v at hr hT ⊢
        refine My.gtup3 (SqT.of hT) rfl ?_
        have s02 := s1.trans s2
        walk_at "f"
        cases r with
        | none =>
          obtain ⟨t, tv, nt⟩ := hr
          refine (tv.same s02).isT mem6 ?_
          rw [nt]
          walk_at "f"
          refine mkO ?_
          walk_at "f"
          exact mkE fun d H' s3 hd => kS2 none rfl H' d _ (s02.trans s3) hd rfl
        | some os =>
          obtain ⟨a, xs, rfl, ha, ho⟩ := hr
          have hlen := My.plen ho
          have ha2 := s02 _ _ ha
          refine (TgV.tup ha2).isT mem6 ?_
          walk_at "f"
          refine My.lenT (SqT.of ha2) ?_
          walk_at "f"
          · rename_i z
            refine mkO ?_
            walk_at "f"
            exact mkE fun d H' s3 hd => kS2 none (if_pos (by omega)) H' d _ (s02.trans s3) hd rfl
          · rename_i z
            have z6 : ¬ 6 < os.length := by omega
            refine EnT.forT1 ?_
            walk_at "f"
            refine EnT.forT (SqT.of ha2) (fun j σ' H' => Same H2 H' ∧ (∀ j' o, j' < j → os[j']? = some o → inO m o = true) ∧ ∃ u v, σ' = [some (.ref p), some (.int m), some ve, some vb, some (V.str (if b then "barred" else "equations")), some (V.str (if b then "barred" else "equation")), some (.ref a), u, v]) ⟨.refl _, (fun _ _ z => absurd z (by omega)), _, _, rfl⟩ (fun _ _ _ _ z => SqT.of (z.1 _ _ ha2)) ?_ ?_
            · rintro j x T' σ' H3 ex ⟨s3, bf, u, v, rfl⟩ nT
              obtain ⟨o, eo, hx⟩ := My.pget ho ex
              have sT := same_new (o := HO.tup [V.int (j : Nat), x]) nT
              refine My.gtup2 (SqT.of upd_same) rfl ?_
              generalize upd H3 T' _ = H4 at sT ⊢
              have s4 := (s02.trans s3).trans sT
              walk_at "f"
              refine ⟨m, x, o, rfl, hx.same s4, fun H5 s5 => ?_⟩
              refine ⟨_, rfl, ?_⟩
              cases eb : inO m o with
              | true =>
                refine My.ite_nt ?_
                refine ⟨(s3.trans sT).trans s5, fun j' o' hj e => ?_, _, _, rfl⟩
                by_cases q : j' = j
                · rw [q, eo] at e
                  rw [← Option.some.inj e]; exact eb
                · exact bf j' o' (by omega) e
              | false =>
                refine My.ite_nf ?_
                refine mkO ?_
                walk_at "f"
                refine My.new (My.sz (by simp)) fun tt nt => ?_
                walk_at "f"
                have st := same_new (o := HO.tup [V.str (if b then "barred" else "equation"), V.int (j : Nat)]) nt
                have et := upd_same (H := H5) (a := tt) (o := HO.tup [V.str (if b then "barred" else "equation"), V.int (j : Nat)])
                refine mkE fun d H' s6 hd => kS2 (some j) ?_ H' d _ (((s4.trans s5).trans st).trans s6) hd ⟨tt, rfl, s6 _ _ et⟩
                show (if 6 < os.length then _ else _) = _
                rw [if_neg z6]
                have fe : (os.findIdx? fun o => !inO m o) = some j := by
                  rw [List.findIdx?_eq_some_iff_getElem]
                  have hj := List.getElem?_eq_some_iff.mp eo
                  refine ⟨hj.1, by rw [hj.2, eb]; rfl, fun j' hj' => ?_⟩
                  have := bf j' _ hj' (List.getElem?_eq_getElem (by have := hj.1; omega))
                  rw [this]; decide
                rw [fe]; rfl
            · rintro σ' H3 ⟨s3, bf, u, v, rfl⟩
              have e0 : prtW m (some os) = none := by
                show (if 6 < os.length then _ else _) = _
                rw [if_neg z6]
                have fe : (os.findIdx? fun o => !inO m o) = none := by
                  rw [List.findIdx?_eq_none_iff]
                  intro o ho'
                  obtain ⟨j, hj⟩ := List.mem_iff_getElem?.mp ho'
                  rw [bf j o (by rw [hlen]; exact (List.getElem?_eq_some_iff.mp hj).1) hj]; rfl
                rw [fe]; rfl
              exact ⟨s2.trans s3, (nx e0).1, (nx e0).2, _, _, _, _, _, rfl⟩
      · rintro σ' H2 ⟨s2, w1, w2, u4, u5, u6, u7, u8, rfl⟩
        have e0 : sysWr (.int m) re rb = none := sys_no hm (w1 (by simp)) (w2 (by simp))
        have s3 := s1.trans s2
        have hp2 := s3 _ _ hp
        refine My.seq (My.fldS hp2 ST.ins.cl ST.n1 (by decide) rfl rfl ?_)
        refine My.seq (My.fldS upd_same ST.ins.cl ST.n2 (by show 1 < 1000; decide) rfl rfl ?_)
        refine My.fldS upd_same ST.ins.cl ST.n3 (by show 2 < 1000; decide) rfl rfl ?_
        have q := kN e0 H2 s3
        rw [upd_upd, upd_upd]
        exact q
    | _ => exact My.ite_ct (by rfl) (My.ite_t (kM rfl))
end
end K09

set_option Elab.async false
set_option linter.all false
set_option maxRecDepth 100000
set_option maxHeartbeats 4000000
namespace K09
open PySem PySem.Spec PyProof.Rows L2 XV DX XF He
/-- the tuple of polynomials -/
def PolysAt (C : Addr) (H : Hp) (e : Addr) (ps : List Pol) : Prop := ∃ xs, H e = some (.tup xs) ∧ Paired (fun x ts => ∃ a, x = .ref a ∧ PolyAt C H a ts) xs ps
def SysAt (C S : Addr) (H : Hp) (a : Addr) (m : Int) (ps qs : List Pol) : Prop := ∃ dx e f, H a = some (SysO S dx (.int m) (.ref e) (.ref f)) ∧ PolysAt C H e ps ∧ PolysAt C H f qs
theorem PolysAt.same {C : Addr} {H H' : Hp} {a : Addr} {ts : List Pol} (s : Same H H') (h : PolysAt C H a ts) : PolysAt C H' a ts := by
  obtain ⟨xs, h1, h2⟩ := h
  exact ⟨xs, s _ _ h1, Paired.mapP h2 fun x p ⟨a, e, q⟩ => ⟨a, e, q.same s⟩⟩
theorem SysAt.same {C S : Addr} {H H' : Hp} {a : Addr} {m : Int} {ps qs : List Pol} (s : Same H H') (h : SysAt C S H a m ps qs) : SysAt C S H' a m ps qs := by
  obtain ⟨dx, e, f, h1, h2, h3⟩ := h
  exact ⟨dx, e, f, s _ _ h1, h2.same s, h3.same s⟩
/-- the == of System -/
def SEq (K : PySem.W.Frag) (C S : Addr) : OwnE := fun a c b H => ∃ m ps qs, SysAt C S H a m ps qs ∧ ((∃ m' ps' qs', SysAt C S H c m' ps' qs' ∧ b = decide (m = m' ∧ ps = ps' ∧ qs = qs')) ∨ ((∃ ys, H c = some (.tup ys)) ∧ b = false))
theorem polyAt_inj {C : Addr} {H : Hp} {a : Addr} {ts us : Pol} (h : PolyAt C H a ts) (g : PolyAt C H a us) : ts = us := by
  obtain ⟨dx, t, h1, rs, h2, h3⟩ := h
  obtain ⟨dy, u, g1, ss, g2, g3⟩ := g
  rw [h1] at g1
  injection g1 with g1
  injection g1 with _ _ g1
  injection g1 with g1 _
  injection g1 with _ g1
  injection g1 with g1
  subst g1
  rw [h2] at g2
  injection g2 with g2
  injection g2 with g2
  have e : rs = ss := map_inj (fun a b e => by injection e) g2
  subst e
  exact terms_inj h3 g3
theorem eqS_polys {K : PySem.W.Frag} {C : Addr} {H : Hp} {t u : Addr} {ps qs : List Pol} (ht : PolysAt C H t ps) (hu : PolysAt C H u qs) : EqS K H (EqB K (PEq C) H 1) (.ref t) (.ref u) (decide (ps = qs)) := by
  obtain ⟨rs, h1, h2⟩ := ht
  obtain ⟨ss, g1, g2⟩ := hu
  refine .inr (.inr (.inl ⟨t, u, _, _, fun i => decide (ps[i]? = qs[i]?), rfl, rfl, SqT.of h1, SqT.of g1, fun i x y hx hy => ?_, ?_⟩))
  · obtain ⟨p, ep, a, rfl, pa⟩ := My.pget h2 hx
    obtain ⟨q, eq, c, rfl, pc⟩ := My.pget g2 hy
    show EqB K (PEq C) H 1 (V.ref a) (V.ref c) (decide (ps[i]? = qs[i]?))
    rw [ep, eq]
    refine .inr (.inr (.inr (.inr ⟨a, c, rfl, rfl, fun e => ?_, p, q, pa, pc, ?_⟩)))
    · subst e
      rw [polyAt_inj pa pc]
      exact decide_eq_true rfl
    · rw [Bool.eq_iff_iff]
      simp
  · rw [My.plen h2, My.plen g2]
    exact (all_eq ps qs).symm
theorem peq_D {K : PySem.W.Frag} {C : Addr} : ∀ a c b H, PEq C a c b H → (∃ dx fs, H a = some (.ins C dx fs)) ∧ ((∃ dy gs, H c = some (.ins C dy gs)) ∨ ((∃ ys, SqT K H c ys) ∧ PySem.W.notFirst K C (.type "tuple") = true)) := by
  rintro a c b H ⟨ts, us, ⟨dx, t, h1, _⟩, ⟨dy, u, h2, _⟩, _⟩
  exact ⟨⟨_, _, h1⟩, .inl ⟨_, _, h2⟩⟩
/-- a fraction as its two items -/
def frB : V → V → Bool
  | .int i, .int j => decide (0 < j) && decide (((Nat.gcd i.natAbs j.natAbs : Nat) : Int) = 1)
  | _, _ => false
def FrI (K : PySem.W.Frag) (H : Hp) (x : V) (b : Bool) : Prop := (∃ t, TgV K H x t ∧ t.is "tuple" = false ∧ b = false) ∨ (∃ a ys, x = .ref a ∧ H a = some (.tup ys) ∧ ys.length ≠ 2 ∧ b = false) ∨ ∃ a u v tu tv, x = .ref a ∧ H a = some (.tup [u, v]) ∧ TgV K H u tu ∧ TgV K H v tv ∧ b = frB u v
def spFrac (K : PySem.W.Frag) : Sp := fun vs H Q _ => ∃ (x : V) (b : Bool), vs = [x] ∧ FrI K H x b ∧ Q (.bl b) H
/-- no point -/
def NotPt (K : PySem.W.Frag) (H : Hp) (many : Int) (v : V) : Prop := (∃ t, TgV K H v t ∧ t.is "tuple" = false) ∨ ∃ a xs, v = .ref a ∧ H a = some (.tup xs) ∧ ((xs.length : Int) ≠ many ∨ (0 < xs.length ∧ xs.length ≤ 1000 ∧ ∀ x ∈ xs, FrI K H x false))
theorem FrI.same {K : PySem.W.Frag} {H H' : Hp} {x : V} {b : Bool} (s : Same H H') (h : FrI K H x b) : FrI K H' x b := by
  rcases h with ⟨t, tv, h⟩ | ⟨a, ys, e, h1, h⟩ | ⟨a, u, v, tu, tv, e, h1, h2, h3, h⟩
  · exact .inl ⟨t, tv.same s, h⟩
  · exact .inr (.inl ⟨a, ys, e, s _ _ h1, h⟩)
  · exact .inr (.inr ⟨a, u, v, tu, tv, e, s _ _ h1, h2.same s, h3.same s, h⟩)
def spPoint (K : PySem.W.Frag) : Sp := fun vs H Q _ => ∃ (many : Int) (v : V), vs = [.int many, v] ∧ NotPt K H many v ∧ ∀ H', Same H H' → Q (.bl false) H'
def spRoot (K : PySem.W.Frag) (C S : Addr) : Sp := fun vs H Q _ => ∃ (a : Addr) (v : V) (m : Int) (ps qs : List Pol), vs = [.ref a, v] ∧ SysAt C S H a m ps qs ∧ NotPt K H m v ∧ ∀ H', Same H H' → Q (.bl false) H'
/-- a step that no state takes -/
def BadStep (K : PySem.W.Frag) (H : Hp) (v : V) : Prop := (∃ t, TgV K H v t ∧ t.is "tuple" = false) ∨ (∃ a xs, v = .ref a ∧ H a = some (.tup xs) ∧ xs.length < 2) ∨ ∃ a z y, v = .ref a ∧ H a = some (.tup [.str z, y]) ∧ z ≠ "part" ∧ z ≠ "chain"
theorem BadStep.same {K : PySem.W.Frag} {H H' : Hp} {x : V} (s : Same H H') (h : BadStep K H x) : BadStep K H' x := by
  rcases h with ⟨t, tv, h⟩ | ⟨a, ys, e, h1, h⟩ | ⟨a, u, v, e, h1, h⟩
  · exact .inl ⟨t, tv.same s, h⟩
  · exact .inr (.inl ⟨a, ys, e, s _ _ h1, h⟩)
  · exact .inr (.inr ⟨a, u, v, e, s _ _ h1, h⟩)
def spStates (K : PySem.W.Frag) : Sp := fun vs H Q _ => ∃ (m : V) (st : Addr) (e f v : V), vs = [m, .ref st, v] ∧ H st = some (.tup [e, f]) ∧ BadStep K H v ∧ Q .non H
/-- where a cover ends: -1 no tuple, 0 the first step or none -/
def CovF (K : PySem.W.Frag) (H : Hp) (v : V) (n : Int) : Prop := (∃ t, TgV K H v t ∧ t.is "tuple" = false ∧ n = -1) ∨ ∃ a xs, v = .ref a ∧ H a = some (.tup xs) ∧ (∀ x, xs[0]? = some x → BadStep K H x) ∧ n = 0
def spFollowed (K : PySem.W.Frag) (C S : Addr) : Sp := fun vs H Q _ => ∃ (a : Addr) (v : V) (m : Int) (ps qs : List Pol) (n : Int), vs = [.ref a, v] ∧ SysAt C S H a m ps qs ∧ CovF K H v n ∧ ∀ H' t y, Same H H' → H' t = some (.tup [.int n, y]) → Q (.ref t) H'
def spFault (K : PySem.W.Frag) (C S : Addr) : Sp := fun vs H Q _ => ∃ (a : Addr) (v : V) (m : Int) (ps qs : List Pol) (n : Int), vs = [.ref a, v] ∧ SysAt C S H a m ps qs ∧ CovF K H v n ∧ ∀ H', Same H H' → Q (.int n) H'
def spCover (K : PySem.W.Frag) (C S : Addr) : Sp := fun vs H Q _ => ∃ (a : Addr) (v : V) (m : Int) (ps qs : List Pol) (n : Int), vs = [.ref a, v] ∧ SysAt C S H a m ps qs ∧ CovF K H v n ∧ ∀ H', Same H H' → Q (.bl false) H'
section
variable {P : Program} {w : World} {K : PySem.W.Frag} {mg : Str → Option Value} {base : Heap}
theorem lk1 (a b c : V) : ([("many", a), ("equations", b), ("barred", c)] : List (Str × V)).lookup ("many" : Str) = some a := rfl
theorem lk2 (a b c : V) : ([("many", a), ("equations", b), ("barred", c)] : List (Str × V)).lookup ("equations" : Str) = some b := rfl
theorem lk3 (a b c : V) : ([("many", a), ("equations", b), ("barred", c)] : List (Str × V)).lookup ("barred" : Str) = some c := rfl
theorem sc_System_eq : FnScope ["self", "other"] ["self", "other"] (defScope s_System_eq) := ⟨rfl, rfl, rfl, by decide +kernel, rfl, by decide +kernel, by decide +kernel⟩
theorem ok_System_eq {f : Addr} {fd : FuncData} {C fI fE S sI sE : Addr} {fdE : FuncData} (F : FnP K "__eq__" "System.__eq__" s_System_eq f fd) (T : Txt0 mg) (PT : PolF K mg C fI fE) (ST : SysF K mg S sI sE) (GE : FnOk P w K mg base CX0 5 fE fdE ["self", "other"] (spEqB (PEq C))) (bE : Binds K fdE ["self", "other"] []) : FnOk P w K mg base CX0 8 f fd ["self", "other"] (spEqB (SEq K C S)) := by
  refine F.ok sc_System_eq (fun vs H Q E h => ?_) (fun cdv A outer s H vs Q E hr h => ?_)
  · obtain ⟨a, c, b, rfl, ⟨m, ps, qs, ⟨dx, ea, fa, ha, hea, hfa⟩, alt⟩, k⟩ := h
    rfl
  · obtain ⟨a, c, b, rfl, ⟨m, ps, qs, ⟨dx, ea, fa, ha, hea, hfa⟩, alt⟩, k⟩ := h
    have gSys := ST.g
    refine ⟨_, PSs.nox (pss_one (ps_ret (pe_and (pe_callB call_isi (by rfl) T.isi (by decide +kernel) (pa_cons (pv 1) (pa_cons (pe_glob (v := .ref S) (by rfl) gSys rfl) pa_nil))) (pe_and (pe_cmpR op_eq (pe_fld (pv 0) rfl) (pe_fld (pv 1) rfl) (nomark _)) (pe_and (pe_cmpR (DX.op_eqB (DX.ownR_ins GE PT.eq.at_ PT.eq.fn bE pass0 peq_D) (n := 1) (hr.mono (by decide))) (pe_fld (pv 0) rfl) (pe_fld (pv 1) rfl) (nomark _)) (pe_one (pe_cmpR (DX.op_eqB (DX.ownR_ins GE PT.eq.at_ PT.eq.fn bE pass0 peq_D) (n := 1) (hr.mono (by decide))) (pe_fld (pv 0) rfl) (pe_fld (pv 1) rfl) (nomark _)))))))), ?_⟩
    try dsimp only [cxOf, Cx.nox, Cx.wish]
    walk_at "f"
    rcases alt with ⟨m', ps', qs', ⟨dx', ec, fc, hc, hec, hfc⟩, rfl⟩ | ⟨⟨ys, hc⟩, rfl⟩
    · refine (TgV.ins hc ST.ins).isOwn ST.cn (fun D e => by injection e with e; exact .inl e.symm) ?_
      rw [show (Tg.ins S).isC S = true from decide_eq_true rfl]
      walk_at "f"
      refine My.fld ha ST.ins.cl ST.n1 (lk1 _ _ _) rfl ?_
      refine My.fld hc ST.ins.cl ST.n1 (lk1 _ _ _) rfl ?_
      walk_at "f"
      · rename_i em
        refine My.fld ha ST.ins.cl ST.n2 (lk2 _ _ _) rfl ?_
        refine My.fld hc ST.ins.cl ST.n2 (lk2 _ _ _) rfl ?_
        refine ⟨_, .inr (eqS_polys hea hec), ?_⟩
        walk_at "f"
        · rename_i ep
          refine My.fld ha ST.ins.cl ST.n3 (lk3 _ _ _) rfl ?_
          refine My.fld hc ST.ins.cl ST.n3 (lk3 _ _ _) rfl ?_
          refine ⟨_, .inr (eqS_polys hfa hfc), ?_⟩
          rw [show decide (m = m' ∧ ps = ps' ∧ qs = qs') = decide (qs = qs') by rw [Bool.eq_iff_iff]; simp [em, ep]] at k
          exact k
        · rename_i ep
          rw [decide_eq_false (fun z => ep z.2.1)] at k
          exact k
      · rename_i em
        rw [decide_eq_false (fun z => em z.1)] at k
        exact k
    · refine (TgV.tup hc).isOwn ST.cn (fun D e => by cases e) ?_
      rw [show Tg.tup.isC S = false from decide_eq_false (fun e => by cases e)]
      walk_at "f"
      exact k
theorem sc_is_fraction : FnScope ["thing", "over", "under"] ["thing"] (defScope s_is_fraction) := ⟨rfl, rfl, rfl, by decide +kernel, rfl, by decide +kernel, by decide +kernel⟩
theorem cal_is_fraction {f : Addr} {fd : FuncData} (F : FnP K "is_fraction" "is_fraction" s_is_fraction f fd) (g : mg "is_fraction" = some (.ref f)) (T : Txt0 mg) (C_is_integer : Cal P w K mg base "is_integer" 1 ["thing"] (spIsInt K)) : Cal P w K mg base "is_fraction" 2 ["thing"] (spFrac K) := by
  obtain ⟨f_is_integer, fd_is_integer, g_is_integer, G_is_integer, b_is_integer, k_is_integer⟩ := C_is_integer
  refine ⟨f, fd, g, ?_, F.bindsN (fun _ _ _ _ _ _ us hl => match us, hl with | [_], _ => rfl), F.kp⟩
  refine F.ok sc_is_fraction (fun vs H Q E h => ?_) (fun cdv A outer s H vs Q E hr h => ?_)
  · obtain ⟨x, b, rfl, hx, k⟩ := h
    rfl
  · obtain ⟨x, b, rfl, hx, k⟩ := h
    refine ⟨_, PSs.nox (pss_cons (ps_if (PW.pt (pw_or (pt_not (pt_val (pe_callB call_isi (by rfl) T.isi (by decide +kernel) (pa_cons (pv 0) (pa_cons (pe_bltn (v := .ty "tuple") (u := .type "tuple") (by rfl) T.tuple (by decide +kernel) rfl) pa_nil))))) (pw_or1 (pt_cmpR op_ne (pe_callB My.c_len (by rfl) T.len PySem.boot_len (pa_cons (pv 0) pa_nil)) pe_int (nomark _)))))
       (pss_one (ps_ret pe_bl))
       pss_nil)
      (pss_cons (ps_asg (pv 0) (pg_tup (by rfl) (pgs_cons (pg_name (i := 1) sc_is_fraction.nd rfl (Or.inl rfl)) (pgs_cons (pg_name (i := 2) sc_is_fraction.nd rfl (Or.inl rfl)) pgs_nil))))
      (pss_one (ps_ret (pe_and (pe_call G_is_integer (hr.mono (by decide)) (by rfl) g_is_integer k_is_integer b_is_integer .nil pass0 (pa_cons (pv 1) pa_nil)) (pe_and (pe_call G_is_integer (hr.mono (by decide)) (by rfl) g_is_integer k_is_integer b_is_integer .nil pass0 (pa_cons (pv 2) pa_nil)) (pe_and (pe_cmpR op_gt (pv 2) pe_int (nomark _)) (pe_one (pe_cmpR op_eq (pe_callBfun cr_gcd (by rfl) T.gcd (pa_cons (pv 1) (pa_cons (pv 2) pa_nil))) pe_int (nomark _)))))))))), ?_⟩
    try dsimp only [cxOf, Cx.nox, Cx.wish]
    walk_at "f"
    rcases hx with ⟨t, tv, nt, rfl⟩ | ⟨a, ys, rfl, ha, hl, rfl⟩ | ⟨a, u, v, tu, tv, rfl, ha, hu, hv, rfl⟩
    · refine tv.isT mem6 ?_
      rw [nt]
      walk_at "f"
      exact k
    · refine (TgV.tup ha).isT mem6 ?_
      walk_at "f"
      refine My.lenT (SqT.of ha) ?_
      walk_at "f"
      refine My.ite_nd (fun z => ?_) (fun z => absurd (show ys.length = 2 by omega) hl)
      walk_at "f"
      exact k
    · refine (TgV.tup ha).isT mem6 ?_
      walk_at "f"
      refine My.lenT (SqT.of ha) ?_
      walk_at "f"
      refine My.ite_nd (fun z => absurd rfl z) fun _ => ?_
      walk_at "f"
      refine My.gtup2 (SqT.of ha) rfl ?_
      walk_at "f"
      refine ⟨u, tu, rfl, hu, _, rfl, ?_⟩
      cases u with
      | int i =>
        refine My.ite_ct rfl ?_
        walk_at "f"
        refine ⟨v, tv, rfl, hv, _, rfl, ?_⟩
        cases v with
        | int j =>
          refine My.ite_ct rfl ?_
          have k' : Q (.bl (decide (0 < j) && decide (((Nat.gcd i.natAbs j.natAbs : Nat) : Int) = 1))) H := k
          walk_at "f"
          · rename_i z
            rw [decide_eq_true z, Bool.true_and] at k'
            refine ⟨i, j, rfl, ?_⟩
            walk_at "f"
            exact k'
          · rename_i z
            rw [decide_eq_false z, Bool.false_and] at k'
            exact k'
        | _ => exact My.ite_cf rfl k
      | _ => exact My.ite_cf rfl k
theorem sc_is_point : FnScope ["many", "thing", "place"] ["many", "thing"] (defScope s_is_point) := ⟨rfl, rfl, rfl, by decide +kernel, rfl, by decide +kernel, by decide +kernel⟩
theorem cal_is_point {f : Addr} {fd : FuncData} (F : FnP K "is_point" "is_point" s_is_point f fd) (g : mg "is_point" = some (.ref f)) (T : Txt0 mg) (C_is_fraction : Cal P w K mg base "is_fraction" 2 ["thing"] (spFrac K)) : Cal P w K mg base "is_point" 3 ["many", "thing"] (spPoint K) := by
  obtain ⟨f_is_fraction, fd_is_fraction, g_is_fraction, G_is_fraction, b_is_fraction, k_is_fraction⟩ := C_is_fraction
  refine ⟨f, fd, g, ?_, F.bindsN (fun _ _ _ _ _ _ us hl => match us, hl with | [_, _], _ => rfl), F.kp⟩
  refine F.ok sc_is_point (fun vs H Q E h => ?_) (fun cdv A outer s H vs Q E hr h => ?_)
  · obtain ⟨many, v, rfl, hv, k⟩ := h
    rfl
  · obtain ⟨many, v, rfl, hv, k⟩ := h
    refine ⟨_, PSs.nox (pss_one (ps_ret (pe_and (pe_callB call_isi (by rfl) T.isi (by decide +kernel) (pa_cons (pv 1) (pa_cons (pe_bltn (v := .ty "tuple") (u := .type "tuple") (by rfl) T.tuple (by decide +kernel) rfl) pa_nil))) (pe_and (pe_cmpR op_eq (pe_callB My.c_len (by rfl) T.len PySem.boot_len (pa_cons (pv 1) pa_nil)) (pv 0) (nomark _)) (pe_one (pe_callB (cr_all rfl) (by rfl) T.all (by decide +kernel) (pa_cons (pe_lc (own := [("place", 2)]) (tt := tYes) (by rfl) sc_is_point.nd (pi_tup (pv 1)) (blkOk_by (own := [("place", 2)]) (N := ["many", "thing", "place"]) (sc := (defScope s_is_point)) (by decide +kernel)) (fun _ _ _ _ _ => (pg_name (i := 2) sc_is_point.nd rfl (Or.inl rfl))) (fun _ _ _ _ _ => pts_nil) (fun _ _ _ _ _ => (pe_call G_is_fraction (hr.mono (by decide)) (by rfl) g_is_fraction k_is_fraction b_is_fraction .nil pass0 (pa_cons (pv 2) pa_nil)))) pa_nil))))))), ?_⟩
    try dsimp only [cxOf, Cx.nox, Cx.wish]
    walk_at "f"
    rcases hv with ⟨t, tv, nt⟩ | ⟨a, xs, rfl, ha, hl⟩
    · refine tv.isT mem6 ?_
      rw [nt]
      walk_at "f"
      exact k _ (.refl _)
    · refine (TgV.tup ha).isT mem6 ?_
      walk_at "f"
      refine My.lenT (SqT.of ha) ?_
      walk_at "f"
      · rename_i z
        rcases hl with hl | ⟨l0, l1, hx⟩
        · exact absurd z hl
        refine My.lcT rfl (SqT.of ha) (My.lcM (walk_tup (xs := xs)) Same l1 (fun D hD => same_new hD) fun D nD => ⟨fun j y H => y = .bl false, fun j y H ys o _ h => h, fun H o s => same_at s nD, fun H2 _ s _ => My.same_seqT s ha, ?_, ?_⟩)
        · rintro i x H2 H3 ys N hi r e l p' ⟨rfl, ex⟩ hN
          walk_at "f"
          refine ⟨rfl, ?_⟩
          walk_at "f"
          exact ⟨x, false, rfl, (hx x (List.mem_iff_getElem?.mpr ⟨i, ex⟩)).same r, hN _ _ r e (fun j v hv => p' j v hv) rfl⟩
        · intro H2 ys hD hl2 s2 hy
          have ey : ys = (List.replicate ys.length false).map V.bl := by
            refine List.ext_getElem? fun j => ?_
            rw [List.getElem?_map, List.getElem?_replicate]
            split
            · rename_i z
              rw [List.getElem?_eq_getElem z, hy j _ (List.getElem?_eq_getElem z)]; rfl
            · rw [List.getElem?_eq_none (by omega)]; rfl
          walk_at "f"
          rw [ey] at hD
          refine My.allL (SqL.of hD) ?_
          rw [show (List.replicate ys.length false).all id = false by cases hh : ys.length with | zero => omega | succ n => simp [List.replicate_succ]]
          exact k _ s2
      · exact k _ (.refl _)
theorem sc_is_root : FnScope ["system", "thing"] ["system", "thing"] (defScope s_is_root) := ⟨rfl, rfl, rfl, by decide +kernel, rfl, by decide +kernel, by decide +kernel⟩
theorem cal_is_root {f : Addr} {fd : FuncData} {C fI fE S sI sE : Addr} (F : FnP K "is_root" "is_root" s_is_root f fd) (g : mg "is_root" = some (.ref f)) (T : Txt0 mg) (C_is_point : Cal P w K mg base "is_point" 3 ["many", "thing"] (spPoint K)) (PT : PolF K mg C fI fE) (ST : SysF K mg S sI sE) : Cal P w K mg base "is_root" 4 ["system", "thing"] (spRoot K C S) := by
  obtain ⟨f_is_point, fd_is_point, g_is_point, G_is_point, b_is_point, k_is_point⟩ := C_is_point
  refine ⟨f, fd, g, ?_, F.bindsN (fun _ _ _ _ _ _ us hl => match us, hl with | [_, _], _ => rfl), F.kp⟩
  refine F.ok sc_is_root (fun vs H Q E h => ?_) (fun cdv A outer s H vs Q E hr h => ?_)
  · obtain ⟨a, v, m, ps, qs, rfl, hs, hv, k⟩ := h
    rfl
  · obtain ⟨a, v, m, ps, qs, rfl, hs, hv, k⟩ := h
    refine ⟨_, PSs.nox (pss_one (ps_ret (pe_and (pe_call G_is_point (hr.mono (by decide)) (by rfl) g_is_point k_is_point b_is_point .nil pass0 (pa_cons (pe_fld (pv 0) rfl) (pa_cons (pv 1) pa_nil))) (pe_one DX.pe_nev)))), ?_⟩
    try dsimp only [cxOf, Cx.nox, Cx.wish]
    obtain ⟨dx, e, f', ha, _⟩ := hs
    walk_at "f"
    refine My.fld ha ST.ins.cl ST.n1 (lk1 _ _ _) rfl ?_
    walk_at "f"
    refine ⟨m, v, rfl, hv, fun H1 s1 => ⟨_, rfl, ?_⟩⟩
    walk_at "f"
    exact k _ s1
end
end K09

set_option Elab.async false
set_option linter.all false
set_option maxRecDepth 100000
set_option maxHeartbeats 4000000
namespace K09
open PySem PySem.Spec PyProof.Rows L2 XV DX XF He
theorem rEqStr {x y : Str} {H : Hp} {Q : VK} (q : Q (.bl (decide (x = y))) H) : rEq (.str x) (.str y) H Q := ⟨rfl, by
  have e : decide (V.str x = V.str y) = decide (x = y) := by
    by_cases h : x = y
    · rw [h]; simp
    · simp [h]
  rw [e]; exact q⟩
theorem parS {i j : Nat} {ta : TA} {D : Ends} {σ : L2.St} {H : Hp} (h : ta σ H fun vs H1 => ∃ v w, vs = [v, w] ∧ D.nx ((σ.set i (some v)).set j (some w)) H1) : tPar i j ta D σ H := h
section
variable {P : Program} {w : World} {K : PySem.W.Frag} {mg : Str → Option Value} {base : Heap}
theorem sc_states_behind : FnScope ["many", "state", "step", "equations", "barred", "name", "many_parts", "others"] ["many", "state", "step"] (defScope s_states_behind) := ⟨rfl, rfl, rfl, by decide +kernel, rfl, by decide +kernel, by decide +kernel⟩
theorem cal_states_behind {f : Addr} {fd : FuncData} (F : FnP K "states_behind" "states_behind" s_states_behind f fd) (g : mg "states_behind" = some (.ref f)) (T : Txt0 mg) : Cal P w K mg base "states_behind" 1 ["many", "state", "step"] (spStates K) := by
  refine ⟨f, fd, g, ?_, F.bindsN (fun _ _ _ _ _ _ us hl => match us, hl with | [_, _, _], _ => rfl), F.kp⟩
  refine F.ok sc_states_behind (fun vs H Q E h => ?_) (fun cdv A outer s H vs Q E hr h => ?_)
  · obtain ⟨m, st, e, f2, v, rfl, hst, hv, k⟩ := h
    rfl
  · obtain ⟨m, st, e, f2, v, rfl, hst, hv, k⟩ := h
    refine ⟨_, PSs.nox (pss_cons (ps_if (PW.pt (pw_or (pt_not (pt_val (pe_callB call_isi (by rfl) T.isi (by decide +kernel) (pa_cons (pv 2) (pa_cons (pe_bltn (v := .ty "tuple") (u := .type "tuple") (by rfl) T.tuple (by decide +kernel) rfl) pa_nil))))) (pw_or (pt_cmpR op_lt (pe_callB My.c_len (by rfl) T.len PySem.boot_len (pa_cons (pv 2) pa_nil)) pe_int (nomark _)) (pw_or1 (pt_not (pt_val (pe_callB call_isi (by rfl) T.isi (by decide +kernel) (pa_cons (pe_ix ix_tup (pv 2) pe_int (fun _ _ => rfl)) (pa_cons (pe_bltn (v := .ty "str") (u := .type "str") (by rfl) T.str (by decide +kernel) rfl) pa_nil)))))))))
       (pss_one (ps_ret pe_non))
       pss_nil)
      (pss_cons (ps_asg (pv 1) (pg_tup (by rfl) (pgs_cons (pg_name (i := 3) sc_states_behind.nd rfl (Or.inl rfl)) (pgs_cons (pg_name (i := 4) sc_states_behind.nd rfl (Or.inl rfl)) pgs_nil))))
      (pss_cons (ps_par (i := 5) (j := 6) (by rfl) sc_states_behind.nd rfl rfl (by decide) rfl rfl (pa_cons (pe_ix ix_tup (pv 2) pe_int (fun _ _ => rfl)) (pa_cons (pe_callB My.c_len (by rfl) T.len PySem.boot_len (pa_cons (pv 2) pa_nil)) pa_nil)) (by rfl))
      (pss_cons (ps_if (PW.pt (pw_and (pt_cmpR op_eq (pv 5) pe_str (nomark _)) (pw_and (pt_cmpR op_eq (pv 6) pe_int (nomark _)) (pw_and1 DX.pt_nev))))
       (pss_one ps_never)
       pss_nil)
      (pss_cons (ps_if (PW.pt (pw_and (pt_cmpR op_eq (pv 5) pe_str (nomark _)) (pw_and (pt_cmpR op_eq (pv 6) pe_int (nomark _)) (pw_and1 DX.pt_nev))))
       (pss_one ps_never)
       pss_nil)
      (pss_cons (ps_if (PW.pt (pw_and (pt_cmpR op_eq (pv 5) pe_str (nomark _)) (pw_and (pt_cmpR op_eq (pv 6) pe_int (nomark _)) (pw_and1 DX.pt_nev))))
       (pss_cons ps_never
      (pss_one ps_never))
       pss_nil)
      (pss_cons (ps_if (PW.pt (pw_and (pt_cmpR op_eq (pv 5) pe_str (nomark _)) (pw_and (pt_cmpR op_eq (pv 6) pe_int (nomark _)) (pw_and1 DX.pt_nev))))
       (pss_one ps_never)
       pss_nil)
      (pss_cons (ps_if (PW.pt (pw_and (pt_cmpR op_eq (pv 5) pe_str (nomark _)) (pw_and (pt_cmpR op_eq (pv 6) pe_int (nomark _)) (pw_and1 DX.pt_nev))))
       (pss_one ps_never)
       pss_nil)
      (pss_one (ps_ret pe_non)))))))))), ?_⟩
    try dsimp only [cxOf, Cx.nox, Cx.wish]
    walk_at "f"
    rcases hv with ⟨t, tv, nt⟩ | ⟨a, xs, rfl, ha, hl⟩ | ⟨a, z, y, rfl, ha, z1, z2⟩
    · refine tv.isT mem6 ?_
      rw [nt]
      walk_at "f"
      exact k
    · refine (TgV.tup ha).isT mem6 ?_
      walk_at "f"
      refine My.lenT (SqT.of ha) ?_
      walk_at "f"
      · exact k
      · rename_i q
        exact absurd (by omega) q
    · refine (TgV.tup ha).isT mem6 ?_
      walk_at "f"
      refine My.lenT (SqT.of ha) ?_
      rw [show (([V.str z, y].length : Nat) : Int) = 2 from rfl]
      walk_at "f"
      · rename_i q
        exact absurd q (by decide)
      refine My.ixT (SqT.of ha) (v := .str z) (by rfl) ?_
      walk_at "f"
      refine (TgV.str z).isT mem6 ?_
      walk_at "f"
      refine My.gtup2 (SqT.of hst) rfl ?_
      walk_at "f"
      refine parS ?_
      walk_at "f"
      refine My.ixT (SqT.of ha) (v := .str z) (by rfl) ?_
      walk_at "f"
      refine My.lenT (SqT.of ha) ?_
      rw [show (([V.str z, y].length : Nat) : Int) = 2 from rfl]
      refine ⟨_, _, rfl, ?_⟩
      walk_at "f"
      refine rEqStr ⟨_, rfl, ?_⟩
      refine My.ite_d (fun e => absurd e z1) fun _ => ?_
      refine My.ite_f ?_
      walk_at "f"
      refine rEqStr ⟨_, rfl, ?_⟩
      have fin : ∀ (D : Ends) (σ : L2.St) (H' : Hp), σ[5]? = some (some (.str z)) → σ[6]? = some (some (.int 2)) → H' = H → D.rt = Q → tSeq (tIfS (tAnd (tTest (tOp rEq (tVar 5) (tC (.str "drop")))) (tAnd (tTest (tOp rEq (tVar 6) (tC (.int 4)))) tNevT)) (tSeq tNever tNever) tNext) (tSeq (tIfS (tAnd (tTest (tOp rEq (tVar 5) (tC (.str "none")))) (tAnd (tTest (tOp rEq (tVar 6) (tC (.int 3)))) tNevT)) tNever tNext) (tSeq (tIfS (tAnd (tTest (tOp rEq (tVar 5) (tC (.str "chain")))) (tAnd (tTest (tOp rEq (tVar 6) (tC (.int 2)))) tNevT)) tNever tNext) (tRet (tC .non)))) D σ H' := by
        rintro D σ H' h5 h6 rfl hD
        have st3 : tSeq (tIfS (tAnd (tTest (tOp rEq (tVar 5) (tC (.str "chain")))) (tAnd (tTest (tOp rEq (tVar 6) (tC (.int 2)))) tNevT)) tNever tNext) (tRet (tC .non)) D σ H' := by
          refine My.seq (My.ifs (My.and_ (My.test (My.op (My.var h5 (My.cst (rEqStr ⟨_, rfl, My.ite_d (fun e => absurd e z2) fun _ => My.ite_f (My.next ?_)⟩)))))))
          show D.rt .non H'
          rw [hD]; exact k
        have st2 : tSeq (tIfS (tAnd (tTest (tOp rEq (tVar 5) (tC (.str "none")))) (tAnd (tTest (tOp rEq (tVar 6) (tC (.int 3)))) tNevT)) tNever tNext) (tSeq (tIfS (tAnd (tTest (tOp rEq (tVar 5) (tC (.str "chain")))) (tAnd (tTest (tOp rEq (tVar 6) (tC (.int 2)))) tNevT)) tNever tNext) (tRet (tC .non))) D σ H' := by
          refine My.seq (My.ifs (My.and_ (My.test (My.op (My.var h5 (My.cst (rEqStr ⟨_, rfl, My.ite_d (fun e => ?_) fun _ => My.ite_f (My.next st3)⟩)))))))
          exact My.and_ (My.test (My.op (My.var h6 (My.cst (My.rEqI ⟨_, rfl, My.ite_d (fun e => absurd e (by decide)) fun _ => My.ite_f (My.next st3)⟩)))))
        refine My.seq (My.ifs (My.and_ (My.test (My.op (My.var h5 (My.cst (rEqStr ⟨_, rfl, My.ite_d (fun e => ?_) fun _ => My.ite_f (My.next st2)⟩)))))))
        exact My.and_ (My.test (My.op (My.var h6 (My.cst (My.rEqI ⟨_, rfl, My.ite_d (fun e => absurd e (by decide)) fun _ => My.ite_f (My.next st2)⟩)))))
      refine My.ite_d (fun e => ?_) fun _ => My.ite_f (My.next (fin _ _ _ rfl rfl rfl rfl))
      exact My.and_ (My.test (My.op (My.var rfl (My.cst (My.rEqI ⟨_, rfl, My.ite_d (fun e => absurd e (by decide)) fun _ => My.ite_f (My.next (fin _ _ _ rfl rfl rfl rfl))⟩)))))
theorem sc_followed : FnScope ["system", "thing", "states", "found", "number", "step", "state", "behind"] ["system", "thing"] (defScope s_followed) := ⟨rfl, rfl, rfl, by decide +kernel, rfl, by decide +kernel, by decide +kernel⟩
theorem cal_followed {f : Addr} {fd : FuncData} {C fI fE S sI sE : Addr} (F : FnP K "followed" "followed" s_followed f fd) (g : mg "followed" = some (.ref f)) (T : Txt0 mg) (C_states_behind : Cal P w K mg base "states_behind" 1 ["many", "state", "step"] (spStates K)) (PT : PolF K mg C fI fE) (ST : SysF K mg S sI sE) : Cal P w K mg base "followed" 2 ["system", "thing"] (spFollowed K C S) := by
  obtain ⟨f_states_behind, fd_states_behind, g_states_behind, G_states_behind, b_states_behind, k_states_behind⟩ := C_states_behind
  refine ⟨f, fd, g, ?_, F.bindsN (fun _ _ _ _ _ _ us hl => match us, hl with | [_, _], _ => rfl), F.kp⟩
  refine F.ok sc_followed (fun vs H Q E h => ?_) (fun cdv A outer s H vs Q E hr h => ?_)
  · obtain ⟨a, v, m, ps, qs, n, rfl, hs, hv, k⟩ := h
    rfl
  · obtain ⟨a, v, m, ps, qs, n, rfl, hs, hv, k⟩ := h
    refine ⟨_, PSs.nox (pss_cons (ps_if (pt_not (pt_val (pe_callB call_isi (by rfl) T.isi (by decide +kernel) (pa_cons (pv 1) (pa_cons (pe_bltn (v := .ty "tuple") (u := .type "tuple") (by rfl) T.tuple (by decide +kernel) rfl) pa_nil)))))
       (pss_one (ps_ret (pe_tup (pa_cons (pe_un un_neg pe_int) (pa_cons (pe_lst pa_nil) pa_nil)))))
       pss_nil)
      (pss_cons (ps_set (i := 2) sc_followed.nd rfl (Or.inl rfl) (pe_lst (pa_cons (pe_tup (pa_cons (pe_fld (pv 0) rfl) (pa_cons (pe_fld (pv 0) rfl) pa_nil))) pa_nil)))
      (pss_cons (ps_set (i := 3) sc_followed.nd rfl (Or.inl rfl) (pe_lst pa_nil))
      (pss_cons (ps_for PassesOwn.never rfl (EnT.pi_enumT (by rfl) T.enum (pa_cons (pv 1) pa_nil)) (pg_tup (by rfl) (pgs_cons (pg_name (i := 4) sc_followed.nd rfl (Or.inl rfl)) (pgs_cons (pg_name (i := 5) sc_followed.nd rfl (Or.inl rfl)) pgs_nil)))
       (pss_cons (ps_if (pt_not (pt_truth (pv 2) (by intro _; rfl)))
       (pss_one (ps_ret (pe_tup (pa_cons (pv 4) (pa_cons (pe_lst pa_nil) pa_nil)))))
       pss_nil)
      (pss_cons (ps_set (i := 6) sc_followed.nd rfl (Or.inl rfl) (pe_bm0 PySem.F.plainAttrs_list PySem.F.slot_list_pop PySem.F.type_list_pop mt_pop (pv 2)))
      (pss_cons (ps_set (i := 7) sc_followed.nd rfl (Or.inl rfl) (pe_call G_states_behind (hr.mono (by decide)) (by rfl) g_states_behind k_states_behind b_states_behind .nil pass0 (pa_cons (pe_fld (pv 0) rfl) (pa_cons (pv 6) (pa_cons (pv 5) pa_nil)))))
      (pss_cons (ps_if (pt_cmpR DX.op_isNn (pv 7) pe_non (nomark _))
       (pss_one (ps_ret (pe_tup (pa_cons (pv 4) (pa_cons (pe_lst pa_nil) pa_nil)))))
       pss_nil)
      (pss_cons ps_never
      (pss_cons ps_never
      (pss_one ps_never))))))))
      (pss_one (ps_ret (pe_tup (pa_cons (pe_ifExp (pt_truth (pv 2) (by intro _; rfl)) (pe_callB My.c_len (by rfl) T.len PySem.boot_len (pa_cons (pv 1) pa_nil)) pe_non) (pa_cons (pv 3) pa_nil))))))))), ?_⟩
    try dsimp only [cxOf, Cx.nox, Cx.wish]
    obtain ⟨dx, e, f', ha, _⟩ := id hs
    walk_at "f"
    rcases hv with ⟨t, tv, nt, rfl⟩ | ⟨a', xs, rfl, hx, hbad, rfl⟩
    · refine tv.isT mem6 ?_
      rw [nt]
      walk_at "f"
      refine My.new (My.sz (by simp)) fun p1 n1 => ?_
      walk_at "f"
      refine My.new (My.sz (by simp)) fun p2 n2 => ?_
      exact k _ p2 _ ((same_new n1).trans (same_new n2)) upd_same
    · refine (TgV.tup hx).isT mem6 ?_
      walk_at "f"
      refine My.fld ha ST.ins.cl ST.n2 (lk2 _ _ _) rfl ?_
      walk_at "f"
      refine My.fld ha ST.ins.cl ST.n3 (lk3 _ _ _) rfl ?_
      walk_at "f"
      refine My.new (My.sz (by simp)) fun p1 n1 => ?_
      walk_at "f"
      refine My.new (My.sz (by simp)) fun p2 n2 => ?_
      walk_at "f"
      refine My.new (My.sz (by simp)) fun p3 n3 => ?_
      have q1 := same_new (o := HO.tup [V.ref e, V.ref f']) n1
      have q2 := same_new (o := HO.lst [V.ref p1]) n2
      have q3 := same_new (o := HO.lst []) n3
      have s3 := (q1.trans q2).trans q3
      have h1 := q3 _ _ (q2 _ _ (upd_same (H := H) (a := p1) (o := HO.tup [V.ref e, V.ref f'])))
      have h2 := q3 _ _ (upd_same (H := upd H p1 (HO.tup [V.ref e, V.ref f'])) (a := p2) (o := HO.lst [V.ref p1]))
      have n2' : H p2 = none := q1.free n2
      generalize upd (upd (upd H p1 _) p2 _) p3 _ = H3 at s3 h1 h2 ⊢
      walk_at "f"
      refine EnT.forT1 ?_
      walk_at "f"
      refine EnT.forT (SqT.of (s3 _ _ hx)) (fun i σ' H' => i = 0 ∧ H' = H3 ∧ ∃ u v, σ' = [some (.ref a), some (.ref a'), some (.ref p2), some (.ref p3), u, v, none, none]) ⟨rfl, rfl, none, none, rfl⟩ (fun _ _ _ _ z => by rw [z.2.1]; exact SqT.of (s3 _ _ hx)) ?_ ?_
      · rintro i x T σ' H4 ex ⟨rfl, rfl, u, v, rfl⟩ nT
        have sT := same_new (o := HO.tup [V.int ((0 : Nat) : Int), x]) nT
        refine My.gtup2 (SqT.of upd_same) rfl ?_
        have g1 := sT _ _ h1
        have g2 := sT _ _ h2
        have s4 := s3.trans sT
        generalize upd H4 T _ = H5 at g1 g2 s4 ⊢
        walk_at "f"
        refine ⟨true, Or.inl ⟨_, SqL.of g2, rfl⟩, ?_⟩
        walk_at "f"
        refine ⟨_, rfl, .inl ⟨rfl, _, SqL.of g2⟩, p2, _, _, rfl, rfl, g2, rfl, ?_⟩
        have s5 : Same H (upd H5 p2 (.lst [V.ref p1].dropLast)) := fun b o e => by
          rw [upd_ne (ne_of_none e n2')]
          exact s4 _ _ e
        have g3 : upd H5 p2 (.lst [V.ref p1].dropLast) p1 = some (HO.tup [V.ref e, V.ref f']) := by
          rw [upd_ne (fun z => by rw [z, g2] at g1; cases g1)]
          exact g1
        generalize upd H5 p2 _ = H6 at s5 g3 ⊢
        walk_at "f"
        refine My.fld (s5 _ _ ha) ST.ins.cl ST.n1 (lk1 _ _ _) rfl ?_
        walk_at "f"
        refine ⟨_, p1, _, _, x, rfl, g3, (hbad x ex).same s5, ?_⟩
        walk_at "f"
        refine ⟨rfl, _, rfl, My.ite_d (fun _ => ?_) fun z => absurd rfl z⟩
        walk_at "f"
        refine My.new (My.sz (by simp)) fun p7 n7 => ?_
        walk_at "f"
        refine My.new (My.sz (by simp)) fun p8 n8 => ?_
        exact k _ p8 _ ((s5.trans (same_new n7)).trans (same_new n8)) upd_same
      · rintro σ' H4 ⟨l0, rfl, u, v, rfl⟩
        walk_at "f"
        refine ⟨true, Or.inl ⟨_, SqL.of h2, rfl⟩, ?_⟩
        walk_at "f"
        refine My.lenT (SqT.of (s3 _ _ hx)) ?_
        walk_at "f"
        refine My.new (My.sz (by simp)) fun p8 n8 => ?_
        refine k _ p8 (.ref p3) (s3.trans (same_new n8)) ?_
        rw [upd_same, l0]; rfl
theorem sc_cover_fault : FnScope ["system", "thing"] ["system", "thing"] (defScope s_cover_fault) := ⟨rfl, rfl, rfl, by decide +kernel, rfl, by decide +kernel, by decide +kernel⟩
theorem cal_cover_fault {f : Addr} {fd : FuncData} {C fI fE S sI sE : Addr} (F : FnP K "cover_fault" "cover_fault" s_cover_fault f fd) (g : mg "cover_fault" = some (.ref f)) (T : Txt0 mg) (C_followed : Cal P w K mg base "followed" 2 ["system", "thing"] (spFollowed K C S)) (PT : PolF K mg C fI fE) (ST : SysF K mg S sI sE) : Cal P w K mg base "cover_fault" 3 ["system", "thing"] (spFault K C S) := by
  obtain ⟨f_followed, fd_followed, g_followed, G_followed, b_followed, k_followed⟩ := C_followed
  refine ⟨f, fd, g, ?_, F.bindsN (fun _ _ _ _ _ _ us hl => match us, hl with | [_, _], _ => rfl), F.kp⟩
  refine F.ok sc_cover_fault (fun vs H Q E h => ?_) (fun cdv A outer s H vs Q E hr h => ?_)
  · obtain ⟨a, v, m, ps, qs, n, rfl, hs, hv, k⟩ := h
    rfl
  · obtain ⟨a, v, m, ps, qs, n, rfl, hs, hv, k⟩ := h
    refine ⟨_, PSs.nox (pss_one (ps_ret (pe_ix ix_tup (pe_call G_followed (hr.mono (by decide)) (by rfl) g_followed k_followed b_followed .nil pass0 (pa_cons (pv 0) (pa_cons (pv 1) pa_nil))) pe_int (fun _ _ => rfl)))), ?_⟩
    try dsimp only [cxOf, Cx.nox, Cx.wish]
    walk_at "f"
    refine ⟨a, v, m, ps, qs, n, rfl, hs, hv, fun H1 t y s1 ht => ?_⟩
    walk_at "f"
    exact My.ixT (SqT.of ht) (by rfl) (k _ s1)
theorem sc_is_cover : FnScope ["system", "thing"] ["system", "thing"] (defScope s_is_cover) := ⟨rfl, rfl, rfl, by decide +kernel, rfl, by decide +kernel, by decide +kernel⟩
theorem cal_is_cover {f : Addr} {fd : FuncData} {C fI fE S sI sE : Addr} (F : FnP K "is_cover" "is_cover" s_is_cover f fd) (g : mg "is_cover" = some (.ref f)) (T : Txt0 mg) (C_cover_fault : Cal P w K mg base "cover_fault" 3 ["system", "thing"] (spFault K C S)) (PT : PolF K mg C fI fE) (ST : SysF K mg S sI sE) : Cal P w K mg base "is_cover" 4 ["system", "thing"] (spCover K C S) := by
  obtain ⟨f_cover_fault, fd_cover_fault, g_cover_fault, G_cover_fault, b_cover_fault, k_cover_fault⟩ := C_cover_fault
  refine ⟨f, fd, g, ?_, F.bindsN (fun _ _ _ _ _ _ us hl => match us, hl with | [_, _], _ => rfl), F.kp⟩
  refine F.ok sc_is_cover (fun vs H Q E h => ?_) (fun cdv A outer s H vs Q E hr h => ?_)
  · obtain ⟨a, v, m, ps, qs, n, rfl, hs, hv, k⟩ := h
    rfl
  · obtain ⟨a, v, m, ps, qs, n, rfl, hs, hv, k⟩ := h
    refine ⟨_, PSs.nox (pss_one (ps_ret (pe_cmpR DX.op_isNn (pe_call G_cover_fault (hr.mono (by decide)) (by rfl) g_cover_fault k_cover_fault b_cover_fault .nil pass0 (pa_cons (pv 0) (pa_cons (pv 1) pa_nil))) pe_non (nomark _)))), ?_⟩
    try dsimp only [cxOf, Cx.nox, Cx.wish]
    walk_at "f"
    refine ⟨a, v, m, ps, qs, n, rfl, hs, hv, fun H1 s1 => ⟨rfl, ?_⟩⟩
    rw [show decide (V.int n = V.non) = false from decide_eq_false (fun e => by cases e)]
    exact k _ s1
end
end K09

set_option Elab.async false
set_option linter.all false
set_option maxRecDepth 100000
set_option maxHeartbeats 4000000
namespace K09
open PySem PySem.Spec PyProof.Rows L2 XV DX XF He
/-- no mark -/
def NoM (K : PySem.W.Frag) (H : Hp) (v : V) : Prop := (∃ t, TgV K H v t) ∧ ∀ a xs, v = .ref a → H a = some (.lst xs) → Unm H xs
def inM (many : Int) (m : Pol) : Bool := m.all fun p => decide (mx 0 (p.1.drop many.toNat) = 0)
def spIsIn (K : PySem.W.Frag) : Sp := fun vs H Q _ => ∃ (v : V) (many : Int), vs = [v, .int many] ∧ 1 ≤ many ∧ many ≤ 3 ∧ ((∃ m, Mark H v m ∧ WF m ∧ ∀ H', Same H H' → Q (.bl (inM many m)) H') ∨ (NoM K H v ∧ Q (.bl false) H))
theorem same_lock {H H' : Hp} {b : Addr} {u w : HO} (hb : H b = some u) (s : Same (upd H b w) H') : Same H (upd H' b u) := fun x o e => by
  by_cases g : x = b
  · rw [g] at e ⊢
    rw [hb] at e
    rw [upd_same]
    exact e
  · rw [upd_ne g]
    exact s _ _ (by rw [upd_ne g]; exact e)
theorem bools_of {f : Nat → Bool} : ∀ {n : Nat} {ys : List V}, ys.length = n → (∀ (j : Nat) y, ys[j]? = some y → y = .bl (f j)) → ys = ((List.range n).map f).map V.bl := fun hl h => by
  rw [List.map_map]
  exact map_of hl h
section
variable {P : Program} {w : World} {K : PySem.W.Frag} {mg : Str → Option Value} {base : Heap}
theorem sc_law_is_in : FnScope ["_law_thing", "_law_many", "_law_powers"] ["_law_thing", "_law_many"] (defScope s_law_is_in) := ⟨rfl, rfl, rfl, by decide +kernel, rfl, by decide +kernel, by decide +kernel⟩
theorem cal_law_is_in {f : Addr} {fd : FuncData} (F : FnP K "_law_is_in" "_law_is_in" s_law_is_in f fd) (g : mg "_law_is_in" = some (.ref f)) (T : Txt0 mg) (C_law_is_marked : Cal P w K mg base "_law_is_marked" 1 ["_law_thing"] (spIsMarked K)) : Cal P w K mg base "_law_is_in" 2 ["_law_thing", "_law_many"] (spIsIn K) := by
  obtain ⟨f_law_is_marked, fd_law_is_marked, g_law_is_marked, G_law_is_marked, b_law_is_marked, k_law_is_marked⟩ := C_law_is_marked
  refine ⟨f, fd, g, ?_, F.bindsN (fun _ _ _ _ _ _ us hl => match us, hl with | [_, _], _ => rfl), F.kp⟩
  refine F.ok sc_law_is_in (fun vs H Q E h => ?_) (fun cdv A outer s H vs Q E hr h => ?_)
  · obtain ⟨v, many, rfl, m1, m3, hv⟩ := h
    rfl
  · obtain ⟨v, many, rfl, m1, m3, hv⟩ := h
    refine ⟨_, PSs.nox (pss_one (ps_ret (pe_and (pe_call G_law_is_marked (hr.mono (by decide)) (by rfl) g_law_is_marked k_law_is_marked b_law_is_marked .nil pass0 (pa_cons (pv 0) pa_nil)) (pe_one (pe_callB (cr_all rfl) (by rfl) T.all (by decide +kernel) (pa_cons (pe_lock (pe_lc (own := [("_law_powers", 2)]) (tt := tYes) (te := tOp rEq (tCB (rMaxT K) (tCons (tSl (rSlA K) (tVar 2) (tPart (tVar 1)) tNoPart) tNil)) (tC (.int 0))) (by rfl) sc_law_is_in.nd (pi_keys (pe_ix ix_list (pv 0) pe_int (fun _ _ => rfl))) (blkOk_by (own := [("_law_powers", 2)]) (N := ["_law_thing", "_law_many", "_law_powers"]) (sc := (defScope s_law_is_in)) (by decide +kernel)) (fun _ _ _ _ _ => (pg_name (i := 2) sc_law_is_in.nd rfl (Or.inl rfl))) (fun _ _ _ _ _ => pts_nil) (fun _ _ _ _ _ => (pe_cmpR op_eq (pe_callB (DX.cr_maxT rfl (Nat.lt_of_le_of_lt (Nat.add_le_add_left (by decide) _) hr.units)) (by rfl) T.max (by decide +kernel) (pa_cons (pe_slice sl_tupA (pv 2) (po_some (pv 1)) po_none) pa_nil)) pe_int (nomark _))))) pa_nil)))))), ?_⟩
    try dsimp only [cxOf, Cx.nox, Cx.wish]
    walk_at "f"
    rcases hv with ⟨m, hm, wf, k⟩ | ⟨⟨tv, un⟩, k⟩
    · obtain ⟨a, b, rfl, ha, hb⟩ := id hm
      refine ⟨_, rfl, .inl ⟨⟨m, hm⟩, ?_⟩⟩
      walk_at "f"
      have ab : a ≠ b := fun e => by
        have hb' : H b = some (HO.dT (kvI m)) := hb
        rw [e, hb'] at ha; cases ha
      refine My.lockE hb trivial fun od => ?_
      refine My.lcK1 ?_
      have ha2 : upd H b (HO.frz od (HO.dT (kvI m))) a = some (.lst [.str "P", .ref b]) := by rw [upd_ne ab]; exact ha
      walk_at "f"
      refine My.ixL (SqL.of ha2) (v := .ref b) (by rfl) (My.ckT upd_same ?_)
      have few := wf.few
      refine My.lcM (walk_keysT (d := b) (o := od) (kvs := kvI m)) Same (by rw [kvI_len]; omega) (fun D hD => same_new hD) fun D nD => ⟨fun j y H => ∃ p, m[j]? = some p ∧ y = .bl (decide (mx 0 (p.1.drop many.toNat) = 0)), fun j y H ys o _ h => h, fun H o s => same_at s nD, fun H2 _ s _ => s _ _ upd_same, ?_, ?_⟩
      · rintro i x H2 H3 ys N hi r e l p' ⟨rfl, kk, v, q, e1, rfl, hq⟩ hN
        obtain ⟨l4, c, e2, rfl, rfl⟩ := kvI_get e1
        have hm4 := wf.len _ (List.mem_iff_getElem?.mpr ⟨i, e2⟩)
        rw [ik_kV] at hq
        walk_at "f"
        refine ⟨rfl, ?_⟩
        walk_at "f"
        have key : ∀ p, H3 p = none → rMaxT K [V.ref p] (upd H3 p (.tup ((l4.drop many.toNat).map V.int))) (fun x H1 => rEq x (V.int 0) H1 N) := fun p np => by
          have sp := same_new (o := HO.tup ((l4.drop many.toNat).map V.int)) np
          refine ⟨p, l4.drop many.toNat, rfl, SqT.of upd_same, fun z => ?_, ?_⟩
          · have := congrArg List.length z
            rw [List.length_drop, hm4] at this
            simp at this
            omega
          · refine My.rEqI ?_
            exact hN _ _ (r.trans sp) (sp _ _ e) p' ⟨_, e2, rfl⟩
        obtain ⟨a1, a2, a3, a4, rfl⟩ := four hm4
        refine ⟨q, _, rfl, SqT.of hq, fun z => ?_, fun _ p np => ?_⟩
        · exfalso
          have z1 := z.1
          have hml : HT.sIx ([a1, a2, a3, a4].map V.int).length 0 (some many) = min many.toNat 4 := by
            show (if many < 0 then (many + (4 : Nat)).toNat else min many.toNat 4) = _
            rw [if_neg (by omega)]
          rw [hml] at z1
          omega
        · have ec : cutV ([a1, a2, a3, a4].map V.int) (some many) none = ([a1, a2, a3, a4].drop many.toNat).map V.int := by
            obtain rfl | rfl | rfl : many = 1 ∨ many = 2 ∨ many = 3 := by omega
            all_goals rfl
          rw [ec]
          exact key p np
      · intro H2 ys hD hl2 s2 hy
        rw [kvI_len] at hl2
        have ey : ys = (m.map fun p => decide (mx 0 (p.1.drop many.toNat) = 0)).map V.bl := by
          refine List.ext_getElem? fun j => ?_
          rw [List.getElem?_map, List.getElem?_map]
          by_cases hj : j < ys.length
          · obtain ⟨p, e1, e2⟩ := hy j _ (List.getElem?_eq_getElem hj)
            rw [List.getElem?_eq_getElem hj, e1, e2]; rfl
          · rw [List.getElem?_eq_none (by omega), List.getElem?_eq_none (by omega)]; rfl
        refine ⟨s2 _ _ upd_same, ?_⟩
        have hDb : D ≠ b := fun e => by rw [e, upd_same] at nD; cases nD
        walk_at "f"
        refine My.allL (bs := m.map fun p => decide (mx 0 (p.1.drop many.toNat) = 0)) (SqL.of (by rw [upd_ne hDb, hD, ey])) ?_
        have ea : (m.map fun p => decide (mx 0 (p.1.drop many.toNat) = 0)).all id = inM many m := by
          rw [inM, List.all_map]; rfl
        rw [ea]
        exact k _ (same_lock hb s2)
    · refine ⟨_, rfl, .inr ⟨tv, un, ?_⟩⟩
      walk_at "f"
      exact k
end
end K09

set_option Elab.async false
set_option linter.all false
set_option maxRecDepth 100000
set_option maxHeartbeats 4000000
namespace K09
open PySem PySem.Spec PyProof.Rows L2 XV DX XF He
/-- the same terms, sorted -/
def Srt (ts m : Pol) : Prop := ts.Perm m ∧ ts.Pairwise fun p q => TS.code 64 p.1 < TS.code 64 q.1
theorem code_inj {k l : List Int} (hk : k.length = 4) (hl : l.length = 4) (bk : ∀ e ∈ k, 0 ≤ e ∧ e ≤ 60) (bl : ∀ e ∈ l, 0 ≤ e ∧ e ≤ 60) (h : TS.code 64 k = TS.code 64 l) : k = l := by
  obtain ⟨a, b, c, d, rfl⟩ := four hk
  obtain ⟨a', b', c', d', rfl⟩ := four hl
  have A := bk a (by simp); have B := bk b (by simp); have C := bk c (by simp); have D := bk d (by simp)
  have A' := bl a' (by simp); have B' := bl b' (by simp); have C' := bl c' (by simp); have D' := bl d' (by simp)
  have e : a * 262144 + b * 4096 + c * 64 + d = a' * 262144 + b' * 4096 + c' * 64 + d' := by
    simp [TS.code] at h
    omega
  obtain rfl : a = a' := by omega
  obtain rfl : b = b' := by omega
  obtain rfl : c = c' := by omega
  obtain rfl : d = d' := by omega
  rfl
def tsOf (m : Pol) (ks : List (List Int)) : Pol := ks.map fun k => (k, (getP m k).getD 0)
theorem tsOf_keys {m : Pol} (h : (keysP m).Nodup) : tsOf m (keysP m) = m := by
  unfold tsOf keysP
  rw [List.map_map]
  refine List.ext_getElem? fun i => ?_
  rw [List.getElem?_map]
  cases e : m[i]? with
  | none => rfl
  | some p =>
    obtain ⟨l, c⟩ := p
    show some (l, (getP m l).getD 0) = _
    rw [getP_at h e]; rfl
theorem srt_of {m : Pol} {ks : List (List Int)} (wf : WF m) (pe : ks.Perm (keysP m)) (pw : ks.Pairwise fun k l => TS.code 64 k ≤ TS.code 64 l) : Srt (tsOf m ks) m := by
  refine ⟨?_, ?_⟩
  · have z := pe.map fun k => (k, (getP m k).getD 0)
    have e := tsOf_keys (m := m) wf.nd
    unfold tsOf at e
    rw [e] at z
    exact z
  · unfold tsOf
    rw [List.pairwise_map]
    have nd : ks.Nodup := pe.symm.nodup wf.nd
    have hk : ∀ k ∈ ks, k.length = 4 ∧ ∀ e ∈ k, 0 ≤ e ∧ e ≤ 60 := fun k hk => by
      obtain ⟨p, hp, rfl⟩ := List.mem_map.mp (pe.mem_iff.mp hk)
      exact ⟨wf.len p hp, wf.bd p hp⟩
    refine List.Pairwise.imp_of_mem ?_ (List.Pairwise.and pw nd)
    rintro k l h1 h2 ⟨h3, h4⟩
    have : TS.code 64 k ≠ TS.code 64 l := fun e => h4 (code_inj (hk k h1).1 (hk l h2).1 (hk k h1).2 (hk l h2).2 e)
    show TS.code 64 k < TS.code 64 l
    omega
theorem Srt.wft {ts m : Pol} (s : Srt ts m) (wf : WF m) : WFt ts := by
  refine ⟨fun p hp => ⟨wf.len p (s.1.mem_iff.mp hp), wf.bd p (s.1.mem_iff.mp hp)⟩, fun p hp => wf.nz p (s.1.mem_iff.mp hp), ?_, s.2⟩
  rw [s.1.length_eq]
  have := wf.few
  omega
/-- strictly rising, one within the other -/
theorem sub_of : ∀ {us ts : Pol}, (ts.Pairwise fun p q => TS.code 64 p.1 < TS.code 64 q.1) → (us.Pairwise fun p q => TS.code 64 p.1 < TS.code 64 q.1) → (∀ p ∈ ts, p ∈ us) → ts.Sublist us
  | [], [], _, _, _ => .slnil
  | [], a :: ts, _, _, h => absurd (h a List.mem_cons_self) (by simp)
  | b :: us, [], _, _, _ => List.nil_sublist _
  | b :: us, a :: ts, h1, h2, h => by
    rw [List.pairwise_cons] at h1 h2
    rcases List.mem_cons.mp (h a List.mem_cons_self) with e | e
    · subst e
      refine .cons₂ _ (sub_of h1.2 h2.2 fun p hp => ?_)
      rcases List.mem_cons.mp (h p (List.mem_cons_of_mem _ hp)) with g | g
      · have := h1.1 p hp
        rw [g] at this
        omega
      · exact g
    · refine .cons _ (sub_of (List.pairwise_cons.mpr h1) h2.2 fun p hp => ?_)
      have hb := h2.1 a e
      rcases List.mem_cons.mp (h p hp) with g | g
      · exfalso
        rcases List.mem_cons.mp hp with q | q
        · rw [← q, g] at hb; omega
        · have := h1.1 p q
          rw [g] at this
          omega
      · exact g
theorem getP_mem {m : Pol} {k : List Int} {c : Int} (h : getP m k = some c) : (k, c) ∈ m := by
  unfold getP at h
  cases e : m.find? (fun p => decide (p.1 = k)) with
  | none => rw [e] at h; cases h
  | some p =>
    rw [e] at h
    have h1 := List.mem_of_find?_eq_some e
    have h2 : p.1 = k := of_decide_eq_true (List.find?_some (p := fun p : List Int × Int => decide (p.1 = k)) e)
    cases Option.some.inj h
    rw [← h2]
    exact h1
/-- the same terms: the dicts are equal -/
theorem dEq_iff {m n : Pol} (hm : (keysP m).Nodup) (hn : (keysP n).Nodup) : dEq (kvI m) (kvI n) = true ↔ m.length = n.length ∧ ∀ p ∈ m, p ∈ n := by
  unfold dEq
  rw [Bool.and_eq_true, kvI_len, kvI_len, beq_iff_eq, List.all_eq_true]
  refine and_congr_right fun _ => ⟨fun h p hp => ?_, fun h q hq => ?_⟩
  · have z := h (ik p.1, .int p.2) (List.mem_map.mpr ⟨p, hp, rfl⟩)
    simp only [valV_kvI] at z
    cases e : getP n p.1 with
    | none => rw [e] at z; cases z
    | some c =>
      rw [e] at z
      have : p.2 = c := by
        have z' : (p.2 == c) = true := z
        exact beq_iff_eq.mp z'
      rw [← this] at e
      exact getP_mem e
  · obtain ⟨p, hp, rfl⟩ := List.mem_map.mp hq
    obtain ⟨i, hi⟩ := List.mem_iff_getElem?.mp (h p hp)
    obtain ⟨l, c⟩ := p
    simp only [valV_kvI, getP_at hn hi]
    show (c == c) = true
    exact beq_self_eq_true c
theorem srt_eq {ts us m n : Pol} (h : Srt ts m) (g : Srt us n) (hm : (keysP m).Nodup) (hn : (keysP n).Nodup) : decide (ts = us) = dEq (kvI m) (kvI n) := by
  rw [Bool.eq_iff_iff, decide_eq_true_eq, dEq_iff hm hn]
  constructor
  · rintro rfl
    exact ⟨h.1.length_eq.symm.trans g.1.length_eq, fun p hp => g.1.mem_iff.mp (h.1.mem_iff.mpr hp)⟩
  · rintro ⟨hl, hs⟩
    refine (sub_of h.2 g.2 fun p hp => g.1.mem_iff.mpr (hs p (h.1.mem_iff.mp hp))).eq_of_length ?_
    rw [h.1.length_eq, g.1.length_eq, hl]
theorem mx_pos {ns : List Int} (h : ∀ x ∈ ns, 0 ≤ x) : 0 < mx 0 ns ↔ ∃ x ∈ ns, 0 < x := by
  have z := mx_zero h
  have g := mx_le (d := 0) h (Int.le_refl 0)
  constructor
  · intro p
    apply Classical.byContradiction
    intro n
    have : mx 0 ns = 0 := z.mpr fun x hx => by
      have := h x hx
      have : ¬ 0 < x := fun q => n ⟨x, hx, q⟩
      omega
    omega
  · rintro ⟨x, hx, p⟩
    rcases Int.lt_or_le 0 (mx 0 ns) with q | q
    · exact q
    · have := z.mp (by omega) x hx
      omega
/-- stands in: the same for the sorted terms and the dict -/
theorem inP_eq {ts : Pol} {many : Int} (m1 : 1 ≤ many) (m3 : many ≤ 3) (hk : ∀ p ∈ ts, p.1.length = 4 ∧ ∀ e ∈ p.1, 0 ≤ e ∧ e ≤ 60) : inP many ts = inM many ts := by
  have hc : ∀ j, ∀ x ∈ colP ts j, 0 ≤ x := fun j x hx => by
    obtain ⟨p, hp, rfl⟩ := List.mem_map.mp hx
    rw [List.getD_eq_getElem?_getD]
    cases e : p.1[j]? with
    | none => exact Int.le_refl 0
    | some y => exact ((hk p hp).2 y (List.mem_iff_getElem?.mpr ⟨j, e⟩)).1
  have key : inM many ts = true ↔ ∀ j : Nat, j < 4 → many ≤ (j : Int) → ¬ 0 < mx 0 (colP ts j) := by
    unfold inM
    rw [List.all_eq_true]
    constructor
    · intro h j hj hm p
      obtain ⟨x, hx, xp⟩ := (mx_pos (hc j)).mp p
      obtain ⟨p, hp, rfl⟩ := List.mem_map.mp hx
      have z := of_decide_eq_true (h p hp)
      rw [mx_zero (fun x hx => ((hk p hp).2 x (List.mem_of_mem_drop hx)).1)] at z
      have hl := (hk p hp).1
      have e : (p.1.drop many.toNat)[j - many.toNat]? = some (p.1.getD j 0) := by
        rw [List.getElem?_drop, List.getD_eq_getElem?_getD, show many.toNat + (j - many.toNat) = j by omega, List.getElem?_eq_getElem (by omega)]; rfl
      have := z _ (List.mem_iff_getElem?.mpr ⟨_, e⟩)
      omega
    · intro h p hp
      refine decide_eq_true ((mx_zero (fun x hx => ((hk p hp).2 x (List.mem_of_mem_drop hx)).1)).mpr fun x hx => ?_)
      obtain ⟨i, hi⟩ := List.mem_iff_getElem?.mp hx
      rw [List.getElem?_drop] at hi
      have hl := (hk p hp).1
      have hlt := (List.getElem?_eq_some_iff.mp hi).1
      have n := h (many.toNat + i) (by omega) (by omega)
      have x0 := ((hk p hp).2 x (List.mem_iff_getElem?.mpr ⟨_, hi⟩)).1
      rcases Int.lt_or_le 0 x with q | q
      · exact absurd ((mx_pos (hc _)).mpr ⟨x, List.mem_map.mpr ⟨p, hp, by rw [List.getD_eq_getElem?_getD, hi]; rfl⟩, q⟩) n
      · omega
  rw [Bool.eq_iff_iff, key]
  unfold inP topP
  simp only [List.range_succ, List.range_zero, List.nil_append, List.foldl_append, List.foldl_cons, List.foldl_nil]
  constructor
  · intro h j hj hm q
    have : j = 0 ∨ j = 1 ∨ j = 2 ∨ j = 3 := by omega
    rcases this with rfl | rfl | rfl | rfl
    · omega
    all_goals
      split at h <;> rename_i e
      · (repeat' split at e) <;> first | (cases e; done) | contradiction
      · have h' := of_decide_eq_true h
        (repeat' split at e) <;> first | (cases e; omega) | contradiction
  · intro h
    split
    · rfl
    · rename_i j e
      refine decide_eq_true (Classical.byContradiction fun n => ?_)
      split at e
      · cases e; exact h 3 (by omega) (by omega) (by assumption)
      · split at e
        · cases e; exact h 2 (by omega) (by omega) (by assumption)
        · split at e
          · cases e; exact h 1 (by omega) (by omega) (by assumption)
          · split at e
            · cases e; omega
            · cases e
theorem inM_perm {ts m : Pol} (h : ts.Perm m) (many : Int) : inM many ts = inM many m := by
  unfold inM
  rw [Bool.eq_iff_iff, List.all_eq_true, List.all_eq_true]
  exact ⟨fun z p hp => z p (h.mem_iff.mpr hp), fun z p hp => z p (h.mem_iff.mp hp)⟩
/-- items of which each is an object -/
theorem refs_of {P : Nat → Addr → Prop} : ∀ {ys : List V}, (∀ (j : Nat) (y : V), ys[j]? = some y → ∃ e : Addr, y = V.ref e ∧ P j e) → ∃ ks : List Addr, ys = ks.map V.ref ∧ ∀ (j : Nat) e, ks[j]? = some e → P j e := by
  intro ys
  induction ys generalizing P with
  | nil => exact fun _ => ⟨[], rfl, fun j e h => by simp at h⟩
  | cons y ys ih =>
    intro hh
    obtain ⟨e, rfl, he⟩ := hh 0 y rfl
    obtain ⟨ks, rfl, hk⟩ := ih (P := fun j e => P (j + 1) e) fun j y h => hh (j + 1) y h
    refine ⟨e :: ks, rfl, fun j x hx => ?_⟩
    cases j with
    | zero => cases (show e = x by simpa using hx); exact he
    | succ j => exact hk j x (by simpa using hx)
/-- behind an object made -/
theorem made_same {H1 H' : Hp} {x dx : Addr} {o1 o2 o3 : HO} (nx : H1 x = none) (nd : H1 dx = none) (s : Same (upd (upd H1 dx o1) x o2) H') : Same H1 (upd H' x o3) := fun b o e => by
  rw [upd_ne (ne_of_none e nx)]
  refine s _ _ ?_
  rw [upd_ne (ne_of_none e nx), upd_ne (ne_of_none e nd)]
  exact e
end K09

set_option Elab.async false
set_option linter.all false
set_option maxRecDepth 100000
set_option maxHeartbeats 4000000
namespace K09
open PySem PySem.Spec PyProof.Rows L2 XV DX XF He
/-- packed: x before, y behind it -/
def Res0 (K : PySem.W.Frag) (C : Addr) (H : Hp) (x y : V) : Prop := (∃ m ts a, Mark H x m ∧ WF m ∧ y = .ref a ∧ PolyAt C H a ts ∧ Srt ts m) ∨ (NoM K H x ∧ ∃ t, TgV K H y t ∧ ∀ D, t ≠ .ins D)
def Res (K : PySem.W.Frag) (C : Addr) (H : Hp) (x y : V) : Prop := (∃ a xs b ys, x = .ref a ∧ H a = some (.tup xs) ∧ y = .ref b ∧ H b = some (.tup ys) ∧ Paired (Res0 K C H) xs ys) ∨ (Res0 K C H x y ∧ (∃ t, TgV K H x t ∧ t.is "tuple" = false) ∧ ∃ t, TgV K H y t ∧ t.is "tuple" = false)
theorem Mark.same {H H' : Hp} {v : V} {m : Pol} (s : Same H H') (h : Mark H v m) : Mark H' v m := by
  obtain ⟨a, b, e, ha, hb⟩ := h
  exact ⟨a, b, e, s _ _ ha, s _ _ hb⟩
theorem NoM.same {K : PySem.W.Frag} {H H' : Hp} {v : V} (s : Same H H') (h : NoM K H v) : NoM K H' v := by
  obtain ⟨⟨t, tv⟩, un⟩ := h
  refine ⟨⟨t, tv.same s⟩, fun a xs e ha' => ?_⟩
  subst e
  cases tv with
  | @lst _ ys e =>
    have z := s _ _ e
    rw [ha'] at z
    injection z with z
    injection z with z
    subst z
    refine ⟨fun l2 => ?_, (un a _ rfl e).2⟩
    obtain ⟨b, zs, g1, g2⟩ := (un a _ rfl e).1 l2
    exact ⟨b, zs, g1, s _ _ g2⟩
  | tup e => have z := s _ _ e; rw [ha'] at z; cases z
  | dK e => have z := s _ _ e; rw [ha'] at z; cases z
  | dT e => have z := s _ _ e; rw [ha'] at z; cases z
  | ins e c => have z := s _ _ e; rw [ha'] at z; cases z
theorem Res0.same {K : PySem.W.Frag} {C : Addr} {H H' : Hp} {x y : V} (s : Same H H') (h : Res0 K C H x y) : Res0 K C H' x y := by
  rcases h with ⟨m, ts, a, h1, h2, h3, h4, h5⟩ | ⟨h1, t, tv, h2⟩
  · exact .inl ⟨m, ts, a, h1.same s, h2, h3, h4.same s, h5⟩
  · exact .inr ⟨h1.same s, t, tv.same s, h2⟩
theorem Res.same {K : PySem.W.Frag} {C : Addr} {H H' : Hp} {x y : V} (s : Same H H') (h : Res K C H x y) : Res K C H' x y := by
  rcases h with ⟨a, xs, b, ys, e1, e2, e3, e4, e5⟩ | ⟨h, ⟨t, tv, h1⟩, u, uv, h2⟩
  · exact .inl ⟨a, xs, b, ys, e1, s _ _ e2, e3, s _ _ e4, Paired.mapP e5 fun _ _ z => z.same s⟩
  · exact .inr ⟨h.same s, ⟨t, tv.same s, h1⟩, u, uv.same s, h2⟩
theorem Res.r0 {K : PySem.W.Frag} {C : Addr} {H : Hp} {x y : V} (h : Res K C H x y) : Res0 K C H x y := by
  rcases h with ⟨a, xs, b, ys, rfl, e2, rfl, e4, e5⟩ | ⟨h, _⟩
  · exact .inr ⟨⟨⟨_, .tup e2⟩, fun a' xs' e h => by cases e; rw [e2] at h; cases h⟩, _, .tup e4, fun D z => by cases z⟩
  · exact h
theorem Pk.nom {K : PySem.W.Frag} {d : Addr} {H : Hp} {n : Nat} {v : V} (h : Pk d H n v) : (∃ m, Mark H v m ∧ WF m) ∨ NoM K H v := by
  cases n with
  | zero => exact h.elim
  | succ n =>
    rcases h with h | ⟨m, h, w⟩ | ⟨a, xs, rfl, ha, _, h⟩ | ⟨a, xs, rfl, ha, u, _, h⟩ | ⟨a, ks, rfl, ha, na⟩
    · obtain ⟨t, tv⟩ := TgV.flat (K := K) (H := H) h
      exact .inr ⟨⟨t, tv⟩, fun a xs e _ => by rw [e] at h; cases h⟩
    · exact .inl ⟨m, h, w⟩
    · exact .inr ⟨⟨_, .tup ha⟩, fun a' xs' e z => by cases e; rw [ha] at z; cases z⟩
    · exact .inr ⟨⟨_, .lst ha⟩, fun a' xs' e z => by cases e; rw [ha] at z; cases z; exact u⟩
    · exact .inr ⟨⟨_, .dK ha⟩, fun a' xs' e z => by cases e; rw [ha] at z; cases z⟩
theorem Mark.inj {H : Hp} {v : V} {m n : Pol} (h : Mark H v m) (g : Mark H v n) : m = n := by
  obtain ⟨a, b, rfl, h1, h2⟩ := h
  obtain ⟨a', b', e, g1, g2⟩ := g
  cases e
  rw [h1] at g1
  cases g1
  have h2' : H b = some (HO.dT (kvI m)) := h2
  have g2' : H b = some (HO.dT (kvI n)) := g2
  rw [h2'] at g2'
  have e : kvI m = kvI n := by injection g2' with z; injection z
  refine map_inj (f := fun p : List Int × Int => (DX.ik p.1, V.int p.2)) (fun p q e => ?_) e
  injection e with e1 e2
  injection e2 with e2
  exact Prod.ext (ik_inj e1) e2
theorem Mark.no {K : PySem.W.Frag} {H : Hp} {v : V} {m : Pol} (h : Mark H v m) (g : NoM K H v) : False := by
  obtain ⟨a, b, rfl, h1, h2⟩ := h
  obtain ⟨c, ys, e, _⟩ := (g.2 a _ rfl h1).1 rfl
  cases e
theorem Res0.mark {K : PySem.W.Frag} {C : Addr} {H : Hp} {x y : V} {m : Pol} (h : Res0 K C H x y) (g : Mark H x m) : ∃ ts a, y = .ref a ∧ PolyAt C H a ts ∧ Srt ts m := by
  rcases h with ⟨m', ts, a, h1, h2, h3, h4, h5⟩ | ⟨h1, _⟩
  · rw [g.inj h1]
    exact ⟨ts, a, h3, h4, h5⟩
  · exact (g.no h1).elim
theorem Res0.none_ {K : PySem.W.Frag} {C : Addr} {H : Hp} {x y : V} (h : Res0 K C H x y) (g : NoM K H x) : ∃ t, TgV K H y t ∧ ∀ D, t ≠ .ins D := by
  rcases h with ⟨m', ts, a, h1, h2, h3, h4, h5⟩ | ⟨_, h⟩
  · exact (h1.no g).elim
  · exact h
/-- x in the heap before, y in the heap behind -/
def R2 (K : PySem.W.Frag) (C : Addr) (H0 H : Hp) (x y : V) : Prop := (∃ m ts a, Mark H0 x m ∧ WF m ∧ y = .ref a ∧ PolyAt C H a ts ∧ Srt ts m) ∨ (NoM K H0 x ∧ ∃ t, TgV K H y t ∧ ∀ D, t ≠ .ins D)
theorem R2.res {K : PySem.W.Frag} {C : Addr} {H0 H : Hp} {x y : V} (s : Same H0 H) (h : R2 K C H0 H x y) : Res0 K C H x y := by
  rcases h with ⟨m, ts, a, h1, h⟩ | ⟨h1, h⟩
  · exact .inl ⟨m, ts, a, h1.same s, h⟩
  · exact .inr ⟨h1.same s, h⟩
theorem R2.same {K : PySem.W.Frag} {C : Addr} {H0 H H' : Hp} {x y : V} (s : Same H H') (h : R2 K C H0 H x y) : R2 K C H0 H' x y := by
  rcases h with ⟨m, ts, a, h1, h2, h3, h4, h5⟩ | ⟨h1, t, tv, h2⟩
  · exact .inl ⟨m, ts, a, h1, h2, h3, h4.same s, h5⟩
  · exact .inr ⟨h1, t, tv.same s, h2⟩
theorem R2.of {K : PySem.W.Frag} {C d : Addr} {H0 H : Hp} {n : Nat} {x y : V} (p : Pk d H0 n x) (s : Same H0 H) (h : Res0 K C H x y) : R2 K C H0 H x y := by
  rcases p.nom (K := K) with ⟨m, g, w⟩ | g
  · obtain ⟨ts, a, h1, h2, h3⟩ := h.mark (g.same s)
    exact .inl ⟨m, ts, a, g, w, h1, h2, h3⟩
  · exact .inr ⟨g, h.none_ (g.same s)⟩
theorem R2.put {K : PySem.W.Frag} {C D : Addr} {H0 H : Hp} {x y : V} {ys zs : List V} (hD : H D = some (.lst ys)) (h : R2 K C H0 H x y) : R2 K C H0 (upd H D (.lst zs)) x y := by
  have ne : ∀ {b : Addr} {o : HO}, H b = some o → (∀ l, o ≠ .lst l) → upd H D (.lst zs) b = some o := fun {b o} e n => by
    rw [upd_ne (fun g => by rw [g, hD] at e; exact n ys (Option.some.inj e).symm)]
    exact e
  rcases h with ⟨m, ts, a, h1, h2, h3, ⟨dx, t, p1, rs, p2, p3⟩, h5⟩ | ⟨h1, t, tv, h2⟩
  · exact .inl ⟨m, ts, a, h1, h2, h3, ⟨dx, t, ne p1 (fun _ z => by cases z), rs, ne p2 (fun _ z => by cases z), Paired.mapP p3 fun r p ⟨q, e1, e2⟩ => ⟨q, ne e1 (fun _ z => by cases z), ne e2 (fun _ z => by cases z)⟩⟩, h5⟩
  · refine .inr ⟨h1, ?_⟩
    cases tv with
    | non => exact ⟨_, .non, h2⟩
    | bl b => exact ⟨_, .bl b, h2⟩
    | int i => exact ⟨_, .int i, h2⟩
    | str z => exact ⟨_, .str z, h2⟩
    | @lst a xs e =>
      by_cases g : a = D
      · subst g; exact ⟨_, .lst upd_same, h2⟩
      · exact ⟨_, .lst (by rw [upd_ne g]; exact e), h2⟩
    | tup e => exact ⟨_, .tup (ne e (fun _ z => by cases z)), h2⟩
    | dK e => exact ⟨_, .dK (ne e (fun _ z => by cases z)), h2⟩
    | dT e => exact ⟨_, .dT (ne e (fun _ z => by cases z)), h2⟩
    | ins e c => exact ⟨_, .ins (ne e (fun _ z => by cases z)) c, h2⟩
def Dks (H : Hp) (d : Addr) : Prop := ∀ o, H d = some o → ∃ ks, o = .dK ks
def spPacked (K : PySem.W.Frag) (C : Addr) (n : Nat) : Sp := fun vs H Q _ => ∃ (d : Addr) (v : V), vs = [v] ∧ Pk d H n v ∧ (∃ kd, H d = some (.dK kd)) ∧ ∀ v' H', Same H H' → Res K C H' v v' → Q v' H'
section
variable {P : Program} {w : World} {K : PySem.W.Frag} {mg : Str → Option Value} {base : Heap}
theorem sc_law_packed : FnScope ["_law_thing", "_law_powers", "_law_item"] ["_law_thing"] (defScope s_law_packed) := ⟨rfl, rfl, rfl, by decide +kernel, rfl, by decide +kernel, by decide +kernel⟩
theorem cal_law_packed {f : Addr} {fd : FuncData} {n : Nat} {C fI fE : Addr} {fdI : FuncData} (F : FnP K "_law_packed" "_law_packed" s_law_packed f fd) (g : mg "_law_packed" = some (.ref f)) (T : Txt0 mg) (C_law_is_marked : Cal P w K mg base "_law_is_marked" 1 ["_law_thing"] (spIsMarked K)) (C_law_packed : Cal P w K mg base "_law_packed" (n + 7) ["_law_thing"] (spPacked K C n)) (PT : PolF K mg C fI fE) (G_Poly : FnOk P w K mg base CX0 5 fI fdI ["self", "terms"] (spPolyI C)) (b_Poly : Binds K fdI ["self", "terms"] []) : Cal P w K mg base "_law_packed" (n + 8) ["_law_thing"] (spPacked K C (n + 1)) := by
  obtain ⟨f_law_is_marked, fd_law_is_marked, g_law_is_marked, G_law_is_marked, b_law_is_marked, k_law_is_marked⟩ := C_law_is_marked
  obtain ⟨f_law_packed, fd_law_packed, g_law_packed, G_law_packed, b_law_packed, k_law_packed⟩ := C_law_packed
  refine ⟨f, fd, g, ?_, F.bindsN (fun _ _ _ _ _ _ us hl => match us, hl with | [_], _ => rfl), F.kp⟩
  refine F.ok sc_law_packed (fun vs H Q E h => ?_) (fun cdv A outer s H vs Q E hr h => ?_)
  · obtain ⟨d, v, rfl, hv, hd, k⟩ := h
    rfl
  · obtain ⟨d, v, rfl, hv, hd, k⟩ := h
    obtain ⟨hrn, hr⟩ : Room (n + 7) _ ∧ Room 7 _ := ⟨hr.mono (by omega), hr.mono (by omega)⟩
    have hu := hu_of hr
    refine ⟨_, PSs.nox (pss_cons (ps_if (pt_val (pe_call G_law_is_marked (hr.mono (by decide)) (by rfl) g_law_is_marked k_law_is_marked b_law_is_marked .nil pass0 (pa_cons (pv 0) pa_nil)))
       (pss_one (ps_ret (pe_make PT.mkr G_Poly (hr.mono (by decide)) (by rfl) PT.g b_Poly .nil pass0 (pa_cons (pe_tupleOf (by rfl) T.tuple (pe_lc (own := [("_law_powers", 1)]) (tt := tYes) (te := tTup (tCons (tVar 1) (tCons (tDGet (tOp (rIxL K) (tVar 0) (tC (.int 1))) (tVar 1)) tNil))) (by rfl) sc_law_packed.nd (pi_list (pe_callB (DX.cr_sortDT rfl (d := 4) (B := 64) (by decide)) (by rfl) T.sorted (by decide +kernel) (pa_cons (pe_ix ix_list (pv 0) pe_int (fun _ _ => rfl)) pa_nil))) (blkOk_by (own := [("_law_powers", 1)]) (N := ["_law_thing", "_law_powers", "_law_item"]) (sc := (defScope s_law_packed)) (by decide +kernel)) (fun _ _ _ _ _ => (pg_name (i := 1) sc_law_packed.nd rfl (Or.inl rfl))) (fun _ _ _ _ _ => pts_nil) (fun _ _ _ _ _ => (pe_tup (pa_cons (pv 1) (pa_cons (pe_dget hu (pe_ix ix_list (pv 0) pe_int (fun _ _ => rfl)) (pv 1) (fun _ _ => rfl)) pa_nil)))))) pa_nil))))
       pss_nil)
      (pss_cons (ps_if (pt_val (pe_callB call_isi (by rfl) T.isi (by decide +kernel) (pa_cons (pv 0) (pa_cons (pe_bltn (v := .ty "tuple") (u := .type "tuple") (by rfl) T.tuple (by decide +kernel) rfl) pa_nil))))
       (pss_one (ps_ret (pe_tupleOf (by rfl) T.tuple (pe_lc (own := [("_law_item", 2)]) (tt := tYes) (by rfl) sc_law_packed.nd (pi_tup (pv 0)) (blkOk_by (own := [("_law_item", 2)]) (N := ["_law_thing", "_law_powers", "_law_item"]) (sc := (defScope s_law_packed)) (by decide +kernel)) (fun _ _ _ _ _ => (pg_name (i := 2) sc_law_packed.nd rfl (Or.inl rfl))) (fun _ _ _ _ _ => pts_nil) (fun _ _ _ _ _ => (pe_call G_law_packed hrn (by rfl) g_law_packed k_law_packed b_law_packed .nil pass0 (pa_cons (pv 2) pa_nil)))))))
       pss_nil)
      (pss_one (ps_ret (pe_ifExp (pt_val (pe_callB call_isi (by rfl) T.isi (by decide +kernel) (pa_cons (pv 0) (pa_cons (pe_bltn (v := .ty "list") (u := .type "list") (by rfl) T.list (by decide +kernel) rfl) pa_nil)))) (pe_lc (own := [("_law_item", 2)]) (tt := tYes) (by rfl) sc_law_packed.nd (pi_list (pv 0)) (blkOk_by (own := [("_law_item", 2)]) (N := ["_law_thing", "_law_powers", "_law_item"]) (sc := (defScope s_law_packed)) (by decide +kernel)) (fun _ _ _ _ _ => (pg_name (i := 2) sc_law_packed.nd rfl (Or.inl rfl))) (fun _ _ _ _ _ => pts_nil) (fun _ _ _ _ _ => (pe_call G_law_packed hrn (by rfl) g_law_packed k_law_packed b_law_packed .nil pass0 (pa_cons (pv 2) pa_nil)))) (pv 0)))))), ?_⟩
    try dsimp only [cxOf, Cx.nox, Cx.wish]
    obtain ⟨kd, hkd⟩ := hd
    have dks : ∀ o, H d = some o → ∃ ks, o = .dK ks := fun o e => by rw [hkd] at e; exact ⟨kd, (Option.some.inj e).symm⟩
    have items : ∀ (xs : List V) (J : It) (G : Hp → Prop) (wk : Walk J xs.length G (YAt xs)) (R : VK), (∀ H', Same H H' → G H') → xs.length ≤ 1000 → (∀ x ∈ xs, Pk d H n x) → (∀ D H' ys, H D = none → H' D = some (.lst ys) → Same H H' → Paired (Res0 K C H') xs ys → R (.ref D) H') →
        My.LJ J (gName 2) tYes (tCall (spPacked K C n) [] E0 (tCons (tVar 2) tNil)) [2] (L2.start ["_law_thing", "_law_powers", "_law_item"] [v]) R H := by
      intro xs J G wk R hG hl hp hR
      refine My.lcM2 wk Same hl (fun D hD => same_new hD) fun D nD => ⟨fun j y H' => ∃ x, xs[j]? = some x ∧ R2 K C H H' x y, fun j y H' ys zs e ⟨x, h1, h2⟩ => ⟨x, h1, h2.put e⟩, fun H' o s => same_at s nD, fun H2 _ s _ => hG _ s, ?_, ?_⟩
      · rintro i x H2 H3 ys N hi r e l p' ⟨rfl, ex⟩ hN
        walk_at "f"
        refine ⟨rfl, ?_⟩
        walk_at "f"
        have hx := hp x (List.mem_iff_getElem?.mpr ⟨i, ex⟩)
        refine ⟨d, x, rfl, hx.same dks r, ⟨kd, r _ _ hkd⟩, fun v' H4 s4 res => ?_⟩
        refine hN _ _ (r.trans s4) (s4 _ _ e) (fun j y hy => ?_) ⟨x, ex, R2.of hx (r.trans s4) res.r0⟩
        obtain ⟨x', h1, h2⟩ := p' j y hy
        exact ⟨x', h1, h2.same s4⟩
      · intro H2 ys hD hl2 s2 hy
        refine hR D H2 ys nD hD s2 (My.pof hl2.symm fun i x y hx hy' => ?_)
        obtain ⟨x', h1, h2⟩ := hy i y hy'
        rw [hx] at h1
        cases h1
        exact h2.res s2
    rcases hv with hv | ⟨m, hm, wf⟩ | ⟨a, xs, rfl, ha, ll, hp⟩ | ⟨a, xs, rfl, ha, un, ll, hp⟩ | ⟨a, ks, rfl, ha, na⟩
    · have nt : ∃ t, TgV K H v t ∧ t.is "tuple" = false ∧ t.is "list" = false ∧ ∀ D, t ≠ .ins D := by
        cases v with
        | non => exact ⟨_, .non, rfl, rfl, fun D z => by cases z⟩
        | bl b => exact ⟨_, .bl b, rfl, rfl, fun D z => by cases z⟩
        | int i => exact ⟨_, .int i, rfl, rfl, fun D z => by cases z⟩
        | str z => exact ⟨_, .str z, rfl, rfl, fun D z => by cases z⟩
        | _ => cases hv
      obtain ⟨t, tv, t1, t2, t3⟩ := nt
      have nm : NoM K H v := ⟨⟨t, tv⟩, fun a xs e _ => by rw [e] at hv; cases hv⟩
      walk_at "f"
      refine ⟨_, rfl, .inr ⟨nm.1, nm.2, ?_⟩⟩
      walk_at "f"
      refine tv.isT mem6 ?_
      rw [t1]
      walk_at "f"
      refine tv.isT mem6 ?_
      rw [t2]
      walk_at "f"
      exact k v H (.refl _) (.inr ⟨.inr ⟨nm, t, tv, t3⟩, ⟨t, tv, t1⟩, t, tv, t1⟩)
    · have mk := hm
      obtain ⟨a, b, rfl, ha, hb⟩ := hm
      walk_at "f"
      refine ⟨_, rfl, .inl ⟨⟨m, mk⟩, ?_⟩⟩
      walk_at "f"
      refine My.ixL (SqL.of ha) (v := .ref b) (by rfl) ?_
      walk_at "f"
      have few := wf.few
      refine ⟨b, kvI m, keysP m, rfl, .inl hb, ?_, by unfold keysP; rw [List.length_map]; omega, fun kk hk => ?_, fun bs ks' p pe pw pr np => ?_⟩
      · unfold kvI keysP
        rw [List.map_map, List.map_map]; rfl
      · obtain ⟨q, hq, rfl⟩ := List.mem_map.mp hk
        exact ⟨wf.len q hq, fun x hx => by have := wf.bd q hq x hx; omega⟩
      have sp := same_new (o := HO.lst (bs.map V.ref)) np
      have hp := upd_same (H := H) (a := p) (o := HO.lst (bs.map V.ref))
      have hbk := My.plen pr
      have hkm : ks'.length = m.length := by rw [pe.length_eq]; unfold keysP; rw [List.length_map]
      generalize upd H p _ = H1 at sp hp ⊢
      refine ⟨p, rfl, ⟨_, SqL.of hp⟩, My.lcM2 (walk_list (xs := bs.map V.ref)) Same (by rw [List.length_map]; omega) (fun D hD => same_new hD) fun D nD => ⟨fun j y H' => ∃ t, y = .ref t ∧ ∃ kk q, ks'[j]? = some kk ∧ H' t = some (.tup [.ref q, .int ((getP m kk).getD 0)]) ∧ KAt H q kk, fun j y H' ys zs e ⟨t, h1, kk, q, h2, h3, h4⟩ => ⟨t, h1, kk, q, h2, by rw [upd_ne (fun g => by rw [g, e] at h3; cases h3)]; exact h3, h4⟩, fun H' o s => same_at s nD, fun H2 _ s _ => SqL.of (s _ _ hp), ?_, ?_⟩⟩
      · rintro i x H2 H3 ys N hi r e l p' ⟨rfl, ex⟩ hN
        rw [List.getElem?_map] at ex
        cases eb : bs[i]? with
        | none => rw [eb] at ex; cases ex
        | some q =>
          rw [eb] at ex
          cases Option.some.inj ex
          obtain ⟨kk, ek, hq⟩ := My.pget pr eb
          have s2 := sp.trans r
          have hkin : kk ∈ keysP m := pe.mem_iff.mp (List.mem_iff_getElem?.mpr ⟨i, ek⟩)
          obtain ⟨pp, hpp, rfl⟩ := List.mem_map.mp hkin
          obtain ⟨jj, hjj⟩ := List.mem_iff_getElem?.mp hpp
          have eg : getP m pp.1 = some pp.2 := getP_at wf.nd (c := pp.2) (l := pp.1) hjj
          walk_at "f"
          refine ⟨rfl, ?_⟩
          walk_at "f"
          refine My.ixL (SqL.of (s2 _ _ ha)) (v := .ref b) (by rfl) ?_
          walk_at "f"
          refine ⟨b, .int pp.2, rfl, .inr ⟨kvI m, ik pp.1, q, .inl (s2 _ _ hb), rfl, by rw [ik_kV]; exact s2 _ _ hq, by rw [valV_kvI, eg]; rfl⟩, ?_⟩
          walk_at "f"
          refine My.new (My.sz (by show 2 ≤ 1000; decide)) fun t nt => ?_
          have st := same_new (o := HO.tup [V.ref q, V.int pp.2]) nt
          refine hN _ _ (r.trans st) (st _ _ e) (fun j y hy => ?_) ⟨t, rfl, pp.1, q, ek, by rw [upd_same, eg]; rfl, hq⟩
          obtain ⟨t', h1, kk', q', h2, h3, h4⟩ := p' j y hy
          exact ⟨t', h1, kk', q', h2, st _ _ h3, h4⟩
      · intro H2 ys hD hl2 s2 hy
        obtain ⟨rs, rfl, hrs⟩ := refs_of hy
        rw [List.length_map, List.length_map] at hl2
        refine My.tupL (SqL.of hD) fun t nt => ?_
        have st := same_new (o := HO.tup (rs.map V.ref)) nt
        have s3 := (sp.trans s2).trans st
        have pairs : Paired (fun r (p : List Int × Int) => ∃ q, upd H2 t (.tup (rs.map V.ref)) r = some (.tup [.ref q, .int p.2]) ∧ KAt (upd H2 t (.tup (rs.map V.ref))) q p.1) rs (tsOf m ks') := by
          refine My.pof (by unfold tsOf; rw [List.length_map]; omega) fun i r p hr hp' => ?_
          obtain ⟨kk, q, h2, h3, h4⟩ := hrs i r hr
          unfold tsOf at hp'
          rw [List.getElem?_map, h2] at hp'
          cases hp'
          exact ⟨q, st _ _ h3, s3 _ _ h4⟩
        have ot := upd_same (H := H2) (a := t) (o := HO.tup (rs.map V.ref))
        generalize upd H2 t _ = H3 at st s3 pairs ot ⊢
        walk_at "f"
        intro x dx nx ndx nxd
        have srt := srt_of wf pe pw
        have sm : Same H3 (upd (upd H3 dx (HO.own x)) x (HO.ins C dx [])) := fun b o e => by
          rw [upd_ne (ne_of_none e nx), upd_ne (ne_of_none e ndx)]; exact e
        have tat : TermsAt H3 t (tsOf m ks') := ⟨rs, ot, pairs⟩
        refine ⟨x, dx, t, tsOf m ks', rfl, upd_same, tat.same sm, srt.wft wf, fun H4 s4 => ⟨rfl, ?_⟩⟩
        have s5 : Same H3 (upd H4 x (HO.ins C dx [("terms", V.ref t)])) := made_same nx ndx s4
        have s6 := s3.trans s5
        refine k _ _ s6 (.inr ⟨.inl ⟨m, tsOf m ks', x, mk.same s6, wf, rfl, ⟨dx, t, upd_same, tat.same s5⟩, srt⟩, ⟨_, .lst (s6 _ _ ha), rfl⟩, _, .ins upd_same PT.ins, rfl⟩)
    · have nm : NoM K H (.ref a) := ⟨⟨_, .tup ha⟩, fun a' xs' e z => by cases e; rw [ha] at z; cases z⟩
      walk_at "f"
      refine ⟨_, rfl, .inr ⟨nm.1, nm.2, ?_⟩⟩
      walk_at "f"
      refine (TgV.tup ha).isT mem6 ?_
      walk_at "f"
      refine My.lcT rfl (SqT.of ha) (items xs _ _ walk_tup _ (fun H' s => My.same_seqT s ha) ll hp fun D H' ys nD hD s2 pr => ?_)
      refine My.tupL (SqL.of hD) fun t nt => ?_
      have st := same_new (o := HO.tup ys) nt
      exact k _ _ (s2.trans st) (.inl ⟨a, xs, t, ys, rfl, st _ _ (s2 _ _ ha), rfl, upd_same, Paired.mapP pr fun _ _ z => z.same st⟩)
    · have nm : NoM K H (.ref a) := ⟨⟨_, .lst ha⟩, fun a' xs' e z => by cases e; rw [ha] at z; cases z; exact un⟩
      walk_at "f"
      refine ⟨_, rfl, .inr ⟨nm.1, nm.2, ?_⟩⟩
      walk_at "f"
      refine (TgV.lst ha).isT mem6 ?_
      walk_at "f"
      refine (TgV.lst ha).isT mem6 ?_
      walk_at "f"
      refine ⟨a, rfl, ⟨_, SqL.of ha⟩, items xs _ _ walk_list _ (fun H' s => SqL.of (s _ _ ha)) ll hp fun D H' ys nD hD s2 pr => ?_⟩
      exact k _ _ s2 (.inr ⟨.inr ⟨nm.same s2, _, .lst hD, fun D z => by cases z⟩, ⟨_, .lst (s2 _ _ ha), rfl⟩, _, .lst hD, rfl⟩)
    · have nm : NoM K H (.ref a) := ⟨⟨_, .dK ha⟩, fun a' xs' e z => by cases e; rw [ha] at z; cases z⟩
      walk_at "f"
      refine ⟨_, rfl, .inr ⟨nm.1, nm.2, ?_⟩⟩
      walk_at "f"
      refine (TgV.dK ha).isT mem6 ?_
      walk_at "f"
      refine (TgV.dK ha).isT mem6 ?_
      walk_at "f"
      exact k _ H (.refl _) (.inr ⟨.inr ⟨nm, _, .dK ha, fun D z => by cases z⟩, ⟨_, .dK ha, rfl⟩, _, .dK ha, rfl⟩)
theorem cal_packed {f : Addr} {fd : FuncData} {C fI fE : Addr} {fdI : FuncData} (F : FnP K "_law_packed" "_law_packed" s_law_packed f fd) (g : mg "_law_packed" = some (.ref f)) (T : Txt0 mg) (C_law_is_marked : Cal P w K mg base "_law_is_marked" 1 ["_law_thing"] (spIsMarked K)) (PT : PolF K mg C fI fE) (G_Poly : FnOk P w K mg base CX0 5 fI fdI ["self", "terms"] (spPolyI C)) (b_Poly : Binds K fdI ["self", "terms"] []) : ∀ n, Cal P w K mg base "_law_packed" (n + 7) ["_law_thing"] (spPacked K C n)
  | 0 => ⟨f, fd, g, F.ok sc_law_packed (fun vs H Q E h => by obtain ⟨_, _, _, h, _⟩ := h; exact h.elim) (fun cdv A outer s H vs Q E hr h => by obtain ⟨_, _, _, h, _⟩ := h; exact h.elim), F.bindsN (fun _ _ _ _ _ _ us hl => match us, hl with | [_], _ => rfl), F.kp⟩
  | n + 1 => cal_law_packed F g T C_law_is_marked (cal_packed F g T C_law_is_marked PT G_Poly b_Poly n) PT G_Poly b_Poly
end
end K09

set_option Elab.async false
set_option linter.all false
set_option maxRecDepth 100000
set_option maxHeartbeats 4000000
namespace K09
open PySem PySem.Spec PyProof.Rows L2 XV DX XF He
theorem WFt.nd {ts : Pol} (w : WFt ts) : (keysP ts).Nodup := by
  unfold keysP
  rw [List.nodup_iff_pairwise_ne, List.pairwise_map]
  refine w.asc.imp fun {p q} h e => ?_
  rw [e] at h
  omega
def spUnp0 (K : PySem.W.Frag) (C : Addr) : Sp := fun vs H Q _ => ∃ (a : Addr) (ts : Pol), vs = [.ref a] ∧ PolyAt C H a ts ∧ WFt ts ∧ ∀ l H', H l = none → Same H H' → Mark H' (.ref l) ts → Q (.ref l) H'
/-- the tuple of marks -/
def MarksT (H : Hp) (e : Addr) (ps : List Pol) : Prop := ∃ xs, H e = some (.tup xs) ∧ Paired (fun x ts => Mark H x ts) xs ps
def spUnp1 (K : PySem.W.Frag) (C : Addr) : Sp := fun vs H Q _ => ∃ (e : Addr) (ps : List Pol), vs = [.ref e] ∧ PolysAt C H e ps ∧ ps.length ≤ 1000 ∧ (∀ ts ∈ ps, WFt ts) ∧ ∀ l H', Same H H' → MarksT H' l ps → Q (.ref l) H'
section
variable {P : Program} {w : World} {K : PySem.W.Frag} {mg : Str → Option Value} {base : Heap}
theorem sc_law_unpacked : FnScope ["_law_thing", "_law_item"] ["_law_thing"] (defScope s_law_unpacked) := ⟨rfl, rfl, rfl, by decide +kernel, rfl, by decide +kernel, by decide +kernel⟩
theorem cal_law_unpacked {f : Addr} {fd : FuncData} {C fI fE : Addr} (F : FnP K "_law_unpacked" "_law_unpacked" s_law_unpacked f fd) (g : mg "_law_unpacked" = some (.ref f)) (T : Txt0 mg) (C_law_mark : Cal P w K mg base "_law_mark" 1 ["_law_parts"] spMark) (PT : PolF K mg C fI fE) : Cal P w K mg base "_law_unpacked" 2 ["_law_thing"] (spUnp0 K C) := by
  obtain ⟨f_law_mark, fd_law_mark, g_law_mark, G_law_mark, b_law_mark, k_law_mark⟩ := C_law_mark
  refine ⟨f, fd, g, ?_, F.bindsN (fun _ _ _ _ _ _ us hl => match us, hl with | [_], _ => rfl), F.kp⟩
  refine F.ok sc_law_unpacked (fun vs H Q E h => ?_) (fun cdv A outer s H vs Q E hr h => ?_)
  · obtain ⟨a, ts, rfl, ⟨dx, t, ha, ht⟩, wf, k⟩ := h
    rfl
  · obtain ⟨a, ts, rfl, ⟨dx, t, ha, ht⟩, wf, k⟩ := h
    have gPoly := PT.g
    refine ⟨_, PSs.nox (pss_cons (ps_if (pt_val (pe_callB call_isi (by rfl) T.isi (by decide +kernel) (pa_cons (pv 0) (pa_cons (pe_glob (v := .ref C) (by rfl) gPoly rfl) pa_nil))))
       (pss_one (ps_ret (pe_call G_law_mark (hr.mono (by decide)) (by rfl) g_law_mark k_law_mark b_law_mark .nil pass0 (pa_cons (pe_callTy (DX.call_dictPT rfl (Nat.lt_of_le_of_lt (Nat.add_le_add_left (by decide) _) hr.units)) (by rfl) T.dict (by decide +kernel) (pa_cons (pe_callTy My.c_listOf (by rfl) T.list boot_list (pa_cons (pe_fld (pv 0) rfl) pa_nil)) pa_nil)) pa_nil))))
       pss_nil)
      (pss_cons ps_never
      (pss_one ps_never))), ?_⟩
    try dsimp only [cxOf, Cx.nox, Cx.wish]
    obtain ⟨rs, ht1, ht2⟩ := id ht
    walk_at "f"
    refine (TgV.ins ha PT.ins).isOwn PT.cn (fun D e => by injection e with e; exact .inl e.symm) ?_
    rw [show (Tg.ins C).isC C = true from decide_eq_true rfl]
    walk_at "f"
    have lk : ∀ v : V, ([("terms", v)] : List (Str × V)).lookup ("terms" : Str) = some v := fun v => by simp [List.lookup]
    refine My.fld ha PT.ins.cl PT.na (lk _) rfl ?_
    walk_at "f"
    refine ⟨t, _, rfl, .inr (SqT.of ht1), fun l nl => ?_⟩
    have sl := same_new (o := HO.lst (rs.map V.ref)) nl
    have hl := upd_same (H := H) (a := l) (o := HO.lst (rs.map V.ref))
    generalize upd H l _ = H1 at sl hl ⊢
    have ents : ∀ {rs : List Addr} {ts : Pol}, Paired (fun r (p : List Int × Int) => ∃ q, H r = some (.tup [.ref q, .int p.2]) ∧ KAt H q p.1) rs ts → ∃ es : List Ent, entK es = kvI ts ∧ Paired (fun p (e : Ent) => SqT K H1 p [.ref e.2.1, e.2.2] ∧ KeyAt H1 e) rs es := by
      intro rs ts pr
      induction pr with
      | nil => exact ⟨[], rfl, .nil⟩
      | @cons r p _ _ h _ ih =>
        obtain ⟨q, h1, h2⟩ := h
        obtain ⟨es, e1, e2⟩ := ih
        refine ⟨(ik p.1, q, .int p.2) :: es, ?_, .cons ⟨SqT.of (sl _ _ h1), ?_⟩ e2⟩
        · show (_ :: entK es) = _
          rw [e1]; rfl
        · show H1 q = some (.tup ((ik p.1).map kV))
          rw [ik_kV]
          exact sl _ _ h2
    obtain ⟨es, e1, e2⟩ := ents ht2
    walk_at "f"
    refine ⟨l, rs, es, rfl, SqL.of hl, e2, fun p np => ?_⟩
    rw [e1, mT_nil wf.nd]
    have sp := same_new (o := HO.dT (kvI ts)) np
    have hp := upd_same (H := H1) (a := p) (o := HO.dT (kvI ts))
    generalize upd H1 p _ = H2 at sp hp ⊢
    walk_at "f"
    refine ⟨.ref p, rfl, fun q nq => ?_⟩
    have sq := same_new (o := HO.lst [.str "P", .ref p]) nq
    exact k q _ ((sl.trans sp).free nq) ((sl.trans sp).trans sq) ⟨q, p, rfl, upd_same, sq _ _ hp⟩
theorem cal_law_unpacked1 {f : Addr} {fd : FuncData} {C fI fE : Addr} (F : FnP K "_law_unpacked" "_law_unpacked" s_law_unpacked f fd) (g : mg "_law_unpacked" = some (.ref f)) (T : Txt0 mg) (C_law_unpacked : Cal P w K mg base "_law_unpacked" 2 ["_law_thing"] (spUnp0 K C)) (PT : PolF K mg C fI fE) : Cal P w K mg base "_law_unpacked" 3 ["_law_thing"] (spUnp1 K C) := by
  obtain ⟨f_law_unpacked, fd_law_unpacked, g_law_unpacked, G_law_unpacked, b_law_unpacked, k_law_unpacked⟩ := C_law_unpacked
  refine ⟨f, fd, g, ?_, F.bindsN (fun _ _ _ _ _ _ us hl => match us, hl with | [_], _ => rfl), F.kp⟩
  refine F.ok sc_law_unpacked (fun vs H Q E h => ?_) (fun cdv A outer s H vs Q E hr h => ?_)
  · obtain ⟨e, ps, rfl, ⟨xs, he, hx⟩, hl, wf, k⟩ := h
    rfl
  · obtain ⟨e, ps, rfl, ⟨xs, he, hx⟩, hl, wf, k⟩ := h
    have gPoly := PT.g
    refine ⟨_, PSs.nox (pss_cons (ps_if (pt_val (pe_callB call_isi (by rfl) T.isi (by decide +kernel) (pa_cons (pv 0) (pa_cons (pe_glob (v := .ref C) (by rfl) gPoly rfl) pa_nil))))
       (pss_one ps_never)
       pss_nil)
      (pss_cons (ps_if (pt_val (pe_callB call_isi (by rfl) T.isi (by decide +kernel) (pa_cons (pv 0) (pa_cons (pe_bltn (v := .ty "tuple") (u := .type "tuple") (by rfl) T.tuple (by decide +kernel) rfl) pa_nil))))
       (pss_one (ps_ret (pe_tupleOf (by rfl) T.tuple (pe_lc (own := [("_law_item", 1)]) (tt := tYes) (by rfl) sc_law_unpacked.nd (pi_tup (pv 0)) (blkOk_by (own := [("_law_item", 1)]) (N := ["_law_thing", "_law_item"]) (sc := (defScope s_law_unpacked)) (by decide +kernel)) (fun _ _ _ _ _ => (pg_name (i := 1) sc_law_unpacked.nd rfl (Or.inl rfl))) (fun _ _ _ _ _ => pts_nil) (fun _ _ _ _ _ => (pe_call G_law_unpacked (hr.mono (by decide)) (by rfl) g_law_unpacked k_law_unpacked b_law_unpacked .nil pass0 (pa_cons (pv 1) pa_nil)))))))
       pss_nil)
      (pss_one ps_never))), ?_⟩
    try dsimp only [cxOf, Cx.nox, Cx.wish]
    walk_at "f"
    refine (TgV.tup he).isOwn PT.cn (fun D z => by cases z) ?_
    rw [show Tg.tup.isC C = false from decide_eq_false (fun z => by cases z)]
    walk_at "f"
    refine (TgV.tup he).isT mem6 ?_
    walk_at "f"
    refine My.lcT rfl (SqT.of he) (My.lcM2 (walk_tup (xs := xs)) Same (by rw [My.plen hx]; exact hl) (fun D hD => same_new hD) fun D nD => ⟨fun j y H' => ∃ ts a b, ps[j]? = some ts ∧ y = .ref a ∧ a ≠ D ∧ H' a = some (.lst [.str "P", .ref b]) ∧ PolD H' b ts, fun j y H' ys zs e ⟨ts, a, b, h1, h2, h3, h4, h5⟩ => ⟨ts, a, b, h1, h2, h3, by rw [upd_ne h3]; exact h4, by
        have h5' : H' b = some (HO.dT (kvI ts)) := h5
        show upd H' D _ b = _
        rw [upd_ne (fun g => by rw [g, e] at h5'; cases h5')]
        exact h5'⟩, fun H' o s => same_at s nD, fun H2 _ s _ => My.same_seqT s he, ?_, ?_⟩)
    · rintro i x H2 H3 ys N hi r e2 l p' ⟨rfl, ex⟩ hN
      obtain ⟨ts, et, a, rfl, pa⟩ := My.pget hx ex
      walk_at "f"
      refine ⟨rfl, ?_⟩
      walk_at "f"
      refine ⟨a, ts, rfl, pa.same r, wf ts (List.mem_iff_getElem?.mpr ⟨i, et⟩), fun l2 H4 n4 s4 mk => ?_⟩
      obtain ⟨a2, b2, e3, g1, g2⟩ := mk
      cases e3
      refine hN _ _ (r.trans s4) (s4 _ _ e2) (fun j y hy => ?_) ⟨ts, _, b2, et, rfl, ?_, g1, g2⟩
      · obtain ⟨ts', a', b', h1, h2, h3, h4, h5⟩ := p' j y hy
        exact ⟨ts', a', b', h1, h2, h3, s4 _ _ h4, s4 _ _ h5⟩
      · rintro rfl
        rw [e2] at n4
        cases n4
    · intro H2 ys hD hl2 s2 hy
      refine My.tupL (SqL.of hD) fun t nt => ?_
      have st := same_new (o := HO.tup ys) nt
      refine k t _ (s2.trans st) ⟨ys, upd_same, My.pof (by rw [hl2]; exact My.plen hx) fun i y ts hy' hts => ?_⟩
      obtain ⟨ts', a, b, h1, h2, h3, h4, h5⟩ := hy i y hy'
      rw [hts] at h1
      cases h1
      exact ⟨a, b, h2, st _ _ h4, st _ _ h5⟩
end
end K09

set_option Elab.async false
set_option linter.all false
set_option maxRecDepth 100000
set_option maxHeartbeats 4000000
namespace K09
open PySem PySem.Spec PyProof.Rows L2 XV DX XF He
/-- an item as the law has it -/
def LItm (K : PySem.W.Frag) (H : Hp) (v : V) : Option Pol → Prop
  | some m => Mark H v m ∧ WF m
  | none => NoM K H v
def LPrt (K : PySem.W.Frag) (H : Hp) (v : V) : Option (List (Option Pol)) → Prop
  | some os => ∃ a xs, v = .ref a ∧ H a = some (.tup xs) ∧ xs.length ≤ 1000 ∧ Paired (LItm K H) xs os
  | none => ∃ t, TgV K H v t ∧ t.is "tuple" = false
theorem LItm.same {K : PySem.W.Frag} {H H' : Hp} {v : V} {o : Option Pol} (s : Same H H') (h : LItm K H v o) : LItm K H' v o := by
  cases o with
  | some m => exact ⟨h.1.same s, h.2⟩
  | none => exact NoM.same s h
theorem LPrt.same {K : PySem.W.Frag} {H H' : Hp} {v : V} {o : Option (List (Option Pol))} (s : Same H H') (h : LPrt K H v o) : LPrt K H' v o := by
  cases o with
  | some os =>
    obtain ⟨a, xs, e, ha, l, p⟩ := h
    exact ⟨a, xs, e, s _ _ ha, l, Paired.mapP p fun _ _ z => z.same s⟩
  | none =>
    obtain ⟨t, tv, n⟩ := h
    exact ⟨t, tv.same s, n⟩
def WrO (H : Hp) (v : V) : Option Wr → Prop
  | none => v = .non
  | some W => WrV H v W
def spWrong (K : PySem.W.Frag) : Sp := fun vs H Q _ => ∃ (vm ve vb : V) (tm : Tg) (re rb : Option (List (Option Pol))), vs = [vm, ve, vb] ∧ TgV K H vm tm ∧ LPrt K H ve re ∧ LPrt K H vb rb ∧ ∀ v H', Same H H' → WrO H' v (sysWr vm re rb) → Q v H'
section
variable {P : Program} {w : World} {K : PySem.W.Frag} {mg : Str → Option Value} {base : Heap}
theorem sc_law_wrong : FnScope ["_law_many", "_law_equations", "_law_barred", "_law_rows", "_law_one", "_law_every", "_law_at"] ["_law_many", "_law_equations", "_law_barred"] (defScope s_law_wrong) := ⟨rfl, rfl, rfl, by decide +kernel, rfl, by decide +kernel, by decide +kernel⟩
theorem cal_law_wrong {f : Addr} {fd : FuncData} (F : FnP K "_law_wrong" "_law_wrong" s_law_wrong f fd) (g : mg "_law_wrong" = some (.ref f)) (T : Txt0 mg) (C_law_is_int : Cal P w K mg base "_law_is_int" 1 ["_law_thing"] (spIsInt K)) (C_law_is_in : Cal P w K mg base "_law_is_in" 2 ["_law_thing", "_law_many"] (spIsIn K)) : Cal P w K mg base "_law_wrong" 3 ["_law_many", "_law_equations", "_law_barred"] (spWrong K) := by
  obtain ⟨f_law_is_int, fd_law_is_int, g_law_is_int, G_law_is_int, b_law_is_int, k_law_is_int⟩ := C_law_is_int
  obtain ⟨f_law_is_in, fd_law_is_in, g_law_is_in, G_law_is_in, b_law_is_in, k_law_is_in⟩ := C_law_is_in
  refine ⟨f, fd, g, ?_, F.bindsN (fun _ _ _ _ _ _ us hl => match us, hl with | [_, _, _], _ => rfl), F.kp⟩
  refine F.ok sc_law_wrong (fun vs H Q E h => ?_) (fun cdv A outer s H vs Q E hr h => ?_)
  · obtain ⟨vm, ve, vb, tm, re, rb, rfl, tvm, hre, hrb, k⟩ := h
    rfl
  · obtain ⟨vm, ve, vb, tm, re, rb, rfl, tvm, hre, hrb, k⟩ := h
    refine ⟨_, PSs.nox (pss_cons (ps_if (PW.pt (pw_or (pt_not (pt_val (pe_call G_law_is_int (hr.mono (by decide)) (by rfl) g_law_is_int k_law_is_int b_law_is_int .nil pass0 (pa_cons (pv 0) pa_nil)))) (pw_or1 (pt_not (pt_chain op_le op_le pe_int (pv 0) pe_int)))))
       (pss_one (ps_ret pe_str))
       pss_nil)
      (pss_cons (ps_for PassesOwn.never rfl (pi_list (pe_lst (pa_cons (pe_tup (pa_cons (pv 1) (pa_cons pe_str (pa_cons pe_str pa_nil)))) (pa_cons (pe_tup (pa_cons (pv 2) (pa_cons pe_str (pa_cons pe_str pa_nil)))) pa_nil)))) (pg_tup (by rfl) (pgs_cons (pg_name (i := 3) sc_law_wrong.nd rfl (Or.inl rfl)) (pgs_cons (pg_name (i := 4) sc_law_wrong.nd rfl (Or.inl rfl)) (pgs_cons (pg_name (i := 5) sc_law_wrong.nd rfl (Or.inl rfl)) pgs_nil))))
       (pss_cons (ps_if (PW.pt (pw_or (pt_not (pt_val (pe_callB call_isi (by rfl) T.isi (by decide +kernel) (pa_cons (pv 3) (pa_cons (pe_bltn (v := .ty "tuple") (u := .type "tuple") (by rfl) T.tuple (by decide +kernel) rfl) pa_nil))))) (pw_or1 (pt_cmpR op_gt (pe_callB My.c_len (by rfl) T.len PySem.boot_len (pa_cons (pv 3) pa_nil)) pe_int (nomark _)))))
       (pss_one (ps_ret (pv 5)))
       pss_nil)
      (pss_one (ps_for PassesOwn.never rfl (pi_range1 (by rfl) T.range (pa_cons (pe_callB My.c_len (by rfl) T.len PySem.boot_len (pa_cons (pv 3) pa_nil)) pa_nil)) (pg_name (i := 6) sc_law_wrong.nd rfl (Or.inl rfl))
       (pss_one (ps_if (pt_not (pt_val (pe_call G_law_is_in (hr.mono (by decide)) (by rfl) g_law_is_in k_law_is_in b_law_is_in .nil pass0 (pa_cons (pe_ix ix_tup (pv 3) (pv 6) (fun _ _ => rfl)) (pa_cons (pv 0) pa_nil)))))
       (pss_one (ps_ret (pe_tup (pa_cons (pv 4) (pa_cons (pv 6) pa_nil)))))
       pss_nil))))))
      (pss_one (ps_ret pe_non)))), ?_⟩
    try dsimp only [cxOf, Cx.nox, Cx.wish]
    walk_at "f"
    refine ⟨vm, tm, rfl, tvm, _, rfl, ?_⟩
    cases vm with
    | int m =>
      refine My.ite_cf (by rfl) ?_
      walk_at "f"
      rotate_left
      · rename_i z1
        exact k _ H (.refl _) (by unfold sysWr; rw [show okMany (.int m) = none from if_neg (fun z => z1 z.1)]; exact rfl)
      rename_i z1
      refine My.ite_nd (fun z2 => ?_) fun z2 => ?_
      · walk_at "f"
        exact k _ H (.refl _) (by unfold sysWr; rw [show okMany (.int m) = none from if_neg (fun z => z2 z.2)]; exact rfl)
      have hm : okMany (.int m) = some m := if_pos ⟨z1, z2⟩
      walk_at "f"
      refine My.new (My.sz (by simp)) fun t1 n1 => ?_
      walk_at "f"
      refine My.new (My.sz (by simp)) fun t2 n2 => ?_
      walk_at "f"
      refine My.new (My.sz (by simp)) fun t3 n3 => ?_
      have q1 := same_new (o := HO.tup [ve, V.str "equation", V.str "equations"]) n1
      have q2 := same_new (o := HO.tup [vb, V.str "barred", V.str "barred"]) n2
      have q3 := same_new (o := HO.lst [V.ref t1, V.ref t2]) n3
      have s1 := (q1.trans q2).trans q3
      have h1 := q3 _ _ (q2 _ _ (upd_same (H := H) (a := t1) (o := HO.tup [ve, V.str "equation", V.str "equations"])))
      have h2 := q3 _ _ (upd_same (H := upd H t1 (HO.tup [ve, V.str "equation", V.str "equations"])) (a := t2) (o := HO.tup [vb, V.str "barred", V.str "barred"]))
      have h3 := upd_same (H := upd (upd H t1 (HO.tup [ve, V.str "equation", V.str "equations"])) t2 (HO.tup [vb, V.str "barred", V.str "barred"])) (a := t3) (o := HO.lst [V.ref t1, V.ref t2])
      generalize upd (upd (upd H t1 _) t2 _) t3 _ = H1 at s1 h1 h2 h3 ⊢
      refine My.lstI (SqL.of h3) (fun i σ' H' => Same H1 H' ∧ (0 < i → prtW m re = none) ∧ (1 < i → prtW m rb = none) ∧ ∃ u3 u4 u5 u6, σ' = [some (.int m), some ve, some vb, u3, u4, u5, u6]) ⟨.refl _, (fun z => absurd z (by omega)), (fun z => absurd z (by omega)), none, none, none, none, rfl⟩ (fun _ _ _ _ z => SqL.of (z.1 _ _ h3)) ?_ ?_
      · rintro i x σ' H2 ex ⟨s2, w1, w2, u3, u4, u5, u6, rfl⟩
        obtain ⟨b, T', hb, rfl, hT, hi⟩ : ∃ (b : Bool) (T' : Addr), (b = true → prtW m re = none) ∧ x = .ref T' ∧ H2 T' = some (.tup [if b then vb else ve, V.str (if b then "barred" else "equation"), V.str (if b then "barred" else "equations")]) ∧ i = if b then 1 else 0 := by
          match i, ex with
          | 0, ex => exact ⟨false, t1, (fun z => by cases z), (Option.some.inj ex).symm, s2 _ _ h1, rfl⟩
          | 1, ex => exact ⟨true, t2, (fun _ => w1 (by omega)), (Option.some.inj ex).symm, s2 _ _ h2, rfl⟩
          | i + 2, ex => simp at ex
        have hr : LPrt K H (if b then vb else ve) (if b then rb else re) := by cases b <;> assumption
        have nx : prtW m (if b then rb else re) = none → (0 < i + 1 → prtW m re = none) ∧ (1 < i + 1 → prtW m rb = none) := fun z => by
          cases b with
          | false => exact ⟨fun _ => z, fun y => absurd y (by rw [hi]; decide)⟩
          | true => exact ⟨fun _ => hb rfl, fun _ => z⟩
        have kS : ∀ x, prtW m (if b then rb else re) = some x → ∀ v H', Same H H' → WrV H' v (wrOf b x) → Q v H' := fun x e v H' s w => k v H' s (by rw [sys_at hm hb (x := x) e]; exact w)
        clear w1 w2 hi h1 h2 h3 hre hrb k
        generalize (if b then rb else re) = r at hr nx kS
        generalize (if b then vb else ve) = v at hr hT ⊢
        refine My.gtup3 (SqT.of hT) rfl ?_
        have s02 := s1.trans s2
        walk_at "f"
        cases r with
        | none =>
          obtain ⟨t, tv, nt⟩ := hr
          refine (tv.same s02).isT mem6 ?_
          rw [nt]
          walk_at "f"
          exact kS none rfl _ _ s02 rfl
        | some os =>
          obtain ⟨a, xs, rfl, ha, _, ho⟩ := hr
          have hlen := My.plen ho
          have ha2 := s02 _ _ ha
          refine (TgV.tup ha2).isT mem6 ?_
          walk_at "f"
          refine My.lenT (SqT.of ha2) ?_
          walk_at "f"
          · rename_i z
            exact kS none (if_pos (by omega)) _ _ s02 rfl
          · rename_i z
            have z6 : ¬ 6 < os.length := by omega
            refine My.lenT (SqT.of ha2) ?_
            walk_at "f"
            refine My.rngI (by omega) (by omega) (fun j σ' H' => Same H2 H' ∧ (∀ j' o, j' < j → os[j']? = some o → inO m o = true) ∧ ∃ u, σ' = [some (.int m), some ve, some vb, some (.ref a), some (V.str (if b then "barred" else "equation")), some (V.str (if b then "barred" else "equations")), u]) ⟨.refl _, (fun _ _ z => absurd z (by omega)), _, rfl⟩ ?_ ?_
            · rintro j σ' H3 hj ⟨s3, bf, u, rfl⟩
              have hj' : j < xs.length := by omega
              have ex : xs[j]? = some xs[j] := List.getElem?_eq_getElem hj'
              obtain ⟨o, eo, hx⟩ := My.pget ho ex
              have s4 := s02.trans s3
              walk_at "f"
              refine My.ixT (SqT.of (s4 _ _ ha)) (by rw [show (0 + (j : Int)) = (j : Int) by omega]; exact atI_nat ex) ?_
              walk_at "f"
              cases o with
              | none =>
                refine ⟨xs[j], m, rfl, z1, z2, .inr ⟨NoM.same s4 hx, _, rfl, ?_⟩⟩
                refine My.ite_nf ?_
                walk_at "f"
                refine My.new (My.sz (by simp)) fun tt nt => ?_
                have st := same_new (o := HO.tup [V.str (if b then "barred" else "equation"), V.int (0 + (j : Nat))]) nt
                refine kS (some j) ?_ _ _ (s4.trans st) ⟨tt, rfl, by rw [upd_same, show (0 + (j : Int)) = (j : Int) by omega]⟩
                show (if 6 < os.length then _ else _) = _
                rw [if_neg z6]
                have fe : (os.findIdx? fun o => !inO m o) = some j := by
                  rw [List.findIdx?_eq_some_iff_getElem]
                  have hj := List.getElem?_eq_some_iff.mp eo
                  refine ⟨hj.1, by rw [hj.2]; rfl, fun j' hj' => ?_⟩
                  have := bf j' _ hj' (List.getElem?_eq_getElem (by have := hj.1; omega))
                  rw [this]; decide
                rw [fe]; rfl
              | some mm =>
                have ei : inP m mm = inM m mm := inP_eq z1 z2 fun p hp => ⟨hx.2.len p hp, hx.2.bd p hp⟩
                refine ⟨xs[j], m, rfl, z1, z2, .inl ⟨mm, hx.1.same s4, hx.2, fun H5 s5 => ⟨_, rfl, ?_⟩⟩⟩
                cases eb : inM m mm with
                | true =>
                  refine My.ite_nt ?_
                  refine ⟨s3.trans s5, fun j' o' hj e => ?_, _, rfl⟩
                  by_cases q : j' = j
                  · rw [q, eo] at e
                    rw [← Option.some.inj e]
                    exact ei.trans eb
                  · exact bf j' o' (by omega) e
                | false =>
                  refine My.ite_nf ?_
                  walk_at "f"
                  refine My.new (My.sz (by simp)) fun tt nt => ?_
                  have st := same_new (o := HO.tup [V.str (if b then "barred" else "equation"), V.int (0 + (j : Nat))]) nt
                  refine kS (some j) ?_ _ _ ((s4.trans s5).trans st) ⟨tt, rfl, by rw [upd_same, show (0 + (j : Int)) = (j : Int) by omega]⟩
                  show (if 6 < os.length then _ else _) = _
                  rw [if_neg z6]
                  have fe : (os.findIdx? fun o => !inO m o) = some j := by
                    rw [List.findIdx?_eq_some_iff_getElem]
                    have hj := List.getElem?_eq_some_iff.mp eo
                    refine ⟨hj.1, by rw [hj.2]; show (!inP m mm) = true; rw [ei, eb]; rfl, fun j' hj' => ?_⟩
                    have := bf j' _ hj' (List.getElem?_eq_getElem (by have := hj.1; omega))
                    rw [this]; decide
                  rw [fe]; rfl
            · rintro σ' H3 ⟨s3, bf, u, rfl⟩
              have e0 : prtW m (some os) = none := by
                show (if 6 < os.length then _ else _) = _
                rw [if_neg z6]
                have fe : (os.findIdx? fun o => !inO m o) = none := by
                  rw [List.findIdx?_eq_none_iff]
                  intro o ho'
                  obtain ⟨j, hj⟩ := List.mem_iff_getElem?.mp ho'
                  rw [bf j o (by have := (List.getElem?_eq_some_iff.mp hj).1; omega) hj]; rfl
                rw [fe]; rfl
              exact ⟨s2.trans s3, (nx e0).1, (nx e0).2, _, _, _, _, rfl⟩
      · rintro σ' H2 ⟨s2, w1, w2, u3, u4, u5, u6, rfl⟩
        walk_at "f"
        exact k _ _ (s1.trans s2) (by rw [sys_no hm (w1 (by simp)) (w2 (by simp))]; exact rfl)
    | _ =>
      refine My.ite_ct (by rfl) (My.ite_t ?_)
      walk_at "f"
      exact k _ H (.refl _) (by unfold sysWr; exact rfl)
end
end K09

set_option Elab.async false
set_option linter.all false
set_option maxRecDepth 100000
set_option maxHeartbeats 4000000
namespace K09
open PySem PySem.Spec PyProof.Rows L2 XV DX XF He
/-- what the head says of BadSystem -/
structure BadF (K : PySem.W.Frag) (mg : Str → Option Value) : Prop where
  eb : Err K mg "BadSystem"
  fb : Fld K "BadSystem" "part"
  ex : PySem.W.exmOne K (.ref (ga K "BadSystem")) (.ref (ga K "BadSystem")) = some true
  root : mg "RootError" = some (.ref (ga K "RootError"))
  kr : PySem.W.kitOne K (.ref (ga K "BadSystem")) (.ref (ga K "RootError")) = some true
  kv : PySem.W.kitOne K (.ref (ga K "BadSystem")) (.type "ValueError") = some true
def OR (o' o : Option Pol) : Prop := (∃ ts m, o' = some ts ∧ o = some m ∧ Srt ts m ∧ WF m) ∨ (o' = none ∧ o = none)
def PR (r' r : Option (List (Option Pol))) : Prop := (∃ os' os, r' = some os' ∧ r = some os ∧ Paired OR os' os) ∨ (r' = none ∧ r = none)
theorem tgv_tup {K : PySem.W.Frag} {H : Hp} {a : Addr} {xs : List V} {t : Tg} (ha : H a = some (.tup xs)) (tv : TgV K H (.ref a) t) : t = .tup := by
  cases tv with
  | tup e => rfl
  | lst e => rw [ha] at e; cases e
  | dK e => rw [ha] at e; cases e
  | dT e => rw [ha] at e; cases e
  | ins e c => rw [ha] at e; cases e
theorem itm_of {K : PySem.W.Frag} {C : Addr} {H : Hp} {x y : V} {o : Option Pol} (h : LItm K H x o) (r : Res0 K C H x y) : ∃ o', Itm K C H y o' ∧ OR o' o := by
  cases o with
  | some m =>
    obtain ⟨ts, a, rfl, pa, sr⟩ := r.mark h.1
    have w := sr.wft h.2
    exact ⟨some ts, ⟨a, rfl, pa, fun p hp => (w.ky p hp).1, by have := w.few; omega⟩, .inl ⟨ts, m, rfl, rfl, sr, h.2⟩⟩
  | none =>
    obtain ⟨t, tv, n⟩ := r.none_ h
    exact ⟨none, ⟨t, tv, fun D e => absurd e (n D)⟩, .inr ⟨rfl, rfl⟩⟩
theorem items_of {K : PySem.W.Frag} {C : Addr} {H : Hp} : ∀ {xs ys : List V} {os : List (Option Pol)}, Paired (LItm K H) xs os → Paired (Res0 K C H) xs ys → ∃ os', Paired (Itm K C H) ys os' ∧ Paired OR os' os
  | _, _, _, .nil, .nil => ⟨[], .nil, .nil⟩
  | _, _, _, .cons h t, .cons r q => by
    obtain ⟨o', h1, h2⟩ := itm_of h r
    obtain ⟨os', g1, g2⟩ := items_of t q
    exact ⟨o' :: os', .cons h1 g1, .cons h2 g2⟩
theorem prt_of {K : PySem.W.Frag} {C : Addr} {H : Hp} {v v' : V} {r : Option (List (Option Pol))} (h : LPrt K H v r) (q : Res K C H v v') : ∃ r', Prt K C H v' r' ∧ PR r' r := by
  cases r with
  | some os =>
    obtain ⟨a, xs, rfl, ha, _, ho⟩ := h
    rcases q with ⟨a', xs', b, ys, e1, e2, rfl, e4, e5⟩ | ⟨_, ⟨t, tv, nt⟩, _⟩
    · cases e1
      rw [ha] at e2
      cases e2
      obtain ⟨os', g1, g2⟩ := items_of ho e5
      exact ⟨some os', ⟨b, ys, rfl, e4, g1⟩, .inl ⟨os', os, rfl, rfl, g2⟩⟩
    · rw [tgv_tup ha tv] at nt
      cases nt
  | none =>
    obtain ⟨t, tv, nt⟩ := h
    rcases q with ⟨a', xs', b, ys, rfl, e2, rfl, e4, e5⟩ | ⟨_, _, h⟩
    · rw [tgv_tup e2 tv] at nt
      cases nt
    · exact ⟨none, h, .inr ⟨rfl, rfl⟩⟩
theorem inO_eq {o' o : Option Pol} {many : Int} (m1 : 1 ≤ many) (m3 : many ≤ 3) (h : OR o' o) : inO many o' = inO many o := by
  rcases h with ⟨ts, m, rfl, rfl, s, w⟩ | ⟨rfl, rfl⟩
  · show inP many ts = inP many m
    have wt := s.wft w
    rw [inP_eq m1 m3 fun p hp => wt.ky p hp, inP_eq m1 m3 fun p hp => ⟨w.len p hp, w.bd p hp⟩, inM_perm s.1]
  · rfl
theorem map_inO {many : Int} (m1 : 1 ≤ many) (m3 : many ≤ 3) : ∀ {os' os : List (Option Pol)}, Paired OR os' os → os'.map (inO many) = os.map (inO many)
  | _, _, .nil => rfl
  | _, _, .cons h t => by rw [List.map_cons, List.map_cons, inO_eq m1 m3 h, map_inO m1 m3 t]
theorem prtW_eq {r' r : Option (List (Option Pol))} {many : Int} (m1 : 1 ≤ many) (m3 : many ≤ 3) (h : PR r' r) : prtW many r' = prtW many r := by
  rcases h with ⟨os', os, rfl, rfl, h⟩ | ⟨rfl, rfl⟩
  · have e := map_inO m1 m3 h
    have l := My.plen h
    have f : ∀ os : List (Option Pol), (os.findIdx? fun o => !inO many o) = (os.map (inO many)).findIdx? (fun b => !b) := fun os => by rw [List.findIdx?_map]; rfl
    show (if 6 < os'.length then _ else _) = (if 6 < os.length then _ else _)
    rw [l, f os', f os, e]
  · rfl
theorem okMany_b {v : V} {m : Int} (h : okMany v = some m) : 1 ≤ m ∧ m ≤ 3 := by
  cases v with
  | int i =>
    have h' : (if 1 ≤ i ∧ i ≤ 3 then some i else none) = some m := h
    split at h'
    · cases h'; assumption
    · cases h'
  | _ => cases h
theorem sysWr_eq {v : V} {p' p q' q : Option (List (Option Pol))} (h : PR p' p) (g : PR q' q) : sysWr v p' q' = sysWr v p q := by
  unfold sysWr
  cases e : okMany v with
  | none => rfl
  | some m =>
    obtain ⟨m1, m3⟩ := okMany_b e
    simp only [prtW_eq m1 m3 h, prtW_eq m1 m3 g]
theorem somes : ∀ {os' os : List (Option Pol)}, Paired OR os' os → (∀ o ∈ os, o ≠ none) → ∃ ps ms, os' = ps.map some ∧ os = ms.map some ∧ Paired (fun ts m => Srt ts m ∧ WF m) ps ms
  | _, _, .nil, _ => ⟨[], [], rfl, rfl, .nil⟩
  | _, _, .cons h t, n => by
    obtain ⟨ps, ms, rfl, rfl, q⟩ := somes t fun o ho => n o (List.mem_cons_of_mem _ ho)
    rcases h with ⟨ts, m, rfl, rfl, s, w⟩ | ⟨_, rfl⟩
    · exact ⟨ts :: ps, m :: ms, rfl, rfl, .cons ⟨s, w⟩ q⟩
    · exact absurd rfl (n _ List.mem_cons_self)
theorem told_of {r' r : Option (List (Option Pol))} {many : Int} (h : PR r' r) (e : prtW many r = none) : ∃ ps ms, r' = some (ps.map some) ∧ r = some (ms.map some) ∧ ps.length ≤ 6 ∧ Paired (fun ts m => Srt ts m ∧ WF m) ps ms := by
  rcases h with ⟨os', os, rfl, rfl, h⟩ | ⟨rfl, rfl⟩
  · have e' : (if 6 < os.length then some none else (os.findIdx? fun o => !inO many o).map some) = none := e
    split at e'
    · cases e'
    · rename_i l6
      have f : (os.findIdx? fun o => !inO many o) = none := by
        cases z : (os.findIdx? fun o => !inO many o) with
        | none => rfl
        | some i => rw [z] at e'; cases e'
      rw [List.findIdx?_eq_none_iff] at f
      obtain ⟨ps, ms, rfl, rfl, q⟩ := somes h fun o ho g => by
        have := f o ho
        rw [g] at this
        cases this
      have := My.plen h
      rw [List.length_map, List.length_map] at this
      rw [List.length_map] at l6
      exact ⟨ps, ms, rfl, rfl, by omega, q⟩
  · cases e
theorem polysAt_of {K : PySem.W.Frag} {C : Addr} {H : Hp} {v : V} {ps : List Pol} (h : Prt K C H v (some (ps.map some))) : ∃ e, v = .ref e ∧ PolysAt C H e ps := by
  obtain ⟨a, xs, rfl, ha, p⟩ := h
  refine ⟨a, rfl, xs, ha, ?_⟩
  have key : ∀ {xs : List V} {ps : List Pol}, Paired (Itm K C H) xs (ps.map some) → Paired (fun x ts => ∃ a, x = .ref a ∧ PolyAt C H a ts) xs ps := by
    intro xs
    induction xs with
    | nil =>
      intro ps p
      cases ps with
      | nil => exact .nil
      | cons => cases p
    | cons x xs ih =>
      intro ps p
      cases ps with
      | nil => cases p
      | cons q ps =>
        cases p with
        | cons h t =>
          obtain ⟨a, e, pa, _⟩ := h
          exact .cons ⟨a, e, pa⟩ (ih t)
  exact key p
theorem Prt.same {K : PySem.W.Frag} {C : Addr} {H H' : Hp} {v : V} {r : Option (List (Option Pol))} (s : Same H H') (h : Prt K C H v r) : Prt K C H' v r := by
  cases r with
  | some os =>
    obtain ⟨a, xs, e, ha, p⟩ := h
    exact ⟨a, xs, e, s _ _ ha, Paired.mapP p fun _ _ z => z.same s⟩
  | none =>
    obtain ⟨t, tv, n⟩ := h
    exact ⟨t, tv.same s, n⟩
/-- what made gives -/
def ToldO (H : Hp) (t : Addr) (vm : V) (re rb : Option (List (Option Pol))) : Prop := ∃ u e f ps qs ms ns, H t = some (.tup [.str "told", .ref u]) ∧ H u = some (.tup [vm, .ref e, .ref f]) ∧ MarksT H e ps ∧ MarksT H f qs ∧ re = some (ms.map some) ∧ rb = some (ns.map some) ∧
  Paired (fun ts m => Srt ts m ∧ WF m) ps ms ∧ Paired (fun ts m => Srt ts m ∧ WF m) qs ns
def MadeO (H : Hp) (t : Addr) (vm : V) (re rb : Option (List (Option Pol))) : Prop := match sysWr vm re rb with
  | some W => ∃ y, H t = some (.tup [.str "refused", y]) ∧ WrV H y W
  | none => ToldO H t vm re rb
def spMade (K : PySem.W.Frag) : Sp := fun vs H Q _ => ∃ (d : Addr) (vm ve vb : V) (tm : Tg) (re rb : Option (List (Option Pol))), vs = [vm, ve, vb] ∧ TgV K H vm tm ∧ LPrt K H ve re ∧ LPrt K H vb rb ∧ Pk d H 30 ve ∧ Pk d H 30 vb ∧ (∃ kd, H d = some (.dK kd)) ∧
  ∀ t H', Same H H' → MadeO H' t vm re rb → Q (.ref t) H'
theorem sys_none {v : V} {p q : Option (List (Option Pol))} (h : sysWr v p q = none) : ∃ m, okMany v = some m ∧ prtW m p = none ∧ prtW m q = none := by
  unfold sysWr at h
  cases e : okMany v with
  | none => rw [e] at h; cases h
  | some m =>
    rw [e] at h
    simp only at h
    cases e1 : prtW m p with
    | some x => rw [e1] at h; cases x <;> cases h
    | none =>
      rw [e1] at h
      simp only at h
      cases e2 : prtW m q with
      | some x => rw [e2] at h; cases x <;> cases h
      | none => exact ⟨m, rfl, e1, e2⟩
theorem srts_wft : ∀ {ps ms : List Pol}, Paired (fun ts m => Srt ts m ∧ WF m) ps ms → ∀ ts ∈ ps, WFt ts
  | _, _, .nil, ts, h => by cases h
  | _, _, .cons h t, ts, hm => by
    rcases List.mem_cons.mp hm with rfl | g
    · exact h.1.wft h.2
    · exact srts_wft t ts g
theorem MarksT.same {H H' : Hp} {e : Addr} {ps : List Pol} (s : Same H H') (h : MarksT H e ps) : MarksT H' e ps := by
  obtain ⟨xs, h1, h2⟩ := h
  exact ⟨xs, s _ _ h1, Paired.mapP h2 fun _ _ z => z.same s⟩
theorem WrV.same {H H' : Hp} {v : V} {W : Wr} (s : Same H H') (h : WrV H v W) : WrV H' v W := by
  cases W with
  | many => exact h
  | part b => exact h
  | «at» b i =>
    obtain ⟨a, e, ha⟩ := h
    exact ⟨a, e, s _ _ ha⟩
def t_try (K : PySem.W.Frag) (C S : Addr) (W : WX) : TS := tAsg (tMakeS S (spSysI K C S) (WE W) (tCons (tVar 0) (tCons (tCall (spPacked K C 30) [] E0 (tCons (tVar 1) tNil)) (tCons (tCall (spPacked K C 30) [] E0 (tCons (tVar 2) tNil)) tNil)))) (gName 3)
def t_suite (K : PySem.W.Frag) (a : Addr) (cls : Value) (d : Option Addr) : TS := tRet (tTup (tCons (tC (.str "refused")) (tCons (tIf (tAnd (tB (tCB (rIsS K a cls d) (tCons (tVar 4) (tCons (tC (.ref (ga K "RootError"))) tNil)))) (tB (tCB (rIsS K a cls d) (tCons (tVar 4) (tCons (tC (.ty "ValueError")) tNil))))) (tFldS K a cls d "part" (tVar 4)) (tC .non)) tNil)))
section
variable {P : Program} {w : World} {K : PySem.W.Frag} {mg : Str → Option Value} {base : Heap}
theorem sc_law_made : FnScope ["_law_many", "_law_equations", "_law_barred", "_law_found", "e"] ["_law_many", "_law_equations", "_law_barred"] (defScope s_law_made) := ⟨rfl, rfl, rfl, by decide +kernel, rfl, by decide +kernel, by decide +kernel⟩
theorem cal_law_made {f : Addr} {fd : FuncData} {C S fI fE sI sE : Addr} {fdS : FuncData} (F : FnP K "_law_made" "_law_made" s_law_made f fd) (g : mg "_law_made" = some (.ref f)) (T : Txt0 mg) (C_law_packed : Cal P w K mg base "_law_packed" 37 ["_law_thing"] (spPacked K C 30)) (C_law_unpacked : Cal P w K mg base "_law_unpacked" 3 ["_law_thing"] (spUnp1 K C)) (PT : PolF K mg C fI fE) (ST : SysF K mg S sI sE) (BF : BadF K mg) (G_System : FnOk P w K mg base (L2.CX P w) 4 sI fdS ["self", "many", "equations", "barred"] (spSysI K C S)) (b_System : Binds K fdS ["self", "many", "equations", "barred"] []) : Cal P w K mg base "_law_made" 38 ["_law_many", "_law_equations", "_law_barred"] (spMade K) := by
  obtain ⟨f_law_packed, fd_law_packed, g_law_packed, G_law_packed, b_law_packed, k_law_packed⟩ := C_law_packed
  obtain ⟨f_law_unpacked, fd_law_unpacked, g_law_unpacked, G_law_unpacked, b_law_unpacked, k_law_unpacked⟩ := C_law_unpacked
  refine ⟨f, fd, g, ?_, F.bindsN (fun _ _ _ _ _ _ us hl => match us, hl with | [_, _, _], _ => rfl), F.kp⟩
  refine F.ok sc_law_made (fun vs H Q E h => ?_) (fun cdv A outer s H vs Q E hr h => ?_)
  · obtain ⟨d, vm, ve, vb, tm, re, rb, rfl, tvm, hre, hrb, pe, pb, hd, k⟩ := h
    rfl
  · obtain ⟨d, vm, ve, vb, tm, re, rb, rfl, tvm, hre, hrb, pe, pb, hd, k⟩ := h
    refine ⟨_, PSs.nox (pss_cons (ps_try_as (i := 4) (tb := t_try K C S) (ts := t_suite K) (Wout := fun _ _ _ _ => False) rfl rfl sc_law_made.nd rfl rfl ⟨rfl, by decide, Or.inl BF.eb.g⟩ takes0
      (fun W pn xe tk _ => pss_one (ps_set (i := 3) sc_law_made.nd rfl (Or.inl rfl) (by exact (pe_makeS ST.mkr G_System (hr.mono (by decide)) (by rfl) ST.g b_System tk (by exact (pa_cons (pv 0) (pa_cons (pe_call G_law_packed (hr.mono (by decide)) (by rfl) g_law_packed k_law_packed b_law_packed .nil pass0 (by exact (pa_cons (pv 1) pa_nil))) (pa_cons (pe_call G_law_packed (hr.mono (by decide)) (by rfl) g_law_packed k_law_packed b_law_packed .nil pass0 (by exact (pa_cons (pv 2) pa_nil))) pa_nil))))))))
      (fun a oe cls d pn hz hf => pss_one (ps_ret (pe_tup (by exact (pa_cons pe_str (pa_cons (pe_ifExp (PW.pt (pw_and (pt_val (pe_callB (XV.call_isS hz hf) (by rfl) T.isi (by decide +kernel) (by exact (pa_cons (pv 4) (pa_cons (pe_glob (v := .ref (ga K "RootError")) (by rfl) BF.root rfl) pa_nil))))) (pw_and1 (pt_val (pe_callB (XV.call_isS hz hf) (by rfl) T.isi (by decide +kernel) (by exact (pa_cons (pv 4) (pa_cons (pe_bltn (v := .ty "ValueError") (u := .type "ValueError") (by rfl) T.verr (by decide +kernel) rfl) pa_nil)))))))) (XV.pe_fldS hz hf (pv 4)) pe_non) pa_nil)))))))
      (pss_one (ps_ret (pe_tup (pa_cons pe_str (pa_cons (pe_tup (pa_cons (pe_fld (pv 3) rfl) (pa_cons (pe_call G_law_unpacked (hr.mono (by decide)) (by rfl) g_law_unpacked k_law_unpacked b_law_unpacked .nil pass0 (pa_cons (pe_fld (pv 3) rfl) pa_nil)) (pa_cons (pe_call G_law_unpacked (hr.mono (by decide)) (by rfl) g_law_unpacked k_law_unpacked b_law_unpacked .nil pass0 (pa_cons (pe_fld (pv 3) rfl) pa_nil)) pa_nil)))) pa_nil)))))), ?_⟩
    try dsimp only [cxOf, Cx.nox, Cx.wish]
    show t_try K C S _ _ _ _
    unfold t_try
    walk_at "f"
    refine My.makeS ?_
    obtain ⟨kd, hkd⟩ := hd
    have dks : ∀ o, H d = some o → ∃ ks, o = .dK ks := fun o e => by rw [hkd] at e; exact ⟨kd, (Option.some.inj e).symm⟩
    walk_at "f"
    refine ⟨d, ve, rfl, pe, ⟨kd, hkd⟩, fun ve' H1 s1 res1 => ?_⟩
    walk_at "f"
    refine ⟨d, vb, rfl, pb.same dks s1, ⟨kd, s1 _ _ hkd⟩, fun vb' H2 s2 res2 => ?_⟩
    walk_at "f"
    intro x dx nx ndx nxd
    have s12 := s1.trans s2
    obtain ⟨re', p1, q1⟩ := prt_of (hre.same s12) (res1.same s2)
    obtain ⟨rb', p2, q2⟩ := prt_of (hrb.same s12) res2
    have sm : Same H2 (upd (upd H2 dx (HO.own x)) x (HO.ins S dx [])) := fun b o e => by
      rw [upd_ne (ne_of_none e nx), upd_ne (ne_of_none e ndx)]; exact e
    refine ⟨x, dx, vm, ve', vb', tm, re', rb', rfl, upd_same, (tvm.same s12).same sm, p1.same sm, p2.same sm, ?_⟩
    rw [sysWr_eq q1 q2]
    unfold MadeO at k
    cases e : sysWr vm re rb with
    | none =>
      rw [e] at k
      intro H3 s3
      refine ⟨rfl, ?_⟩
      obtain ⟨m, hm, e1, e2⟩ := sys_none e
      obtain ⟨ps, ms, rfl, rfl, l1, pr1⟩ := told_of q1 e1
      obtain ⟨qs, ns, rfl, rfl, l2, pr2⟩ := told_of q2 e2
      have s4 : Same H2 (upd H3 x (SysO S dx vm ve' vb')) := made_same nx ndx s3
      have ox := upd_same (H := H3) (a := x) (o := SysO S dx vm ve' vb')
      generalize upd H3 x _ = H4 at s4 ox ⊢
      obtain ⟨ea, rfl, pa⟩ := polysAt_of (p1.same s4)
      obtain ⟨fa, rfl, pf⟩ := polysAt_of (p2.same s4)
      have w1 := srts_wft pr1
      have w2 := srts_wft pr2
      walk_at "f"
      refine My.fld ox ST.ins.cl ST.n1 (lk1 _ _ _) rfl ?_
      walk_at "f"
      refine My.fld ox ST.ins.cl ST.n2 (lk2 _ _ _) rfl ?_
      walk_at "f"
      refine ⟨ea, ps, rfl, pa, by omega, w1, fun u1 H5 s5 m1 => ?_⟩
      walk_at "f"
      refine My.fld (s5 _ _ ox) ST.ins.cl ST.n3 (lk3 _ _ _) rfl ?_
      walk_at "f"
      refine ⟨fa, qs, rfl, pf.same s5, by omega, w2, fun u2 H6 s6 m2 => ?_⟩
      walk_at "f"
      refine My.new (My.sz (by simp)) fun t1 n1 => ?_
      walk_at "f"
      refine My.new (My.sz (by simp)) fun t2 n2 => ?_
      have g1 := same_new (o := HO.tup [vm, V.ref u1, V.ref u2]) n1
      have g2 := same_new (o := HO.tup [V.str "told", V.ref t1]) n2
      refine k t2 _ (((((s12.trans s4).trans s5).trans s6).trans g1).trans g2) ⟨t1, u1, u2, ps, qs, ms, ns, upd_same, g2 _ _ upd_same, m1.same ((s6.trans g1).trans g2), m2.same (g1.trans g2), rfl, rfl, pr1, pr2⟩
    | some W =>
      rw [e] at k
      intro H3 d' y s3 hd' wv
      have s4 : Same H H3 := (s12.trans sm).trans s3
      refine ⟨true, BF.ex, fun _ a na => ?_, fun z => Bool.noConfusion z⟩
      unfold t_suite
      walk_at "f"
      refine ⟨_, d', _, .ref (ga K "RootError"), .ref (ga K "RootError"), true, rfl, rfl, rfl, hd', BF.eb.ex, fun _ r => r, BF.kr, ?_⟩
      walk_at "f"
      refine ⟨_, d', _, .ty "ValueError", .type "ValueError", true, rfl, rfl, rfl, hd', BF.eb.ex, fun _ r => r, BF.kv, ?_⟩
      walk_at "f"
      refine ⟨_, rfl, _, d', _, y, rfl, rfl, rfl, hd', by simp [List.lookup], BF.eb.ex, BF.fb.no, ?_⟩
      walk_at "f"
      refine My.new (My.sz (by simp)) fun t2 n2 => ?_
      exact k t2 _ (s4.trans (same_new n2)) ⟨y, upd_same, WrV.same (same_new n2) wv⟩
end
end K09

set_option Elab.async false
set_option linter.all false
set_option maxRecDepth 100000
set_option maxHeartbeats 4000000
namespace K09
open PySem PySem.Spec PyProof.Rows L2 XV DX XF He
theorem new_of {H H' : Hp} {p : Addr} {o : HO} (n : H p = none) (e : upd H p o = H') : Same H H' ∧ H' p = some o := by
  subst e
  exact ⟨same_new n, upd_same⟩
theorem pk_flats {d : Addr} {H : Hp} {a : Addr} {xs : List V} {n : Nat} (h : H a = some (.tup xs)) (l : xs.length ≤ 1000) (f : ∀ x ∈ xs, Pk d H (n + 1) x) : Pk d H (n + 2) (.ref a) := .inr (.inr (.inl ⟨a, xs, rfl, h, l, f⟩))
/-- what _law_odd draws -/
def spOdd (K : PySem.W.Frag) : Sp := fun vs H Q _ => ∃ (d c : Addr), vs = [.ref d] ∧ Hand K H d c ∧ ∀ v H', Pk d H' 25 v → Hand K H' d c → But d H H' → Q v H'
theorem wf_var {k : Int} : WF [(varK k, 1)] := by
  refine ⟨by simp, fun p hp => ?_, fun p hp i hi => ?_, fun p hp => ?_, by simp⟩
  · rw [List.mem_singleton.mp hp]; simp [varK]
  · rw [List.mem_singleton.mp hp] at hi
    obtain ⟨j, _, rfl⟩ := List.mem_map.mp hi
    show 0 ≤ (if 0 + (j : Int) = k then (1 : Int) else 0) ∧ (if 0 + (j : Int) = k then (1 : Int) else 0) ≤ 60
    split <;> omega
  · rw [List.mem_singleton.mp hp]; simp
theorem wf_nil : WF [] := ⟨List.nodup_nil, (fun p h => by cases h), (fun p h => by cases h), (fun p h => by cases h), Nat.zero_le _⟩
section
variable {P : Program} {w : World} {K : PySem.W.Frag} {mg : Str → Option Value} {base : Heap}
theorem sc_law_odd : FnScope ["_law_hand_here", "_law_some"] ["_law_hand_here"] (defScope s_law_odd) := ⟨rfl, rfl, rfl, by decide +kernel, rfl, by decide +kernel, by decide +kernel⟩
theorem cal_law_odd {f : Addr} {fd : FuncData} (F : FnP K "_law_odd" "_law_odd" s_law_odd f fd) (g : mg "_law_odd" = some (.ref f)) (T : Txt0 mg) (C_law_deep : Cal P w K mg base "_law_deep" 2 ["_law_hand_here"] (spDeep K)) (C_law_any : Cal P w K mg base "_law_any" 2 ["_law_hand_here", "_law_things"] (spAny K)) (C_law_mark : Cal P w K mg base "_law_mark" 1 ["_law_parts"] spMark) (C_law_var : Cal P w K mg base "_law_var" 1 ["_law_k"] spVar) : Cal P w K mg base "_law_odd" 3 ["_law_hand_here"] (spOdd K) := by
  obtain ⟨f_law_deep, fd_law_deep, g_law_deep, G_law_deep, b_law_deep, k_law_deep⟩ := C_law_deep
  obtain ⟨f_law_any, fd_law_any, g_law_any, G_law_any, b_law_any, k_law_any⟩ := C_law_any
  obtain ⟨f_law_mark, fd_law_mark, g_law_mark, G_law_mark, b_law_mark, k_law_mark⟩ := C_law_mark
  obtain ⟨f_law_var, fd_law_var, g_law_var, G_law_var, b_law_var, k_law_var⟩ := C_law_var
  refine ⟨f, fd, g, ?_, F.bindsN (fun _ _ _ _ _ _ us hl => match us, hl with | [_], _ => rfl), F.kp⟩
  refine F.ok sc_law_odd (fun vs H Q E h => ?_) (fun cdv A outer s H vs Q E hr h => ?_)
  · obtain ⟨d, c, rfl, hh, k⟩ := h
    rfl
  · obtain ⟨d, c, rfl, hh, k⟩ := h
    refine ⟨_, PSs.nox (pss_cons (ps_set (i := 1) sc_law_odd.nd rfl (Or.inl rfl) (pe_lst (pa_cons pe_non (pa_cons pe_int (pa_cons pe_bl (pa_cons pe_str (pa_cons (pe_tup pa_nil) (pa_cons (pe_lst pa_nil) (pa_cons pe_dnewK (pa_cons (pe_op op_pow pe_int pe_int) (pa_cons (pe_tup (pa_cons (pe_tup (pa_cons pe_int (pa_cons pe_int (pa_cons pe_int (pa_cons pe_int pa_nil))))) (pa_cons pe_int pa_nil))) (pa_cons (pe_tup (pa_cons (pe_tup (pa_cons (pe_tup (pa_cons pe_int (pa_cons pe_int (pa_cons pe_int (pa_cons pe_int pa_nil))))) (pa_cons pe_int pa_nil))) pa_nil)) (pa_cons (pe_call G_law_deep (hr.mono (by decide)) (by rfl) g_law_deep k_law_deep b_law_deep .nil pass0 (pa_cons (pv 0) pa_nil)) pa_nil)))))))))))))
      (pss_one (ps_ret (pe_call G_law_any (hr.mono (by decide)) (by rfl) g_law_any k_law_any b_law_any .nil pass0 (pa_cons (pv 0) (pa_cons (pe_op op_cat (pv 1) (pe_lst (pa_cons (pe_call G_law_mark (hr.mono (by decide)) (by rfl) g_law_mark k_law_mark b_law_mark .nil pass0 (pa_cons (pe_call G_law_var (hr.mono (by decide)) (by rfl) g_law_var k_law_var b_law_var .nil pass0 (pa_cons pe_int pa_nil)) pa_nil)) (pa_cons (pe_call G_law_mark (hr.mono (by decide)) (by rfl) g_law_mark k_law_mark b_law_mark .nil pass0 (pa_cons (pe_call G_law_var (hr.mono (by decide)) (by rfl) g_law_var k_law_var b_law_var .nil pass0 (pa_cons pe_int pa_nil)) pa_nil)) (pa_cons (pe_call G_law_mark (hr.mono (by decide)) (by rfl) g_law_mark k_law_mark b_law_mark .nil pass0 (pa_cons pe_dnewT pa_nil)) pa_nil))))) pa_nil)))))), ?_⟩
    try dsimp only [cxOf, Cx.nox, Cx.wish]
    walk_at "f"
    (refine My.new (My.sz (by simp)) (fun p1 n1 => ?_); generalize hE : upd _ p1 _ = H1; obtain ⟨s1, o1⟩ := new_of n1 hE; clear hE)
    walk_at "f"
    (refine My.new (My.sz (by simp)) (fun p2 n2 => ?_); generalize hE : upd _ p2 _ = H2; obtain ⟨s2, o2⟩ := new_of n2 hE; clear hE)
    walk_at "f"
    (intro p3 n3; generalize hE : upd _ p3 _ = H3; obtain ⟨s3, o3⟩ := new_of n3 hE; clear hE)
    walk_at "f"
    (refine My.new (My.sz (by simp)) (fun p4 n4 => ?_); generalize hE : upd _ p4 _ = H4; obtain ⟨s4, o4⟩ := new_of n4 hE; clear hE)
    walk_at "f"
    (refine My.new (My.sz (by simp)) (fun p5 n5 => ?_); generalize hE : upd _ p5 _ = H5; obtain ⟨s5, o5⟩ := new_of n5 hE; clear hE)
    walk_at "f"
    (refine My.new (My.sz (by simp)) (fun p6 n6 => ?_); generalize hE : upd _ p6 _ = H6; obtain ⟨s6, o6⟩ := new_of n6 hE; clear hE)
    walk_at "f"
    (refine My.new (My.sz (by simp)) (fun p7 n7 => ?_); generalize hE : upd _ p7 _ = H7; obtain ⟨s7, o7⟩ := new_of n7 hE; clear hE)
    walk_at "f"
    (refine My.new (My.sz (by simp)) (fun p8 n8 => ?_); generalize hE : upd _ p8 _ = H8; obtain ⟨s8, o8⟩ := new_of n8 hE; clear hE)
    walk_at "f"
    have t8 := s8
    have t7 := s7.trans t8
    have t6 := s6.trans t7
    have t5 := s5.trans t6
    have t4 := s4.trans t5
    have t3 := s3.trans t4
    have t2 := s2.trans t3
    have t1 := s1.trans t2
    have h8 := hh.same t1
    have nd : p3 ≠ d := fun z => by
      obtain ⟨_, hd⟩ := (hh.same (s1.trans s2)).dk
      rw [z, hd] at n3
      cases n3
    have z4 : ∀ a, H8 a = some (.tup [V.int 0, .int 0, .int 0, .int 0]) → Pk d H8 2 (.ref a) := fun a e => pk_flats e (by simp) fun x hx => by
      simp only [List.mem_cons, List.not_mem_nil, or_false] at hx
      rcases hx with rfl | rfl | rfl | rfl <;> exact .inl rfl
    have z5 : ∀ a b, H8 a = some (.tup [V.int 0, .int 0, .int 0, .int 0]) → H8 b = some (.tup [.ref a, .int 1]) → Pk d H8 3 (.ref b) := fun a b e e2 => pk_flats e2 (by simp) fun x hx => by
      simp only [List.mem_cons, List.not_mem_nil, or_false] at hx
      rcases hx with rfl | rfl
      · exact z4 a e
      · exact .inl rfl
    have q1 : Pk d H8 2 (.ref p1) := pk_flats (t2 _ _ o1) (by simp) fun x hx => by cases hx
    have q2 : Pk d H8 2 (.ref p2) := .inr (.inr (.inr (.inl ⟨p2, _, rfl, t3 _ _ o2, ⟨(fun z => by simp at z), (fun i z => by simp at z)⟩, (by simp), (fun x hx => by cases hx)⟩)))
    have q3 : Pk d H8 2 (.ref p3) := .inr (.inr (.inr (.inr ⟨p3, _, rfl, t4 _ _ o3, nd⟩)))
    have q5 : Pk d H8 3 (.ref p5) := z5 p4 p5 (t5 _ _ o4) (t6 _ _ o5)
    have q8 : Pk d H8 4 (.ref p8) := pk_flats o8 (by simp) fun x hx => by
      rw [List.mem_singleton.mp hx]
      exact z5 p6 p7 (t7 _ _ o6) (t8 _ _ o7)
    refine ⟨d, c, rfl, h8, fun v H9 dp h9 b9 => ?_⟩
    have bt : But d H H9 := (Same.but t1).trans b9
    walk_at "f"
    (refine My.new (My.sz (by simp)) (fun pl nl => ?_); generalize hE : upd _ pl _ = H10; obtain ⟨s10, o10⟩ := new_of nl hE; clear hE)
    walk_at "f"
    refine ⟨3, rfl, fun pv H11 nv s11 hv => ?_⟩
    walk_at "f"
    refine ⟨.ref pv, rfl, ?_⟩
    (intro m1 nm1; generalize hE : upd _ m1 _ = H12; obtain ⟨s12, o12⟩ := new_of nm1 hE; clear hE)
    walk_at "f"
    refine ⟨2, rfl, fun pw H13 nw s13 hw => ?_⟩
    walk_at "f"
    refine ⟨.ref pw, rfl, ?_⟩
    (intro m2 nm2; generalize hE : upd _ m2 _ = H14; obtain ⟨s14, o14⟩ := new_of nm2 hE; clear hE)
    walk_at "f"
    (intro pz nz; generalize hE : upd _ pz _ = H15; obtain ⟨s15, o15⟩ := new_of nz hE; clear hE)
    walk_at "f"
    refine ⟨.ref pz, rfl, ?_⟩
    (intro m3 nm3; generalize hE : upd _ m3 _ = H16; obtain ⟨s16, o16⟩ := new_of nm3 hE; clear hE)
    walk_at "f"
    (refine My.new (My.sz (by simp)) (fun pm npm => ?_); generalize hE : upd _ pm _ = H17; obtain ⟨s17, o17⟩ := new_of npm hE; clear hE)
    have u17 := s17
    have u16 := s16.trans u17
    have u15 := s15.trans u16
    have u14 := s14.trans u15
    have u13 := s13.trans u14
    have u12 := s12.trans u13
    have u11 := s11.trans u12
    have u10 := s10.trans u11
    refine My.cat (u11 _ _ o10) o17 (by simp) fun pc npc => ?_
    generalize hE : upd H17 pc _ = H18
    obtain ⟨s18, o18⟩ := new_of npc hE
    clear hE
    walk_at "f"
    have h18 := (h9.same u10).same s18
    refine ⟨d, c, pc, _, rfl, h18, SqL.of o18, by simp, by simp, fun y H19 hy h19 b19 _ => ?_⟩
    refine k y H19 ?_ h19 ((bt.trans (Same.but (u10.trans s18))).trans b19)
    have up : ∀ {n : Nat} {w : V}, Pk d H8 n w → n ≤ 25 → Pk d H19 25 w := fun {n w} q l => ((((q.keep h8.dko b9).same h9.dko (u10.trans s18)).keep h18.dko b19).mono l)
    have mk : ∀ {w : V} {m : Pol}, Mark H18 w m → WF m → Pk d H19 25 w := fun {w m} q wf => .inr (.inl ⟨m, q.keep h18.dko b19, wf⟩)
    have r13 : Mark H18 (.ref m1) [(varK 3, 1)] := ⟨m1, pv, rfl, (u13.trans s18) _ _ o12, (u12.trans s18) _ _ hv⟩
    have r12 : Mark H18 (.ref m2) [(varK 2, 1)] := ⟨m2, pw, rfl, (u15.trans s18) _ _ o14, (u14.trans s18) _ _ hw⟩
    have r11 : Mark H18 (.ref m3) [] := ⟨m3, pz, rfl, (u17.trans s18) _ _ o16, (u16.trans s18) _ _ o15⟩
    simp only [List.mem_append, List.mem_cons, List.not_mem_nil, or_false, List.cons_append, List.nil_append] at hy
    rcases hy with rfl | rfl | rfl | rfl | rfl | rfl | rfl | rfl | rfl | rfl | rfl | rfl | rfl | rfl
    · exact .inl rfl
    · exact .inl rfl
    · exact .inl rfl
    · exact .inl rfl
    · exact up q1 (by decide)
    · exact up q2 (by decide)
    · exact up q3 (by decide)
    · exact .inl rfl
    · exact up q5 (by decide)
    · exact up q8 (by decide)
    · exact (((dp.pk.same h9.dko (u10.trans s18)).keep h18.dko b19).mono (by decide))
    · exact mk r13 wf_var
    · exact mk r12 wf_var
    · exact mk r11 wf_nil
end
end K09

set_option Elab.async false
set_option linter.all false
set_option maxRecDepth 100000
set_option maxHeartbeats 4000000
namespace K09
open PySem PySem.Spec PyProof.Rows L2 XV DX XF He
/-- a tuple of marks -/
def Rows (H : Hp) (t : Addr) (xs : List V) : Prop := H t = some (.tup xs) ∧ xs.length ≤ 6 ∧ ∀ x ∈ xs, ∃ m, Mark H x m ∧ WF m
theorem Rows.same {H H' : Hp} {t : Addr} {xs : List V} (s : Same H H') (h : Rows H t xs) : Rows H' t xs := ⟨s _ _ h.1, h.2.1, fun x hx => by
  obtain ⟨m, g, w⟩ := h.2.2 x hx
  exact ⟨m, g.same s, w⟩⟩
theorem Rows.but {K : PySem.W.Frag} {d c : Addr} {H H' : Hp} {t : Addr} {xs : List V} (hh : Hand K H d c) (b : But d H H') (h : Rows H t xs) : Rows H' t xs := ⟨b.obj hh h.1 (fun _ z => by cases z), h.2.1, fun x hx => by
  obtain ⟨m, g, w⟩ := h.2.2 x hx
  exact ⟨m, g.keep hh.dko b, w⟩⟩
theorem Rows.pk {d : Addr} {H : Hp} {t : Addr} {xs : List V} (h : Rows H t xs) : ∀ x ∈ xs, Pk d H 1 x := fun x hx => by
  obtain ⟨m, g, w⟩ := h.2.2 x hx
  exact .inr (.inl ⟨m, g, w⟩)
def spBentR (K : PySem.W.Frag) : Sp := fun vs H Q _ => ∃ (d c t : Addr) (xs : List V), vs = [.ref d, .ref t] ∧ Hand K H d c ∧ Rows H t xs ∧ ∀ v H', Pk d H' 30 v → Hand K H' d c → But d H H' → Q v H'
section
variable {P : Program} {w : World} {K : PySem.W.Frag} {mg : Str → Option Value} {base : Heap}
theorem sc_law_bent_rows : FnScope ["_law_hand_here", "_law_rows", "_law_at", "_law_one", "_law_odd_here"] ["_law_hand_here", "_law_rows"] (defScope s_law_bent_rows) := ⟨rfl, rfl, rfl, by decide +kernel, rfl, by decide +kernel, by decide +kernel⟩
theorem cal_law_bent_rows {f : Addr} {fd : FuncData} (F : FnP K "_law_bent_rows" "_law_bent_rows" s_law_bent_rows f fd) (g : mg "_law_bent_rows" = some (.ref f)) (T : Txt0 mg) (C_law_deep : Cal P w K mg base "_law_deep" 2 ["_law_hand_here"] (spDeep K)) (C_law_any : Cal P w K mg base "_law_any" 2 ["_law_hand_here", "_law_things"] (spAny K)) (C_law_mark : Cal P w K mg base "_law_mark" 1 ["_law_parts"] spMark) (C_law_draw : Cal P w K mg base "_law_draw" 1 ["_law_hand_here", "_law_many"] (spDraw K)) (C_law_odd : Cal P w K mg base "_law_odd" 3 ["_law_hand_here"] (spOdd K)) : Cal P w K mg base "_law_bent_rows" 4 ["_law_hand_here", "_law_rows"] (spBentR K) := by
  obtain ⟨f_law_deep, fd_law_deep, g_law_deep, G_law_deep, b_law_deep, k_law_deep⟩ := C_law_deep
  obtain ⟨f_law_any, fd_law_any, g_law_any, G_law_any, b_law_any, k_law_any⟩ := C_law_any
  obtain ⟨f_law_mark, fd_law_mark, g_law_mark, G_law_mark, b_law_mark, k_law_mark⟩ := C_law_mark
  obtain ⟨f_law_draw, fd_law_draw, g_law_draw, G_law_draw, b_law_draw, k_law_draw⟩ := C_law_draw
  obtain ⟨f_law_odd, fd_law_odd, g_law_odd, G_law_odd, b_law_odd, k_law_odd⟩ := C_law_odd
  refine ⟨f, fd, g, ?_, F.bindsN (fun _ _ _ _ _ _ us hl => match us, hl with | [_, _], _ => rfl), F.kp⟩
  refine F.ok sc_law_bent_rows (fun vs H Q E h => ?_) (fun cdv A outer s H vs Q E hr h => ?_)
  · obtain ⟨d, c, t, xs, rfl, hh, rw, k⟩ := h
    rfl
  · obtain ⟨d, c, t, xs, rfl, hh, rw, k⟩ := h
    refine ⟨_, PSs.nox (pss_cons (ps_par (i := 2) (j := 3) (by rfl) sc_law_bent_rows.nd rfl rfl (by decide) rfl rfl (pa_cons (pe_call G_law_draw (hr.mono (by decide)) (by rfl) g_law_draw k_law_draw b_law_draw .nil pass0 (pa_cons (pv 0) (pa_cons (pe_op op_add (pe_callB My.c_len (by rfl) T.len PySem.boot_len (pa_cons (pv 1) pa_nil)) pe_int) pa_nil))) (pa_cons (pe_call G_law_odd (hr.mono (by decide)) (by rfl) g_law_odd k_law_odd b_law_odd .nil pass0 (pa_cons (pv 0) pa_nil)) pa_nil)) (by rfl))
      (pss_cons (ps_set (i := 4) sc_law_bent_rows.nd rfl (Or.inl rfl) (pe_lst (pa_cons (pe_callTy My.c_listOf (by rfl) T.list boot_list (pa_cons (pv 1) pa_nil)) (pa_cons pe_non (pa_cons pe_dnewK (pa_cons pe_str (pa_cons pe_int (pa_cons (pe_op DX.op_repA (pv 1) pe_int) (pa_cons (pe_tup (pa_cons (pv 1) pa_nil)) (pa_cons (pe_call G_law_deep (hr.mono (by decide)) (by rfl) g_law_deep k_law_deep b_law_deep .nil pass0 (pa_cons (pv 0) pa_nil)) (pa_cons (pe_call G_law_mark (hr.mono (by decide)) (by rfl) g_law_mark k_law_mark b_law_mark .nil pass0 (pa_cons pe_dnewT pa_nil)) (pa_cons (pv 1) pa_nil))))))))))))
      (pss_cons (ps_if (pt_cmpR op_eq (pe_call G_law_draw (hr.mono (by decide)) (by rfl) g_law_draw k_law_draw b_law_draw .nil pass0 (pa_cons (pv 0) (pa_cons pe_int pa_nil))) pe_int (nomark _))
       (pss_one (ps_ret (pe_call G_law_any (hr.mono (by decide)) (by rfl) g_law_any k_law_any b_law_any .nil pass0 (pa_cons (pv 0) (pa_cons (pv 4) pa_nil)))))
       pss_nil)
      (pss_one (ps_ret (pe_call G_law_any (hr.mono (by decide)) (by rfl) g_law_any k_law_any b_law_any .nil pass0 (pa_cons (pv 0) (pa_cons (pe_lst (pa_cons (pe_op op_catA (pe_op op_catA (pe_slice sl_tupA (pv 1) po_none (po_some (pv 2))) (pe_tup (pa_cons (pv 3) pa_nil))) (pe_slice sl_tupA (pv 1) (po_some (pv 2)) po_none)) (pa_cons (pe_op op_catA (pe_op op_catA (pe_slice sl_tupA (pv 1) po_none (po_some (pv 2))) (pe_tup (pa_cons (pv 3) pa_nil))) (pe_slice sl_tupA (pv 1) (po_some (pe_op op_add (pv 2) pe_int)) po_none)) pa_nil))) pa_nil)))))))), ?_⟩
    try dsimp only [cxOf, Cx.nox, Cx.wish]
    have hl := rw.2.1
    walk_at "f"
    refine parS ?_
    walk_at "f"
    refine My.lenT (SqT.of rw.1) ?_
    walk_at "f"
    refine ⟨d, c, _, rfl, by omega, by omega, hh, fun r H1 r0 r1 h1 b1 _ => ?_⟩
    have rw1 := rw.but hh b1
    walk_at "f"
    refine ⟨d, c, rfl, h1, fun one H2 pk2 h2 b2 => ?_⟩
    have rw2 := rw1.but h1 b2
    walk_at "f"
    refine ⟨_, _, rfl, ?_⟩
    walk_at "f"
    refine ⟨t, xs, rfl, .inr (SqT.of rw2.1), ?_⟩
    (intro pl nl; generalize hE : upd _ pl _ = H3; obtain ⟨s3, o3⟩ := new_of nl hE; clear hE)
    walk_at "f"
    (intro p4 n4; generalize hE : upd _ p4 _ = H4; obtain ⟨s4, o4⟩ := new_of n4 hE; clear hE)
    walk_at "f"
    have rw4 := (rw2.same s3).same s4
    refine My.repA rw4.1 (by omega) (by omega) (by omega) fun p5 H5 s5 o5 => ?_
    walk_at "f"
    (refine My.new (My.sz (by simp)) (fun p6 n6 => ?_); generalize hE : upd _ p6 _ = H6; obtain ⟨s6, o6⟩ := new_of n6 hE; clear hE)
    walk_at "f"
    have s36 := ((s3.trans s4).trans s5).trans s6
    have h6 := h2.same s36
    refine ⟨d, c, rfl, h6, fun dv H7 dp h7 b7 => ?_⟩
    walk_at "f"
    (intro p8 n8; generalize hE : upd _ p8 _ = H8; obtain ⟨s8, o8⟩ := new_of n8 hE; clear hE)
    walk_at "f"
    refine ⟨.ref p8, rfl, ?_⟩
    (intro p9 n9; generalize hE : upd _ p9 _ = H9; obtain ⟨s9, o9⟩ := new_of n9 hE; clear hE)
    walk_at "f"
    (refine My.new (My.sz (by simp)) (fun pa na => ?_); generalize hE : upd _ pa _ = HA; obtain ⟨sa, oa⟩ := new_of na hE; clear hE)
    walk_at "f"
    have s7A := (s8.trans s9).trans sa
    have hA := h7.same s7A
    have b6A : But d H6 HA := b7.trans (Same.but s7A)
    have rw6 := rw2.same s36
    have rwA := rw6.but h6 b6A
    have pkA : ∀ {n : Nat} {w : V}, Pk d H6 n w → Pk d HA n w := fun q => q.keep h6.dko b6A
    have pk6 : ∀ {n : Nat} {w : V}, Pk d H2 n w → Pk d H6 n w := fun q => q.same h2.dko s36
    have n4d : p4 ≠ d := fun z => by
      obtain ⟨_, hd⟩ := (h2.same s3).dk
      rw [z, hd] at n4
      cases n4
    have un : Unm H6 xs := by
      refine ⟨fun l2 => ?_, fun i z => by
        obtain ⟨m, ⟨a, b, e, ha, hb⟩, w⟩ := rw6.2.2 _ (List.mem_iff_getElem?.mpr ⟨0, z⟩)
        cases e⟩
      have hx : xs[0]? = some xs[0] := List.getElem?_eq_getElem (by omega)
      obtain ⟨m, ⟨a, b, e, ha, hb⟩, w⟩ := rw6.2.2 _ (List.mem_iff_getElem?.mpr ⟨0, hx⟩)
      exact ⟨a, _, by rw [hx, e], ha⟩
    have x1 : Pk d HA 2 (.ref pl) := pkA (.inr (.inr (.inr (.inl ⟨pl, xs, rfl, (((s4.trans s5).trans s6)) _ _ o3, un, by omega, fun x hx => rw6.pk x hx⟩))))
    have x2 : Pk d HA 2 (.ref p4) := pkA (.inr (.inr (.inr (.inr ⟨p4, _, rfl, (s5.trans s6) _ _ o4, n4d⟩))))
    have x3 : Pk d HA 2 (.ref p5) := pkA (pk_flats (s6 _ _ o5) (by rw [My.rep_len]; show 7 * xs.length ≤ 1000; omega) fun x hx => rw6.pk x (My.rep_mem hx))
    have xt : Pk d H6 2 (.ref t) := pk_flats rw6.1 (by omega) rw6.pk
    have x4 : Pk d HA 3 (.ref p6) := pkA (pk_flats o6 (by simp) fun x hx => by rw [List.mem_singleton.mp hx]; exact xt)
    have x5 : Pk d HA 24 dv := dp.pk.same h7.dko s7A
    have x6 : Pk d HA 1 (.ref p9) := .inr (.inl ⟨[], ⟨p9, p8, rfl, sa _ _ o9, (s9.trans sa) _ _ o8⟩, wf_nil⟩)
    have bA : But d H HA := ((b1.trans b2).trans (Same.but s36)).trans b6A
    refine ⟨d, c, 3, rfl, by decide, by decide, hA, fun r2 HB _ _ hB bB _ => ?_⟩
    have pkB : ∀ {n : Nat} {w : V}, Pk d HA n w → Pk d HB n w := fun q => q.keep hA.dko bB
    have oaB := bB.obj hA oa (fun _ z => by cases z)
    have bHB := bA.trans bB
    have rwB := rwA.but hA bB
    walk_at "f"
    · refine ⟨d, c, pa, _, rfl, hB, SqL.of oaB, by simp, by simp, fun y HC hy hC bC _ => ?_⟩
      refine k y HC ?_ hC (bHB.trans bC)
      have fin : ∀ {n : Nat} {w : V}, Pk d HA n w → n ≤ 30 → Pk d HC 30 w := fun q l => ((pkB q).keep hB.dko bC).mono l
      simp only [List.mem_cons, List.not_mem_nil, or_false] at hy
      rcases hy with rfl | rfl | rfl | rfl | rfl | rfl | rfl | rfl | rfl | rfl
      · exact fin x1 (by decide)
      · exact .inl rfl
      · exact fin x2 (by decide)
      · exact .inl rfl
      · exact .inl rfl
      · exact fin x3 (by decide)
      · exact fin x4 (by decide)
      · exact fin x5 (by decide)
      · exact fin x6 (by decide)
      · exact fin (pkA xt) (by decide)
    · have pk1 : Pk d HB 25 one := pkB (pkA (pk6 pk2))
      have cl : ∀ lo hi, (cutV xs lo hi).length ≤ 6 := fun lo hi => Nat.le_trans (cutV_length _ _ _) hl
      refine My.slA rwB.1 fun q1 J1 j1 w1 => ?_
      walk_at "f"
      (refine My.new (My.sz (by simp)) (fun q2 m2 => ?_); generalize hE : upd _ q2 _ = J2; obtain ⟨j2, w2⟩ := new_of m2 hE; clear hE)
      walk_at "f"
      refine My.catA (j2 _ _ w1) w2 (by have := cl none (some r); simp; omega) fun q3 J3 j3 w3 => ?_
      walk_at "f"
      have i3 := (j1.trans j2).trans j3
      refine My.slA (i3 _ _ rwB.1) fun q4 J4 j4 w4 => ?_
      walk_at "f"
      refine My.catA (j4 _ _ w3) w4 (by have := cl none (some r); have := cl (some r) none; simp; omega) fun q5 J5 j5 w5 => ?_
      walk_at "f"
      have i5 := (i3.trans j4).trans j5
      refine My.slA (i5 _ _ rwB.1) fun q6 J6 j6 w6 => ?_
      walk_at "f"
      (refine My.new (My.sz (by simp)) (fun q7 m7 => ?_); generalize hE : upd _ q7 _ = J7; obtain ⟨j7, w7⟩ := new_of m7 hE; clear hE)
      walk_at "f"
      refine My.catA (j7 _ _ w6) w7 (by have := cl none (some r); simp; omega) fun q8 J8 j8 w8 => ?_
      walk_at "f"
      have i8 := ((i5.trans j6).trans j7).trans j8
      refine My.slA (i8 _ _ rwB.1) fun q9 J9 j9 w9 => ?_
      walk_at "f"
      refine My.catA (j9 _ _ w8) w9 (by have := cl none (some r); have := cl (some (r + 1)) none; simp; omega) fun qa JA ja wa => ?_
      walk_at "f"
      (refine My.new (My.sz (by simp)) (fun qb mb => ?_); generalize hE : upd _ qb _ = JB; obtain ⟨jb, wb⟩ := new_of mb hE; clear hE)
      walk_at "f"
      have iB := ((i8.trans j9).trans ja).trans jb
      have hJ := hB.same iB
      refine ⟨d, c, qb, _, rfl, hJ, SqL.of wb, by simp, by simp, fun y HC hy hC bC _ => ?_⟩
      refine k y HC ?_ hC ((bHB.trans (Same.but iB)).trans bC)
      have it : ∀ lo hi lo' hi', ∀ x ∈ cutV xs lo hi ++ [one] ++ cutV xs lo' hi', Pk d JB 26 x := fun lo hi lo' hi' x hx => by
        rw [List.mem_append, List.mem_append, List.mem_singleton] at hx
        have rx : ∀ x ∈ xs, Pk d JB 26 x := fun x hx => ((rwB.pk x hx).same hB.dko iB).mono (by decide)
        rcases hx with (hx | rfl) | hx
        · exact rx x (My.cut_mem hx)
        · exact (pk1.same hB.dko iB).mono (by decide)
        · exact rx x (My.cut_mem hx)
      have ln : ∀ lo hi lo' hi', (cutV xs lo hi ++ [one] ++ cutV xs lo' hi').length ≤ 1000 := fun lo hi lo' hi' => by
        have := cl lo hi; have := cl lo' hi'; simp; omega
      have j5B := (((((j6.trans j7).trans j8).trans j9).trans ja).trans jb)
      have y1 : Pk d JB 27 (.ref q5) := pk_flats (j5B _ _ w5) (ln _ _ _ _) (it _ _ _ _)
      have y2 : Pk d JB 27 (.ref qa) := pk_flats (jb _ _ wa) (ln _ _ _ _) (it _ _ _ _)
      simp only [List.mem_cons, List.not_mem_nil, or_false] at hy
      rcases hy with rfl | rfl
      · exact (y1.keep hJ.dko bC).mono (by decide)
      · exact (y2.keep hJ.dko bC).mono (by decide)
end
end K09

set_option Elab.async false
set_option linter.all false
set_option maxRecDepth 100000
set_option maxHeartbeats 4000000
namespace K09
open PySem PySem.Spec PyProof.Rows L2 XV DX XF He
def spFlag : Sp := fun vs H Q _ => ∃ (a b : Bool), vs = [.bl a, .bl b] ∧ Q (.bl (decide (a = b))) H
def spBentP (K : PySem.W.Frag) : Sp := fun vs H Q _ => ∃ (d c e f : Addr) (m : Int) (xs ys : List V), vs = [.ref d, .int m, .ref e, .ref f] ∧ Hand K H d c ∧ Rows H e xs ∧ Rows H f ys ∧
  ∀ l v0 v1 v2 H', H' l = some (.lst [v0, v1, v2]) → Pk d H' 30 v0 → Pk d H' 30 v1 → Pk d H' 30 v2 → Hand K H' d c → But d H H' → Q (.ref l) H'
theorem Rows.pk2 {d : Addr} {H : Hp} {t : Addr} {xs : List V} (h : Rows H t xs) : Pk d H 30 (.ref t) := (pk_flats (n := 0) h.1 (by have := h.2.1; omega) h.pk).mono (by decide)
theorem Pk.put {d pl : Addr} {H : Hp} {m : Int} {zs os : List V} (hp : H pl = some (.lst (.int m :: zs))) : ∀ {n : Nat} {v : V}, Pk d H n v → Pk d (upd H pl (.lst os)) n v
  | 0, _, h => h.elim
  | n + 1, v, h => by
    have ne : ∀ {a : Addr} {u : HO}, H a = some u → (∀ l, u = .lst l → l[0]? ≠ some (.int m)) → upd H pl (.lst os) a = some u := fun {a u} e k => by
      rw [upd_ne (fun g => by rw [g, hp] at e; exact k _ (Option.some.inj e).symm rfl)]
      exact e
    rcases h with h | ⟨q, ⟨a, b, e, ha, hb⟩, w⟩ | ⟨a, xs, e, ha, ll, h⟩ | ⟨a, xs, e, ha, u, ll, h⟩ | ⟨a, ks, e, ha, na⟩
    · exact .inl h
    · exact .inr (.inl ⟨q, ⟨a, b, e, ne ha (fun l z => by cases z; intro y; cases y), ne hb (fun l z => by cases z)⟩, w⟩)
    · exact .inr (.inr (.inl ⟨a, xs, e, ne ha (fun l z => by cases z), ll, fun x hx => Pk.put hp (h x hx)⟩))
    · refine .inr (.inr (.inr (.inl ⟨a, xs, e, ne ha (fun l z => by cases z; exact u.2 m), ⟨fun z => ?_, u.2⟩, ll, fun x hx => Pk.put hp (h x hx)⟩)))
      obtain ⟨b, ys, g1, g2⟩ := u.1 z
      by_cases g : b = pl
      · exact ⟨b, os, g1, by rw [g]; exact upd_same⟩
      · exact ⟨b, ys, g1, by rw [upd_ne g]; exact g2⟩
    · exact .inr (.inr (.inr (.inr ⟨a, ks, e, ne ha (fun l z => by cases z), na⟩)))
section
variable {P : Program} {w : World} {K : PySem.W.Frag} {mg : Str → Option Value} {base : Heap}
theorem sc_law_flag : FnScope ["_law_flag_here", "_law_due"] ["_law_flag_here", "_law_due"] (defScope s_law_flag) := ⟨rfl, rfl, rfl, by decide +kernel, rfl, by decide +kernel, by decide +kernel⟩
theorem cal_law_flag {f : Addr} {fd : FuncData} (F : FnP K "_law_flag" "_law_flag" s_law_flag f fd) (g : mg "_law_flag" = some (.ref f)) (T : Txt0 mg) : Cal P w K mg base "_law_flag" 1 ["_law_flag_here", "_law_due"] spFlag := by
  refine ⟨f, fd, g, ?_, F.bindsN (fun _ _ _ _ _ _ us hl => match us, hl with | [_, _], _ => rfl), F.kp⟩
  refine F.ok sc_law_flag (fun vs H Q E h => ?_) (fun cdv A outer s H vs Q E hr h => ?_)
  · obtain ⟨a, b, rfl, k⟩ := h
    rfl
  · obtain ⟨a, b, rfl, k⟩ := h
    refine ⟨_, PSs.nox (pss_one (ps_ret (pe_and (pe_callB call_isi (by rfl) T.isi (by decide +kernel) (pa_cons (pv 0) (pa_cons (pe_bltn (v := .ty "bool") (u := .type "bool") (by rfl) T.bool (by decide +kernel) rfl) pa_nil))) (pe_one (pe_cmpR op_eq (pv 0) (pv 1) (nomark _)))))), ?_⟩
    try dsimp only [cxOf, Cx.nox, Cx.wish]
    walk_at "f"
    refine (TgV.bl a).isT mem6 ?_
    walk_at "f"
    refine ⟨rfl, ?_⟩
    rw [show decide (V.bl a = V.bl b) = decide (a = b) by rw [Bool.eq_iff_iff]; simp]
    exact k
theorem sc_law_bent_parts : FnScope ["_law_hand_here", "_law_many", "_law_equations", "_law_barred", "_law_kind", "_law_parts"] ["_law_hand_here", "_law_many", "_law_equations", "_law_barred"] (defScope s_law_bent_parts) := ⟨rfl, rfl, rfl, by decide +kernel, rfl, by decide +kernel, by decide +kernel⟩
theorem cal_law_bent_parts {f : Addr} {fd : FuncData} (F : FnP K "_law_bent_parts" "_law_bent_parts" s_law_bent_parts f fd) (g : mg "_law_bent_parts" = some (.ref f)) (T : Txt0 mg) (C_law_draw : Cal P w K mg base "_law_draw" 1 ["_law_hand_here", "_law_many"] (spDraw K)) (C_law_any : Cal P w K mg base "_law_any" 2 ["_law_hand_here", "_law_things"] (spAny K)) (C_law_bent_rows : Cal P w K mg base "_law_bent_rows" 4 ["_law_hand_here", "_law_rows"] (spBentR K)) (C_law_deep : Cal P w K mg base "_law_deep" 2 ["_law_hand_here"] (spDeep K)) : Cal P w K mg base "_law_bent_parts" 5 ["_law_hand_here", "_law_many", "_law_equations", "_law_barred"] (spBentP K) := by
  obtain ⟨f_law_draw, fd_law_draw, g_law_draw, G_law_draw, b_law_draw, k_law_draw⟩ := C_law_draw
  obtain ⟨f_law_any, fd_law_any, g_law_any, G_law_any, b_law_any, k_law_any⟩ := C_law_any
  obtain ⟨f_law_bent_rows, fd_law_bent_rows, g_law_bent_rows, G_law_bent_rows, b_law_bent_rows, k_law_bent_rows⟩ := C_law_bent_rows
  obtain ⟨f_law_deep, fd_law_deep, g_law_deep, G_law_deep, b_law_deep, k_law_deep⟩ := C_law_deep
  refine ⟨f, fd, g, ?_, F.bindsN (fun _ _ _ _ _ _ us hl => match us, hl with | [_, _, _, _], _ => rfl), F.kp⟩
  refine F.ok sc_law_bent_parts (fun vs H Q E h => ?_) (fun cdv A outer s H vs Q E hr h => ?_)
  · obtain ⟨d, c, e, f2, m, xs, ys, rfl, hh, rx, ry, k⟩ := h
    rfl
  · obtain ⟨d, c, e, f2, m, xs, ys, rfl, hh, rx, ry, k⟩ := h
    refine ⟨_, PSs.nox (pss_cons (ps_set (i := 4) sc_law_bent_parts.nd rfl (Or.inl rfl) (pe_op op_add pe_int (pe_call G_law_draw (hr.mono (by decide)) (by rfl) g_law_draw k_law_draw b_law_draw .nil pass0 (pa_cons (pv 0) (pa_cons pe_int pa_nil)))))
      (pss_cons (ps_set (i := 5) sc_law_bent_parts.nd rfl (Or.inl rfl) (pe_lst (pa_cons (pv 1) (pa_cons (pv 2) (pa_cons (pv 3) pa_nil)))))
      (pss_cons (ps_if (pt_cmpR op_eq (pe_op op_mod (pe_callTy My.c_int1 (by rfl) T.int boot_int (pa_cons (pv 4) pa_nil)) pe_int) pe_int (nomark _))
       (pss_one (ps_asg (pe_call G_law_bent_rows (hr.mono (by decide)) (by rfl) g_law_bent_rows k_law_bent_rows b_law_bent_rows .nil pass0 (pa_cons (pv 0) (pa_cons (pv 2) pa_nil))) (pg_sub (pv 5) pe_int set_list)))
       pss_nil)
      (pss_cons (ps_if (pt_cmpR op_eq (pe_op op_mod (pe_callTy My.c_int1 (by rfl) T.int boot_int (pa_cons (pe_op op_fdiv (pv 4) pe_int) pa_nil)) pe_int) pe_int (nomark _))
       (pss_one (ps_asg (pe_call G_law_bent_rows (hr.mono (by decide)) (by rfl) g_law_bent_rows k_law_bent_rows b_law_bent_rows .nil pass0 (pa_cons (pv 0) (pa_cons (pv 3) pa_nil))) (pg_sub (pv 5) pe_int set_list)))
       pss_nil)
      (pss_cons (ps_if (pt_cmpR op_eq (pe_op op_fdiv (pv 4) pe_int) pe_int (nomark _))
       (pss_one (ps_asg (pe_call G_law_any (hr.mono (by decide)) (by rfl) g_law_any k_law_any b_law_any .nil pass0 (pa_cons (pv 0) (pa_cons (pe_lst (pa_cons pe_int (pa_cons pe_int (pa_cons (pe_un un_neg pe_int) (pa_cons pe_bl (pa_cons pe_non (pa_cons pe_str (pa_cons (pe_tup (pa_cons pe_int pa_nil)) (pa_cons (pe_lst pa_nil) (pa_cons (pe_op op_pow pe_int pe_int) (pa_cons pe_int (pa_cons pe_int (pa_cons pe_int (pa_cons (pe_call G_law_deep (hr.mono (by decide)) (by rfl) g_law_deep k_law_deep b_law_deep .nil pass0 (pa_cons (pv 0) pa_nil)) pa_nil)))))))))))))) pa_nil))) (pg_sub (pv 5) pe_int set_list)))
       pss_nil)
      (pss_one (ps_ret (pv 5)))))))), ?_⟩
    try dsimp only [cxOf, Cx.nox, Cx.wish]
    walk_at "f"
    refine ⟨d, c, 7, rfl, by decide, by decide, hh, fun r H1 r0 r1 h1 b1 _ => ?_⟩
    have rx1 := rx.but hh b1
    have ry1 := ry.but hh b1
    walk_at "f"
    (refine My.new (My.sz (by simp)) (fun pl nl => ?_); generalize hE : upd _ pl _ = H2; obtain ⟨s2, o2⟩ := new_of nl hE; clear hE)
    have rx1 := rx.but hh b1
    have n0 : H pl = none := by
      cases e0 : H pl with
      | none => rfl
      | some u =>
        by_cases g : pl = d
        · obtain ⟨_, hd⟩ := h1.dk
          rw [g, hd] at nl; cases nl
        · rw [b1 _ _ g e0] at nl; cases nl
    have st3 : ∀ (D : Ends) (H' : Hp) (v1 v2 : V) (kk : Int), D.rt = Q → But d H H' → Hand K H' d c → H' pl = some (.lst [.int m, v1, v2]) → Pk d H' 30 v1 → Pk d H' 30 v2 →
        tSeq (tIfS (tTest (tOp rEq (tOp (rI CDiv fun i j => V.int (i / j)) (tVar 4) (tC (V.int 4))) (tC (V.int 1)))) (tAsg (tCall (spAny K) [] E0 (tCons (tVar 0) (tCons (tLst (tCons (tC (V.int 0)) (tCons (tC (V.int 4)) (tCons (tUn (rU fun i => V.int (-i)) (tC (V.int 1))) (tCons (tC (V.bl true)) (tCons (tC V.non) (tCons (tC (V.str "1")) (tCons (tTup (tCons (tC (V.int 1)) tNil)) (tCons (tLst tNil) (tCons (tOp (rI CPow fun i j => V.int (i ^ j.toNat)) (tC (V.int 10)) (tC (V.int 29))) (tCons (tC (V.int 1)) (tCons (tC (V.int 2)) (tCons (tC (V.int 3)) (tCons (tCall (spDeep K) [] E0 (tCons (tVar 0) tNil)) tNil)))))))))))))) tNil))) (gSub (tVar 5) (tC (V.int 0)) rSetL)) tNext) (tRet (tVar 5)) D [some (.ref d), some (.int m), some (.ref e), some (.ref f2), some (.int kk), some (.ref pl)] H' := by
      rintro D H' v1 v2 kk rfl bH hH hpl p1 p2
      walk_at "f"
      · (refine My.new (My.sz (by simp)) (fun t1 m1 => ?_); generalize hE : upd _ t1 _ = J1; obtain ⟨j1, w1⟩ := new_of m1 hE; clear hE)
        walk_at "f"
        (refine My.new (My.sz (by simp)) (fun t2 m2 => ?_); generalize hE : upd _ t2 _ = J2; obtain ⟨j2, w2⟩ := new_of m2 hE; clear hE)
        walk_at "f"
        have hJ := (hH.same j1).same j2
        refine ⟨d, c, rfl, hJ, fun dv J3 dp h3 b3 => ?_⟩
        walk_at "f"
        (refine My.new (My.sz (by simp)) (fun t4 m4 => ?_); generalize hE : upd _ t4 _ = J4; obtain ⟨j4, w4⟩ := new_of m4 hE; clear hE)
        walk_at "f"
        have h4 := h3.same j4
        refine ⟨d, c, t4, _, rfl, h4, SqL.of w4, by simp, by simp, fun y J5 hy h5 b5 _ => ?_⟩
        have bb : But d H' J5 := (((Same.but (j1.trans j2)).trans b3).trans (Same.but j4)).trans b5
        have hp5 := bb.obj hH hpl (fun _ z => by cases z)
        have tok : Pk d J5 30 y := by
          simp only [List.mem_cons, List.not_mem_nil, or_false] at hy
          rcases hy with rfl | rfl | rfl | rfl | rfl | rfl | rfl | rfl | rfl | rfl | rfl | rfl | rfl
          · exact .inl rfl
          · exact .inl rfl
          · exact .inl rfl
          · exact .inl rfl
          · exact .inl rfl
          · exact .inl rfl
          · have z : Pk d J2 2 (.ref t1) := pk_flats (j2 _ _ w1) (by simp) fun x hx => by rw [List.mem_singleton.mp hx]; exact .inl rfl
            exact (((z.keep hJ.dko b3).same h3.dko j4).keep h4.dko b5).mono (by decide)
          · have z : Pk d J2 2 (.ref t2) := .inr (.inr (.inr (.inl ⟨t2, _, rfl, w2, ⟨(fun z => by simp at z), (fun i z => by simp at z)⟩, (by simp), (fun x hx => by cases hx)⟩)))
            exact (((z.keep hJ.dko b3).same h3.dko j4).keep h4.dko b5).mono (by decide)
          · exact .inl rfl
          · exact .inl rfl
          · exact .inl rfl
          · exact .inl rfl
          · exact ((dp.pk.same h3.dko j4).keep h4.dko b5).mono (by decide)
        have q1 := p1.keep hH.dko bb
        have q2 := p2.keep hH.dko bb
        refine ⟨_, rfl, ?_⟩
        refine ⟨pl, _, 0, 0, rfl, rfl, hp5, rfl, ?_⟩
        walk_at "f"
        exact k pl _ _ _ _ upd_same (tok.put hp5) (q1.put hp5) (q2.put hp5) (Hand.at hh (bH.trans bb) h5 n0) (but_at (bH.trans bb) n0)
      · exact k pl _ _ _ _ hpl (.inl rfl) p1 p2 hH bH
    have st2 : ∀ (D : Ends) (H' : Hp) (v1 : V) (kk : Int), D.rt = Q → But d H H' → Hand K H' d c → H' pl = some (.lst [.int m, v1, .ref f2]) → Pk d H' 30 v1 →
        tSeq (tIfS (tTest (tOp rEq (tOp (rI (fun x j => 0 < j) fun i j => V.int (i % j)) (tCB My.rInt1 (tCons (tOp (rI CDiv fun i j => V.int (i / j)) (tVar 4) (tC (V.int 2))) tNil)) (tC (V.int 2))) (tC (V.int 1)))) (tAsg (tCall (spBentR K) [] E0 (tCons (tVar 0) (tCons (tVar 3) tNil))) (gSub (tVar 5) (tC (V.int 2)) rSetL)) tNext)
          (tSeq (tIfS (tTest (tOp rEq (tOp (rI CDiv fun i j => V.int (i / j)) (tVar 4) (tC (V.int 4))) (tC (V.int 1)))) (tAsg (tCall (spAny K) [] E0 (tCons (tVar 0) (tCons (tLst (tCons (tC (V.int 0)) (tCons (tC (V.int 4)) (tCons (tUn (rU fun i => V.int (-i)) (tC (V.int 1))) (tCons (tC (V.bl true)) (tCons (tC V.non) (tCons (tC (V.str "1")) (tCons (tTup (tCons (tC (V.int 1)) tNil)) (tCons (tLst tNil) (tCons (tOp (rI CPow fun i j => V.int (i ^ j.toNat)) (tC (V.int 10)) (tC (V.int 29))) (tCons (tC (V.int 1)) (tCons (tC (V.int 2)) (tCons (tC (V.int 3)) (tCons (tCall (spDeep K) [] E0 (tCons (tVar 0) tNil)) tNil)))))))))))))) tNil))) (gSub (tVar 5) (tC (V.int 0)) rSetL)) tNext) (tRet (tVar 5))) D [some (.ref d), some (.int m), some (.ref e), some (.ref f2), some (.int kk), some (.ref pl)] H' := by
      intro D H' v1 kk hD bH hH hpl p1
      have rf := ry.but hh bH
      refine My.seq (My.ifs (My.test (My.op (My.op (My.callB (My.cons (My.op (My.var rfl (My.cst (My.divP (by decide) (by decide) (My.nil (My.int1 (My.cst (My.modA (by decide) fun r _ _ => My.cst (My.rEqI ⟨_, rfl, My.ite_d (fun _ => ?_) fun _ => My.next (st3 _ H' v1 _ kk hD bH hH hpl p1 rf.pk2)⟩)))))))))))))))
      walk_at "f"
      refine ⟨d, c, f2, ys, rfl, hH, rf, fun v J1 pv h1 b1 => ?_⟩
      have hp1 := b1.obj hH hpl (fun _ z => by cases z)
      refine ⟨_, rfl, pl, _, 2, 2, rfl, rfl, hp1, rfl, ?_⟩
      exact st3 _ _ _ _ kk hD (but_at (bH.trans b1) n0) (Hand.at hh (bH.trans b1) h1 n0) upd_same ((p1.keep hH.dko b1).put hp1) (pv.put hp1)
    have bH2 : But d H H2 := b1.trans (Same.but s2)
    have hH2 := h1.same s2
    have re2 := rx.but hh bH2
    refine My.seq (My.ifs (My.test (My.op (My.op (My.callB (My.cons (My.var rfl (My.nil (My.int1 (My.cst (My.modA (by decide) fun r' _ _ => My.cst (My.rEqI ⟨_, rfl, My.ite_d (fun _ => ?_) fun _ => My.next (st2 _ H2 _ _ rfl bH2 hH2 o2 re2.pk2)⟩))))))))))))
    walk_at "f"
    refine ⟨d, c, e, xs, rfl, hH2, re2, fun v J1 pv hj bj => ?_⟩
    have hp1 := bj.obj hH2 o2 (fun _ z => by cases z)
    refine ⟨_, rfl, pl, _, 1, 1, rfl, rfl, hp1, rfl, ?_⟩
    exact st2 _ _ _ _ rfl (but_at (bH2.trans bj) n0) (Hand.at hh (bH2.trans bj) hj n0) upd_same (pv.put hp1)
end
end K09

set_option Elab.async false
set_option linter.all false
set_option maxRecDepth 100000
set_option maxHeartbeats 4000000
namespace K09
open PySem PySem.Spec PyProof.Rows L2 XV DX XF He
theorem upd_of {H H' : Hp} {p : Addr} {o : HO} (e : upd H p o = H') : H' p = some o := by
  subst e
  exact upd_same
/-- what keeps kinds: each object stays, a list stays a list, a dict a dict -/
structure Kd (H H' : Hp) : Prop where
  o : ∀ a u, H a = some u → (∀ l, u ≠ .lst l) → (∀ l, u ≠ .dK l) → H' a = some u
  l : ∀ a xs, H a = some (.lst xs) → ∃ ys, H' a = some (.lst ys)
  d : ∀ a xs, H a = some (.dK xs) → ∃ ys, H' a = some (.dK ys)
theorem Kd.trans {A B C : Hp} (f : Kd A B) (g : Kd B C) : Kd A C :=
  ⟨fun a u e n1 n2 => g.o _ _ (f.o _ _ e n1 n2) n1 n2, fun a xs e => by obtain ⟨ys, e⟩ := f.l _ _ e; exact g.l _ _ e, fun a xs e => by obtain ⟨ys, e⟩ := f.d _ _ e; exact g.d _ _ e⟩
theorem _root_.L2.Same.kd {H H' : Hp} (s : Same H H') : Kd H H' := ⟨fun a u e _ _ => s _ _ e, fun a xs e => ⟨xs, s _ _ e⟩, fun a xs e => ⟨xs, s _ _ e⟩⟩
theorem But.kd {K : PySem.W.Frag} {d c : Addr} {H H' : Hp} (h : Hand K H d c) (h' : Hand K H' d c) (b : But d H H') : Kd H H' :=
  ⟨fun a u e n1 n2 => b.obj h e n2, fun a xs e => ⟨xs, b.obj h e (fun _ z => by cases z)⟩, fun a xs e => by
    by_cases g : a = d
    · obtain ⟨ys, hd⟩ := h'.dk
      exact ⟨ys, by rw [g]; exact hd⟩
    · exact ⟨xs, b _ _ g e⟩⟩
theorem put_kd {H : Hp} {l : Addr} {xs ys : List V} (h : H l = some (.lst xs)) : Kd H (upd H l (.lst ys)) :=
  ⟨fun a u e n _ => by rw [upd_ne (fun g => by rw [g, h] at e; exact n _ (Option.some.inj e).symm)]; exact e, fun a zs e => by
    by_cases g : a = l
    · exact ⟨ys, by rw [g]; exact upd_same⟩
    · exact ⟨zs, by rw [upd_ne g]; exact e⟩, fun a zs e => ⟨zs, by rw [upd_ne (fun g => by rw [g, h] at e; cases e)]; exact e⟩⟩
theorem TgV.kd {K : PySem.W.Frag} {H H' : Hp} {v : V} {t : Tg} (s : Kd H H') (h : TgV K H v t) : TgV K H' v t := by
  cases h with
  | non => exact .non
  | bl b => exact .bl b
  | int i => exact .int i
  | str z => exact .str z
  | lst e => obtain ⟨ys, e⟩ := s.l _ _ e; exact .lst e
  | tup e => exact .tup (s.o _ _ e (fun _ z => by cases z) (fun _ z => by cases z))
  | dK e => obtain ⟨ys, e⟩ := s.d _ _ e; exact .dK e
  | dT e => exact .dT (s.o _ _ e (fun _ z => by cases z) (fun _ z => by cases z))
  | ins e c => exact .ins (s.o _ _ e (fun _ z => by cases z) (fun _ z => by cases z)) c
theorem Kd.t {H H' : Hp} (s : Kd H H') {a : Addr} {xs : List V} (e : H a = some (.tup xs)) : H' a = some (.tup xs) := s.o _ _ e (fun _ z => by cases z) (fun _ z => by cases z)
theorem FrI.kd {K : PySem.W.Frag} {H H' : Hp} {x : V} {b : Bool} (s : Kd H H') (h : FrI K H x b) : FrI K H' x b := by
  rcases h with ⟨t, tv, h⟩ | ⟨a, ys, e, h1, h⟩ | ⟨a, u, v, tu, tv, e, h1, h2, h3, h⟩
  · exact .inl ⟨t, TgV.kd s tv, h⟩
  · exact .inr (.inl ⟨a, ys, e, s.t h1, h⟩)
  · exact .inr (.inr ⟨a, u, v, tu, tv, e, s.t h1, TgV.kd s h2, TgV.kd s h3, h⟩)
theorem NotPt.kd {K : PySem.W.Frag} {H H' : Hp} {m : Int} {v : V} (s : Kd H H') (h : NotPt K H m v) : NotPt K H' m v := by
  rcases h with ⟨t, tv, h⟩ | ⟨a, xs, e, h1, h⟩
  · exact .inl ⟨t, TgV.kd s tv, h⟩
  · refine .inr ⟨a, xs, e, s.t h1, ?_⟩
    rcases h with h | ⟨h, h2, h3⟩
    · exact .inl h
    · exact .inr ⟨h, h2, fun x hx => (h3 x hx).kd s⟩
theorem BadStep.kd {K : PySem.W.Frag} {H H' : Hp} {x : V} (s : Kd H H') (h : BadStep K H x) : BadStep K H' x := by
  rcases h with ⟨t, tv, h⟩ | ⟨a, ys, e, h1, h⟩ | ⟨a, u, v, e, h1, h⟩
  · exact .inl ⟨t, TgV.kd s tv, h⟩
  · exact .inr (.inl ⟨a, ys, e, s.t h1, h⟩)
  · exact .inr (.inr ⟨a, u, v, e, s.t h1, h⟩)
theorem PolysAt.kd {C : Addr} {H H' : Hp} {a : Addr} {ts : List Pol} (s : Kd H H') (h : PolysAt C H a ts) : PolysAt C H' a ts := by
  obtain ⟨xs, h1, h2⟩ := h
  exact ⟨xs, s.t h1, Paired.mapP h2 fun x p ⟨a, e, dx, t, g1, rs, g2, g3⟩ => ⟨a, e, dx, t, s.o _ _ g1 (fun _ z => by cases z) (fun _ z => by cases z), rs, s.t g2, Paired.mapP g3 fun r p ⟨q, f1, f2⟩ => ⟨q, s.t f1, s.t f2⟩⟩⟩
theorem SysAt.kd {C S : Addr} {H H' : Hp} {a : Addr} {m : Int} {ps qs : List Pol} (s : Kd H H') (h : SysAt C S H a m ps qs) : SysAt C S H' a m ps qs := by
  obtain ⟨dx, e, f, h1, h2, h3⟩ := h
  exact ⟨dx, e, f, s.o _ _ h1 (fun _ z => by cases z) (fun _ z => by cases z), h2.kd s, h3.kd s⟩
theorem Dp.fr {K : PySem.W.Frag} {d : Addr} {H : Hp} {n : Nat} {v : V} (h : Dp d H n v) : FrI K H v false := by
  cases n with
  | zero => exact h.elim
  | succ n =>
    rcases h with ⟨h, _⟩ | ⟨a, xs, rfl, ha, l, _⟩ | ⟨a, xs, rfl, ha, l, _⟩ | ⟨a, ks, rfl, ha, _⟩
    · cases v with
      | non => exact .inl ⟨_, .non, rfl, rfl⟩
      | bl b => exact .inl ⟨_, .bl b, rfl, rfl⟩
      | int i => exact .inl ⟨_, .int i, rfl, rfl⟩
      | str z => exact .inl ⟨_, .str z, rfl, rfl⟩
      | _ => cases h
    · exact .inr (.inl ⟨a, xs, rfl, ha, by omega, rfl⟩)
    · exact .inl ⟨_, .lst ha, rfl, rfl⟩
    · exact .inl ⟨_, .dK ha, rfl, rfl⟩
theorem Dp.np {K : PySem.W.Frag} {d : Addr} {H : Hp} {n : Nat} {v : V} {m : Int} (m1 : 1 ≤ m) (h : Dp d H n v) : NotPt K H m v := by
  cases n with
  | zero => exact h.elim
  | succ n =>
    rcases h with ⟨h, _⟩ | ⟨a, xs, rfl, ha, l, hx⟩ | ⟨a, xs, rfl, ha, l, _⟩ | ⟨a, ks, rfl, ha, _⟩
    · cases v with
      | non => exact .inl ⟨_, .non, rfl⟩
      | bl b => exact .inl ⟨_, .bl b, rfl⟩
      | int i => exact .inl ⟨_, .int i, rfl⟩
      | str z => exact .inl ⟨_, .str z, rfl⟩
      | _ => cases h
    · refine .inr ⟨a, xs, rfl, ha, ?_⟩
      by_cases g : (xs.length : Int) = m
      · exact .inr ⟨by omega, by omega, fun x hx' => (hx x hx').fr⟩
      · exact .inl g
    · exact .inl ⟨_, .lst ha, rfl⟩
    · exact .inl ⟨_, .dK ha, rfl⟩
theorem np_rep {K : PySem.W.Frag} {H : Hp} {a : Addr} {x : V} {k m : Int} (h : H a = some (.tup (List.replicate k.toNat [x]).flatten)) (k0 : 0 ≤ k) (k9 : k ≤ 9) (g : k ≠ m ∨ (1 ≤ k ∧ FrI K H x false)) : NotPt K H m (.ref a) := by
  have l : (List.replicate k.toNat [x]).flatten.length = k.toNat := by rw [My.rep_len]; simp
  refine .inr ⟨a, _, rfl, h, ?_⟩
  rw [l]
  rcases g with g | ⟨g1, g2⟩
  · exact .inl (by omega)
  · exact .inr ⟨by omega, by omega, fun y hy => by rw [List.mem_singleton.mp (My.rep_mem hy)]; exact g2⟩
def spOddT (K : PySem.W.Frag) (C S : Addr) : Sp := fun vs H Q _ => ∃ (d c a : Addr) (m : Int) (ps qs : List Pol), vs = [.ref d, .ref a, .int m] ∧ 1 ≤ m ∧ m ≤ 3 ∧ Hand K H d c ∧ SysAt C S H a m ps qs ∧ ∀ H', Hand K H' d c → But d H H' → Q (.bl true) H'
section
variable {P : Program} {w : World} {K : PySem.W.Frag} {mg : Str → Option Value} {base : Heap}
theorem sc_law_is_odd_told : FnScope ["_law_hand_here", "_law_system", "_law_many", "_law_odd_here", "_law_thing", "_law_steps"] ["_law_hand_here", "_law_system", "_law_many"] (defScope s_law_is_odd_told) := ⟨rfl, rfl, rfl, by decide +kernel, rfl, by decide +kernel, by decide +kernel⟩
theorem cal_law_is_odd_told {f : Addr} {fd : FuncData} {C fI fE S sI sE : Addr} (F : FnP K "_law_is_odd_told" "_law_is_odd_told" s_law_is_odd_told f fd) (g : mg "_law_is_odd_told" = some (.ref f)) (T : Txt0 mg) (C_law_any : Cal P w K mg base "_law_any" 2 ["_law_hand_here", "_law_things"] (spAny K)) (C_law_deep : Cal P w K mg base "_law_deep" 2 ["_law_hand_here"] (spDeep K)) (C_law_flag : Cal P w K mg base "_law_flag" 1 ["_law_flag_here", "_law_due"] spFlag) (C_is_root : Cal P w K mg base "is_root" 4 ["system", "thing"] (spRoot K C S)) (C_cover_fault : Cal P w K mg base "cover_fault" 3 ["system", "thing"] (spFault K C S)) (C_is_cover : Cal P w K mg base "is_cover" 4 ["system", "thing"] (spCover K C S)) (C_law_draw : Cal P w K mg base "_law_draw" 1 ["_law_hand_here", "_law_many"] (spDraw K)) (PT : PolF K mg C fI fE) (ST : SysF K mg S sI sE) : Cal P w K mg base "_law_is_odd_told" 6 ["_law_hand_here", "_law_system", "_law_many"] (spOddT K C S) := by
  obtain ⟨f_law_any, fd_law_any, g_law_any, G_law_any, b_law_any, k_law_any⟩ := C_law_any
  obtain ⟨f_law_deep, fd_law_deep, g_law_deep, G_law_deep, b_law_deep, k_law_deep⟩ := C_law_deep
  obtain ⟨f_law_flag, fd_law_flag, g_law_flag, G_law_flag, b_law_flag, k_law_flag⟩ := C_law_flag
  obtain ⟨f_is_root, fd_is_root, g_is_root, G_is_root, b_is_root, k_is_root⟩ := C_is_root
  obtain ⟨f_cover_fault, fd_cover_fault, g_cover_fault, G_cover_fault, b_cover_fault, k_cover_fault⟩ := C_cover_fault
  obtain ⟨f_is_cover, fd_is_cover, g_is_cover, G_is_cover, b_is_cover, k_is_cover⟩ := C_is_cover
  obtain ⟨f_law_draw, fd_law_draw, g_law_draw, G_law_draw, b_law_draw, k_law_draw⟩ := C_law_draw
  refine ⟨f, fd, g, ?_, F.bindsN (fun _ _ _ _ _ _ us hl => match us, hl with | [_, _, _], _ => rfl), F.kp⟩
  refine F.ok sc_law_is_odd_told (fun vs H Q E h => ?_) (fun cdv A outer s H vs Q E hr h => ?_)
  · obtain ⟨d, c, a, m, ps, qs, rfl, m1, m3, hh, hs, k⟩ := h
    rfl
  · obtain ⟨d, c, a, m, ps, qs, rfl, m1, m3, hh, hs, k⟩ := h
    refine ⟨_, PSs.nox (pss_cons (ps_set (i := 3) sc_law_is_odd_told.nd rfl (Or.inl rfl) (pe_lst (pa_cons pe_non (pa_cons pe_int (pa_cons pe_str (pa_cons (pe_op op_rep (pe_lst (pa_cons (pe_tup (pa_cons pe_int (pa_cons pe_int pa_nil))) pa_nil)) (pv 2)) (pa_cons (pe_op DX.op_repA (pe_tup (pa_cons (pe_tup (pa_cons pe_int (pa_cons pe_int pa_nil))) pa_nil)) (pe_op op_add (pv 2) pe_int)) (pa_cons (pe_op DX.op_repA (pe_tup (pa_cons (pe_tup (pa_cons pe_int (pa_cons pe_int pa_nil))) pa_nil)) (pe_op op_sub (pv 2) pe_int)) (pa_cons (pe_op DX.op_repA (pe_tup (pa_cons (pe_tup (pa_cons pe_int (pa_cons pe_int pa_nil))) pa_nil)) (pv 2)) (pa_cons pe_dnewK pa_nil))))))))))
      (pss_cons (ps_expr (pe_bm PySem.F.plainAttrs_list PySem.F.slot_list_extend PySem.F.type_list_extend mt_extend (pv 3) (pa_cons (pe_lst (pa_cons (pv 1) (pa_cons (pe_op DX.op_repA (pe_tup (pa_cons (pe_tup (pa_cons pe_bl (pa_cons pe_int pa_nil))) pa_nil)) (pv 2)) (pa_cons (pe_op DX.op_repA (pe_tup (pa_cons (pe_tup (pa_cons pe_int (pa_cons pe_bl pa_nil))) pa_nil)) (pv 2)) (pa_cons (pe_op DX.op_repA (pe_tup (pa_cons (pe_tup (pa_cons pe_int (pa_cons (pe_un un_neg pe_int) pa_nil))) pa_nil)) (pv 2)) (pa_cons (pe_op DX.op_repA (pe_tup (pa_cons (pe_tup (pa_cons pe_int (pa_cons pe_int pa_nil))) pa_nil)) (pv 2)) (pa_cons (pe_op DX.op_repA (pe_tup (pa_cons pe_int pa_nil)) (pv 2)) pa_nil))))))) pa_nil)))
      (pss_cons (ps_if (pt_not (pt_val (pe_call G_law_flag (hr.mono (by decide)) (by rfl) g_law_flag k_law_flag b_law_flag .nil pass0 (pa_cons (pe_call G_is_root (hr.mono (by decide)) (by rfl) g_is_root k_is_root b_is_root .nil pass0 (pa_cons (pv 1) (pa_cons (pe_call G_law_any (hr.mono (by decide)) (by rfl) g_law_any k_law_any b_law_any .nil pass0 (pa_cons (pv 0) (pa_cons (pe_op op_cat (pv 3) (pe_lst (pa_cons (pe_call G_law_deep (hr.mono (by decide)) (by rfl) g_law_deep k_law_deep b_law_deep .nil pass0 (pa_cons (pv 0) pa_nil)) pa_nil))) pa_nil))) pa_nil))) (pa_cons pe_bl pa_nil)))))
       (pss_one (ps_ret pe_bl))
       pss_nil)
      (pss_cons (ps_set (i := 4) sc_law_is_odd_told.nd rfl (Or.inl rfl) (pe_call G_law_any (hr.mono (by decide)) (by rfl) g_law_any k_law_any b_law_any .nil pass0 (pa_cons (pv 0) (pa_cons (pe_lst (pa_cons pe_non (pa_cons pe_int (pa_cons pe_str (pa_cons (pe_lst pa_nil) (pa_cons pe_dnewK (pa_cons pe_bl (pa_cons (pv 1) (pa_cons (pe_lst (pa_cons (pe_tup (pa_cons pe_str (pa_cons (pe_tup pa_nil) (pa_cons (pe_tup pa_nil) pa_nil)))) pa_nil)) pa_nil))))))))) pa_nil))))
      (pss_cons (ps_if (PW.pt (pw_or (pt_cmpR op_ne (pe_call G_cover_fault (hr.mono (by decide)) (by rfl) g_cover_fault k_cover_fault b_cover_fault .nil pass0 (pa_cons (pv 1) (pa_cons (pv 4) pa_nil))) (pe_un un_neg pe_int) (nomark _)) (pw_or1 (pt_not (pt_val (pe_call G_law_flag (hr.mono (by decide)) (by rfl) g_law_flag k_law_flag b_law_flag .nil pass0 (pa_cons (pe_call G_is_cover (hr.mono (by decide)) (by rfl) g_is_cover k_is_cover b_is_cover .nil pass0 (pa_cons (pv 1) (pa_cons (pv 4) pa_nil))) (pa_cons pe_bl pa_nil))))))))
       (pss_one (ps_ret pe_bl))
       pss_nil)
      (pss_cons (ps_set (i := 5) sc_law_is_odd_told.nd rfl (Or.inl rfl) (pe_lst (pa_cons pe_non (pa_cons (pe_tup pa_nil) (pa_cons pe_str (pa_cons (pe_tup (pa_cons pe_str pa_nil)) (pa_cons (pe_lst (pa_cons pe_str (pa_cons pe_int pa_nil))) (pa_cons (pe_tup (pa_cons pe_str (pa_cons pe_int pa_nil))) (pa_cons (pe_tup (pa_cons pe_str (pa_cons (pe_tup pa_nil) pa_nil))) (pa_cons (pe_tup (pa_cons pe_int pa_nil)) (pa_cons (pe_tup (pa_cons pe_str (pa_cons pe_int pa_nil))) (pa_cons (pe_tup (pa_cons (pe_tup pa_nil) pa_nil)) (pa_cons pe_int pa_nil)))))))))))))
      (pss_cons (ps_set (i := 4) sc_law_is_odd_told.nd rfl (Or.inl rfl) (pe_op DX.op_repA (pe_tup (pa_cons (pe_call G_law_any (hr.mono (by decide)) (by rfl) g_law_any k_law_any b_law_any .nil pass0 (pa_cons (pv 0) (pa_cons (pv 5) pa_nil))) pa_nil)) (pe_op op_add pe_int (pe_call G_law_draw (hr.mono (by decide)) (by rfl) g_law_draw k_law_draw b_law_draw .nil pass0 (pa_cons (pv 0) (pa_cons pe_int pa_nil))))))
      (pss_cons (ps_if (PW.pt (pw_or (pt_cmpR op_ne (pe_call G_cover_fault (hr.mono (by decide)) (by rfl) g_cover_fault k_cover_fault b_cover_fault .nil pass0 (pa_cons (pv 1) (pa_cons (pv 4) pa_nil))) pe_int (nomark _)) (pw_or1 (pt_val (pe_callB call_isi (by rfl) T.isi (by decide +kernel) (pa_cons (pe_call G_cover_fault (hr.mono (by decide)) (by rfl) g_cover_fault k_cover_fault b_cover_fault .nil pass0 (pa_cons (pv 1) (pa_cons (pv 4) pa_nil))) (pa_cons (pe_bltn (v := .ty "bool") (u := .type "bool") (by rfl) T.bool (by decide +kernel) rfl) pa_nil)))))))
       (pss_one (ps_ret pe_bl))
       pss_nil)
      (pss_one (ps_ret (pe_and (pe_cmpR op_eq (pe_call G_cover_fault (hr.mono (by decide)) (by rfl) g_cover_fault k_cover_fault b_cover_fault .nil pass0 (pa_cons (pv 1) (pa_cons (pe_tup pa_nil) pa_nil))) pe_int (nomark _)) (pe_one (pe_call G_law_flag (hr.mono (by decide)) (by rfl) g_law_flag k_law_flag b_law_flag .nil pass0 (pa_cons (pe_call G_is_cover (hr.mono (by decide)) (by rfl) g_is_cover k_is_cover b_is_cover .nil pass0 (pa_cons (pv 1) (pa_cons (pe_tup pa_nil) pa_nil))) (pa_cons pe_bl pa_nil))))))))))))))), ?_⟩
    try dsimp only [cxOf, Cx.nox, Cx.wish]
    walk_at "f"
    (refine My.new (My.sz (by simp)) (fun p1 n1 => ?_); generalize hE : upd _ p1 _ = H1; obtain ⟨s1, o1⟩ := new_of n1 hE; clear hE)
    walk_at "f"
    (refine My.new (My.sz (by simp)) (fun p2 n2 => ?_); generalize hE : upd _ p2 _ = H2; obtain ⟨s2, o2⟩ := new_of n2 hE; clear hE)
    walk_at "f"
    refine ⟨_, _, _, rfl, rfl, o2, by omega, by omega, by show 1 * m.toNat ≤ sizeLine; exact Nat.le_trans (show 1 * m.toNat ≤ 1000 by omega) (by decide), ?_⟩
    (intro p3 n3; generalize hE : upd _ p3 _ = H3; obtain ⟨s3, o3⟩ := new_of n3 hE; clear hE)
    walk_at "f"
    (refine My.new (My.sz (by simp)) (fun p4 n4 => ?_); generalize hE : upd _ p4 _ = H4; obtain ⟨s4, o4⟩ := new_of n4 hE; clear hE)
    walk_at "f"
    (refine My.new (My.sz (by simp)) (fun p5 n5 => ?_); generalize hE : upd _ p5 _ = H5; obtain ⟨s5, o5⟩ := new_of n5 hE; clear hE)
    walk_at "f"
    refine My.repA o5 (by omega) (by omega) (by show 1 ≤ 1000; decide) fun p6 H6 s6 o6 => ?_
    walk_at "f"
    (refine My.new (My.sz (by simp)) (fun p7 n7 => ?_); generalize hE : upd _ p7 _ = H7; obtain ⟨s7, o7⟩ := new_of n7 hE; clear hE)
    walk_at "f"
    (refine My.new (My.sz (by simp)) (fun p8 n8 => ?_); generalize hE : upd _ p8 _ = H8; obtain ⟨s8, o8⟩ := new_of n8 hE; clear hE)
    walk_at "f"
    refine My.repA o8 (by omega) (by omega) (by show 1 ≤ 1000; decide) fun p9 H9 s9 o9 => ?_
    walk_at "f"
    (refine My.new (My.sz (by simp)) (fun p10 n10 => ?_); generalize hE : upd _ p10 _ = H10; obtain ⟨s10, o10⟩ := new_of n10 hE; clear hE)
    walk_at "f"
    (refine My.new (My.sz (by simp)) (fun p11 n11 => ?_); generalize hE : upd _ p11 _ = H11; obtain ⟨s11, o11⟩ := new_of n11 hE; clear hE)
    walk_at "f"
    refine My.repA o11 (by omega) (by omega) (by show 1 ≤ 1000; decide) fun p12 H12 s12 o12 => ?_
    walk_at "f"
    (intro p13 n13; generalize hE : upd _ p13 _ = H13; obtain ⟨s13, o13⟩ := new_of n13 hE; clear hE)
    walk_at "f"
    (refine My.new (My.sz (by simp)) (fun p14 n14 => ?_); generalize hE : upd _ p14 _ = H14; obtain ⟨s14, o14⟩ := new_of n14 hE; clear hE)
    walk_at "f"
    refine My.tyL (SqL.of o14) ?_
    walk_at "f"
    (refine My.new (My.sz (by simp)) (fun p15 n15 => ?_); generalize hE : upd _ p15 _ = H15; obtain ⟨s15, o15⟩ := new_of n15 hE; clear hE)
    walk_at "f"
    (refine My.new (My.sz (by simp)) (fun p16 n16 => ?_); generalize hE : upd _ p16 _ = H16; obtain ⟨s16, o16⟩ := new_of n16 hE; clear hE)
    walk_at "f"
    refine My.repA o16 (by omega) (by omega) (by show 1 ≤ 1000; decide) fun p17 H17 s17 o17 => ?_
    walk_at "f"
    (refine My.new (My.sz (by simp)) (fun p18 n18 => ?_); generalize hE : upd _ p18 _ = H18; obtain ⟨s18, o18⟩ := new_of n18 hE; clear hE)
    walk_at "f"
    (refine My.new (My.sz (by simp)) (fun p19 n19 => ?_); generalize hE : upd _ p19 _ = H19; obtain ⟨s19, o19⟩ := new_of n19 hE; clear hE)
    walk_at "f"
    refine My.repA o19 (by omega) (by omega) (by show 1 ≤ 1000; decide) fun p20 H20 s20 o20 => ?_
    walk_at "f"
    (refine My.new (My.sz (by simp)) (fun p21 n21 => ?_); generalize hE : upd _ p21 _ = H21; obtain ⟨s21, o21⟩ := new_of n21 hE; clear hE)
    walk_at "f"
    (refine My.new (My.sz (by simp)) (fun p22 n22 => ?_); generalize hE : upd _ p22 _ = H22; obtain ⟨s22, o22⟩ := new_of n22 hE; clear hE)
    walk_at "f"
    refine My.repA o22 (by omega) (by omega) (by show 1 ≤ 1000; decide) fun p23 H23 s23 o23 => ?_
    walk_at "f"
    (refine My.new (My.sz (by simp)) (fun p24 n24 => ?_); generalize hE : upd _ p24 _ = H24; obtain ⟨s24, o24⟩ := new_of n24 hE; clear hE)
    walk_at "f"
    (refine My.new (My.sz (by simp)) (fun p25 n25 => ?_); generalize hE : upd _ p25 _ = H25; obtain ⟨s25, o25⟩ := new_of n25 hE; clear hE)
    walk_at "f"
    refine My.repA o25 (by omega) (by omega) (by show 1 ≤ 1000; decide) fun p26 H26 s26 o26 => ?_
    walk_at "f"
    (refine My.new (My.sz (by simp)) (fun p27 n27 => ?_); generalize hE : upd _ p27 _ = H27; obtain ⟨s27, o27⟩ := new_of n27 hE; clear hE)
    walk_at "f"
    refine My.repA o27 (by omega) (by omega) (by show 1 ≤ 1000; decide) fun p28 H28 s28 o28 => ?_
    walk_at "f"
    (refine My.new (My.sz (by simp)) (fun p29 n29 => ?_); generalize hE : upd _ p29 _ = H29; obtain ⟨s29, o29⟩ := new_of n29 hE; clear hE)
    walk_at "f"
    have t28 := s29
    have t27 := s28.trans t28
    have t26 := s27.trans t27
    have t25 := s26.trans t26
    have t24 := s25.trans t25
    have t23 := s24.trans t24
    have t22 := s23.trans t23
    have t21 := s22.trans t22
    have t20 := s21.trans t21
    have t19 := s20.trans t20
    have t18 := s19.trans t19
    have t17 := s18.trans t18
    have t16 := s17.trans t17
    have t15 := s16.trans t16
    have t14 := s15.trans t15
    have t13 := s14.trans t14
    have t12 := s13.trans t13
    have t11 := s12.trans t12
    have t10 := s11.trans t11
    have t9 := s10.trans t10
    have t8 := s9.trans t9
    have t7 := s8.trans t8
    have t6 := s7.trans t7
    have t5 := s6.trans t6
    have t4 := s5.trans t5
    have t3 := s4.trans t4
    have t2 := s3.trans t3
    have t1 := s2.trans t2
    have t0 := s1.trans t1
    have h29 := hh.same t0
    have n14' : H p14 = none := (((((((((((((s1.trans s2).trans s3).trans s4).trans s5).trans s6).trans s7).trans s8).trans s9).trans s10).trans s11).trans s12).trans s13)).free n14
    have l14 := t14 _ _ o14
    refine My.ext l14 o29 (by simp) ?_
    generalize hE : upd H29 p14 _ = H30
    have o30 := upd_of hE
    have k30 : Kd H29 H30 := by rw [← hE]; exact put_kd l14
    have b30 : But d H H30 := by rw [← hE]; exact but_at (Same.but t0) n14'
    have h30 : Hand K H30 d c := by rw [← hE]; exact Hand.at hh (Same.but t0) h29 n14'
    clear hE
    have fi : ∀ (a : Addr) (u v : V) (tu tv : Tg) (H' : Hp), H' a = some (.tup [u, v]) → TgV K H' u tu → TgV K H' v tv → frB u v = false → FrI K H' (.ref a) false := fun a u v tu tv H' e h1 h2 z => .inr (.inr ⟨a, u, v, tu, tv, rfl, e, h1, h2, z.symm⟩)
    have x3 : NotPt K H30 m (.ref p3) := NotPt.kd k30 (.inl ⟨_, .lst (t3 _ _ o3), rfl⟩)
    have x6 : NotPt K H30 m (.ref p6) := NotPt.kd k30 (np_rep (t6 _ _ o6) (by omega) (by omega) (.inl (by omega)))
    have x9 : NotPt K H30 m (.ref p9) := NotPt.kd k30 (np_rep (t9 _ _ o9) (by omega) (by omega) (.inl (by omega)))
    have x12 : NotPt K H30 m (.ref p12) := NotPt.kd k30 (np_rep (t12 _ _ o12) (by omega) (by omega) (.inr ⟨m1, fi p10 _ _ _ _ _ (t10 _ _ o10) (.int 0) (.int 2) (by decide)⟩))
    have x13 : NotPt K H30 m (.ref p13) := NotPt.kd k30 (.inl ⟨_, .dK (t13 _ _ o13), rfl⟩)
    have x17 : NotPt K H30 m (.ref p17) := NotPt.kd k30 (np_rep (t17 _ _ o17) (by omega) (by omega) (.inr ⟨m1, fi p15 _ _ _ _ _ (t15 _ _ o15) (.bl true) (.int 1) (by decide)⟩))
    have x20 : NotPt K H30 m (.ref p20) := NotPt.kd k30 (np_rep (t20 _ _ o20) (by omega) (by omega) (.inr ⟨m1, fi p18 _ _ _ _ _ (t18 _ _ o18) (.int 1) (.bl true) (by decide)⟩))
    have x23 : NotPt K H30 m (.ref p23) := NotPt.kd k30 (np_rep (t23 _ _ o23) (by omega) (by omega) (.inr ⟨m1, fi p21 _ _ _ _ _ (t21 _ _ o21) (.int 1) (.int (-1)) (by decide)⟩))
    have x26 : NotPt K H30 m (.ref p26) := NotPt.kd k30 (np_rep (t26 _ _ o26) (by omega) (by omega) (.inr ⟨m1, fi p24 _ _ _ _ _ (t24 _ _ o24) (.int 1) (.int 0) (by decide)⟩))
    have x28 : NotPt K H30 m (.ref p28) := NotPt.kd k30 (np_rep (t28 _ _ o28) (by omega) (by omega) (.inr ⟨m1, .inl ⟨_, .int 0, rfl, rfl⟩⟩))
    have hs30 : SysAt C S H30 a m ps qs := SysAt.kd k30 (hs.same t0)
    have xs' : NotPt K H30 m (.ref a) := by
      obtain ⟨dx, e, f3, ha, _⟩ := hs30
      exact .inl ⟨_, .ins ha ST.ins, rfl⟩
    walk_at "f"
    refine ⟨d, c, rfl, h30, fun dv H31 dp h31 b31 => ?_⟩
    walk_at "f"
    have hs31 := SysAt.kd (But.kd h30 h31 b31) hs30
    have o31 := b31.obj h30 o30 (fun _ z => by cases z)
    (refine My.new (My.sz (by simp)) (fun p32 n32 => ?_); generalize hE : upd _ p32 _ = H32; obtain ⟨s32, o32⟩ := new_of n32 hE; clear hE)
    walk_at "f"
    refine My.cat (s32 _ _ o31) o32 (by simp) fun p33 n33 => ?_
    generalize hE : upd H32 p33 _ = H33
    obtain ⟨s33, o33⟩ := new_of n33 hE
    clear hE
    walk_at "f"
    have h33 := (h31.same s32).same s33
    have k33 : Kd H30 H33 := (But.kd h30 h31 b31).trans (s32.trans s33).kd
    refine ⟨d, c, p33, _, rfl, h33, SqL.of o33, by simp, by simp, fun y H34 hy h34 b34 _ => ?_⟩
    have kk := But.kd h33 h34 b34
    have k34 := k33.trans kk
    have ny : NotPt K H34 m y := by
      simp only [List.mem_append, List.mem_cons, List.not_mem_nil, or_false, List.cons_append, List.nil_append] at hy
      rcases hy with rfl | rfl | rfl | rfl | rfl | rfl | rfl | rfl | rfl | rfl | rfl | rfl | rfl | rfl | rfl
      · exact .inl ⟨_, .non, rfl⟩
      · exact .inl ⟨_, .int 0, rfl⟩
      · exact .inl ⟨_, .str _, rfl⟩
      · exact x3.kd k34
      · exact x6.kd k34
      · exact x9.kd k34
      · exact x12.kd k34
      · exact x13.kd k34
      · exact xs'.kd k34
      · exact x17.kd k34
      · exact x20.kd k34
      · exact x23.kd k34
      · exact x26.kd k34
      · exact x28.kd k34
      · exact ((dp.np m1).kd (s32.trans s33).kd).kd kk
    have hs34 := SysAt.kd kk (hs31.same (s32.trans s33))
    have b34' : But d H H34 := ((b30.trans b31).trans (Same.but (s32.trans s33))).trans b34
    clear x3 x6 x9 x12 x13 x17 x20 x23 x26 x28 xs' fi hy
    refine ⟨a, y, m, ps, qs, rfl, hs34, ny, fun H35 s35 => ?_⟩
    walk_at "f"
    refine ⟨false, false, rfl, ?_⟩
    refine ⟨_, rfl, ?_⟩
    refine My.ite_nt ?_
    walk_at "f"
    (refine My.new (My.sz (by simp)) (fun p40 n40 => ?_); generalize hE : upd _ p40 _ = H40; obtain ⟨s40, o40⟩ := new_of n40 hE; clear hE)
    walk_at "f"
    (intro p41 n41; generalize hE : upd _ p41 _ = H41; obtain ⟨s41, o41⟩ := new_of n41 hE; clear hE)
    walk_at "f"
    (refine My.new (My.sz (by simp)) (fun p42 n42 => ?_); generalize hE : upd _ p42 _ = H42; obtain ⟨s42, o42⟩ := new_of n42 hE; clear hE)
    walk_at "f"
    (refine My.new (My.sz (by simp)) (fun p43 n43 => ?_); generalize hE : upd _ p43 _ = H43; obtain ⟨s43, o43⟩ := new_of n43 hE; clear hE)
    walk_at "f"
    (refine My.new (My.sz (by simp)) (fun p44 n44 => ?_); generalize hE : upd _ p44 _ = H44; obtain ⟨s44, o44⟩ := new_of n44 hE; clear hE)
    walk_at "f"
    (refine My.new (My.sz (by simp)) (fun p45 n45 => ?_); generalize hE : upd _ p45 _ = H45; obtain ⟨s45, o45⟩ := new_of n45 hE; clear hE)
    walk_at "f"
    (refine My.new (My.sz (by simp)) (fun p46 n46 => ?_); generalize hE : upd _ p46 _ = H46; obtain ⟨s46, o46⟩ := new_of n46 hE; clear hE)
    walk_at "f"
    have e46 := s46
    have e45 := s45.trans e46
    have e44 := s44.trans e45
    have e43 := s43.trans e44
    have e42 := s42.trans e43
    have e41 := s41.trans e42
    have e40 := s40.trans e41
    have s346 := s35.trans e40
    have h46 := h34.same s346
    refine ⟨d, c, p46, _, rfl, h46, SqL.of o46, by simp, by simp, fun y2 H47 hy2 h47 b47 _ => ?_⟩
    have k47 := But.kd h46 h47 b47
    have hs47 := SysAt.kd k47 (hs34.same s346)
    have b47' : But d H H47 := (b34'.trans (Same.but s346)).trans b47
    have cv : CovF K H47 y2 (-1) := by
      have f : ∃ t, TgV K H46 y2 t ∧ t.is "tuple" = false := by
        simp only [List.mem_cons, List.not_mem_nil, or_false] at hy2
        rcases hy2 with rfl | rfl | rfl | rfl | rfl | rfl | rfl | rfl
        · exact ⟨_, .non, rfl⟩
        · exact ⟨_, .int 0, rfl⟩
        · exact ⟨_, .str _, rfl⟩
        · exact ⟨_, .lst (e41 _ _ o40), rfl⟩
        · exact ⟨_, .dK (e42 _ _ o41), rfl⟩
        · exact ⟨_, .bl true, rfl⟩
        · obtain ⟨dx, e, f3, ha, _⟩ := hs34.same s346
          exact ⟨_, .ins ha ST.ins, rfl⟩
        · exact ⟨_, .lst (e46 _ _ o45), rfl⟩
      obtain ⟨t, tv, n⟩ := f
      exact .inl ⟨t, TgV.kd k47 tv, n, rfl⟩
    walk_at "f"
    refine ⟨a, y2, m, ps, qs, -1, rfl, hs47, cv, fun H48 s48 => ?_⟩
    walk_at "f"
    refine My.ite_nd (fun z => absurd rfl z) fun _ => ?_
    have cv48 : CovF K H48 y2 (-1) := by
      rcases cv with ⟨t, tv, n, _⟩ | ⟨_, _, _, _, _, z⟩
      · exact .inl ⟨t, tv.same s48, n, rfl⟩
      · cases z
    walk_at "f"
    refine ⟨a, y2, m, ps, qs, -1, rfl, hs47.same s48, cv48, fun H49 s49 => ?_⟩
    walk_at "f"
    refine ⟨false, false, rfl, ?_⟩
    refine ⟨_, rfl, ?_⟩
    refine My.ite_nt ?_
    walk_at "f"
    (refine My.new (My.sz (by simp)) (fun p50 n50 => ?_); generalize hE : upd _ p50 _ = H50; obtain ⟨s50, o50⟩ := new_of n50 hE; clear hE)
    walk_at "f"
    (refine My.new (My.sz (by simp)) (fun p51 n51 => ?_); generalize hE : upd _ p51 _ = H51; obtain ⟨s51, o51⟩ := new_of n51 hE; clear hE)
    walk_at "f"
    (refine My.new (My.sz (by simp)) (fun p52 n52 => ?_); generalize hE : upd _ p52 _ = H52; obtain ⟨s52, o52⟩ := new_of n52 hE; clear hE)
    walk_at "f"
    (refine My.new (My.sz (by simp)) (fun p53 n53 => ?_); generalize hE : upd _ p53 _ = H53; obtain ⟨s53, o53⟩ := new_of n53 hE; clear hE)
    walk_at "f"
    (refine My.new (My.sz (by simp)) (fun p54 n54 => ?_); generalize hE : upd _ p54 _ = H54; obtain ⟨s54, o54⟩ := new_of n54 hE; clear hE)
    walk_at "f"
    (refine My.new (My.sz (by simp)) (fun p55 n55 => ?_); generalize hE : upd _ p55 _ = H55; obtain ⟨s55, o55⟩ := new_of n55 hE; clear hE)
    walk_at "f"
    (refine My.new (My.sz (by simp)) (fun p56 n56 => ?_); generalize hE : upd _ p56 _ = H56; obtain ⟨s56, o56⟩ := new_of n56 hE; clear hE)
    walk_at "f"
    (refine My.new (My.sz (by simp)) (fun p57 n57 => ?_); generalize hE : upd _ p57 _ = H57; obtain ⟨s57, o57⟩ := new_of n57 hE; clear hE)
    walk_at "f"
    (refine My.new (My.sz (by simp)) (fun p58 n58 => ?_); generalize hE : upd _ p58 _ = H58; obtain ⟨s58, o58⟩ := new_of n58 hE; clear hE)
    walk_at "f"
    (refine My.new (My.sz (by simp)) (fun p59 n59 => ?_); generalize hE : upd _ p59 _ = H59; obtain ⟨s59, o59⟩ := new_of n59 hE; clear hE)
    walk_at "f"
    (refine My.new (My.sz (by simp)) (fun p60 n60 => ?_); generalize hE : upd _ p60 _ = H60; obtain ⟨s60, o60⟩ := new_of n60 hE; clear hE)
    walk_at "f"
    have e60 := s60
    have e59 := s59.trans e60
    have e58 := s58.trans e59
    have e57 := s57.trans e58
    have e56 := s56.trans e57
    have e55 := s55.trans e56
    have e54 := s54.trans e55
    have e53 := s53.trans e54
    have e52 := s52.trans e53
    have e51 := s51.trans e52
    have e50 := s50.trans e51
    have s4960 := (s48.trans s49).trans e50
    have h60 := h47.same s4960
    refine ⟨d, c, p60, _, rfl, h60, SqL.of o60, by simp, by simp, fun y3 H61 hy3 h61 b61 _ => ?_⟩
    have k61 := But.kd h60 h61 b61
    have bs : BadStep K H61 y3 := by
      refine BadStep.kd k61 ?_
      simp only [List.mem_cons, List.not_mem_nil, or_false] at hy3
      rcases hy3 with rfl | rfl | rfl | rfl | rfl | rfl | rfl | rfl | rfl | rfl | rfl
      · exact .inl ⟨_, .non, rfl⟩
      · exact .inr (.inl ⟨_, _, rfl, e51 _ _ o50, by simp⟩)
      · exact .inl ⟨_, .str _, rfl⟩
      · exact .inr (.inl ⟨_, _, rfl, e52 _ _ o51, by simp⟩)
      · exact .inl ⟨_, .lst (e53 _ _ o52), rfl⟩
      · exact .inr (.inr ⟨_, _, _, rfl, e54 _ _ o53, by decide, by decide⟩)
      · exact .inr (.inr ⟨_, _, _, rfl, e56 _ _ o55, by decide, by decide⟩)
      · exact .inr (.inl ⟨_, _, rfl, e57 _ _ o56, by simp⟩)
      · exact .inr (.inr ⟨_, _, _, rfl, e58 _ _ o57, by decide, by decide⟩)
      · exact .inr (.inl ⟨_, _, rfl, e60 _ _ o59, by simp⟩)
      · exact .inl ⟨_, .int 7, rfl⟩
    have hs61 := SysAt.kd k61 (hs47.same s4960)
    have b61' : But d H H61 := (b47'.trans (Same.but s4960)).trans b61
    clear hy3
    walk_at "f"
    (refine My.new (My.sz (by simp)) (fun p62 n62 => ?_); generalize hE : upd _ p62 _ = H62; obtain ⟨s62, o62⟩ := new_of n62 hE; clear hE)
    walk_at "f"
    have h62 := h61.same s62
    refine ⟨d, c, 3, rfl, by decide, by decide, h62, fun r H63 r0 r1 h63 b63 _ => ?_⟩
    have k63 := But.kd h62 h63 b63
    walk_at "f"
    refine My.repA (k63.t o62) (by omega) (by omega) (by show 1 ≤ 1000; decide) fun p64 H64 s64 o64 => ?_
    have hs64 := (SysAt.kd k63 (hs61.same s62)).same s64
    have bs64 := (BadStep.kd k63 (bs.same s62)).same s64
    have h64 := h63.same s64
    have b64' : But d H H64 := ((b61'.trans (Same.but s62)).trans b63).trans (Same.but s64)
    have cv2 : ∀ H', Same H64 H' → CovF K H' (.ref p64) 0 := fun H' s => .inr ⟨p64, _, rfl, s _ _ o64, fun x hx => by
      have hm := My.rep_mem (List.mem_iff_getElem?.mpr ⟨0, hx⟩)
      rw [List.mem_singleton.mp hm]
      exact bs64.same s, rfl⟩
    walk_at "f"
    refine ⟨a, _, m, ps, qs, 0, rfl, hs64, cv2 _ (.refl _), fun H65 s65 => ?_⟩
    walk_at "f"
    refine My.ite_nd (fun z => absurd rfl z) fun _ => ?_
    walk_at "f"
    refine ⟨a, _, m, ps, qs, 0, rfl, hs64.same s65, cv2 _ s65, fun H66 s66 => ?_⟩
    walk_at "f"
    refine (TgV.int 0).isT mem6 ?_
    walk_at "f"
    (refine My.new (My.sz (by simp)) (fun p67 n67 => ?_); generalize hE : upd _ p67 _ = H67; obtain ⟨s67, o67⟩ := new_of n67 hE; clear hE)
    walk_at "f"
    have cv3 : ∀ (q : Addr) H', H' q = some (.tup []) → CovF K H' (.ref q) 0 := fun q H' e => .inr ⟨q, _, rfl, e, (fun x hx => by simp at hx), rfl⟩
    have s6467 := (s65.trans s66).trans s67
    refine ⟨a, _, m, ps, qs, 0, rfl, hs64.same s6467, cv3 _ _ o67, fun H68 s68 => ?_⟩
    walk_at "f"
    rotate_left
    · rename_i z
      exact absurd rfl z
    (refine My.new (My.sz (by simp)) (fun p69 n69 => ?_); generalize hE : upd _ p69 _ = H69; obtain ⟨s69, o69⟩ := new_of n69 hE; clear hE)
    walk_at "f"
    have s6469 := (s6467.trans s68).trans s69
    refine ⟨a, _, m, ps, qs, 0, rfl, hs64.same s6469, cv3 _ _ o69, fun H70 s70 => ?_⟩
    walk_at "f"
    refine ⟨false, false, rfl, ?_⟩
    exact k _ (h64.same (s6469.trans s70)) (b64'.trans (Same.but (s6469.trans s70)))
end
end K09

set_option Elab.async false
set_option linter.all false
set_option maxRecDepth 100000
set_option maxHeartbeats 4000000
namespace K09
open PySem PySem.Spec PyProof.Rows L2 XV DX XF He
/-- a tuple of marks, the sorted terms of which are ps -/
def MM (H : Hp) (e : Addr) (ps : List Pol) : Prop := ∃ xs ms, H e = some (.tup xs) ∧ Paired (fun x m => Mark H x m) xs ms ∧ Paired (fun ts m => Srt ts m ∧ (keysP m).Nodup) ps ms
theorem MM.same {H H' : Hp} {e : Addr} {ps : List Pol} (s : Same H H') (h : MM H e ps) : MM H' e ps := by
  obtain ⟨xs, ms, h1, h2, h3⟩ := h
  exact ⟨xs, ms, s _ _ h1, Paired.mapP h2 fun _ _ z => z.same s, h3⟩
theorem marks_inj {H : Hp} : ∀ {xs : List V} {ms ns : List Pol}, Paired (fun x m => Mark H x m) xs ms → Paired (fun x m => Mark H x m) xs ns → ms = ns
  | _, _, _, .nil, .nil => rfl
  | _, _, _, .cons h t, .cons g u => by rw [h.inj g, marks_inj t u]
theorem srts_inj : ∀ {ps qs ms : List Pol}, Paired (fun ts m => Srt ts m ∧ (keysP m).Nodup) ps ms → Paired (fun ts m => Srt ts m ∧ (keysP m).Nodup) qs ms → ps = qs
  | _, _, _, .nil, .nil => rfl
  | _, _, _, .cons h t, .cons g u => by
    have e := srt_eq h.1 g.1 h.2 g.2
    have z := (dEq_iff h.2 g.2).mpr ⟨rfl, fun p hp => hp⟩
    rw [z] at e
    rw [of_decide_eq_true e, srts_inj t u]
theorem eqB_mark {K : PySem.W.Frag} {D : OwnE} {H : Hp} {n : Nat} {x y : V} {m m' ts us : Pol} (hx : Mark H x m) (hy : Mark H y m') (s1 : Srt ts m) (s2 : Srt us m') (n1 : (keysP m).Nodup) (n2 : (keysP m').Nodup) : EqB K D H (n + 2) x y (decide (ts = us)) := by
  have hx' := hx
  have hy' := hy
  obtain ⟨a, b, rfl, h1, h2⟩ := hx
  obtain ⟨a', b', rfl, g1, g2⟩ := hy
  refine .inr (.inr (.inr (.inl ⟨fun e => ?_, .inr (.inl ⟨a, a', _, _, fun i => if i = 0 then true else decide (ts = us), rfl, rfl, h1, g1, rfl, fun i x y hx hy => ?_, ?_⟩)⟩)))
  · rw [← e] at hy'
    have := hx'.inj hy'
    subst this
    have z := srt_eq s1 s2 n1 n2
    rw [z]
    exact (dEq_iff n1 n2).mpr ⟨rfl, fun p hp => hp⟩
  · match i, hx, hy with
    | 0, hx, hy =>
      cases Option.some.inj hx
      cases Option.some.inj hy
      exact .inl ⟨rfl, rfl, rfl⟩
    | 1, hx, hy =>
      cases Option.some.inj hx
      cases Option.some.inj hy
      show EqB K D H (n + 1) _ _ (decide (ts = us))
      rw [srt_eq s1 s2 n1 n2]
      refine .inr (.inr (.inr (.inl ⟨fun e => ?_, .inr (.inr (.inr ⟨b, b', _, _, rfl, rfl, .inl h2, .inl g2, ?_, ?_, rfl⟩))⟩)))
      · cases e
        have h2' : H b = some (HO.dT (kvI m)) := h2
        have g2' : H b = some (HO.dT (kvI m')) := g2
        have := hx'.inj (show Mark H (.ref a) m' from ⟨a, b, rfl, h1, g2⟩)
        subst this
        exact (dEq_iff n1 n2).mpr ⟨rfl, fun p hp => hp⟩
      all_goals
        intro p hp
        obtain ⟨q, _, rfl⟩ := List.mem_map.mp hp
        rfl
    | i + 2, hx, hy => simp at hx
  · simp [List.range_succ]
theorem eqB_marks {K : PySem.W.Frag} {D : OwnE} {H : Hp} {n : Nat} {e f : Addr} {ps qs : List Pol} (h : MM H e ps) (g : MM H f qs) : EqB K D H (n + 3) (.ref e) (.ref f) (decide (ps = qs)) := by
  obtain ⟨xs, ms, h1, h2, h3⟩ := h
  obtain ⟨ys, ns, g1, g2, g3⟩ := g
  refine .inr (.inr (.inr (.inl ⟨fun z => ?_, .inr (.inr (.inl ⟨e, f, _, _, fun i => decide (ps[i]? = qs[i]?), rfl, rfl, SqT.of h1, SqT.of g1, fun i x y hx hy => ?_, ?_⟩))⟩)))
  · cases z
    rw [h1] at g1
    cases g1
    have := marks_inj h2 g2
    subst this
    exact decide_eq_true (srts_inj h3 g3)
  · obtain ⟨m, em, mx⟩ := My.pget h2 hx
    obtain ⟨m', em', my⟩ := My.pget g2 hy
    have l1 := My.plen h3
    have l2 := My.plen g3
    have i1 := (List.getElem?_eq_some_iff.mp em).1
    have i2 := (List.getElem?_eq_some_iff.mp em').1
    have ep : ps[i]? = some ps[i] := List.getElem?_eq_getElem (by omega)
    have eq : qs[i]? = some qs[i] := List.getElem?_eq_getElem (by omega)
    obtain ⟨m2, e2, s2⟩ := My.pget h3 ep
    obtain ⟨m3, e3, s3⟩ := My.pget g3 eq
    rw [em] at e2
    cases e2
    rw [em'] at e3
    cases e3
    show EqB K D H (n + 2) x y (decide (ps[i]? = qs[i]?))
    rw [ep, eq]
    have z : decide (some ps[i] = some qs[i]) = decide (ps[i] = qs[i]) := by rw [Bool.eq_iff_iff]; simp
    rw [z]
    exact eqB_mark mx my s2.1 s3.1 s2.2 s3.2
  · have l1 := My.plen h3
    have l2 := My.plen g3
    have l3 := My.plen h2
    have l4 := My.plen g2
    rw [show xs.length = ps.length by omega, show ys.length = qs.length by omega]
    exact (all_eq ps qs).symm
/-- (m, e, f) and (m', e', f') -/
theorem eqB_three {K : PySem.W.Frag} {D : OwnE} {H : Hp} {n : Nat} {t u e f e' f' : Addr} {m m' : Int} {ps qs ps' qs' : List Pol} (ht : H t = some (.tup [.int m, .ref e, .ref f])) (hu : H u = some (.tup [.int m', .ref e', .ref f'])) (h1 : MM H e ps) (h2 : MM H f qs) (g1 : MM H e' ps') (g2 : MM H f' qs') (em : m = m') (ep : ps = ps') (eq : qs = qs') : EqB K D H (n + 4) (.ref t) (.ref u) true := by
  refine .inr (.inr (.inr (.inl ⟨fun _ => rfl, .inr (.inr (.inl ⟨t, u, _, _, fun i => true, rfl, rfl, SqT.of ht, SqT.of hu, fun i x y hx hy => ?_, ?_⟩))⟩)))
  · match i, hx, hy with
    | 0, hx, hy =>
      cases Option.some.inj hx
      cases Option.some.inj hy
      refine .inl ⟨rfl, rfl, ?_⟩
      show true = (m == m')
      rw [em]; simp
    | 1, hx, hy =>
      cases Option.some.inj hx
      cases Option.some.inj hy
      have := eqB_marks (K := K) (D := D) (n := n) h1 g1
      rw [decide_eq_true ep] at this
      exact this
    | 2, hx, hy =>
      cases Option.some.inj hx
      cases Option.some.inj hy
      have := eqB_marks (K := K) (D := D) (n := n) h2 g2
      rw [decide_eq_true eq] at this
      exact this
    | i + 3, hx, hy => simp at hx
  · simp
theorem MarksT.mm {H : Hp} {e : Addr} {ps : List Pol} (h : MarksT H e ps) (w : ∀ ts ∈ ps, WFt ts) : MM H e ps := by
  obtain ⟨xs, h1, h2⟩ := h
  refine ⟨xs, ps, h1, h2, ?_⟩
  refine My.pof rfl fun i x y hx hy => ?_
  rw [hx] at hy
  cases hy
  have := w x (List.mem_iff_getElem?.mpr ⟨i, hx⟩)
  exact ⟨⟨.refl _, this.asc⟩, this.nd⟩
theorem lprt_mm {K : PySem.W.Frag} {H : Hp} {v : V} {ms ps : List Pol} (h : LPrt K H v (some (ms.map some))) (p : Paired (fun ts m => Srt ts m ∧ WF m) ps ms) : ∃ e, v = .ref e ∧ MM H e ps := by
  obtain ⟨a, xs, rfl, ha, _, q⟩ := h
  refine ⟨a, rfl, xs, ms, ha, ?_, Paired.mapP p fun _ _ z => ⟨z.1, z.2.nd⟩⟩
  have l := My.plen q
  rw [List.length_map] at l
  refine My.pof l fun i x m hx hm => ?_
  obtain ⟨o, eo, ho⟩ := My.pget q hx
  rw [List.getElem?_map, hm] at eo
  cases eo
  exact ho.1
/-- what is asked of a value can be told -/
theorem Pk.lprt {K : PySem.W.Frag} {d : Addr} {H : Hp} {n : Nat} {v : V} (h : Pk d H n v) : ∃ r, LPrt K H v r := by
  cases n with
  | zero => exact h.elim
  | succ n =>
    rcases h with h | ⟨m, ⟨a, b, e, ha, hb⟩, w⟩ | ⟨a, xs, rfl, ha, l, h⟩ | ⟨a, xs, e, ha, u, l, h⟩ | ⟨a, ks, e, ha, na⟩
    · cases v with
      | non => exact ⟨none, _, .non, rfl⟩
      | bl b => exact ⟨none, _, .bl b, rfl⟩
      | int i => exact ⟨none, _, .int i, rfl⟩
      | str z => exact ⟨none, _, .str z, rfl⟩
      | _ => cases h
    · subst e; exact ⟨none, _, .lst ha, rfl⟩
    · have key : ∀ ys : List V, (∀ x ∈ ys, Pk d H n x) → ∃ os, Paired (LItm K H) ys os := by
        intro ys
        induction ys with
        | nil => exact fun _ => ⟨[], .nil⟩
        | cons y ys ih =>
          intro hy
          obtain ⟨os, ho⟩ := ih fun x hx => hy x (List.mem_cons_of_mem _ hx)
          rcases (hy y List.mem_cons_self).nom (K := K) with ⟨m, g, w⟩ | g
          · exact ⟨some m :: os, .cons ⟨g, w⟩ ho⟩
          · exact ⟨none :: os, .cons g ho⟩
      obtain ⟨os, ho⟩ := key xs h
      exact ⟨some os, a, xs, rfl, ha, l, ho⟩
    · subst e; exact ⟨none, _, .lst ha, rfl⟩
    · subst e; exact ⟨none, _, .dK ha, rfl⟩
theorem Pk.tg {K : PySem.W.Frag} {d : Addr} {H : Hp} {n : Nat} {v : V} (h : Pk d H n v) : ∃ t, TgV K H v t := by
  rcases h.nom (K := K) with ⟨m, ⟨a, b, rfl, ha, _⟩, _⟩ | g
  · exact ⟨_, .lst ha⟩
  · exact g.1
theorem seq_D {K : PySem.W.Frag} {C S : Addr} (nf : PySem.W.notFirst K S (.type "tuple") = true) : ∀ a c b H, SEq K C S a c b H → (∃ dx fs, H a = some (.ins S dx fs)) ∧ ((∃ dy gs, H c = some (.ins S dy gs)) ∨ ((∃ ys, SqT K H c ys) ∧ PySem.W.notFirst K S (.type "tuple") = true)) := by
  rintro a c b H ⟨m, ps, qs, ⟨dx, e, f, h1, _⟩, alt⟩
  refine ⟨⟨_, _, h1⟩, ?_⟩
  rcases alt with ⟨m', ps', qs', ⟨dy, e', f', g1, _⟩, _⟩ | ⟨⟨ys, hc⟩, _⟩
  · exact .inl ⟨_, _, g1⟩
  · exact .inr ⟨⟨ys, SqT.of hc⟩, nf⟩
/-- the law's own tuples of marks -/
def RI (many : Int) (H : Hp) (t : Addr) (ms : List Pol) : Prop := ∃ xs, H t = some (.tup xs) ∧ xs.length ≤ 6 ∧ Paired (fun x m => Mark H x m ∧ WF m ∧ inM many m = true) xs ms
theorem RI.same {many : Int} {H H' : Hp} {t : Addr} {ms : List Pol} (s : Same H H') (h : RI many H t ms) : RI many H' t ms := by
  obtain ⟨xs, h1, h2, h3⟩ := h
  exact ⟨xs, s _ _ h1, h2, Paired.mapP h3 fun _ _ z => ⟨z.1.same s, z.2⟩⟩
theorem RI.but {K : PySem.W.Frag} {d c : Addr} {many : Int} {H H' : Hp} {t : Addr} {ms : List Pol} (hh : Hand K H d c) (b : But d H H') (h : RI many H t ms) : RI many H' t ms := by
  obtain ⟨xs, h1, h2, h3⟩ := h
  exact ⟨xs, b.obj hh h1 (fun _ z => by cases z), h2, Paired.mapP h3 fun _ _ z => ⟨z.1.keep hh.dko b, z.2⟩⟩
theorem RI.rows {many : Int} {H : Hp} {t : Addr} {ms : List Pol} (h : RI many H t ms) : ∃ xs, Rows H t xs := by
  obtain ⟨xs, h1, h2, h3⟩ := h
  refine ⟨xs, h1, h2, fun x hx => ?_⟩
  obtain ⟨i, hi⟩ := List.mem_iff_getElem?.mp hx
  obtain ⟨m, _, g⟩ := My.pget h3 hi
  exact ⟨m, g.1, g.2.1⟩
theorem RI.lprt {K : PySem.W.Frag} {many : Int} {H : Hp} {t : Addr} {ms : List Pol} (h : RI many H t ms) : LPrt K H (.ref t) (some (ms.map some)) := by
  obtain ⟨xs, h1, h2, h3⟩ := h
  refine ⟨t, xs, rfl, h1, by omega, My.pof (by rw [List.length_map]; exact My.plen h3) fun i x o hx ho => ?_⟩
  obtain ⟨m, em, g⟩ := My.pget h3 hx
  rw [List.getElem?_map, em] at ho
  cases ho
  exact ⟨g.1, g.2.1⟩
theorem RI.ok {many : Int} {H : Hp} {t : Addr} {ms : List Pol} (m1 : 1 ≤ many) (m3 : many ≤ 3) (h : RI many H t ms) : prtW many (some (ms.map some)) = none := by
  obtain ⟨xs, h1, h2, h3⟩ := h
  have l := My.plen h3
  show (if 6 < (ms.map some).length then _ else _) = _
  rw [List.length_map, if_neg (by omega)]
  have fe : ((ms.map some).findIdx? fun o => !inO many o) = none := by
    rw [List.findIdx?_eq_none_iff]
    intro o ho
    obtain ⟨m, hm, rfl⟩ := List.mem_map.mp ho
    obtain ⟨i, hi⟩ := List.mem_iff_getElem?.mp hm
    have hlt : i < xs.length := by have := (List.getElem?_eq_some_iff.mp hi).1; omega
    have hx : xs[i]? = some xs[i] := List.getElem?_eq_getElem hlt
    obtain ⟨m', em, g⟩ := My.pget h3 hx
    rw [hi] at em
    cases em
    show (!inP many m) = false
    rw [inP_eq m1 m3 fun p hp => ⟨g.2.1.len p hp, g.2.1.bd p hp⟩, g.2.2]
    rfl
  rw [fe]; rfl
theorem WFs.wf {many : Int} {m : Pol} (m1 : 1 ≤ many) (w : WFs many 2 m) (l : m.length ≤ 3) : WF m ∧ inM many m = true := by
  have ky : ∀ p ∈ m, p.1 ∈ keysP m := fun p hp => List.mem_map.mpr ⟨p, hp, rfl⟩
  refine ⟨⟨w.nd, fun p hp => (w.ky _ (ky p hp)).1, fun p hp i hi => by have := (w.ky _ (ky p hp)).2.1 i hi; omega, w.nz, by omega⟩, ?_⟩
  unfold inM
  rw [List.all_eq_true]
  intro p hp
  have kk := w.ky _ (ky p hp)
  refine decide_eq_true ((mx_zero fun x hx => (kk.2.1 x (List.mem_of_mem_drop hx)).1).mpr fun x hx => ?_)
  obtain ⟨i, hi⟩ := List.mem_iff_getElem?.mp hx
  rw [List.getElem?_drop] at hi
  exact kk.2.2 _ x (by omega) hi
theorem marks_ri {many : Int} {H : Hp} {t : Addr} {bs : List Addr} (m1 : 1 ≤ many) (hl : bs.length ≤ 6) (h : Marks H t bs) (hb : ∀ b ∈ bs, ∃ m, PolD H b m ∧ WFs many 2 m ∧ m.length ≤ 3) : ∃ ms, RI many H t ms := by
  obtain ⟨ls, h1, h2⟩ := h
  have key : ∀ {ls bs : List Addr}, Paired (fun l b => H l = some (.lst [.str "P", .ref b])) ls bs → (∀ b ∈ bs, ∃ m, PolD H b m ∧ WFs many 2 m ∧ m.length ≤ 3) → ∃ ms, Paired (fun x m => Mark H x m ∧ WF m ∧ inM many m = true) (ls.map V.ref) ms := by
    intro ls bs p
    induction p with
    | nil => exact fun _ => ⟨[], .nil⟩
    | @cons l b _ _ h _ ih =>
      intro hb
      obtain ⟨ms, hm⟩ := ih fun b hb' => hb b (List.mem_cons_of_mem _ hb')
      obtain ⟨m, g1, g2, g3⟩ := hb b List.mem_cons_self
      exact ⟨m :: ms, .cons ⟨⟨l, b, rfl, h, g1⟩, g2.wf m1 g3⟩ hm⟩
  obtain ⟨ms, hm⟩ := key h2 hb
  exact ⟨ms, ls.map V.ref, h1, by rw [List.length_map, My.plen h2]; exact hl, hm⟩
theorem wr_eq {K : PySem.W.Frag} {D : OwnE} {H : Hp} {n : Nat} {x y : V} {W : Wr} (h : WrV H x W) (g : WrV H y W) : EqB K D H (n + 2) x y true := by
  cases W with
  | many => rw [show x = V.str "many" from h, show y = V.str "many" from g]; exact .inl ⟨rfl, rfl, by decide⟩
  | part b =>
    rw [show x = _ from h, show y = _ from g]
    exact .inl ⟨rfl, rfl, by cases b <;> decide⟩
  | «at» b i =>
    obtain ⟨a, rfl, ha⟩ := h
    obtain ⟨c, rfl, hc⟩ := g
    refine .inr (.inr (.inr (.inl ⟨fun _ => rfl, .inr (.inr (.inl ⟨a, c, _, _, fun _ => true, rfl, rfl, SqT.of ha, SqT.of hc, fun j x y hx hy => ?_, ?_⟩))⟩)))
    · rw [hx] at hy
      cases hy
      match j, hx with
      | 0, hx =>
        cases Option.some.inj hx
        exact .inl ⟨rfl, rfl, by cases b <;> decide⟩
      | 1, hx =>
        cases Option.some.inj hx
        refine .inl ⟨rfl, rfl, ?_⟩
        show true = ((i : Int) == i)
        simp
      | j + 2, hx => simp at hx
    · simp
theorem wr_some {H : Hp} {x : V} {W : Wr} (h : WrV H x W) : x ≠ .non := by
  cases W with
  | many => rw [show x = V.str "many" from h]; intro z; cases z
  | part b => rw [show x = _ from h]; intro z; cases z
  | «at» b i =>
    obtain ⟨a, rfl, ha⟩ := h
    intro z; cases z
/-- a System made of what is not wrong -/
theorem sys_make1 {K : PySem.W.Frag} {C S : Addr} {H : Hp} {m : Int} {ve vb ve' vb' : V} {re rb : Option (List (Option Pol))} {Q : VK} {E : XK} (hre : LPrt K H ve re) (hrb : LPrt K H vb rb) (r1 : Res K C H ve ve') (r2 : Res K C H vb vb') (e0 : sysWr (.int m) re rb = none)
    {x dx : Addr} (nx : H x = none) (ndx : H dx = none) (nxd : dx ≠ x) (k : ∀ H' ps qs ms ns, Same H H' → SysAt C S H' x m ps qs → re = some (ms.map some) → rb = some (ns.map some) → Paired (fun ts m => Srt ts m ∧ WF m) ps ms → Paired (fun ts m => Srt ts m ∧ WF m) qs ns → Q .non H') :
    spSysI K C S [.ref x, .int m, ve', vb'] (upd (upd H dx (.own x)) x (.ins S dx [])) Q E := by
  obtain ⟨re', p1, q1⟩ := prt_of hre r1
  obtain ⟨rb', p2, q2⟩ := prt_of hrb r2
  have sm : Same H (upd (upd H dx (HO.own x)) x (HO.ins S dx [])) := fun b o e => by
    rw [upd_ne (ne_of_none e nx), upd_ne (ne_of_none e ndx)]; exact e
  refine ⟨x, dx, _, ve', vb', .int, re', rb', rfl, upd_same, .int m, p1.same sm, p2.same sm, ?_⟩
  rw [sysWr_eq q1 q2, e0]
  intro H3 s3
  obtain ⟨m', hm, e1, e2⟩ := sys_none e0
  obtain ⟨ps, ms, rfl, rfl, l1, pr1⟩ := told_of q1 e1
  obtain ⟨qs, ns, rfl, rfl, l2, pr2⟩ := told_of q2 e2
  have s4 : Same H (upd H3 x (SysO S dx (.int m) ve' vb')) := made_same nx ndx s3
  obtain ⟨ea, rfl, pa⟩ := polysAt_of (p1.same s4)
  obtain ⟨fa, rfl, pf⟩ := polysAt_of (p2.same s4)
  exact k _ ps qs ms ns s4 ⟨dx, ea, fa, upd_same, pa, pf⟩ rfl rfl pr1 pr2
/-- a System made of what is not wrong -/
theorem sys_make {K : PySem.W.Frag} {C S : Addr} {H : Hp} {m : Int} {ve vb ve' vb' : V} {re rb : Option (List (Option Pol))} {R : VK} {E : XK} (hre : LPrt K H ve re) (hrb : LPrt K H vb rb) (r1 : Res K C H ve ve') (r2 : Res K C H vb vb') (e0 : sysWr (.int m) re rb = none)
    (k : ∀ x H' ps qs ms ns, Same H H' → SysAt C S H' x m ps qs → re = some (ms.map some) → rb = some (ns.map some) → Paired (fun ts m => Srt ts m ∧ WF m) ps ms → Paired (fun ts m => Srt ts m ∧ WF m) qs ns → R (.ref x) H') :
    ∀ x dx, H x = none → H dx = none → dx ≠ x → spSysI K C S [.ref x, .int m, ve', vb'] (upd (upd H dx (.own x)) x (.ins S dx [])) (fun v H2 => v = .non ∧ R (.ref x) H2) E := by
  intro x dx nx ndx nxd
  exact sys_make1 hre hrb r1 r2 e0 nx ndx nxd fun H' ps qs ms ns a b c d e f => ⟨rfl, k x H' ps qs ms ns a b c d e f⟩
theorem mapsome_inj {ms ns : List Pol} (h : some (ms.map some) = some (ns.map some)) : ms = ns := map_inj (fun a b e => by injection e) (Option.some.inj h)
theorem srtw_inj {ps qs ms : List Pol} (h : Paired (fun ts m => Srt ts m ∧ WF m) ps ms) (g : Paired (fun ts m => Srt ts m ∧ WF m) qs ms) : ps = qs := srts_inj (Paired.mapP h fun _ _ z => ⟨z.1, z.2.nd⟩) (Paired.mapP g fun _ _ z => ⟨z.1, z.2.nd⟩)
theorem ne_two {K : PySem.W.Frag} {D : OwnE} {H : Hp} {n : Nat} {t q : Addr} {x y u v : V} {Q : VK} (ht : H t = some (.tup [x, u])) (hq : H q = some (.tup [y, v])) (h1 : EqB K D H n x y true) (h2 : EqB K D H n u v true) (k : Q (.bl false) H) : rNeB K D n (.ref t) (.ref q) H Q := by
  refine ⟨t, q, _, _, fun _ => true, rfl, rfl, SqT.of ht, SqT.of hq, fun i x y hx hy => ?_, ?_⟩
  · match i, hx, hy with
    | 0, hx, hy =>
      cases Option.some.inj hx
      cases Option.some.inj hy
      exact h1
    | 1, hx, hy =>
      cases Option.some.inj hx
      cases Option.some.inj hy
      exact h2
    | i + 2, hx, hy => simp at hx
  · have e : (!((List.range (min [x, u].length [y, v].length)).all (fun _ => true) && [x, u].length == [y, v].length)) = false := by simp
    rw [e]; exact k
theorem eqB_str {K : PySem.W.Frag} {D : OwnE} {H : Hp} {n : Nat} {z : Str} : EqB K D H (n + 1) (.str z) (.str z) true := .inl ⟨rfl, rfl, by show true = (z == z); simp⟩
/-- what was told is what was given -/
theorem told_eq {K : PySem.W.Frag} {D : OwnE} {H : Hp} {t q u : Addr} {m : Int} {v1 v2 : V} {re rb : Option (List (Option Pol))} {Q : VK} (h : ToldO H t (.int m) re rb) (l1 : LPrt K H v1 re) (l2 : LPrt K H v2 rb) (hq : H q = some (.tup [.str "told", .ref u])) (hu : H u = some (.tup [.int m, v1, v2])) (k : Q (.bl false) H) : rNeB K D 6 (.ref t) (.ref q) H Q := by
  obtain ⟨w, ee, ff, ps, qs, ms, ns, g1, g2, g3, g4, rfl, rfl, g7, g8⟩ := h
  obtain ⟨e, rfl, me⟩ := lprt_mm l1 g7
  obtain ⟨f, rfl, mf⟩ := lprt_mm l2 g8
  exact ne_two g1 hq eqB_str (eqB_three (n := 2) g2 hu (g3.mm (srts_wft g7)) (g4.mm (srts_wft g8)) me mf rfl rfl rfl) k
theorem ToldO.same {H H' : Hp} {t : Addr} {v : V} {re rb : Option (List (Option Pol))} (s : Same H H') (h : ToldO H t v re rb) : ToldO H' t v re rb := by
  obtain ⟨w, ee, ff, ps, qs, ms, ns, g1, g2, g3, g4, g⟩ := h
  exact ⟨w, ee, ff, ps, qs, ms, ns, s _ _ g1, s _ _ g2, g3.same s, g4.same s, g⟩
abbrev tMk (K : PySem.W.Frag) (C S : Addr) : TE := tMake S (spSysI K C S) [] E0 (tCons (tVar 3) (tCons (tCall (spPacked K C 30) [] E0 (tCons (tVar 5) tNil)) (tCons (tCall (spPacked K C 30) [] E0 (tCons (tVar 6) tNil)) tNil)))
theorem mk_sys {K : PySem.W.Frag} {C S a d c e f : Addr} {many : Int} {u2 u4 u7 u8 u9 u10 u11 u12 : Option V} {H : Hp} {R : VK} {ms ns : List Pol} (m1 : 1 ≤ many) (m3 : many ≤ 3) (hh : Hand K H d c) (r1 : RI many H e ms) (r2 : RI many H f ns)
    (k : ∀ x H' ps qs, Same H H' → SysAt C S H' x many ps qs → Paired (fun ts m => Srt ts m ∧ WF m) ps ms → Paired (fun ts m => Srt ts m ∧ WF m) qs ns → R (.ref x) H') :
    tMk K C S [some (.ref a), some (.ref d), u2, some (.int many), u4, some (.ref e), some (.ref f), u7, u8, u9, u10, u11, u12] H R := by
  obtain ⟨xs1, rw1⟩ := r1.rows
  obtain ⟨xs2, rw2⟩ := r2.rows
  have e0 : sysWr (.int many) (some (ms.map some)) (some (ns.map some)) = none := sys_no (if_pos ⟨m1, m3⟩) (r1.ok m1 m3) (r2.ok m1 m3)
  unfold tMk
  walk_at "f"
  refine ⟨d, .ref e, rfl, rw1.pk2, hh.dk, fun ve' H1 s1 res1 => ?_⟩
  walk_at "f"
  refine ⟨d, .ref f, rfl, (rw2.same s1).pk2, (hh.same s1).dk, fun vb' H2 s2 res2 => ?_⟩
  walk_at "f"
  have s12 := s1.trans s2
  refine sys_make (r1.same s12).lprt (r2.same s12).lprt (res1.same s2) res2 e0 fun x H' ps qs ms' ns' s sa h1 h2 h3 h4 => ?_
  cases mapsome_inj h1
  cases mapsome_inj h2
  exact k x H' ps qs (s12.trans s) sa h3 h4
abbrev tTail (K : PySem.W.Frag) (C S : Addr) : TS := tSeq (tAsg (tMk K C S) (gName 12)) (tSeq (tIfS (tOr (tTest (tOp (rEqB K (SEq K C S) 0) (tVar 10) (tTup (tCons (tVar 3) (tCons (tVar 5) (tCons (tVar 6) tNil)))))) (tNot (tTest (tOp (rEqB K (SEq K C S) 0) (tVar 10) (tVar 12))))) (tRet (tC (V.bl false))) tNext)
  (tIfS (tNot (tB (tCall (spOddT K C S) [] E0 (tCons (tVar 1) (tCons (tVar 10) (tCons (tVar 3) tNil)))))) (tRet (tC (V.bl false))) tNext))
theorem tail_ok {K : PySem.W.Frag} {C S a d c e f x : Addr} {many : Int} {u2 u4 u7 u8 u9 u11 u12 : Option V} {H : Hp} {D : Ends} {ms ns ps qs : List Pol} (m1 : 1 ≤ many) (m3 : many ≤ 3) (hh : Hand K H d c) (r1 : RI many H e ms) (r2 : RI many H f ns) (sa : SysAt C S H x many ps qs) (p1 : Paired (fun ts m => Srt ts m ∧ WF m) ps ms) (p2 : Paired (fun ts m => Srt ts m ∧ WF m) qs ns)
    (k : ∀ u2 u3 u4 u5 u6 u7 u8 u9 u10 u11 u12 H', Hand K H' d c → D.nx [some (.ref a), some (.ref d), u2, u3, u4, u5, u6, u7, u8, u9, u10, u11, u12] H') :
    tTail K C S D [some (.ref a), some (.ref d), u2, some (.int many), u4, some (.ref e), some (.ref f), u7, u8, u9, some (.ref x), u11, u12] H := by
  refine My.seq (My.asg (mk_sys m1 m3 hh r1 r2 fun y H1 ps2 qs2 s1 sb q1 q2 => My.name rfl ?_))
  cases srtw_inj p1 q1
  cases srtw_inj p2 q2
  have h1 := hh.same s1
  have sa1 := sa.same s1
  walk_at "f"
  (refine My.new (My.sz (by simp)) (fun p n => ?_); generalize hE : upd _ p _ = H2; obtain ⟨s2, o2⟩ := new_of n hE; clear hE)
  refine ⟨false, .inl ⟨x, p, rfl, rfl, many, ps, qs, sa1.same s2, .inr ⟨⟨_, o2⟩, rfl⟩⟩, ?_⟩
  walk_at "f"
  refine ⟨true, .inl ⟨x, y, rfl, rfl, many, ps, qs, sa1.same s2, .inl ⟨many, ps, qs, sb.same s2, (decide_eq_true ⟨rfl, rfl, rfl⟩).symm⟩⟩, ?_⟩
  walk_at "f"
  refine ⟨d, c, x, many, ps, qs, rfl, m1, m3, h1.same s2, sa1.same s2, fun H3 h3 b3 => ?_⟩
  walk_at "f"
  exact k _ _ _ _ _ _ _ _ _ _ _ _ h3
theorem eqb3 (many m' : Int) (ps ps2 qs qs2 : List Pol) : decide (many = m' ∧ ps = ps2 ∧ qs = qs2) = (List.range 3).all (fun i => if i = 0 then m' == many else if i = 1 then decide (ps2 = ps) else decide (qs2 = qs)) := by
  rw [Bool.eq_iff_iff, decide_eq_true_eq, List.all_eq_true]
  constructor
  · rintro ⟨rfl, rfl, rfl⟩ i hi
    by_cases h0 : i = 0
    · rw [if_pos h0]; exact beq_self_eq_true _
    · rw [if_neg h0]
      by_cases h1 : i = 1
      · rw [if_pos h1]; exact decide_eq_true rfl
      · rw [if_neg h1]; exact decide_eq_true rfl
  · intro h
    have a := h 0 (List.mem_range.mpr (by decide))
    have b := h 1 (List.mem_range.mpr (by decide))
    have c := h 2 (List.mem_range.mpr (by decide))
    rw [if_pos rfl] at a
    rw [if_neg (by decide), if_pos rfl] at b
    rw [if_neg (by decide), if_neg (by decide)] at c
    exact ⟨(beq_iff_eq.mp a).symm, (of_decide_eq_true b).symm, (of_decide_eq_true c).symm⟩
def spLaw (K : PySem.W.Frag) : Sp := fun vs H Q _ => ∃ (a : Addr) (ns : List Int), vs = [.ref a] ∧ SqL K H a (ns.map V.int) ∧ ns.length ≤ 63 ∧ ∀ H', Q (.bl true) H'
section
variable {P : Program} {w : World} {K : PySem.W.Frag} {mg : Str → Option Value} {base : Heap}
theorem sc_law : FnScope ["_law_script", "_law_hand_here", "_law_turn", "_law_many", "_law_k", "_law_equations", "_law_barred", "_law_parts", "_law_wrong_here", "_law_due", "_law_system", "_law_other", "_law_again"] ["_law_script"] (defScope s_law) := ⟨rfl, rfl, rfl, by decide +kernel, rfl, by decide +kernel, by decide +kernel⟩
theorem ok_law {f : Addr} {fd : FuncData} {C fI fE S sI sE : Addr} {fdS fdQ : FuncData} (F : FnP K "law" "law" s_law f fd) (C_law_hand : Cal P w K mg base "_law_hand" 1 ["_law_script"] (spHand K)) (C_law_draw : Cal P w K mg base "_law_draw" 1 ["_law_hand_here", "_law_many"] (spDraw K)) (C_law_marks : Cal P w K mg base "_law_marks" 2 ["_law_some"] (spMarks K)) (C_law_small : Cal P w K mg base "_law_small" 3 ["_law_hand_here", "_law_many", "_law_most"] (spSmall K)) (C_law_any : Cal P w K mg base "_law_any" 2 ["_law_hand_here", "_law_things"] (spAny K)) (C_law_made : Cal P w K mg base "_law_made" 38 ["_law_many", "_law_equations", "_law_barred"] (spMade K)) (C_law_bent_parts : Cal P w K mg base "_law_bent_parts" 5 ["_law_hand_here", "_law_many", "_law_equations", "_law_barred"] (spBentP K)) (C_law_wrong : Cal P w K mg base "_law_wrong" 3 ["_law_many", "_law_equations", "_law_barred"] (spWrong K)) (C_law_packed : Cal P w K mg base "_law_packed" 37 ["_law_thing"] (spPacked K C 30)) (C_law_is_odd_told : Cal P w K mg base "_law_is_odd_told" 6 ["_law_hand_here", "_law_system", "_law_many"] (spOddT K C S)) (T : Txt0 mg) (PT : PolF K mg C fI fE) (ST : SysF K mg S sI sE) (BF : BadF K mg) (G_System : FnOk P w K mg base (L2.CX P w) 4 sI fdS ["self", "many", "equations", "barred"] (spSysI K C S)) (b_System : Binds K fdS ["self", "many", "equations", "barred"] []) (GS : FnOk P w K mg base CX0 8 sE fdQ ["self", "other"] (spEqB (SEq K C S))) (bS : Binds K fdQ ["self", "other"] []) : FnOk P w K mg base CX0 39 f fd ["_law_script"] (spLaw K) := by
  obtain ⟨f_law_hand, fd_law_hand, g_law_hand, G_law_hand, b_law_hand, k_law_hand⟩ := C_law_hand
  obtain ⟨f_law_draw, fd_law_draw, g_law_draw, G_law_draw, b_law_draw, k_law_draw⟩ := C_law_draw
  obtain ⟨f_law_marks, fd_law_marks, g_law_marks, G_law_marks, b_law_marks, k_law_marks⟩ := C_law_marks
  obtain ⟨f_law_small, fd_law_small, g_law_small, G_law_small, b_law_small, k_law_small⟩ := C_law_small
  obtain ⟨f_law_any, fd_law_any, g_law_any, G_law_any, b_law_any, k_law_any⟩ := C_law_any
  obtain ⟨f_law_made, fd_law_made, g_law_made, G_law_made, b_law_made, k_law_made⟩ := C_law_made
  obtain ⟨f_law_bent_parts, fd_law_bent_parts, g_law_bent_parts, G_law_bent_parts, b_law_bent_parts, k_law_bent_parts⟩ := C_law_bent_parts
  obtain ⟨f_law_wrong, fd_law_wrong, g_law_wrong, G_law_wrong, b_law_wrong, k_law_wrong⟩ := C_law_wrong
  obtain ⟨f_law_packed, fd_law_packed, g_law_packed, G_law_packed, b_law_packed, k_law_packed⟩ := C_law_packed
  obtain ⟨f_law_is_odd_told, fd_law_is_odd_told, g_law_is_odd_told, G_law_is_odd_told, b_law_is_odd_told, k_law_is_odd_told⟩ := C_law_is_odd_told
  refine F.ok sc_law (fun vs H Q E h => ?_) (fun cdv A outer s H vs Q E hr h => ?_)
  · obtain ⟨a, ns, rfl, ha, h63, k⟩ := h
    rfl
  · obtain ⟨a, ns, rfl, ha, h63, k⟩ := h
    refine ⟨_, PSs.nox (pss_cons (ps_set (i := 1) sc_law.nd rfl (Or.inr rfl) (pe_call G_law_hand (hr.mono (by decide)) (by rfl) g_law_hand k_law_hand b_law_hand .nil pass0 (pa_cons (pv 0) pa_nil)))
      (pss_cons (ps_for PassesOwn.never rfl (pi_range1 (by rfl) T.range (pa_cons pe_int pa_nil)) (pg_name (i := 2) sc_law.nd rfl (Or.inl rfl))
       (pss_cons (ps_set (i := 3) sc_law.nd rfl (Or.inr rfl) (pe_op op_add pe_int (pe_call G_law_draw (hr.mono (by decide)) (by rfl) g_law_draw k_law_draw b_law_draw .nil pass0 (pa_cons (pv 1) (pa_cons pe_int pa_nil)))))
      (pss_cons (ps_set (i := 5) sc_law.nd rfl (Or.inl rfl) (pe_call G_law_marks (hr.mono (by decide)) (by rfl) g_law_marks k_law_marks b_law_marks .nil pass0 (pa_cons (pe_lc (own := [("_law_k", 4)]) (tt := tYes) (by rfl) sc_law.nd (pi_range1 (by rfl) T.range (pa_cons (pe_call G_law_draw (hr.mono (by decide)) (by rfl) g_law_draw k_law_draw b_law_draw .nil pass0 (pa_cons (pv 1) (pa_cons pe_int pa_nil))) pa_nil)) (blkOk_by (own := [("_law_k", 4)]) (N := ["_law_script", "_law_hand_here", "_law_turn", "_law_many", "_law_k", "_law_equations", "_law_barred", "_law_parts", "_law_wrong_here", "_law_due", "_law_system", "_law_other", "_law_again"]) (sc := (defScope s_law)) (by decide +kernel)) (fun _ _ _ _ _ => (pg_name (i := 4) sc_law.nd rfl (Or.inl rfl))) (fun _ _ _ _ _ => pts_nil) (fun _ _ _ _ _ => (pe_call G_law_small (hr.mono (by decide)) (by rfl) g_law_small k_law_small b_law_small .nil pass0 (pa_cons (pv 1) (pa_cons (pv 3) (pa_cons pe_int pa_nil)))))) pa_nil)))
      (pss_cons (ps_set (i := 6) sc_law.nd rfl (Or.inl rfl) (pe_call G_law_marks (hr.mono (by decide)) (by rfl) g_law_marks k_law_marks b_law_marks .nil pass0 (pa_cons (pe_lc (own := [("_law_k", 4)]) (tt := tYes) (by rfl) sc_law.nd (pi_range1 (by rfl) T.range (pa_cons (pe_call G_law_any (hr.mono (by decide)) (by rfl) g_law_any k_law_any b_law_any .nil pass0 (pa_cons (pv 1) (pa_cons (pe_lst (pa_cons pe_int (pa_cons pe_int (pa_cons pe_int (pa_cons pe_int pa_nil))))) pa_nil))) pa_nil)) (blkOk_by (own := [("_law_k", 4)]) (N := ["_law_script", "_law_hand_here", "_law_turn", "_law_many", "_law_k", "_law_equations", "_law_barred", "_law_parts", "_law_wrong_here", "_law_due", "_law_system", "_law_other", "_law_again"]) (sc := (defScope s_law)) (by decide +kernel)) (fun _ _ _ _ _ => (pg_name (i := 4) sc_law.nd rfl (Or.inl rfl))) (fun _ _ _ _ _ => pts_nil) (fun _ _ _ _ _ => (pe_call G_law_small (hr.mono (by decide)) (by rfl) g_law_small k_law_small b_law_small .nil pass0 (pa_cons (pv 1) (pa_cons (pv 3) (pa_cons pe_int pa_nil)))))) pa_nil)))
      (pss_cons (ps_if (pt_cmpR (DX.op_neB DX.ownR_no (n := 6) (hr.mono (by decide))) (pe_call G_law_made (hr.mono (by decide)) (by rfl) g_law_made k_law_made b_law_made .nil pass0 (pa_cons (pv 3) (pa_cons (pv 5) (pa_cons (pv 6) pa_nil)))) (pe_tup (pa_cons pe_str (pa_cons (pe_tup (pa_cons (pv 3) (pa_cons (pv 5) (pa_cons (pv 6) pa_nil)))) pa_nil))) (nomark _))
       (pss_one (ps_ret pe_bl))
       pss_nil)
      (pss_cons (ps_set (i := 7) sc_law.nd rfl (Or.inl rfl) (pe_call G_law_bent_parts (hr.mono (by decide)) (by rfl) g_law_bent_parts k_law_bent_parts b_law_bent_parts .nil pass0 (pa_cons (pv 1) (pa_cons (pv 3) (pa_cons (pv 5) (pa_cons (pv 6) pa_nil))))))
      (pss_cons (ps_set (i := 8) sc_law.nd rfl (Or.inl rfl) (pe_call G_law_wrong (hr.mono (by decide)) (by rfl) g_law_wrong k_law_wrong b_law_wrong .nil pass0 (pa_cons (pe_ix ix_list (pv 7) pe_int (fun _ _ => rfl)) (pa_cons (pe_ix ix_list (pv 7) pe_int (fun _ _ => rfl)) (pa_cons (pe_ix ix_list (pv 7) pe_int (fun _ _ => rfl)) pa_nil)))))
      (pss_cons (ps_set (i := 9) sc_law.nd rfl (Or.inl rfl) (pe_ifExp (pt_cmpR DX.op_isNn (pv 8) pe_non (nomark _)) (pe_tup (pa_cons pe_str (pa_cons (pe_tupleOf (by rfl) T.tuple (pv 7)) pa_nil))) (pe_tup (pa_cons pe_str (pa_cons (pv 8) pa_nil)))))
      (pss_cons (ps_if (pt_cmpR (DX.op_neB DX.ownR_no (n := 6) (hr.mono (by decide))) (pe_call G_law_made (hr.mono (by decide)) (by rfl) g_law_made k_law_made b_law_made .nil pass0 (pa_cons (pe_ix ix_list (pv 7) pe_int (fun _ _ => rfl)) (pa_cons (pe_ix ix_list (pv 7) pe_int (fun _ _ => rfl)) (pa_cons (pe_ix ix_list (pv 7) pe_int (fun _ _ => rfl)) pa_nil)))) (pv 9) (nomark _))
       (pss_one (ps_ret pe_bl))
       pss_nil)
      (pss_cons (ps_set (i := 10) sc_law.nd rfl (Or.inl rfl) (pe_make ST.mkr G_System (hr.mono (by decide)) (by rfl) ST.g b_System .nil passL (pa_cons (pv 3) (pa_cons (pe_call G_law_packed (hr.mono (by decide)) (by rfl) g_law_packed k_law_packed b_law_packed .nil pass0 (pa_cons (pv 5) pa_nil)) (pa_cons (pe_call G_law_packed (hr.mono (by decide)) (by rfl) g_law_packed k_law_packed b_law_packed .nil pass0 (pa_cons (pv 6) pa_nil)) pa_nil)))))
      (pss_cons (ps_if (pt_cmpR DX.op_isNn (pv 8) pe_non (nomark _))
       (pss_cons (ps_set (i := 11) sc_law.nd rfl (Or.inl rfl) (pe_make ST.mkr G_System (hr.mono (by decide)) (by rfl) ST.g b_System .nil passL (pa_cons (pe_ix ix_list (pv 7) pe_int (fun _ _ => rfl)) (pa_cons (pe_call G_law_packed (hr.mono (by decide)) (by rfl) g_law_packed k_law_packed b_law_packed .nil pass0 (pa_cons (pe_ix ix_list (pv 7) pe_int (fun _ _ => rfl)) pa_nil)) (pa_cons (pe_call G_law_packed (hr.mono (by decide)) (by rfl) g_law_packed k_law_packed b_law_packed .nil pass0 (pa_cons (pe_ix ix_list (pv 7) pe_int (fun _ _ => rfl)) pa_nil)) pa_nil)))))
      (pss_one (ps_if (pt_cmpR op_ne (pe_cmpR (DX.op_eqB (DX.ownR_ins GS ST.eq.at_ ST.eq.fn bS pass0 (seq_D ST.nf)) (n := 0) (hr.mono (by decide))) (pv 10) (pv 11) (nomark _)) (pe_cmpR (DX.op_eqB DX.ownR_no (n := 5) (hr.mono (by decide))) (pv 7) (pe_lst (pa_cons (pv 3) (pa_cons (pv 5) (pa_cons (pv 6) pa_nil)))) (nomark _)) (nomark _))
       (pss_one (ps_ret pe_bl))
       pss_nil)))
       pss_nil)
      (pss_cons (ps_set (i := 12) sc_law.nd rfl (Or.inl rfl) (pe_make ST.mkr G_System (hr.mono (by decide)) (by rfl) ST.g b_System .nil passL (pa_cons (pv 3) (pa_cons (pe_call G_law_packed (hr.mono (by decide)) (by rfl) g_law_packed k_law_packed b_law_packed .nil pass0 (pa_cons (pv 5) pa_nil)) (pa_cons (pe_call G_law_packed (hr.mono (by decide)) (by rfl) g_law_packed k_law_packed b_law_packed .nil pass0 (pa_cons (pv 6) pa_nil)) pa_nil)))))
      (pss_cons (ps_if (PW.pt (pw_or (pt_cmpR (DX.op_eqB (DX.ownR_ins GS ST.eq.at_ ST.eq.fn bS pass0 (seq_D ST.nf)) (n := 0) (hr.mono (by decide))) (pv 10) (pe_tup (pa_cons (pv 3) (pa_cons (pv 5) (pa_cons (pv 6) pa_nil)))) (nomark _)) (pw_or1 (pt_not (pt_cmpR (DX.op_eqB (DX.ownR_ins GS ST.eq.at_ ST.eq.fn bS pass0 (seq_D ST.nf)) (n := 0) (hr.mono (by decide))) (pv 10) (pv 12) (nomark _))))))
       (pss_one (ps_ret pe_bl))
       pss_nil)
      (pss_one (ps_if (pt_not (pt_val (pe_call G_law_is_odd_told (hr.mono (by decide)) (by rfl) g_law_is_odd_told k_law_is_odd_told b_law_is_odd_told .nil pass0 (pa_cons (pv 1) (pa_cons (pv 10) (pa_cons (pv 3) pa_nil))))))
       (pss_one (ps_ret pe_bl))
       pss_nil)))))))))))))))
      (pss_one (ps_ret pe_bl)))), ?_⟩
    try dsimp only [cxOf, Cx.nox, Cx.wish]
    walk_at "f"
    refine ⟨a, ns, rfl, ha, h63, fun d c H1 nd s1 hh => ?_⟩
    walk_at "f"
    refine My.rngI (by omega) (by omega) (fun i σ' H' => (∃ u2 u3 u4 u5 u6 u7 u8 u9 u10 u11 u12, σ' = [some (.ref a), some (.ref d), u2, u3, u4, u5, u6, u7, u8, u9, u10, u11, u12]) ∧ Hand K H' d c) ⟨⟨_, _, _, _, _, _, _, _, _, _, _, rfl⟩, hh⟩ ?_ ?_
    · rintro i σ' H2 hi ⟨⟨u2, u3, u4, u5, u6, u7, u8, u9, u10, u11, u12, rfl⟩, h2⟩
      have comp : ∀ (many n : Int) (u2 u4 u5 u6 u7 u8 u9 u10 u11 u12 : Option V) (H0 : Hp) (R : VK), 1 ≤ many → many ≤ 3 → 0 ≤ n → n ≤ 6 → Hand K H0 d c → (∀ (D : Addr) (H' : Hp) (bs : List Addr), H' D = some (.lst (bs.map V.ref)) → bs.length ≤ 6 → Hand K H' d c → But d H0 H' → (∀ b ∈ bs, ∃ m, PolD H' b m ∧ WFs many 2 m ∧ m.length ≤ 3) → R (.ref D) H') →
          My.LJ (Itr 0 n.toNat) (gName 4) tYes (tCall (spSmall K) [] E0 (tCons (tVar 1) (tCons (tVar 3) (tCons (tC (.int 2)) tNil)))) [4] [some (.ref a), some (.ref d), u2, some (.int many), u4, u5, u6, u7, u8, u9, u10, u11, u12] R H0 := by
        intro many n u2 u4 u5 u6 u7 u8 u9 u10 u11 u12 H0 R m1 m3 n0 n6 h0 kR
        refine My.lcM2 walk_range (fun H1 H' => But d H1 H' ∧ Hand K H' d c) (by omega) (fun D hD => ⟨Same.but (same_new hD), h0.same (same_new hD)⟩) fun D nD => ⟨fun j y H => ∃ b, y = .ref b ∧ ∃ m, PolD H b m ∧ WFs many 2 m ∧ m.length ≤ 3, fun j y H ys zs e ⟨b, h1, m, h2, h3⟩ => ⟨b, h1, m, by
            have h2' : H b = some (HO.dT (kvI m)) := h2
            show upd H D _ b = _
            rw [upd_ne (fun g => by rw [g, e] at h2'; cases h2')]
            exact h2', h3⟩, fun H o s => ⟨but_at s.1 nD, Hand.at h0 s.1 s.2 nD⟩, fun _ _ _ _ => trivial, ?_, ?_⟩
        · rintro j x H3 H4 ys N hj r e l p' ⟨rfl, rfl⟩ hN
          walk_at "f"
          refine ⟨rfl, ?_⟩
          walk_at "f"
          refine ⟨d, c, many, 2, rfl, by decide, by decide, r.2, fun b H5 m h5 b5 hb wf lm => ?_⟩
          refine hN _ _ ⟨r.1.trans b5, h5⟩ (b5.obj r.2 e (fun _ z => by cases z)) (fun j v hv => ?_) ⟨b, rfl, m, hb, wf, lm⟩
          obtain ⟨b', h1, m', h2, h3⟩ := p' j v hv
          exact ⟨b', h1, m', b5.obj r.2 h2 (fun _ z => by cases z), h3⟩
        · intro H3 ys hD hl r hy
          obtain ⟨bs, rfl, hb⟩ := refs_of hy
          rw [List.length_map] at hl
          refine kR D H3 bs hD (by omega) r.2 r.1 fun b hb' => ?_
          obtain ⟨j, hj⟩ := List.mem_iff_getElem?.mp hb'
          exact hb j b hj
      walk_at "f"
      refine ⟨d, c, 3, rfl, by decide, by decide, h2, fun r H3 r0 r1 h3 b3 _ => ?_⟩
      walk_at "f"
      generalize hm : 1 + r = many
      have m1 : 1 ≤ many := by omega
      have m3 : many ≤ 3 := by omega
      refine ⟨d, c, 4, rfl, by decide, by decide, h3, fun r4 H4 q0 q1 h4 b4 _ => ?_⟩
      walk_at "f"
      refine ⟨r4, rfl, by omega, by omega, comp many r4 _ _ _ _ _ _ _ _ _ _ H4 _ m1 m3 q0 (by omega) h4 fun D1 H5 bs1 hD1 l1 h5 b5 pb1 => ?_⟩
      walk_at "f"
      refine ⟨D1, bs1, rfl, SqL.of hD1, by omega, fun e H6 ne s6 mk1 => ?_⟩
      obtain ⟨ms, ri1⟩ := marks_ri m1 l1 mk1 fun b hb => by obtain ⟨m, g1, g2⟩ := pb1 b hb; exact ⟨m, s6 _ _ g1, g2⟩
      have h6 := h5.same s6
      walk_at "f"
      (refine My.new (My.sz (by simp)) (fun p7 n7 => ?_); generalize hE : upd _ p7 _ = H7; obtain ⟨s7, o7⟩ := new_of n7 hE; clear hE)
      walk_at "f"
      refine ⟨d, c, p7, _, rfl, h6.same s7, SqL.of o7, by simp, by simp, fun y H8 hy h8 b8 _ => ?_⟩
      obtain ⟨r6, rfl, q60, q66⟩ : ∃ r6 : Int, y = .int r6 ∧ 0 ≤ r6 ∧ r6 ≤ 6 := by
        simp only [List.mem_cons, List.not_mem_nil, or_false] at hy
        rcases hy with rfl | rfl | rfl | rfl <;> exact ⟨_, rfl, by decide, by decide⟩
      have ri8 := RI.but (h6.same s7) b8 (ri1.same s7)
      walk_at "f"
      refine ⟨r6, rfl, by omega, by omega, comp many r6 _ _ _ _ _ _ _ _ _ _ H8 _ m1 m3 q60 q66 h8 fun D2 H9 bs2 hD2 l2 h9 b9 pb2 => ?_⟩
      walk_at "f"
      refine ⟨D2, bs2, rfl, SqL.of hD2, by omega, fun f' HA nf sA mk2 => ?_⟩
      obtain ⟨ns', ri2⟩ := marks_ri m1 l2 mk2 fun b hb => by obtain ⟨m, g1, g2⟩ := pb2 b hb; exact ⟨m, sA _ _ g1, g2⟩
      have riA := (RI.but h8 b9 ri8).same sA
      have hA := h9.same sA
      clear comp
      have e0 : sysWr (.int many) (some (ms.map some)) (some (ns'.map some)) = none := sys_no (if_pos ⟨m1, m3⟩) (riA.ok m1 m3) (ri2.ok m1 m3)
      obtain ⟨xs1, rw1⟩ := riA.rows
      obtain ⟨xs2, rw2⟩ := ri2.rows
      walk_at "f"
      refine ⟨d, .int many, .ref e, .ref f', .int, _, _, rfl, .int many, riA.lprt, ri2.lprt, rw1.pk2, rw2.pk2, hA.dk, fun t1 HB sB mo => ?_⟩
      unfold MadeO at mo
      rw [e0] at mo
      walk_at "f"
      (refine My.new (My.sz (by simp)) (fun pt nt => ?_); generalize hE : upd _ pt _ = HC; obtain ⟨sC, oC⟩ := new_of nt hE; clear hE)
      walk_at "f"
      (refine My.new (My.sz (by simp)) (fun pq nq => ?_); generalize hE : upd _ pq _ = HD; obtain ⟨sD, oD⟩ := new_of nq hE; clear hE)
      have sAD := (sB.trans sC).trans sD
      refine told_eq (mo.same (sC.trans sD)) (riA.same sAD).lprt (ri2.same sAD).lprt oD (sD _ _ oC) ⟨_, rfl, My.ite_f ?_⟩
      have hD := hA.same sAD
      have riD := riA.same sAD
      have riE := ri2.same sAD
      clear mo oC oD sB sC sD nt nq
      obtain ⟨xs1, rw1⟩ := riD.rows
      obtain ⟨xs2, rw2⟩ := riE.rows
      walk_at "f"
      refine ⟨d, c, e, f', many, xs1, xs2, rfl, hD, rw1, rw2, fun l v0 v1 v2 HE hl p0 p1 p2 hE bE => ?_⟩
      have riD := RI.but hD bE riD
      have riE := RI.but hD bE riE
      obtain ⟨tm, tvm⟩ := p0.tg (K := K)
      obtain ⟨re, l1⟩ := p1.lprt (K := K)
      obtain ⟨rb, l2⟩ := p2.lprt (K := K)
      walk_at "f"
      refine My.ixL (SqL.of hl) (v := v0) (by rfl) ?_
      walk_at "f"
      refine My.ixL (SqL.of hl) (v := v1) (by rfl) ?_
      walk_at "f"
      refine My.ixL (SqL.of hl) (v := v2) (by rfl) ?_
      walk_at "f"
      refine ⟨v0, v1, v2, tm, re, rb, rfl, tvm, l1, l2, fun wv HF sF wo => ?_⟩
      have hF := hE.same sF
      have hl := sF _ _ hl
      have tvm := tvm.same sF
      have l1 := l1.same sF
      have l2 := l2.same sF
      have p0 := p0.same hE.dko sF
      have p1 := p1.same hE.dko sF
      have p2 := p2.same hE.dko sF
      have riD := riD.same sF
      have riE := riE.same sF
      refine My.name rfl ?_
      cases es : sysWr v0 re rb with
      | some W =>
        rw [es] at wo
        have wo : WrV HF wv W := wo
        have nz := wr_some wo
        refine My.seq (My.asg (My.ifV (My.test (My.op (My.var rfl (My.cst ⟨rfl, _, rfl, My.ite_d (fun z => absurd z nz) fun _ => ?_⟩))))))
        walk_at "f"
        (refine My.new (My.sz (by simp)) (fun pd nd => ?_); generalize hE : upd _ pd _ = HG; obtain ⟨sG, oG⟩ := new_of nd hE; clear hE)
        refine My.name rfl ?_
        walk_at "f"
        refine My.ixL (SqL.of (sG _ _ hl)) (v := v0) (by rfl) ?_
        walk_at "f"
        refine My.ixL (SqL.of (sG _ _ hl)) (v := v1) (by rfl) ?_
        walk_at "f"
        refine My.ixL (SqL.of (sG _ _ hl)) (v := v2) (by rfl) ?_
        walk_at "f"
        have hG := hF.same sG
        refine ⟨d, v0, v1, v2, tm, re, rb, rfl, tvm.same sG, l1.same sG, l2.same sG, p1.same hF.dko sG, p2.same hF.dko sG, hG.dk, fun t2 HI sI mo => ?_⟩
        unfold MadeO at mo
        rw [es] at mo
        obtain ⟨y, g1, g2⟩ := mo
        walk_at "f"
        refine ne_two g1 (sI _ _ oG) eqB_str (wr_eq g2 ((WrV.same sG wo).same sI)) ⟨_, rfl, My.ite_f (My.next ?_)⟩
        have sGI := sG.trans sI
        refine My.seq (My.asg (mk_sys m1 m3 (hF.same sGI) (riD.same sGI) (riE.same sGI) fun x HJ ps qs sJ sa q1 q2 => My.name rfl ?_))
        refine My.seq (My.ifs (My.test (My.op (My.var rfl (My.cst ⟨rfl, _, rfl, My.ite_d (fun z => absurd z nz) fun _ => My.next ?_⟩)))))
        have sGJ := sGI.trans sJ
        exact tail_ok m1 m3 (hF.same sGJ) (riD.same sGJ) (riE.same sGJ) sa q1 q2 fun _ _ _ _ _ _ _ _ _ _ _ _ hx => ⟨⟨_, _, _, _, _, _, _, _, _, _, _, rfl⟩, hx⟩
      | none =>
        rw [es] at wo
        have wo : wv = .non := wo
        subst wo
        obtain ⟨m', hm', e1, e2⟩ := sys_none es
        obtain ⟨rfl, m1', m3'⟩ : v0 = .int m' ∧ 1 ≤ m' ∧ m' ≤ 3 := by
          cases v0 with
          | int i =>
            have z : (if 1 ≤ i ∧ i ≤ 3 then some i else none) = some m' := hm'
            split at z
            · rename_i g
              cases z
              exact ⟨rfl, g⟩
            · cases z
          | _ => cases hm'
        refine My.seq (My.asg (My.ifV (My.test (My.op (My.var rfl (My.cst ⟨rfl, _, rfl, My.ite_d (fun _ => ?_) fun z => absurd rfl z⟩))))))
        walk_at "f"
        refine My.tupL (SqL.of hl) fun pu nu => ?_
        generalize hQ : upd HF pu _ = HU
        obtain ⟨sU, oU⟩ := new_of nu hQ
        clear hQ
        walk_at "f"
        (refine My.new (My.sz (by simp)) (fun pd nd => ?_); generalize hE : upd _ pd _ = HG; obtain ⟨sG', oG⟩ := new_of nd hE; clear hE)
        refine My.name rfl ?_
        have sG := sU.trans sG'
        walk_at "f"
        refine My.ixL (SqL.of (sG _ _ hl)) (v := .int m') (by rfl) ?_
        walk_at "f"
        refine My.ixL (SqL.of (sG _ _ hl)) (v := v1) (by rfl) ?_
        walk_at "f"
        refine My.ixL (SqL.of (sG _ _ hl)) (v := v2) (by rfl) ?_
        walk_at "f"
        have hG := hF.same sG
        refine ⟨d, .int m', v1, v2, tm, re, rb, rfl, tvm.same sG, l1.same sG, l2.same sG, p1.same hF.dko sG, p2.same hF.dko sG, hG.dk, fun t2 HI sI mo => ?_⟩
        unfold MadeO at mo
        rw [es] at mo
        walk_at "f"
        have sGI := sG.trans sI
        refine told_eq mo (l1.same sGI) (l2.same sGI) (sI _ _ oG) ((sG'.trans sI) _ _ oU) ⟨_, rfl, My.ite_f (My.next ?_)⟩
        refine My.seq (My.asg (mk_sys m1 m3 (hF.same sGI) (riD.same sGI) (riE.same sGI) fun x HJ ps qs sJ sa q1 q2 => My.name rfl ?_))
        refine My.seq (My.ifs (My.test (My.op (My.var rfl (My.cst ⟨rfl, _, rfl, My.ite_d (fun _ => ?_) fun z => absurd rfl z⟩)))))
        have sGJ := sGI.trans sJ
        have hJ := hF.same sGJ
        walk_at "f"
        refine My.ixL (SqL.of (sGJ _ _ hl)) (v := .int m') (by rfl) ?_
        walk_at "f"
        refine My.ixL (SqL.of (sGJ _ _ hl)) (v := v1) (by rfl) ?_
        walk_at "f"
        refine ⟨d, v1, rfl, p1.same hF.dko sGJ, hJ.dk, fun ve' HK sK res1 => ?_⟩
        walk_at "f"
        refine My.ixL (SqL.of (sK _ _ (sGJ _ _ hl))) (v := v2) (by rfl) ?_
        walk_at "f"
        have sGK := sGJ.trans sK
        refine ⟨d, v2, rfl, p2.same hF.dko sGK, (hF.same sGK).dk, fun vb' HL sL res2 => ?_⟩
        walk_at "f"
        have sGL := sGK.trans sL
        intro x2 dx2 nx2 ndx2 nxd2
        refine sys_make1 (l1.same sGL) (l2.same sGL) (res1.same sL) res2 es nx2 ndx2 nxd2 fun HM ps2 qs2 ms2 ns2 sM sa2 w1 w2 q3 q4 => ⟨rfl, ?_⟩
        subst w1 w2
        have sGM := sGL.trans sM
        obtain ⟨e2', rfl, mm1⟩ := lprt_mm (l1.same sGM) q3
        obtain ⟨f2', rfl, mm2⟩ := lprt_mm (l2.same sGM) q4
        refine My.name rfl ?_
        walk_at "f"
        have saM := sa.same ((sK.trans sL).trans sM)
        refine ⟨_, .inl ⟨x, x2, rfl, rfl, many, ps, qs, saM, .inl ⟨m', ps2, qs2, sa2, rfl⟩⟩, ?_⟩
        walk_at "f"
        (refine My.new (My.sz (by simp)) (fun pl nl => ?_); generalize hE : upd _ pl _ = HN; obtain ⟨sN, oN⟩ := new_of nl hE; clear hE)
        obtain ⟨e3, z3, mm3⟩ := lprt_mm (K := K) (riD.same (sGM.trans sN)).lprt q1
        obtain ⟨f3, z4, mm4⟩ := lprt_mm (K := K) (riE.same (sGM.trans sN)).lprt q2
        cases z3
        cases z4
        refine ⟨(List.range 3).all (fun i => if i = 0 then m' == many else if i = 1 then decide (ps2 = ps) else decide (qs2 = qs)), .inr (.inr (.inl ⟨l, pl, _, _, fun i => if i = 0 then m' == many else if i = 1 then decide (ps2 = ps) else decide (qs2 = qs), rfl, rfl, sN _ _ (sGM _ _ hl), oN, rfl, fun i x y hx hy => ?_, rfl⟩)), ?_⟩
        · match i, hx, hy with
          | 0, hx, hy =>
            cases Option.some.inj hx
            cases Option.some.inj hy
            exact .inl ⟨rfl, rfl, rfl⟩
          | 1, hx, hy =>
            cases Option.some.inj hx
            cases Option.some.inj hy
            exact eqB_marks (n := 2) (mm1.same sN) mm3
          | 2, hx, hy =>
            cases Option.some.inj hx
            cases Option.some.inj hy
            exact eqB_marks (n := 2) (mm2.same sN) mm4
          | i + 3, hx, hy => simp at hx
        · have eb : decide (many = m' ∧ ps = ps2 ∧ qs = qs2) = (List.range 3).all (fun i => if i = 0 then m' == many else if i = 1 then decide (ps2 = ps) else decide (qs2 = qs)) := by
            exact eqb3 _ _ _ _ _ _
          rw [eb]
          refine ⟨rfl, _, rfl, ?_⟩
          refine My.ite_cf (by simp) (My.next ?_)
          have sN' := ((sK.trans sL).trans sM).trans sN
          have sGN := sGM.trans sN
          exact tail_ok m1 m3 (hF.same sGN) (riD.same sGN) (riE.same sGN) (sa.same sN') q1 q2 fun _ _ _ _ _ _ _ _ _ _ _ _ hx => ⟨⟨_, _, _, _, _, _, _, _, _, _, _, rfl⟩, hx⟩
    · rintro σ' H2 ⟨⟨u2, u3, u4, u5, u6, u7, u8, u9, u10, u11, u12, rfl⟩, h2⟩
      walk_at "f"
      exact k _
end
end K09

set_option Elab.async false
set_option linter.all false
set_option maxRecDepth 100000
set_option maxHeartbeats 0
namespace K09
open PySem PySem.Spec PyProof.Rows L2 XV DX XF He
theorem own_ok {K : PySem.W.Frag} {x : Str} (cl : Cls K (ga K x)) (h : ownB K x = true) (hn : PySem.W.specialIn K (.builtin "object.__class__") "__get__" = some (some (.builtin "getset_descriptor.__get__"))) (ht : PySem.W.takesIn K (.builtin "object.__class__") = some true) : InsT K (ga K x) ∧ ClsN K (ga K x) := by
  obtain ⟨c1, h⟩ := ba h
  obtain ⟨c2, h⟩ := ba h
  obtain ⟨c3, h⟩ := ba h
  obtain ⟨c4, c5⟩ := ba h
  exact ⟨⟨cl, eqO_ok c1, hn, ht, of_decide_eq_true c2, fun T hT => of_decide_eq_true (List.all_eq_true.mp c3 T hT)⟩, ⟨of_decide_eq_true c4, fun T hT => of_decide_eq_true (List.all_eq_true.mp c5 T hT)⟩⟩
theorem facts {P : Program} {w : World} {K : PySem.W.Frag} {h : Heap} {mg : Str → Option Value} {f : Addr} (X : K.In h) (G : h.Ns mainGlobals mg) (hfa : mg ("law" : Str) = some (.ref f)) (c : He.SaysD fa fnH K) (c2 : ex K = true) :
    ∃ fd : FuncData, (∀ (s : Shared) (v : Value), BindsTo s fd ⟨[v], []⟩ [("_law_script", v)]) ∧ ∀ base : Heap, K.In base → base.Ns mainGlobals mg → FnOk P w K mg base CX0 39 f fd ["_law_script"] (spLaw K) := by
  obtain ⟨fd_BadSystem_init, F_BadSystem_init⟩ := c.def_ 0 (d := d_BadSystem_init) rfl
  obtain ⟨fd_is_integer, F_is_integer⟩ := c.def_ 1 (d := d_is_integer) rfl
  obtain ⟨fd_is_number_to, F_is_number_to⟩ := c.def_ 2 (d := d_is_number_to) rfl
  obtain ⟨fd_is_fraction, F_is_fraction⟩ := c.def_ 3 (d := d_is_fraction) rfl
  obtain ⟨fd_is_point, F_is_point⟩ := c.def_ 4 (d := d_is_point) rfl
  obtain ⟨fd_greatest_powers, F_greatest_powers⟩ := c.def_ 5 (d := d_greatest_powers) rfl
  obtain ⟨fd_Poly_init, F_Poly_init⟩ := c.def_ 6 (d := d_Poly_init) rfl
  obtain ⟨fd_Poly_eq, F_Poly_eq⟩ := c.def_ 7 (d := d_Poly_eq) rfl
  obtain ⟨fd_is_term, F_is_term⟩ := c.def_ 8 (d := d_is_term) rfl
  obtain ⟨fd_is_powers, F_is_powers⟩ := c.def_ 9 (d := d_is_powers) rfl
  obtain ⟨fd_top, F_top⟩ := c.def_ 10 (d := d_top) rfl
  obtain ⟨fd_stands_in, F_stands_in⟩ := c.def_ 11 (d := d_stands_in) rfl
  obtain ⟨fd_System_init, F_System_init⟩ := c.def_ 12 (d := d_System_init) rfl
  obtain ⟨fd_System_eq, F_System_eq⟩ := c.def_ 13 (d := d_System_eq) rfl
  obtain ⟨fd_is_root, F_is_root⟩ := c.def_ 14 (d := d_is_root) rfl
  obtain ⟨fd_cover_fault, F_cover_fault⟩ := c.def_ 15 (d := d_cover_fault) rfl
  obtain ⟨fd_is_cover, F_is_cover⟩ := c.def_ 16 (d := d_is_cover) rfl
  obtain ⟨fd_followed, F_followed⟩ := c.def_ 17 (d := d_followed) rfl
  obtain ⟨fd_states_behind, F_states_behind⟩ := c.def_ 18 (d := d_states_behind) rfl
  obtain ⟨fd_law_hand, F_law_hand⟩ := c.def_ 19 (d := d_law_hand) rfl
  obtain ⟨fd_law_draw, F_law_draw⟩ := c.def_ 20 (d := d_law_draw) rfl
  obtain ⟨fd_law_any, F_law_any⟩ := c.def_ 21 (d := d_law_any) rfl
  obtain ⟨fd_law_var, F_law_var⟩ := c.def_ 22 (d := d_law_var) rfl
  obtain ⟨fd_law_plus, F_law_plus⟩ := c.def_ 23 (d := d_law_plus) rfl
  obtain ⟨fd_law_mark, F_law_mark⟩ := c.def_ 24 (d := d_law_mark) rfl
  obtain ⟨fd_law_marks, F_law_marks⟩ := c.def_ 25 (d := d_law_marks) rfl
  obtain ⟨fd_law_is_marked, F_law_is_marked⟩ := c.def_ 26 (d := d_law_is_marked) rfl
  obtain ⟨fd_law_small, F_law_small⟩ := c.def_ 27 (d := d_law_small) rfl
  obtain ⟨fd_law_is_int, F_law_is_int⟩ := c.def_ 28 (d := d_law_is_int) rfl
  obtain ⟨fd_law_is_in, F_law_is_in⟩ := c.def_ 29 (d := d_law_is_in) rfl
  obtain ⟨fd_law_deep, F_law_deep⟩ := c.def_ 30 (d := d_law_deep) rfl
  obtain ⟨fd_law_packed, F_law_packed⟩ := c.def_ 31 (d := d_law_packed) rfl
  obtain ⟨fd_law_unpacked, F_law_unpacked⟩ := c.def_ 32 (d := d_law_unpacked) rfl
  obtain ⟨fd_law_wrong, F_law_wrong⟩ := c.def_ 33 (d := d_law_wrong) rfl
  obtain ⟨fd_law_made, F_law_made⟩ := c.def_ 34 (d := d_law_made) rfl
  obtain ⟨fd_law_odd, F_law_odd⟩ := c.def_ 35 (d := d_law_odd) rfl
  obtain ⟨fd_law_bent_rows, F_law_bent_rows⟩ := c.def_ 36 (d := d_law_bent_rows) rfl
  obtain ⟨fd_law_flag, F_law_flag⟩ := c.def_ 37 (d := d_law_flag) rfl
  obtain ⟨fd_law_bent_parts, F_law_bent_parts⟩ := c.def_ 38 (d := d_law_bent_parts) rfl
  obtain ⟨fd_law_is_odd_told, F_law_is_odd_told⟩ := c.def_ 39 (d := d_law_is_odd_told) rfl
  obtain ⟨fd_law, F_law⟩ := c.def_ 40 (d := d_law) rfl
  have e := hfa.symm.trans (He.glo_ok X G (c.fact 35 (f := .glo "law") rfl))
  cases e
  obtain ⟨x1, c2⟩ := ba c2
  obtain ⟨x2, c2⟩ := ba c2
  obtain ⟨x3, c2⟩ := ba c2
  obtain ⟨x4, c2⟩ := ba c2
  obtain ⟨x5, c2⟩ := ba c2
  obtain ⟨x6, c2⟩ := ba c2
  obtain ⟨x7, c2⟩ := ba c2
  obtain ⟨x8, c2⟩ := ba c2
  obtain ⟨x9, c2⟩ := ba c2
  obtain ⟨x10, c2⟩ := ba c2
  have T : Txt0 mg := { len := He.free_ok X G (c.fact 39 (f := .free "len") rfl), int := He.free_ok X G (c.fact 40 (f := .free "int") rfl), abs := He.free_ok X G (c.fact 41 (f := .free "abs") rfl), range := He.free_ok X G (c.fact 42 (f := .free "range") rfl), isi := He.free_ok X G (c.fact 43 (f := .free "isinstance") rfl), bool := He.free_ok X G (c.fact 44 (f := .free "bool") rfl), tuple := He.free_ok X G (c.fact 45 (f := .free "tuple") rfl), enum := He.free_ok X G (c.fact 46 (f := .free "enumerate") rfl), verr := He.free_ok X G (c.fact 47 (f := .free "ValueError") rfl), list := He.free_ok X G (c.fact 48 (f := .free "list") rfl), dict := He.free_ok X G (c.fact 49 (f := .free "dict") rfl), sorted := He.free_ok X G (c.fact 50 (f := .free "sorted") rfl), max := He.free_ok X G (c.fact 51 (f := .free "max") rfl), all := He.free_ok X G (c.fact 52 (f := .free "all") rfl), str := He.free_ok X G (c.fact 53 (f := .free "str") rfl), gcd := PySem.W.mg_of X G (eqO_ok x6) }
  have hn := eqO_ok x7
  have ht := of_decide_eq_true x8
  obtain ⟨iP, nP⟩ := own_ok (He.cls_ok (c.fact 54 (f := .cls "Poly") rfl)) x9 hn ht
  obtain ⟨iS, nS⟩ := own_ok (He.cls_ok (c.fact 58 (f := .cls "System") rfl)) x10 hn ht
  have PT : PolF K mg (ga K "Poly") (ma K (ga K "Poly") "__init__") (ma K (ga K "Poly") "__eq__") := ⟨(He.glo_ok X G (c.fact 36 (f := .glo "Poly") rfl)), iP, nP, He.noat_ok (c.fact 57 (f := .noat "Poly" "terms") rfl), He.mkr_ok (c.fact 55 (f := .mkr "Poly") rfl), He.meth_ok (c.fact 56 (f := .meth "Poly" "__eq__") rfl)⟩
  have ST : SysF K mg (ga K "System") (ma K (ga K "System") "__init__") (ma K (ga K "System") "__eq__") := ⟨(He.glo_ok X G (c.fact 37 (f := .glo "System") rfl)), iS, nS, He.noat_ok (c.fact 61 (f := .noat "System" "many") rfl), He.noat_ok (c.fact 62 (f := .noat "System" "equations") rfl), He.noat_ok (c.fact 63 (f := .noat "System" "barred") rfl), He.mkr_ok (c.fact 59 (f := .mkr "System") rfl), He.meth_ok (c.fact 60 (f := .meth "System" "__eq__") rfl), c2⟩
  have BF : BadF K mg := ⟨errB_ok X G x1, fldB_ok x2, of_decide_eq_true x3, (He.glo_ok X G (c.fact 38 (f := .glo "RootError") rfl)), of_decide_eq_true x4, of_decide_eq_true x5⟩
  obtain ⟨tUNK, gUNK⟩ := He.int_ok X G (c.fact 64 (f := .int "UNKNOWNS" 4) rfl)
  obtain ⟨tPOW, gPOW⟩ := He.int_ok X G (c.fact 65 (f := .int "MOST_POWER" 60) rfl)
  obtain ⟨tTRM, gTRM⟩ := He.int_ok X G (c.fact 66 (f := .int "MOST_TERMS" 300) rfl)
  obtain ⟨tMU, gMU⟩ := He.int_ok X G (c.fact 67 (f := .int "MOST_UNKNOWNS" 3) rfl)
  obtain ⟨tMP, gMP⟩ := He.int_ok X G (c.fact 68 (f := .int "MOST_POLYS" 6) rfl)
  have b := FunD.bindsA (ps := ["_law_script"]) F_law fun _ _ _ _ _ _ us hl => match us, hl with | [_], _ => rfl
  refine ⟨fd_law, fun s v => b s [v] rfl, fun base _ _ => ?_⟩
  have C_is_integer := cal_is_integer (P := P) (w := w) (base := base) F_is_integer (He.glo_ok X G (c.fact 0 (f := .glo "is_integer") rfl)) T  
  have C_law_is_int := cal_law_is_int (P := P) (w := w) (base := base) F_law_is_int (He.glo_ok X G (c.fact 23 (f := .glo "_law_is_int") rfl)) T  
  have C_is_number_to := cal_is_number_to (P := P) (w := w) (base := base) F_is_number_to (He.glo_ok X G (c.fact 1 (f := .glo "is_number_to") rfl)) T C_is_integer 
  have C_law_is_marked := cal_law_is_marked (P := P) (w := w) (base := base) F_law_is_marked (He.glo_ok X G (c.fact 21 (f := .glo "_law_is_marked") rfl)) T  
  have C_law_mark := cal_law_mark (P := P) (w := w) (base := base) F_law_mark (He.glo_ok X G (c.fact 19 (f := .glo "_law_mark") rfl)) T  
  have C_law_plus := cal_law_plus (P := P) (w := w) (base := base) F_law_plus (He.glo_ok X G (c.fact 18 (f := .glo "_law_plus") rfl)) T  
  have C_law_var := cal_law_var (P := P) (w := w) (base := base) F_law_var (He.glo_ok X G (c.fact 17 (f := .glo "_law_var") rfl)) T  
  have C_law_marks := cal_law_marks (P := P) (w := w) (base := base) F_law_marks (He.glo_ok X G (c.fact 20 (f := .glo "_law_marks") rfl)) T C_law_mark 
  have C_law_draw : Cal P w K mg base "_law_draw" 1 ["_law_hand_here", "_law_many"] (spDraw K) := ⟨_, _, (He.glo_ok X G (c.fact 15 (f := .glo "_law_draw") rfl)), ok_draw F_law_draw T, F_law_draw.bindsN (fun _ _ _ _ _ _ us hl => match us, hl with | [_, _], _ => rfl), F_law_draw.kp⟩
  have C_law_any : Cal P w K mg base "_law_any" 2 ["_law_hand_here", "_law_things"] (spAny K) := ⟨_, _, (He.glo_ok X G (c.fact 16 (f := .glo "_law_any") rfl)), ok_any F_law_any T F_law_draw (He.glo_ok X G (c.fact 15 (f := .glo "_law_draw") rfl)), F_law_any.bindsN (fun _ _ _ _ _ _ us hl => match us, hl with | [_, _], _ => rfl), F_law_any.kp⟩
  have C_law_deep : Cal P w K mg base "_law_deep" 2 ["_law_hand_here"] (spDeep K) := ⟨_, _, (He.glo_ok X G (c.fact 25 (f := .glo "_law_deep") rfl)), ok_deep F_law_deep T F_law_draw (He.glo_ok X G (c.fact 15 (f := .glo "_law_draw") rfl)), F_law_deep.bindsN (fun _ _ _ _ _ _ us hl => match us, hl with | [_], _ => rfl), F_law_deep.kp⟩
  have C_law_hand : Cal P w K mg base "_law_hand" 1 ["_law_script"] (spHand K) := ⟨_, _, (He.glo_ok X G (c.fact 14 (f := .glo "_law_hand") rfl)), ok_hand F_law_hand T, F_law_hand.bindsN (fun _ _ _ _ _ _ us hl => match us, hl with | [_], _ => rfl), F_law_hand.kp⟩
  have C_law_small := cal_law_small (P := P) (w := w) (base := base) F_law_small (He.glo_ok X G (c.fact 22 (f := .glo "_law_small") rfl)) T C_law_draw C_law_any C_law_plus 
  have C_is_powers := cal_is_powers (P := P) (w := w) (base := base) F_is_powers (He.glo_ok X G (c.fact 6 (f := .glo "is_powers") rfl)) T C_is_number_to gUNK gPOW
  have C_is_term := cal_is_term (P := P) (w := w) (base := base) F_is_term (He.glo_ok X G (c.fact 5 (f := .glo "is_term") rfl)) T C_is_powers C_is_integer 
  have G_Poly := ok_Poly_init (P := P) (w := w) (base := base) F_Poly_init C_is_term T iP PT.na gTRM
  have b_Poly : Binds K fd_Poly_init ["self", "terms"] [] := F_Poly_init.bindsN (fun _ _ _ _ _ _ us hl => match us, hl with | [_, _], _ => rfl)
  have G_PolyEq := ok_Poly_eq (P := P) (w := w) (base := base) F_Poly_eq T PT
  have b_PolyEq : Binds K fd_Poly_eq ["self", "other"] [] := F_Poly_eq.bindsN (fun _ _ _ _ _ _ us hl => match us, hl with | [_, _], _ => rfl)
  have C_greatest_powers := cal_greatest_powers (P := P) (w := w) (base := base) F_greatest_powers (He.glo_ok X G (c.fact 4 (f := .glo "greatest_powers") rfl)) T  gUNK
  have C_top := cal_top (P := P) (w := w) (base := base) F_top (He.glo_ok X G (c.fact 7 (f := .glo "top") rfl)) T C_greatest_powers PT
  have C_stands_in := cal_stands_in (P := P) (w := w) (base := base) F_stands_in (He.glo_ok X G (c.fact 8 (f := .glo "stands_in") rfl)) T C_top PT
  have G_System := ok_System_init (P := P) (w := w) (base := base) F_System_init C_is_integer C_stands_in T gMU gMP ST F_BadSystem_init BF.eb BF.fb
  have b_System : Binds K fd_System_init ["self", "many", "equations", "barred"] [] := F_System_init.bindsN (fun _ _ _ _ _ _ us hl => match us, hl with | [_, _, _, _], _ => rfl)
  have GS := ok_System_eq (P := P) (w := w) (base := base) F_System_eq T PT ST G_PolyEq b_PolyEq
  have bS : Binds K fd_System_eq ["self", "other"] [] := F_System_eq.bindsN (fun _ _ _ _ _ _ us hl => match us, hl with | [_, _], _ => rfl)
  have C_is_fraction := cal_is_fraction (P := P) (w := w) (base := base) F_is_fraction (He.glo_ok X G (c.fact 2 (f := .glo "is_fraction") rfl)) T C_is_integer 
  have C_is_point := cal_is_point (P := P) (w := w) (base := base) F_is_point (He.glo_ok X G (c.fact 3 (f := .glo "is_point") rfl)) T C_is_fraction 
  have C_is_root := cal_is_root (P := P) (w := w) (base := base) F_is_root (He.glo_ok X G (c.fact 9 (f := .glo "is_root") rfl)) T C_is_point PT ST
  have C_states_behind := cal_states_behind (P := P) (w := w) (base := base) F_states_behind (He.glo_ok X G (c.fact 13 (f := .glo "states_behind") rfl)) T  
  have C_followed := cal_followed (P := P) (w := w) (base := base) F_followed (He.glo_ok X G (c.fact 12 (f := .glo "followed") rfl)) T C_states_behind PT ST
  have C_cover_fault := cal_cover_fault (P := P) (w := w) (base := base) F_cover_fault (He.glo_ok X G (c.fact 10 (f := .glo "cover_fault") rfl)) T C_followed PT ST
  have C_is_cover := cal_is_cover (P := P) (w := w) (base := base) F_is_cover (He.glo_ok X G (c.fact 11 (f := .glo "is_cover") rfl)) T C_cover_fault PT ST
  have C_law_is_in := cal_law_is_in (P := P) (w := w) (base := base) F_law_is_in (He.glo_ok X G (c.fact 24 (f := .glo "_law_is_in") rfl)) T C_law_is_marked 
  have C_law_packed : Cal P w K mg base "_law_packed" 37 ["_law_thing"] (spPacked K (ga K "Poly") 30) := cal_packed (P := P) (w := w) (base := base) F_law_packed (He.glo_ok X G (c.fact 26 (f := .glo "_law_packed") rfl)) T C_law_is_marked PT G_Poly b_Poly 30
  have C_law_unpacked0 := cal_law_unpacked (P := P) (w := w) (base := base) F_law_unpacked (He.glo_ok X G (c.fact 27 (f := .glo "_law_unpacked") rfl)) T C_law_mark PT
  have C_law_unpacked := cal_law_unpacked1 (P := P) (w := w) (base := base) F_law_unpacked (He.glo_ok X G (c.fact 27 (f := .glo "_law_unpacked") rfl)) T C_law_unpacked0 PT
  have C_law_wrong := cal_law_wrong (P := P) (w := w) (base := base) F_law_wrong (He.glo_ok X G (c.fact 28 (f := .glo "_law_wrong") rfl)) T C_law_is_int C_law_is_in 
  have C_law_made := cal_law_made (P := P) (w := w) (base := base) F_law_made (He.glo_ok X G (c.fact 29 (f := .glo "_law_made") rfl)) T C_law_packed C_law_unpacked PT ST BF G_System b_System
  have C_law_odd := cal_law_odd (P := P) (w := w) (base := base) F_law_odd (He.glo_ok X G (c.fact 30 (f := .glo "_law_odd") rfl)) T C_law_deep C_law_any C_law_mark C_law_var 
  have C_law_bent_rows := cal_law_bent_rows (P := P) (w := w) (base := base) F_law_bent_rows (He.glo_ok X G (c.fact 31 (f := .glo "_law_bent_rows") rfl)) T C_law_deep C_law_any C_law_mark C_law_draw C_law_odd 
  have C_law_flag := cal_law_flag (P := P) (w := w) (base := base) F_law_flag (He.glo_ok X G (c.fact 32 (f := .glo "_law_flag") rfl)) T  
  have C_law_bent_parts := cal_law_bent_parts (P := P) (w := w) (base := base) F_law_bent_parts (He.glo_ok X G (c.fact 33 (f := .glo "_law_bent_parts") rfl)) T C_law_draw C_law_any C_law_bent_rows C_law_deep 
  have C_law_is_odd_told := cal_law_is_odd_told (P := P) (w := w) (base := base) F_law_is_odd_told (He.glo_ok X G (c.fact 34 (f := .glo "_law_is_odd_told") rfl)) T C_law_any C_law_deep C_law_flag C_is_root C_cover_fault C_is_cover C_law_draw PT ST
  exact ok_law F_law C_law_hand C_law_draw C_law_marks C_law_small C_law_any C_law_made C_law_bent_parts C_law_wrong C_law_packed C_law_is_odd_told T PT ST BF G_System b_System GS bS
end K09

set_option Elab.async false
set_option linter.all false
set_option maxRecDepth 100000
set_option maxHeartbeats 0
open PySem PySem.W PySem.Calls PyProof.Rows
theorem PySem.Challenge.cw_boxedroots_k09_systems_refused_holds : PySem.Challenge.rw_boxedroots_k09_systems_refused.Holds := by
  w_on; o_law
  refine HandSHeadRun.head_imp (r := OpenLaw.row PySem.Challenge.rw_boxedroots_k09_systems_refused) (q := view (OpenLaw.row PySem.Challenge.rw_boxedroots_k09_systems_refused).prog [0, 1, 95]) (H := K09.hz) (ob := K09.ob) (M := 60000) (loose := K09.names) (d := HandSHeadRun.topDef (OpenLaw.row PySem.Challenge.rw_boxedroots_k09_systems_refused).prog 95) (kwd := []) K09.ob_eq K09.run
    (by kernel_rfl) (by kernel_rfl) (by kernel_rfl) (by rfl) (by first | assumption | decide +kernel) (by decide +kernel) ⟨rfl, rfl, rfl, rfl, rfl, by decide +kernel⟩ ?hw ?hc
  case hw => w_witness2
  case hc =>
    refine L2.walk_ofE (l := PySem.Challenge.rw_boxedroots_k09_systems_refused) (n := 63) (k := 39) (x := "_law_script") (CX := L2.CX0) rfl (by decide) (by kernel_rfl) ⟨rfl, by decide, by decide⟩ ?F (fun _ _ _ _ z => z)
    intro w mg fa h Y G hmg0
    obtain ⟨K, KX, c, c2⟩ := Y
    have hmg : mg ("law" : PySem.Str) = some (.ref fa) := by
      have e : (HandSHeadRun.topDef (OpenLaw.row PySem.Challenge.rw_boxedroots_k09_systems_refused).prog 95).name = ("law" : PySem.Str) := by kernel_rfl
      rw [← e]
      exact hmg0
    obtain ⟨fd, hb, hF⟩ := K09.facts (P := (PySem.Challenge.rw_boxedroots_k09_systems_refused).prog) (w := w) KX G hmg c c2
    exact ⟨K, fd, K09.spLaw K, KX, hb, fun H a ns hl _ hS => ⟨a, ns, rfl, hS, hl, fun _ => rfl⟩, hF⟩
#print axioms PySem.Challenge.cw_boxedroots_k09_systems_refused_holds
