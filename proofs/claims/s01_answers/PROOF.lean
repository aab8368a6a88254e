import PyProof.Rows.All
import Wide.All
import OpenK.AllK
import Wide.FinOn
import Open.SpecLaws
import KE.OsGo
import KE.KDictKeyed
import HandS.ForSpec
import HandS.Deep
import HandS.Comp
import HandS.Dict
import HandS.Iter
import HandS.Walk
import HandS.Conv
import HandS.SetFor
import PySem.Challenge.RW_rolecasting_s01_answers
set_option Elab.async false
set_option maxRecDepth 100000
set_option maxHeartbeats 4000000
/-! ### The flat list of numbers as the calls of the document; what is due, call by call -/
namespace RC
/-- whole numbers of the document as Python's -/
abbrev ni (x : Nat) : Int := (x : Int)
abbrev nis (l : List Nat) : List Int := l.map ni
/-- a list of numbers is the calls cs, each as the interface tells it -/
inductive Line : List Int → List Uw07.Call → Prop
  | nil : Line [] []
  | begins {d : List Nat} {t : List Int} {cs : List Uw07.Call} (hl : d.length ≤ 20) (r : Line t cs) : Line (0 :: ni d.length :: (nis d ++ t)) (.begins d :: cs)
  | scene {n : Nat} {d : List Nat} {t : List Int} {cs : List Uw07.Call} (hl : d.length ≤ 20) (r : Line t cs) : Line (1 :: ni n :: ni d.length :: (nis d ++ t)) (.scene n d :: cs)
  | player {w x a b : Nat} {d : List Nat} {t : List Int} {cs : List Uw07.Call} (hl : d.length ≤ 20) (r : Line t cs) : Line (2 :: ni w :: ni x :: ni a :: ni b :: ni d.length :: (nis d ++ t)) (.player w x a b d :: cs)
  | piece {n : Nat} {d : List Nat} {t : List Int} {cs : List Uw07.Call} (hl : d.length ≤ 20) (r : Line t cs) : Line (3 :: ni n :: ni d.length :: (nis d ++ t)) (.piece n d :: cs)
  | ahead {i j : Nat} {t : List Int} {cs : List Uw07.Call} (r : Line t cs) : Line (4 :: ni i :: ni j :: t) (.ahead i j :: cs)
  | best {t : List Int} {cs : List Uw07.Call} (r : Line t cs) : Line (5 :: t) (.best :: cs)
  | apart {t : List Int} {cs : List Uw07.Call} (r : Line t cs) : Line (6 :: t) (.apart :: cs)
  | check {c o : List Nat} {t : List Int} {cs : List Uw07.Call} (hc : c.length ≤ 20) (ho : o.length ≤ 20) (r : Line t cs) : Line (7 :: ni c.length :: (nis c ++ ni o.length :: (nis o ++ t))) (.check c o :: cs)
  | order {c : List Nat} {t : List Int} {cs : List Uw07.Call} (hl : c.length ≤ 20) (r : Line t cs) : Line (8 :: ni c.length :: (nis c ++ t)) (.order c :: cs)

/-- what is answered: for each call how many numbers, these -/
def due : Uw07.House → List Uw07.Call → List Int
  | _, [] => []
  | h, c :: cs => ni (Uw07Neutral.out (Uw07.step h c).2).length :: (Uw07Neutral.out (Uw07.step h c).2 ++ due (Uw07.step h c).1 cs)

theorem row_inv {l x s : List Int} (h : PyFlat.row l = some (x, s)) : l = (x.length : Int) :: (x ++ s) := by
  cases l with
  | nil => cases h
  | cons n r =>
    simp only [PyFlat.row] at h
    by_cases k : 0 ≤ n ∧ n.toNat ≤ r.length
    · rw [if_pos k] at h
      obtain ⟨e1, e2⟩ := Prod.mk.inj (Option.some.inj h)
      subst e1 e2
      have len : (r.take n.toNat).length = n.toNat := by rw [List.length_take]; omega
      have hn : ((r.take n.toNat).length : Int) = n := by rw [len]; omega
      rw [hn, List.take_append_drop]
    · rw [if_neg k] at h; cases h
theorem rows0_inv {l : List Int} {xs : List (List Int)} {t : List Int} (h : PyFlat.rows 0 l = some (xs, t)) : xs = [] ∧ l = t := by
  unfold PyFlat.rows at h
  obtain ⟨e1, e2⟩ := Prod.mk.inj (Option.some.inj h)
  exact ⟨e1.symm, e2⟩
theorem rows1_inv {k : Nat} {l : List Int} {xs : List (List Int)} {t : List Int} (h : PyFlat.rows (k + 1) l = some (xs, t)) : ∃ x s ys, xs = x :: ys ∧ l = (x.length : Int) :: (x ++ s) ∧ PyFlat.rows k s = some (ys, t) := by
  unfold PyFlat.rows at h
  cases e : PyFlat.row l with
  | none => rw [e] at h; cases h
  | some y =>
    obtain ⟨x, s⟩ := y
    rw [e] at h
    cases e2 : PyFlat.rows k s with
    | none => simp only [e2] at h; cases h
    | some z =>
      obtain ⟨ys, u⟩ := z
      simp only [e2] at h
      obtain ⟨e3, e4⟩ := Prod.mk.inj (Option.some.inj h)
      subst e3 e4
      exact ⟨x, s, ys, rfl, row_inv e, e2⟩
theorem call_inv {l : List Int} {c : List (List Int)} {t : List Int} (h : PyFlat.call PyUw07.shape l = some (c, t)) :
    ∃ p r n k xs, l = p :: r ∧ PyUw07.shape p = some (n, k) ∧ n ≤ r.length ∧ PyFlat.rows k (r.drop n) = some (xs, t) ∧ c = (p :: r.take n) :: xs := by
  cases l with
  | nil => cases h
  | cons p r =>
    simp only [PyFlat.call] at h
    cases e : PyUw07.shape p with
    | none => rw [e] at h; cases h
    | some nk =>
      obtain ⟨n, k⟩ := nk
      rw [e] at h
      by_cases hl : r.length < n
      · simp only [hl, if_true] at h; cases h
      · simp only [hl, if_false] at h
        cases e2 : PyFlat.rows k (r.drop n) with
        | none => rw [e2] at h; cases h
        | some y =>
          obtain ⟨xs, u⟩ := y
          rw [e2] at h
          obtain ⟨e3, e4⟩ := Prod.mk.inj (Option.some.inj h)
          subst e3 e4
          exact ⟨p, r, n, k, xs, rfl, e, by omega, e2, rfl⟩
/-- numbers within the bounds are whole numbers of the document -/
theorem nats_of {l : List Int} (h : l.all (PyInside.within 0 4294967295) = true) : ∃ d : List Nat, l = nis d ∧ ∀ x ∈ d, x < 4294967296 := by
  refine ⟨l.map Int.toNat, ?_, ?_⟩
  · induction l with
    | nil => rfl
    | cons a l ih =>
      rw [List.all_cons, Bool.and_eq_true] at h
      have h1 : (0 : Int) ≤ a ∧ a ≤ 4294967295 := by
        have := h.1
        unfold PyInside.within at this
        rw [Bool.and_eq_true] at this
        exact ⟨of_decide_eq_true this.1, of_decide_eq_true this.2⟩
      show a :: l = ((a.toNat : Int)) :: nis (l.map Int.toNat)
      rw [← ih h.2, Int.toNat_of_nonneg h1.1]
  · intro x hx
    obtain ⟨a, ha, rfl⟩ := List.mem_map.mp hx
    have := List.all_eq_true.mp h a ha
    unfold PyInside.within at this
    rw [Bool.and_eq_true] at this
    have h1 := of_decide_eq_true this.1
    have h2 := of_decide_eq_true this.2
    omega
theorem nat_of {z : Int} (h : PyInside.within 0 4294967295 z = true) : ∃ n : Nat, z = ni n ∧ n < 4294967296 := by
  unfold PyInside.within at h
  rw [Bool.and_eq_true] at h
  have h1 := of_decide_eq_true h.1
  have h2 := of_decide_eq_true h.2
  exact ⟨z.toNat, by unfold ni; omega, by omega⟩

theorem all_nat {d : List Nat} (h : ∀ x ∈ d, x < 4294967296) : (nis d).all Uw07Neutral.nat = true := by
  rw [List.all_eq_true]
  intro z hz
  obtain ⟨x, hx, rfl⟩ := List.mem_map.mp hz
  have := h x hx
  unfold Uw07Neutral.nat ni
  rw [Bool.and_eq_true]
  exact ⟨decide_eq_true (by omega), decide_eq_true (by omega)⟩
theorem nat1 {n : Nat} (h : n < 4294967296) : Uw07Neutral.nat (ni n) = true := by
  unfold Uw07Neutral.nat ni
  rw [Bool.and_eq_true]
  exact ⟨decide_eq_true (by omega), decide_eq_true (by omega)⟩
theorem toNats (d : List Nat) : (nis d).map Int.toNat = d := by
  induction d with
  | nil => rfl
  | cons a d ih =>
    show (ni a).toNat :: (nis d).map Int.toNat = a :: d
    rw [ih]
    rfl
theorem nis_len (d : List Nat) : (nis d).length = d.length := List.length_map _
theorem listAt_ok {d t : List Nat} (h : d.length ≤ 20) : Uw07Neutral.listAt (d.length :: (d ++ t)) = some (d, t) := by
  unfold Uw07Neutral.listAt
  have k : d.length ≤ 20 ∧ d.length ≤ (d ++ t).length := ⟨h, by rw [List.length_append]; omega⟩
  simp only [k, and_self, if_true, List.take_left', List.drop_left']
theorem listIn_ok {d : List Nat} (h : d.length ≤ 20) : Uw07Neutral.listIn (d.length :: d) = some d := by
  unfold Uw07Neutral.listIn
  have e := listAt_ok (d := d) (t := []) h
  rw [List.append_nil] at e
  rw [e]
  rfl
theorem callOf_ok {l : List Int} {m : List Nat} (e : l = nis m) (h : ∀ x ∈ m, x < 4294967296) : Uw07Neutral.callOf l = Uw07Neutral.callIn m := by
  subst e
  unfold Uw07Neutral.callOf
  rw [all_nat h, toNats]
  rfl
theorem lists1 {x : List Int} {ys : List (List Int)} {bs : List (Int × Int × Nat × Nat)} (h : PyInside.lists ((0, 4294967295, 0, 20) :: bs) (x :: ys) = true) :
    (∃ d : List Nat, x = nis d ∧ d.length ≤ 20 ∧ ∀ y ∈ d, y < 4294967296) ∧ PyInside.lists bs ys = true := by
  simp only [PyInside.lists, Bool.and_eq_true] at h
  obtain ⟨⟨⟨_, h2⟩, h3⟩, h4⟩ := h
  obtain ⟨d, rfl, hd⟩ := nats_of h3
  refine ⟨⟨d, rfl, ?_, hd⟩, h4⟩
  have := of_decide_eq_true h2
  rwa [nis_len] at this
theorem each1 {x : Int} {xs : List Int} {bs : List (Int × Int)} (h : PyInside.each ((0, 4294967295) :: bs) (x :: xs) = true) : (∃ n : Nat, x = ni n ∧ n < 4294967296) ∧ PyInside.each bs xs = true := by
  simp only [PyInside.each, Bool.and_eq_true] at h
  exact ⟨nat_of h.1, h.2⟩
theorem lt_nil : (∀ x ∈ ([] : List Nat), x < 4294967296) := fun x h => by cases h
theorem lt_cons {n : Nat} {m : List Nat} (a : n < 4294967296) (b : ∀ x ∈ m, x < 4294967296) : ∀ x ∈ n :: m, x < 4294967296 := fun x h => by
  rcases List.mem_cons.mp h with rfl | h
  · exact a
  · exact b x h
theorem lt_app {l m : List Nat} (a : ∀ x ∈ l, x < 4294967296) (b : ∀ x ∈ m, x < 4294967296) : ∀ x ∈ l ++ m, x < 4294967296 := fun x h => (List.mem_append.mp h).elim (a x) (b x)
theorem bound_split {p : Int} {xs : List Int} {rows : List (List Int)} (h : PyInside.call PyUw07.bound ((p :: xs) :: rows) = true) : PyInside.each (PyUw07.bound p).1 xs = true ∧ PyInside.lists (PyUw07.bound p).2 rows = true := by
  simpa only [PyInside.call, Bool.and_eq_true] using h
theorem shape_inv {p : Int} {n k : Nat} (h : PyUw07.shape p = some (n, k)) : p = 0 ∨ p = 1 ∨ p = 2 ∨ p = 3 ∨ p = 4 ∨ p = 5 ∨ p = 6 ∨ p = 7 ∨ p = 8 := by
  by_cases h0 : p = 0; · exact .inl h0
  by_cases h1 : p = 1; · exact .inr (.inl h1)
  by_cases h2 : p = 2; · exact .inr (.inr (.inl h2))
  by_cases h3 : p = 3; · exact .inr (.inr (.inr (.inl h3)))
  by_cases h4 : p = 4; · exact .inr (.inr (.inr (.inr (.inl h4))))
  by_cases h5 : p = 5; · exact .inr (.inr (.inr (.inr (.inr (.inl h5)))))
  by_cases h6 : p = 6; · exact .inr (.inr (.inr (.inr (.inr (.inr (.inl h6))))))
  by_cases h7 : p = 7; · exact .inr (.inr (.inr (.inr (.inr (.inr (.inr (.inl h7)))))))
  by_cases h8 : p = 8; · exact .inr (.inr (.inr (.inr (.inr (.inr (.inr (.inr h8)))))))
  unfold PyUw07.shape at h
  rw [if_neg h0, if_neg h1, if_neg h2, if_neg h3, if_neg h4, if_neg h5, if_neg h6, if_neg h7, if_neg h8] at h
  cases h
/-- one call -/
theorem line_one {l : List Int} {c : List (List Int)} {t : List Int} {cs : List Uw07.Call} (h : PyFlat.call PyUw07.shape l = some (c, t)) (hb : PyInside.call PyUw07.bound c = true) (r : Line t cs) :
    ∃ x, Line l (x :: cs) ∧ Uw07Neutral.callOf ((PyUw07.whole c).headD []) = some x := by
  obtain ⟨p, q, n, k, xs, rfl, hs, hn, hr, rfl⟩ := call_inv h
  obtain ⟨b1, b2⟩ := bound_split hb
  have sm : ∀ m : Nat, m ≤ 20 → m < 4294967296 := fun m hm => by omega
  rcases shape_inv hs with rfl | rfl | rfl | rfl | rfl | rfl | rfl | rfl | rfl
  · cases hs
    obtain ⟨x0, s0, ys0, rfl, e0, f0⟩ := rows1_inv (k := 0) (show PyFlat.rows 1 q = _ from hr)
    obtain ⟨rfl, rfl⟩ := rows0_inv f0
    obtain ⟨⟨d, rfl, ld, md⟩, b2_1⟩ := lists1 (show PyInside.lists [(0, 4294967295, 0, 20)] [x0] = true from b2)
    rw [nis_len] at e0
    subst e0
    refine ⟨.begins d, .begins ld r, ?_⟩
    show Uw07Neutral.callOf ([0] ++ [((nis d).length : Int)] ++ nis d) = _
    rw [nis_len]
    refine (callOf_ok (m := 0 :: d.length :: d) rfl (lt_cons (by decide) (lt_cons (sm _ ld) md))).trans ?_
    show (Uw07Neutral.listIn (d.length :: d)).map _ = _
    rw [listIn_ok ld]
    rfl
  · cases hs
    obtain _ | ⟨z0, q1⟩ := q
    · exact absurd hn (by simp)
    obtain ⟨⟨n0, rfl, hn0⟩, b1_1⟩ := each1 (show PyInside.each [(0, 4294967295)] [z0] = true from b1)
    obtain ⟨x0, s0, ys0, rfl, e0, f0⟩ := rows1_inv (k := 0) (show PyFlat.rows 1 q1 = _ from hr)
    obtain ⟨rfl, rfl⟩ := rows0_inv f0
    obtain ⟨⟨d, rfl, ld, md⟩, b2_1⟩ := lists1 (show PyInside.lists [(0, 4294967295, 0, 20)] [x0] = true from b2)
    rw [nis_len] at e0
    subst e0
    refine ⟨.scene n0 d, .scene ld r, ?_⟩
    show Uw07Neutral.callOf ([1] ++ [ni n0] ++ [((nis d).length : Int)] ++ nis d) = _
    rw [nis_len]
    refine (callOf_ok (m := 1 :: n0 :: d.length :: d) rfl (lt_cons (by decide) (lt_cons hn0 (lt_cons (sm _ ld) md)))).trans ?_
    show (Uw07Neutral.listIn (d.length :: d)).map _ = _
    rw [listIn_ok ld]
    rfl
  · cases hs
    obtain _ | ⟨z0, q1⟩ := q
    · exact absurd hn (by simp)
    obtain _ | ⟨z1, q2⟩ := q1
    · exact absurd hn (by simp)
    obtain _ | ⟨z2, q3⟩ := q2
    · exact absurd hn (by simp)
    obtain _ | ⟨z3, q4⟩ := q3
    · exact absurd hn (by simp)
    obtain ⟨⟨w0, rfl, hw0⟩, b1_1⟩ := each1 (show PyInside.each [(0, 4294967295), (0, 4294967295), (0, 4294967295), (0, 4294967295)] [z0, z1, z2, z3] = true from b1)
    obtain ⟨⟨x0, rfl, hx0⟩, b1_2⟩ := each1 (show PyInside.each [(0, 4294967295), (0, 4294967295), (0, 4294967295)] [z1, z2, z3] = true from b1_1)
    obtain ⟨⟨a0, rfl, ha0⟩, b1_3⟩ := each1 (show PyInside.each [(0, 4294967295), (0, 4294967295)] [z2, z3] = true from b1_2)
    obtain ⟨⟨b0, rfl, hb0⟩, b1_4⟩ := each1 (show PyInside.each [(0, 4294967295)] [z3] = true from b1_3)
    obtain ⟨x0, s0, ys0, rfl, e0, f0⟩ := rows1_inv (k := 0) (show PyFlat.rows 1 q4 = _ from hr)
    obtain ⟨rfl, rfl⟩ := rows0_inv f0
    obtain ⟨⟨d, rfl, ld, md⟩, b2_1⟩ := lists1 (show PyInside.lists [(0, 4294967295, 0, 20)] [x0] = true from b2)
    rw [nis_len] at e0
    subst e0
    refine ⟨.player w0 x0 a0 b0 d, .player ld r, ?_⟩
    show Uw07Neutral.callOf ([2] ++ [ni w0] ++ [ni x0] ++ [ni a0] ++ [ni b0] ++ [((nis d).length : Int)] ++ nis d) = _
    rw [nis_len]
    refine (callOf_ok (m := 2 :: w0 :: x0 :: a0 :: b0 :: d.length :: d) rfl (lt_cons (by decide) (lt_cons hw0 (lt_cons hx0 (lt_cons ha0 (lt_cons hb0 (lt_cons (sm _ ld) md))))))).trans ?_
    show (Uw07Neutral.listIn (d.length :: d)).map _ = _
    rw [listIn_ok ld]
    rfl
  · cases hs
    obtain _ | ⟨z0, q1⟩ := q
    · exact absurd hn (by simp)
    obtain ⟨⟨n0, rfl, hn0⟩, b1_1⟩ := each1 (show PyInside.each [(0, 4294967295)] [z0] = true from b1)
    obtain ⟨x0, s0, ys0, rfl, e0, f0⟩ := rows1_inv (k := 0) (show PyFlat.rows 1 q1 = _ from hr)
    obtain ⟨rfl, rfl⟩ := rows0_inv f0
    obtain ⟨⟨d, rfl, ld, md⟩, b2_1⟩ := lists1 (show PyInside.lists [(0, 4294967295, 0, 20)] [x0] = true from b2)
    rw [nis_len] at e0
    subst e0
    refine ⟨.piece n0 d, .piece ld r, ?_⟩
    show Uw07Neutral.callOf ([3] ++ [ni n0] ++ [((nis d).length : Int)] ++ nis d) = _
    rw [nis_len]
    refine (callOf_ok (m := 3 :: n0 :: d.length :: d) rfl (lt_cons (by decide) (lt_cons hn0 (lt_cons (sm _ ld) md)))).trans ?_
    show (Uw07Neutral.listIn (d.length :: d)).map _ = _
    rw [listIn_ok ld]
    rfl
  · cases hs
    obtain _ | ⟨z0, q1⟩ := q
    · exact absurd hn (by simp)
    obtain _ | ⟨z1, q2⟩ := q1
    · exact absurd hn (by simp)
    obtain ⟨⟨i0, rfl, hi0⟩, b1_1⟩ := each1 (show PyInside.each [(0, 4294967295), (0, 4294967295)] [z0, z1] = true from b1)
    obtain ⟨⟨j0, rfl, hj0⟩, b1_2⟩ := each1 (show PyInside.each [(0, 4294967295)] [z1] = true from b1_1)
    obtain ⟨rfl, rfl⟩ := rows0_inv (show PyFlat.rows 0 q2 = _ from hr)
    refine ⟨.ahead i0 j0, .ahead r, ?_⟩
    show Uw07Neutral.callOf ([4] ++ [ni i0] ++ [ni j0]) = _
    refine (callOf_ok (m := 4 :: i0 :: j0 :: []) rfl (lt_cons (by decide) (lt_cons hi0 (lt_cons hj0 lt_nil)))).trans ?_
    rfl
  · cases hs
    obtain ⟨rfl, rfl⟩ := rows0_inv (show PyFlat.rows 0 q = _ from hr)
    refine ⟨.best, .best r, ?_⟩
    show Uw07Neutral.callOf ([5]) = _
    refine (callOf_ok (m := 5 :: []) rfl (lt_cons (by decide) lt_nil)).trans ?_
    rfl
  · cases hs
    obtain ⟨rfl, rfl⟩ := rows0_inv (show PyFlat.rows 0 q = _ from hr)
    refine ⟨.apart, .apart r, ?_⟩
    show Uw07Neutral.callOf ([6]) = _
    refine (callOf_ok (m := 6 :: []) rfl (lt_cons (by decide) lt_nil)).trans ?_
    rfl
  · cases hs
    obtain ⟨x0, s0, ys0, rfl, e0, f0⟩ := rows1_inv (k := 1) (show PyFlat.rows 2 q = _ from hr)
    obtain ⟨x1, s1, ys1, rfl, e1, f1⟩ := rows1_inv (k := 0) f0
    obtain ⟨rfl, rfl⟩ := rows0_inv f1
    obtain ⟨⟨c, rfl, lc, mc⟩, b2_1⟩ := lists1 (show PyInside.lists [(0, 4294967295, 0, 20), (0, 4294967295, 0, 20)] [x0, x1] = true from b2)
    obtain ⟨⟨o, rfl, lo, mo⟩, b2_2⟩ := lists1 (show PyInside.lists [(0, 4294967295, 0, 20)] [x1] = true from b2_1)
    rw [nis_len] at e0
    rw [nis_len] at e1
    subst e1
    subst e0
    refine ⟨.check c o, .check lc lo r, ?_⟩
    show Uw07Neutral.callOf ([7] ++ [((nis c).length : Int)] ++ nis c ++ [((nis o).length : Int)] ++ nis o) = _
    rw [nis_len, nis_len]
    refine (callOf_ok (m := 7 :: c.length :: (c ++ o.length :: o)) (by simp [nis, List.map_append]) (lt_cons (by decide) (lt_cons (sm _ lc) (lt_app mc (lt_cons (sm _ lo) mo))))).trans ?_
    show (Uw07Neutral.listAt (c.length :: (c ++ o.length :: o))).bind _ = _
    rw [listAt_ok lc]
    show (Uw07Neutral.listIn (o.length :: o)).map _ = _
    rw [listIn_ok lo]
    rfl
  · cases hs
    obtain ⟨x0, s0, ys0, rfl, e0, f0⟩ := rows1_inv (k := 0) (show PyFlat.rows 1 q = _ from hr)
    obtain ⟨rfl, rfl⟩ := rows0_inv f0
    obtain ⟨⟨c, rfl, lc, mc⟩, b2_1⟩ := lists1 (show PyInside.lists [(0, 4294967295, 0, 20)] [x0] = true from b2)
    rw [nis_len] at e0
    subst e0
    refine ⟨.order c, .order lc r, ?_⟩
    show Uw07Neutral.callOf ([8] ++ [((nis c).length : Int)] ++ nis c) = _
    rw [nis_len]
    refine (callOf_ok (m := 8 :: c.length :: c) rfl (lt_cons (by decide) (lt_cons (sm _ lc) mc))).trans ?_
    show (Uw07Neutral.listIn (c.length :: c)).map _ = _
    rw [listIn_ok lc]
    rfl

/-- all calls -/
theorem line_all : ∀ (f : Nat) (l : List Int) (raw : List (List (List Int))), PyFlat.calls PyUw07.shape f l = some raw → PyInside.calls PyUw07.bound raw = true →
    ∃ cs, Line l cs ∧ cs.length = raw.length ∧ ∀ s : Uw07.House, PyFlat.told (PyFlat.played (fun s c => Uw07Neutral.step s (c.headD [])) s (raw.map PyUw07.whole)) = due s cs
  | f, [], raw, h, _ => by
    have e : raw = [] := by cases f <;> exact (Option.some.inj h).symm
    subst e
    exact ⟨[], .nil, rfl, fun _ => rfl⟩
  | 0, _ :: _, raw, h, _ => by cases h
  | f + 1, p :: r, raw, h, hb => by
    simp only [PyFlat.calls] at h
    cases e1 : PyFlat.call PyUw07.shape (p :: r) with
    | none => rw [e1] at h; cases h
    | some x =>
      obtain ⟨c, t⟩ := x
      rw [e1] at h
      simp only at h
      cases e2 : PyFlat.calls PyUw07.shape f t with
      | none => rw [e2] at h; cases h
      | some rest =>
        rw [e2] at h
        have e3 := Option.some.inj h
        subst e3
        have hb2 : PyInside.call PyUw07.bound c = true ∧ PyInside.calls PyUw07.bound rest = true := by
          simpa only [PyInside.calls, List.all_cons, Bool.and_eq_true] using hb
        obtain ⟨cs, L, len, eq⟩ := line_all f t rest e2 hb2.2
        obtain ⟨x, L2, cx⟩ := line_one e1 hb2.1 L
        refine ⟨x :: cs, L2, by simp [len], fun s => ?_⟩
        have st : Uw07Neutral.step s ((PyUw07.whole c).headD []) = ((Uw07.step s x).1, Uw07Neutral.out (Uw07.step s x).2) := by
          unfold Uw07Neutral.step
          rw [cx]
        simp only [List.map_cons, PyFlat.played, PyFlat.told, List.flatMap_cons, due]
        rw [st]
        have := eq (Uw07.step s x).1
        simp only [PyFlat.told] at this
        rw [this]
        rfl
/-- what is asked is a line of calls, and what is due is told of them one by one -/
theorem asked_line {l : List Int} (h : PyUw07.answers_asked l = true) : ∃ cs, Line l cs ∧ cs.length ≤ 40 ∧ PyUw07.answers l = due Uw07.init cs ∧ (due Uw07.init cs).length ≤ 10000000 := by
  unfold PyUw07.answers_asked at h
  cases e : PyFlat.calls PyUw07.shape l.length l with
  | none => rw [e] at h; cases h
  | some raw =>
    rw [e] at h
    simp only [Bool.and_eq_true] at h
    obtain ⟨⟨⟨⟨_, h2⟩, h3⟩, _⟩, h5⟩ := h
    obtain ⟨cs, L, len, eq⟩ := line_all _ _ _ e h3
    have ea : PyUw07.answers l = due Uw07.init cs := by
      unfold PyUw07.answers PyUw07.calls
      rw [e]
      exact eq _
    refine ⟨cs, L, ?_, ea, ?_⟩
    · rw [len]
      exact of_decide_eq_true h2
    · rw [← ea]
      exact of_decide_eq_true h5
end RC
/-! ### The specification's steps, case by case -/
namespace RC
open Uw07
/-- a list of roles that rises and is within the roles, as a loop tells it -/
def risesFrom (n : Nat) : Int → List Nat → Bool
  | _, [] => true
  | b, x :: r => if (x : Int) ≤ b ∨ n ≤ x then false else risesFrom n x r
theorem rises_go (n : Nat) : ∀ (r : List Nat) (x : Nat), risesFrom n (x : Int) r = (Uw02.rising (x :: r) && r.all fun y => decide (y < n))
  | [], x => rfl
  | y :: r, x => by
    unfold risesFrom
    have ih := rises_go n r y
    by_cases h : (y : Int) ≤ (x : Int) ∨ n ≤ y
    · rw [if_pos h]
      rcases h with h | h
      · have : ¬ x < y := by omega
        simp [Uw02.rising, this]
      · have : ¬ y < n := by omega
        simp [this]
    · rw [if_neg h, ih]
      have h1 : x < y := by omega
      have h2 : y < n := by omega
      simp [Uw02.rising, h1, h2]
theorem rises_eq (n : Nat) (r : List Nat) : risesFrom n (-1) r = (Uw02.rising r && r.all fun y => decide (y < n)) := by
  cases r with
  | nil => rfl
  | cons x r =>
    unfold risesFrom
    by_cases h : (x : Int) ≤ -1 ∨ n ≤ x
    · rw [if_pos h]
      have : ¬ x < n := by omega
      simp [this]
    · rw [if_neg h, rises_go]
      have h2 : x < n := by omega
      simp [h2]
theorem rising_same : ∀ r : List Nat, Uw03.rising r = Uw02.rising r
  | [] => rfl
  | [_] => rfl
  | a :: b :: r => by
    unfold Uw03.rising Uw02.rising
    rw [rising_same (b :: r)]

theorem begins_bad {h : House} {d : List Nat} (c : d.length < 1 ∨ 5 < d.length) : step h (.begins d) = (h, ok (-1)) := by
  by_cases k : ROLES < d.length
  · simp only [step, if_pos k]
  · have : d = [] := by
      rcases c with c | c
      · exact List.length_eq_zero_iff.mp (by omega)
      · exact absurd c k
    subst this
    rfl
theorem begins_far {h : House} {d : List Nat} (c : ∃ x ∈ d, 1000 < x) : step h (.begins d) = (h, ok (-1)) := by
  by_cases k : ROLES < d.length
  · simp only [step, if_pos k]
  · have : (d.all fun x => decide (x ≤ Uw02.LONG)) = false := by
      obtain ⟨x, hx, hl⟩ := c
      rw [List.all_eq_false]
      exact ⟨x, hx, by
        have : ¬ x ≤ Uw02.LONG := by unfold Uw02.LONG; omega
        simp [this]⟩
    have e : Uw02.step h.play (.begins d) = (h.play, Uw02.ok (-1)) := if_pos (.inr (.inr this))
    simp only [step, if_neg k, e]
    rfl
theorem begins_ok {h : House} {d : List Nat} (c1 : 1 ≤ d.length) (c2 : d.length ≤ 5) (c3 : ∀ x ∈ d, x ≤ 1000) : step h (.begins d) = (⟨⟨d, [], []⟩, [], [], []⟩, ok (d.length : Nat)) := by
  have k : ¬ ROLES < d.length := by unfold ROLES; omega
  have e1 : d ≠ [] := by intro e; rw [e] at c1; exact absurd c1 (by decide)
  have e2 : ¬ Uw02.ROLES < d.length := by unfold Uw02.ROLES; omega
  have e3 : (d.all fun x => decide (x ≤ Uw02.LONG)) = true := by
    rw [List.all_eq_true]
    intro x hx
    exact decide_eq_true (c3 x hx)
  have e : Uw02.step h.play (.begins d) = (⟨d, [], []⟩, Uw02.ok (d.length : Nat)) := if_neg (by
    rintro (z | z | z)
    · exact e1 z
    · exact e2 z
    · rw [e3] at z; cases z)
  have e4 : ¬ (Uw02.ok ((d.length : Nat) : Int)).v < 0 := by show ¬ ((d.length : Nat) : Int) < 0; omega
  simp only [step, if_neg k, e, if_neg e4]
  rfl

def roleOk (h : House) (r : List Nat) : Bool := Uw02.rising r && r.all fun y => decide (y < h.play.dress.length)
theorem scene_bad {h : House} {n : Nat} {r : List Nat} (c : 1000 < n ∨ roleOk h r = false) : step h (.scene n r) = (h, ok (-1)) := by
  have c' : Uw02.LONG < n ∨ Uw02.rising r = false ∨ (r.all fun x => decide (x < h.play.dress.length)) = false := by
    rcases c with c | c
    · exact .inl c
    · unfold roleOk at c
      rw [Bool.and_eq_false_iff] at c
      exact .inr c
  have e : Uw02.step h.play (.scene n r) = (h.play, Uw02.ok (-1)) := if_pos c'
  simp only [step, e]
  rfl
theorem ok_roles {h : House} {r : List Nat} (c : roleOk h r = true) : Uw02.rising r = true ∧ (r.all fun x => decide (x < h.play.dress.length)) = true := by
  unfold roleOk at c
  rwa [Bool.and_eq_true] at c
theorem scene_full {h : House} {n : Nat} {r : List Nat} (c1 : n ≤ 1000) (c2 : roleOk h r = true) (c3 : 10 ≤ h.play.scenes.length) : step h (.scene n r) = (h, ok (-5)) := by
  obtain ⟨a, b⟩ := ok_roles c2
  have c' : ¬ (Uw02.LONG < n ∨ Uw02.rising r = false ∨ (r.all fun x => decide (x < h.play.dress.length)) = false) := by
    rw [a, b]
    simp [Uw02.LONG]
    omega
  have e : Uw02.step h.play (.scene n r) = (h.play, Uw02.ok (-5)) := (if_neg c').trans (if_pos c3)
  simp only [step, e]
  rfl
theorem scene_ok {h : House} {n : Nat} {r : List Nat} (c1 : n ≤ 1000) (c2 : roleOk h r = true) (c3 : h.play.scenes.length < 10) :
    step h (.scene n r) = ({ h with play := { h.play with scenes := h.play.scenes ++ [⟨n, r⟩] } }, ok (h.play.scenes.length : Nat)) := by
  obtain ⟨a, b⟩ := ok_roles c2
  have c' : ¬ (Uw02.LONG < n ∨ Uw02.rising r = false ∨ (r.all fun x => decide (x < h.play.dress.length)) = false) := by
    rw [a, b]
    simp [Uw02.LONG]
    omega
  have e4 : ¬ (Uw02.ok ((h.play.scenes.length : Nat) : Int)).v < 0 := by show ¬ ((h.play.scenes.length : Nat) : Int) < 0; omega
  have e5 : ¬ Uw02.SCENES ≤ h.play.scenes.length := by unfold Uw02.SCENES; omega
  have e : Uw02.step h.play (.scene n r) = ({ h.play with scenes := h.play.scenes ++ [⟨n, r⟩] }, Uw02.ok (h.play.scenes.length : Nat)) := (if_neg c').trans (if_neg e5)
  simp only [step, e, if_neg e4]
  rfl

theorem player_bad {h : House} {w r a b : Nat} {f : List Nat} (c : 1000 < r ∨ b < a ∨ 3600 < b) : step h (.player w r a b f) = (h, ok (-1)) := by
  simp only [step]
  rw [if_pos (show Uw03.RATE < r ∨ b < a ∨ Uw03.DAY < b from c)]
theorem player_full {h : House} {w r a b : Nat} {f : List Nat} (c : ¬ (1000 < r ∨ b < a ∨ 3600 < b)) (c2 : 4 ≤ h.hours.length) : step h (.player w r a b f) = (h, ok (-5)) := by
  simp only [step]
  rw [if_neg (show ¬ (Uw03.RATE < r ∨ b < a ∨ Uw03.DAY < b) from c), if_pos (show PLAYERS ≤ h.hours.length from c2)]
/-- fees as the loop tells them -/
def feesOk (h : House) (f : List Nat) : Bool := decide (f.length = h.play.dress.length) && f.all fun x => decide (x ≤ 100001)
theorem player_wrong {h : House} {w r a b : Nat} {f : List Nat} (c : ¬ (1000 < r ∨ b < a ∨ 3600 < b)) (c2 : h.hours.length < 4) (c3 : 100000 < w ∨ feesOk h f = false) : step h (.player w r a b f) = (h, ok (-1)) := by
  have c' : Uw02.COST < w ∨ f.length ≠ h.play.dress.length ∨ (f.all fun x => decide (x ≤ Uw02.COST + 1)) = false := by
    rcases c3 with c3 | c3
    · exact .inl c3
    · unfold feesOk at c3
      rw [Bool.and_eq_false_iff] at c3
      rcases c3 with c3 | c3
      · exact .inr (.inl (of_decide_eq_false c3))
      · exact .inr (.inr c3)
  have e : Uw02.step h.play (.player w f) = (h.play, Uw02.ok (-1)) := if_pos c'
  have n1 : ¬ (Uw03.RATE < r ∨ b < a ∨ Uw03.DAY < b) := c
  have n2 : ¬ PLAYERS ≤ h.hours.length := by unfold PLAYERS; omega
  simp only [step, e, if_neg n1, if_neg n2]
  rfl
def feeOf (x : Nat) : Option Nat := if x = 0 then none else some (x - 1)
theorem player_ok {h : House} {w r a b : Nat} {f : List Nat} (c : ¬ (1000 < r ∨ b < a ∨ 3600 < b)) (c2 : h.hours.length < 4) (c3 : w ≤ 100000) (c4 : feesOk h f = true) (c5 : h.play.players.length = h.hours.length) :
    step h (.player w r a b f) = ({ h with play := { h.play with players := h.play.players ++ [⟨w, f.map feeOf⟩] }, hours := h.hours ++ [(r, a, b)] }, ok (h.hours.length : Nat)) := by
  unfold feesOk at c4
  rw [Bool.and_eq_true] at c4
  have e1 := of_decide_eq_true c4.1
  have c' : ¬ (Uw02.COST < w ∨ f.length ≠ h.play.dress.length ∨ (f.all fun x => decide (x ≤ Uw02.COST + 1)) = false) := by
    have e2 : (f.all fun x => decide (x ≤ Uw02.COST + 1)) = true := c4.2
    rw [e2]
    simp [Uw02.COST, e1]
    omega
  have e3 : ¬ Uw02.PLAYERS ≤ h.play.players.length := by rw [c5]; unfold Uw02.PLAYERS; omega
  have e4 : ¬ (Uw02.ok ((h.play.players.length : Nat) : Int)).v < 0 := by show ¬ ((h.play.players.length : Nat) : Int) < 0; omega
  have e : Uw02.step h.play (.player w f) = ({ h.play with players := h.play.players ++ [⟨w, f.map feeOf⟩] }, Uw02.ok (h.play.players.length : Nat)) := (if_neg c').trans (if_neg e3)
  have n1 : ¬ (Uw03.RATE < r ∨ b < a ∨ Uw03.DAY < b) := c
  have n2 : ¬ PLAYERS ≤ h.hours.length := by unfold PLAYERS; omega
  simp only [step, e, if_neg n1, if_neg n2, if_neg e4]

theorem piece_bad {h : House} {n : Nat} {r : List Nat} (c : n < 1 ∨ 600 < n ∨ roleOk h r = false) : step h (.piece n r) = (h, ok (-1)) := by
  have c' : n < 1 ∨ Uw03.LONG < n ∨ Uw03.rising r = false ∨ (r.all fun x => decide (x < h.play.dress.length)) = false := by
    rcases c with c | c | c
    · exact .inl c
    · exact .inr (.inl c)
    · unfold roleOk at c
      rw [Bool.and_eq_false_iff] at c
      rw [rising_same]
      exact .inr (.inr c)
  simp only [step]
  rw [if_pos c']
theorem piece_not {h : House} {n : Nat} {r : List Nat} (c1 : 1 ≤ n) (c2 : n ≤ 600) (c3 : roleOk h r = true) : ¬ (n < 1 ∨ Uw03.LONG < n ∨ Uw03.rising r = false ∨ (r.all fun x => decide (x < h.play.dress.length)) = false) := by
  obtain ⟨a, b⟩ := ok_roles c3
  rw [rising_same, a, b]
  simp [Uw03.LONG]
  omega
theorem piece_full {h : House} {n : Nat} {r : List Nat} (c1 : 1 ≤ n) (c2 : n ≤ 600) (c3 : roleOk h r = true) (c4 : 4 ≤ h.pieces.length) : step h (.piece n r) = (h, ok (-5)) := by
  simp only [step]
  rw [if_neg (piece_not c1 c2 c3), if_pos (show PIECES ≤ h.pieces.length from c4)]
theorem piece_ok {h : House} {n : Nat} {r : List Nat} (c1 : 1 ≤ n) (c2 : n ≤ 600) (c3 : roleOk h r = true) (c4 : h.pieces.length < 4) : step h (.piece n r) = ({ h with pieces := h.pieces ++ [(n, r)] }, ok (h.pieces.length : Nat)) := by
  simp only [step]
  rw [if_neg (piece_not c1 c2 c3), if_neg (show ¬ PIECES ≤ h.pieces.length by unfold PIECES; omega)]
theorem ahead_no {h : House} {i j : Nat} (c : h.pieces.length ≤ i ∨ h.pieces.length ≤ j) : step h (.ahead i j) = (h, ok (-2)) := by
  simp only [step]
  rw [if_pos c]
theorem ahead_told {h : House} {i j : Nat} (c : ¬ (h.pieces.length ≤ i ∨ h.pieces.length ≤ j)) (d : i = j ∨ h.ahead.contains (i, j) = true) : step h (.ahead i j) = (h, ok (-3)) := by
  simp only [step]
  rw [if_neg c, if_pos d]
theorem ahead_ok {h : House} {i j : Nat} (c : ¬ (h.pieces.length ≤ i ∨ h.pieces.length ≤ j)) (d : ¬ (i = j ∨ h.ahead.contains (i, j) = true)) : step h (.ahead i j) = ({ h with ahead := h.ahead ++ [(i, j)] }, ok (h.ahead.length + 1 : Nat)) := by
  simp only [step]
  rw [if_neg c, if_neg d]

/-- what holds of every company that calls have made -/
structure HOK (h : House) : Prop where
  dress : h.play.dress.length ≤ 5
  dressL : ∀ x ∈ h.play.dress, x ≤ 1000
  scenes : h.play.scenes.length ≤ 10
  sceneL : ∀ s ∈ h.play.scenes, s.long ≤ 1000
  sceneR : ∀ s ∈ h.play.scenes, roleOk h s.roles = true
  hours : h.hours.length ≤ 4
  same : h.play.players.length = h.hours.length
  wage : ∀ p ∈ h.play.players, p.wage ≤ 100000
  fees : ∀ p ∈ h.play.players, p.fees.length = h.play.dress.length
  feeL : ∀ p ∈ h.play.players, ∀ x, some x ∈ p.fees → x ≤ 100000
  rate : ∀ x ∈ h.hours, x.1 ≤ 1000 ∧ x.2.1 ≤ x.2.2 ∧ x.2.2 ≤ 3600
  pieces : h.pieces.length ≤ 4
  pieceL : ∀ p ∈ h.pieces, 1 ≤ p.1 ∧ p.1 ≤ 600
  pieceR : ∀ p ∈ h.pieces, roleOk h p.2 = true
  ahead : ∀ x ∈ h.ahead, x.1 < h.pieces.length ∧ x.2 < h.pieces.length ∧ x.1 ≠ x.2
theorem HOK.init : HOK Uw07.init := by
  constructor <;> first | decide | (intro x hx; cases hx)
theorem all_app {α : Type} {P : α → Prop} {l : List α} {x : α} (a : ∀ y ∈ l, P y) (b : P x) : ∀ y ∈ l ++ [x], P y := fun y hy => by
  rcases List.mem_append.mp hy with h | h
  · exact a y h
  · rw [List.mem_singleton.mp h]
    exact b
theorem feeOf_le {f : List Nat} (c : (f.all fun x => decide (x ≤ 100001)) = true) : ∀ x, some x ∈ f.map feeOf → x ≤ 100000 := fun x hx => by
  obtain ⟨y, hy, e⟩ := List.mem_map.mp hx
  have := of_decide_eq_true (List.all_eq_true.mp c y hy)
  unfold feeOf at e
  by_cases z : y = 0
  · rw [if_pos z] at e; cases e
  · rw [if_neg z] at e
    have := Option.some.inj e
    omega
theorem HOK.begins {d : List Nat} (c2 : d.length ≤ 5) (c3 : ∀ x ∈ d, x ≤ 1000) : HOK ⟨⟨d, [], []⟩, [], [], []⟩ := by
  refine ⟨c2, c3, by simp, ?_, ?_, by simp, rfl, ?_, ?_, ?_, ?_, by simp, ?_, ?_, ?_⟩ <;> (intro x hx; cases hx)
theorem HOK.scene {h : House} (k : HOK h) {n : Nat} {r : List Nat} (c1 : n ≤ 1000) (c2 : roleOk h r = true) (c3 : h.play.scenes.length < 10) : HOK { h with play := { h.play with scenes := h.play.scenes ++ [⟨n, r⟩] } } :=
  { k with scenes := by simp; omega
           sceneL := all_app k.sceneL c1
           sceneR := all_app (P := fun (s : Uw02.Scene) => roleOk h s.roles = true) k.sceneR c2
           pieceR := k.pieceR }
theorem HOK.player {h : House} (k : HOK h) {w r a b : Nat} {f : List Nat} (c : ¬ (1000 < r ∨ b < a ∨ 3600 < b)) (c2 : h.hours.length < 4) (c3 : w ≤ 100000) (c4 : feesOk h f = true) :
    HOK { h with play := { h.play with players := h.play.players ++ [⟨w, f.map feeOf⟩] }, hours := h.hours ++ [(r, a, b)] } := by
  unfold feesOk at c4
  rw [Bool.and_eq_true] at c4
  exact { k with
    hours := by simp; omega
    same := by simp [k.same]
    wage := all_app k.wage c3
    fees := all_app (P := fun (p : Uw02.Player) => p.fees.length = h.play.dress.length) k.fees (by show (f.map feeOf).length = _; rw [List.length_map]; exact of_decide_eq_true c4.1)
    feeL := all_app (P := fun (p : Uw02.Player) => ∀ x, some x ∈ p.fees → x ≤ 100000) k.feeL (feeOf_le c4.2)
    rate := all_app (P := fun (x : Nat × Nat × Nat) => x.1 ≤ 1000 ∧ x.2.1 ≤ x.2.2 ∧ x.2.2 ≤ 3600) k.rate ⟨by show r ≤ 1000; omega, by show a ≤ b; omega, by show b ≤ 3600; omega⟩
    sceneR := k.sceneR
    pieceR := k.pieceR }
theorem HOK.piece {h : House} (k : HOK h) {n : Nat} {r : List Nat} (c1 : 1 ≤ n) (c2 : n ≤ 600) (c3 : roleOk h r = true) (c4 : h.pieces.length < 4) : HOK { h with pieces := h.pieces ++ [(n, r)] } :=
  { k with pieces := by simp; omega
           pieceL := all_app (P := fun (p : Nat × List Nat) => 1 ≤ p.1 ∧ p.1 ≤ 600) k.pieceL ⟨c1, c2⟩
           pieceR := all_app (P := fun (p : Nat × List Nat) => roleOk h p.2 = true) k.pieceR c3
           sceneR := k.sceneR
           ahead := fun x hx => by
             have := k.ahead x hx
             simp
             omega }
theorem HOK.ahead' {h : House} (k : HOK h) {i j : Nat} (c : ¬ (h.pieces.length ≤ i ∨ h.pieces.length ≤ j)) (d : i ≠ j) : HOK { h with ahead := h.ahead ++ [(i, j)] } :=
  { k with ahead := all_app (P := fun (x : Nat × Nat) => x.1 < h.pieces.length ∧ x.2 < h.pieces.length ∧ x.1 ≠ x.2) k.ahead ⟨by show i < _; omega, by show j < _; omega, d⟩
           sceneR := k.sceneR
           pieceR := k.pieceR }
end RC
/-! ### The specification's bests as one walk over all plans -/
namespace RC
open Uw07
theorem total2_sum (l : List Nat) : Uw02.total l = l.sum := by
  unfold Uw02.total
  have : ∀ (l : List Nat) (a : Nat), l.foldl (fun a b => a + b) a = a + l.sum := by
    intro l
    induction l with
    | nil => intro a; simp
    | cons x l ih => intro a; rw [List.foldl_cons, ih, List.sum_cons]; omega
  rw [this]; omega
theorem total3_sum (l : List Nat) : Uw03.total l = l.sum := total2_sum l
/-- which of two bests: none is nothing; the cheaper; of equals the first, both counted -/
theorem better_none (a : Option Best) : better a none = a := by cases a <;> rfl
theorem none_better (a : Option Best) : better none a = a := by cases a <;> rfl
theorem better_assoc (a b c : Option Best) : better (better a b) c = better a (better b c) := by
  cases a with
  | none => rw [none_better, none_better]
  | some x =>
    cases b with
    | none => rw [better_none, none_better]
    | some y =>
      cases c with
      | none => rw [better_none, better_none]
      | some z =>
        simp only [better]
        by_cases h1 : y.cost < x.cost
        · rw [if_pos h1]
          by_cases h2 : z.cost < y.cost
          · simp only [if_pos h2, if_pos (show z.cost < x.cost by omega)]
          · by_cases h3 : y.cost < z.cost
            · simp only [if_neg h2, if_pos h3, if_pos h1]
            · simp only [if_neg h2, if_neg h3, if_pos h1]
        · by_cases h4 : x.cost < y.cost
          · simp only [if_neg h1, if_pos h4]
            by_cases h2 : z.cost < y.cost
            · simp only [if_pos h2]
            · by_cases h3 : y.cost < z.cost
              · have a1 : ¬ z.cost < x.cost := by omega
                have a2 : x.cost < z.cost := by omega
                simp only [if_neg h2, if_pos h3, if_neg h1, if_pos h4, if_neg a1, if_pos a2]
              · have a1 : ¬ z.cost < x.cost := by omega
                have a2 : x.cost < z.cost := by omega
                simp only [if_neg h2, if_neg h3, if_neg h1, if_pos h4, if_neg a1, if_pos a2]
          · have e : x.cost = y.cost := by omega
            simp only [if_neg h1, if_neg h4]
            by_cases h2 : z.cost < y.cost
            · have a1 : z.cost < x.cost := by omega
              simp only [if_pos h2, if_pos a1]
            · by_cases h3 : y.cost < z.cost
              · have a1 : ¬ z.cost < x.cost := by omega
                have a2 : x.cost < z.cost := by omega
                simp only [if_neg h2, if_pos h3, if_neg a1, if_pos a2, if_neg h1, if_neg h4]
              · have a1 : ¬ z.cost < x.cost := by omega
                have a2 : ¬ x.cost < z.cost := by omega
                simp only [if_neg h2, if_neg h3, if_neg a1, if_neg a2, if_neg h1, if_neg h4, Nat.add_assoc]
theorem fold_better (l : List (Option Best)) (a : Option Best) : l.foldl better a = better a (l.foldl better none) := by
  induction l generalizing a with
  | nil => rw [List.foldl_nil, List.foldl_nil, better_none]
  | cons x l ih => rw [List.foldl_cons, List.foldl_cons, ih, ih (better none x), none_better, better_assoc]
theorem fold_flat {α : Type} (f : α → List (Option Best)) (l : List α) (a : Option Best) : (l.flatMap f).foldl better a = (l.map fun x => (f x).foldl better none).foldl better a := by
  induction l generalizing a with
  | nil => rfl
  | cons x l ih => rw [List.flatMap_cons, List.foldl_append, ih, List.map_cons, List.foldl_cons, fold_better (f x) a]
/-- a day's best with a casting's cost added -/
def lift (k : Nat) (c : Uw02.Cast) (b : Uw03.Best) : Best := ⟨k + b.cost, b.many, c, b.order⟩
theorem lift_better (k : Nat) (c : Uw02.Cast) (a b : Option Uw03.Best) : (Uw03.better a b).map (lift k c) = better (a.map (lift k c)) (b.map (lift k c)) := by
  cases a with
  | none => rw [Option.map_none, none_better]; cases b <;> rfl
  | some x =>
    cases b with
    | none => rfl
    | some y =>
      simp only [Option.map_some, better, Uw03.better, lift]
      by_cases h1 : y.cost < x.cost
      · rw [if_pos h1, if_pos (show k + y.cost < k + x.cost by omega)]; rfl
      · rw [if_neg h1, if_neg (show ¬ k + y.cost < k + x.cost by omega)]
        by_cases h2 : x.cost < y.cost
        · rw [if_pos h2, if_pos (show k + x.cost < k + y.cost by omega)]; rfl
        · rw [if_neg h2, if_neg (show ¬ k + x.cost < k + y.cost by omega)]; rfl
theorem lift_fold (k : Nat) (c : Uw02.Cast) (l : List (Option Uw03.Best)) (a : Option Uw03.Best) : (l.foldl Uw03.better a).map (lift k c) = (l.map (Option.map (lift k c))).foldl better (a.map (lift k c)) := by
  induction l generalizing a with
  | nil => rfl
  | cons x l ih => rw [List.foldl_cons, ih, List.map_cons, List.foldl_cons, lift_better]
/-- one right plan -/
def planOf (h : House) (c : Uw02.Cast) (o : Uw03.Order) : Option Best := some ⟨h.play.cost c + (h.day c).cost o, 1, c, o⟩
/-- all right plans of a casting -/
def plansOf (h : House) (c : Uw02.Cast) : List (Option Best) := (h.day c).all.map (planOf h c)
theorem best_flat (h : House) : h.best = (h.play.casts.flatMap (plansOf h)).foldl better none := by
  rw [fold_flat]
  unfold House.best
  congr 1
  apply List.map_congr_left
  intro c _
  unfold Uw03.Day.best plansOf
  have := lift_fold (h.play.cost c) c ((h.day c).all.map fun o => some (⟨(h.day c).cost o, 1, o⟩ : Uw03.Best)) none
  rw [List.map_map] at this
  exact this
/-- adding one plan to the best so far -/
theorem better_one (a : Option Best) (v : Nat) (c : Uw02.Cast) (o : Uw03.Order) : better a (some ⟨v, 1, c, o⟩) = match a with
    | none => some ⟨v, 1, c, o⟩
    | some x => if v < x.cost then some ⟨v, 1, c, o⟩ else if x.cost < v then some x else some ⟨x.cost, x.many + 1, x.cast, x.order⟩ := by cases a <;> rfl
/-- one casting more -/
theorem best_cast (h : House) (pre : List Uw02.Cast) (c : Uw02.Cast) : ((pre ++ [c]).flatMap (plansOf h)).foldl better none = (plansOf h c).foldl better ((pre.flatMap (plansOf h)).foldl better none) := by
  rw [List.flatMap_append, List.foldl_append]
  simp
/-! castings, one role more at the end -/
theorem rows_succ (n k : Nat) : Uw02.rows n (k + 1) = (List.range n).flatMap fun a => (Uw02.rows n k).map fun r => a :: r := rfl
theorem flat_one {α β : Type} (f : α → β) (l : List α) : (l.flatMap fun a => [f a]) = l.map f := by
  induction l with
  | nil => rfl
  | cons x l ih => rw [List.flatMap_cons, ih]; rfl
theorem rows_snoc (n : Nat) : ∀ k : Nat, Uw02.rows n (k + 1) = (Uw02.rows n k).flatMap fun r => (List.range n).map fun a => r ++ [a]
  | 0 => by
    have e : Uw02.rows n 0 = [[]] := rfl
    rw [rows_succ, e]
    simp only [List.map_cons, List.map_nil, List.flatMap_cons, List.flatMap_nil, List.append_nil, List.nil_append]
    exact flat_one _ _
  | k + 1 => by
    rw [rows_succ n (k + 1), rows_snoc n k, ← rows_snoc n k, rows_succ n k, List.flatMap_assoc]
    congr 1
    funext a
    rw [← rows_succ n k, rows_snoc n k, List.map_flatMap, List.flatMap_map]
    congr 1
    funext r
    rw [List.map_map]
    rfl
theorem rows_len (n : Nat) : ∀ (k : Nat) (r : List Nat), r ∈ Uw02.rows n k → r.length = k ∧ ∀ a ∈ r, a < n
  | 0, r, h => by
    have : r = [] := by simpa [Uw02.rows] using h
    subst this
    exact ⟨rfl, fun a ha => by cases ha⟩
  | k + 1, r, h => by
    rw [Uw02.rows] at h
    obtain ⟨a, ha, h⟩ := List.mem_flatMap.mp h
    obtain ⟨s, hs, rfl⟩ := List.mem_map.mp h
    obtain ⟨l, b⟩ := rows_len n k s hs
    refine ⟨by simp [l], fun x hx => ?_⟩
    rcases List.mem_cons.mp hx with rfl | hx
    · exact List.mem_range.mp ha
    · exact b x hx
/-- among all castings, being right is having nothing wrong -/
theorem casts_eq (p : Uw02.Play) : p.casts = (Uw02.rows p.players.length p.dress.length).filter fun c => (p.wrong c).isNone := by
  unfold Uw02.Play.casts
  apply List.filter_congr
  intro c hc
  obtain ⟨l, b⟩ := rows_len _ _ c hc
  unfold Uw02.Play.right
  have e1 : (c.length == p.dress.length) = true := by rw [l]; simp
  have e2 : (c.all fun a => decide (a < p.players.length)) = true := by
    rw [List.all_eq_true]
    intro a ha
    exact decide_eq_true (b a ha)
  rw [e1, e2]
  rfl
end RC
/-! ### A day of rehearsals, one piece more at the end -/
namespace RC
open Uw03
/-- how long the pieces of an order are together -/
def lenO (d : Day) (o : Order) : Nat := (o.map d.long).sum
theorem lenO_snoc (d : Day) (o : Order) (k : Nat) : lenO d (o ++ [k]) = lenO d o + d.long k := by simp [lenO]
theorem begin_all (d : Day) (o : Order) (i : Nat) : d.begin_ o i = lenO d (o.take i) := by
  unfold Day.begin_ lenO
  rw [total3_sum]
theorem places_snoc (d : Day) (o : Order) (k a : Nat) : d.places (o ++ [k]) a = d.places o a ++ (if d.has k a = true then [o.length] else []) := by
  unfold Day.places
  rw [List.length_append, List.length_singleton, List.range_succ, List.filter_append]
  congr 1
  · apply List.filter_congr
    intro i hi
    have hi' := List.mem_range.mp hi
    have e : (o ++ [k]).getD i 0 = o.getD i 0 := by
      rw [List.getD_eq_getElem?_getD, List.getD_eq_getElem?_getD, List.getElem?_append_left hi']
    rw [e]
  · have e : (o ++ [k]).getD o.length 0 = k := by
      rw [List.getD_eq_getElem?_getD, List.getElem?_append_right (Nat.le_refl _), Nat.sub_self]
      rfl
    rw [List.filter_cons, List.filter_nil, e]
theorem places_lt (d : Day) (o : Order) (a : Nat) : ∀ i ∈ d.places o a, i < o.length := fun i hi => List.mem_range.mp (List.mem_filter.mp hi).1
theorem begin_snoc (d : Day) (o : Order) (k i : Nat) (h : i ≤ o.length) : d.begin_ (o ++ [k]) i = d.begin_ o i := by
  rw [begin_all, begin_all, List.take_append_of_le_length h]
/-- when a player comes and goes, one piece more -/
theorem stays_snoc (d : Day) (o : Order) (k a : Nat) : d.stays (o ++ [k]) a = if d.has k a = true then some (((d.stays o a).map (·.1)).getD (lenO d o), lenO d o + d.long k) else d.stays o a := by
  have lt := places_lt d o a
  have full : d.begin_ (o ++ [k]) o.length = lenO d o := by
    rw [begin_snoc _ _ _ _ (Nat.le_refl _), begin_all, List.take_length]
  have full1 : d.begin_ (o ++ [k]) (o.length + 1) = lenO d o + d.long k := by
    rw [begin_all, ← lenO_snoc]
    congr 1
    apply List.take_of_length_le
    simp
  unfold Day.stays
  rw [places_snoc]
  by_cases h : d.has k a = true
  · rw [if_pos h, if_pos h]
    cases e : d.places o a with
    | nil =>
      simp only [List.nil_append, List.head?_cons, List.getLast?_singleton, List.head?_nil, List.getLast?_nil, Option.map_none, Option.getD_none]
      rw [full, full1]
    | cons x r =>
      have hx : x ≤ o.length := Nat.le_of_lt (lt x (by rw [e]; exact List.mem_cons_self))
      have gl : (x :: r ++ [o.length]).getLast? = some o.length := by rw [List.getLast?_append]; rfl
      have g2 : ∃ z, (x :: r).getLast? = some z := ⟨_, List.getLast?_eq_some_getLast (by simp)⟩
      obtain ⟨z, hz⟩ := g2
      rw [gl, hz]
      simp only [List.cons_append, List.head?_cons, Option.map_some, Option.getD_some]
      rw [full1, begin_snoc _ _ _ _ hx]
  · rw [if_neg h, if_neg h, List.append_nil]
    cases e1 : (d.places o a).head? with
    | none => simp
    | some x =>
      cases e2 : (d.places o a).getLast? with
      | none => simp
      | some z =>
        have hx := lt x (List.mem_of_head? e1)
        have hz := lt z (List.mem_of_getLast? e2)
        simp only
        rw [begin_snoc _ _ _ _ (by omega), begin_snoc _ _ _ _ (by omega)]
theorem stays_nil (d : Day) (a : Nat) : d.stays [] a = none := rfl
/-- how long a player is in a piece -/
def workO (d : Day) (o : Order) (a : Nat) : Nat := Uw03.total ((d.places o a).map fun k => d.long (o.getD k 0))
theorem workO_nil (d : Day) (a : Nat) : workO d [] a = 0 := rfl
theorem workO_snoc (d : Day) (o : Order) (k a : Nat) : workO d (o ++ [k]) a = workO d o a + if d.has k a = true then d.long k else 0 := by
  unfold workO
  rw [total3_sum, total3_sum, places_snoc, List.map_append, List.sum_append]
  congr 1
  · congr 1
    apply List.map_congr_left
    intro i hi
    have hi' := places_lt d o a i hi
    congr 1
    rw [List.getD_eq_getElem?_getD, List.getD_eq_getElem?_getD, List.getElem?_append_left hi']
  · by_cases h : d.has k a = true
    · rw [if_pos h, if_pos h]
      have e : (o ++ [k]).getD o.length 0 = k := by
        rw [List.getD_eq_getElem?_getD, List.getElem?_append_right (Nat.le_refl _), Nat.sub_self]
        rfl
      simp
    · rw [if_neg h, if_neg h]
      rfl
theorem waits_eq (d : Day) (o : Order) (a : Nat) : d.waits o a = match d.stays o a with
    | some x => x.2 - x.1 - workO d o a
    | none => 0 := rfl
/-- a player's stay lies within the order's minutes; what they work fits in it -/
theorem stay_le (d : Day) : ∀ (o : Order) (a : Nat), match d.stays o a with
    | some x => x.1 + workO d o a ≤ x.2 ∧ x.2 ≤ lenO d o
    | none => workO d o a = 0 := by
  intro o a
  induction hn : o.length generalizing o with
  | zero =>
    have : o = [] := List.length_eq_zero_iff.mp hn
    subst this
    rfl
  | succ n ih =>
    obtain ⟨o', k, rfl⟩ : ∃ o' k, o = o' ++ [k] := by
      have ne : o ≠ [] := fun z => by rw [z] at hn; cases hn
      exact ⟨o.dropLast, o.getLast ne, (List.dropLast_concat_getLast ne).symm⟩
    have hl : o'.length = n := by simpa using hn
    have ih' := ih o' hl
    rw [stays_snoc, workO_snoc, lenO_snoc]
    by_cases h : d.has k a = true
    · simp only [if_pos h]
      cases e : d.stays o' a with
      | none =>
        rw [e] at ih'
        simp only [Option.map_none, Option.getD_none]
        have ih2 : workO d o' a = 0 := ih'
        rw [ih2]
        exact ⟨by omega, Nat.le_refl _⟩
      | some x =>
        rw [e] at ih'
        simp only [Option.map_some, Option.getD_some]
        have ih2 : x.1 + workO d o' a ≤ x.2 ∧ x.2 ≤ lenO d o' := ih'
        exact ⟨by omega, Nat.le_refl _⟩
    · simp only [if_neg h, Nat.add_zero]
      cases e : d.stays o' a with
      | none => rw [e] at ih'; exact ih'
      | some x =>
        rw [e] at ih'
        have ih2 : x.1 + workO d o' a ≤ x.2 ∧ x.2 ≤ lenO d o' := ih'
        exact ⟨ih2.1, by omega⟩
/-! the day that a casting makes -/
theorem day_long (h : Uw07.House) (c : Uw02.Cast) (i : Nat) : (h.day c).long i = ((h.pieces[i]?).map fun p => p.1).getD 0 := by
  unfold Day.long Uw07.House.day
  simp only [List.getElem?_map]
  cases h.pieces[i]? <;> rfl
theorem day_has (h : Uw07.House) (c : Uw02.Cast) (i a : Nat) : (h.day c).has i a = ((h.pieces[i]?).map fun p => decide (a < h.hours.length) && p.2.any fun r => c[r]? == some a).getD false := by
  unfold Day.has Uw07.House.day
  simp only [List.getElem?_map]
  cases h.pieces[i]? with
  | none => rfl
  | some p =>
    simp only [Option.map_some, Option.getD_some]
    unfold Uw07.House.players
    rw [Bool.eq_iff_iff, List.contains_iff_mem, List.mem_filter, List.mem_range, Bool.and_eq_true, decide_eq_true_iff]
end RC
/-! ### Castings: the program's way and the specification's -/
namespace RC
def tooSoon (role m : Nat) : Nat → List Uw02.Scene → Bool
  | _, [] => false
  | b, s :: r => if (s.roles.contains role && decide (b < m)) = true then true else tooSoon role m (b + s.long) r
def lacks (e l m : Nat) : List Uw02.Scene → Bool
  | [] => false
  | s :: r => if (s.roles.contains e && tooSoon l m 0 r) = true then true else lacks e l m r
theorem soon_cons (role m b : Nat) (s : Uw02.Scene) (r : List Uw02.Scene) : tooSoon role m b (s :: r) = if (s.roles.contains role && decide (b < m)) = true then true else tooSoon role m (b + s.long) r := rfl
theorem lacks_cons (e l m : Nat) (s : Uw02.Scene) (r : List Uw02.Scene) : lacks e l m (s :: r) = if (s.roles.contains e && tooSoon l m 0 r) = true then true else lacks e l m r := rfl
def meets (r s : Nat) (scs : List Uw02.Scene) : Bool := scs.any fun x => x.roles.contains r && x.roles.contains s
def clashB (p : Uw02.Play) (r s : Nat) : Bool := meets r s p.scenes || (lacks r s (p.dress.getD s 0) p.scenes || lacks s r (p.dress.getD r 0) p.scenes)
def HasS (scs : List Uw02.Scene) (i r : Nat) : Prop := ∃ s, scs[i]? = some s ∧ r ∈ s.roles
def btw (scs : List Uw02.Scene) (i j : Nat) : Nat := (((scs.take j).drop (i + 1)).map fun s => s.long).sum
theorem soon_iff (role m : Nat) : ∀ (scs : List Uw02.Scene) (b : Nat), tooSoon role m b scs = true ↔ ∃ j, HasS scs j role ∧ b + ((scs.take j).map fun s => s.long).sum < m
  | [], b => by
    constructor
    · intro h; cases h
    · rintro ⟨j, ⟨s, h, _⟩, _⟩; simp at h
  | s :: r, b => by
    unfold tooSoon
    by_cases c : (s.roles.contains role && decide (b < m)) = true
    · rw [if_pos c]
      rw [Bool.and_eq_true, decide_eq_true_iff, List.contains_iff_mem] at c
      exact ⟨fun _ => ⟨0, ⟨s, rfl, c.1⟩, by simpa using c.2⟩, fun _ => rfl⟩
    · rw [if_neg c, soon_iff role m r]
      constructor
      · rintro ⟨j, ⟨x, h1, h2⟩, h3⟩
        exact ⟨j + 1, ⟨x, by simpa using h1, h2⟩, by simp only [List.take_succ_cons, List.map_cons, List.sum_cons]; omega⟩
      · rintro ⟨j, ⟨x, h1, h2⟩, h3⟩
        cases j with
        | zero =>
          exfalso
          apply c
          rw [Bool.and_eq_true, decide_eq_true_iff, List.contains_iff_mem]
          simp at h1 h3
          subst h1
          exact ⟨h2, h3⟩
        | succ j =>
          refine ⟨j, ⟨x, by simpa using h1, h2⟩, ?_⟩
          simp only [List.take_succ_cons, List.map_cons, List.sum_cons] at h3
          omega
theorem lacks_iff (e l m : Nat) : ∀ scs : List Uw02.Scene, lacks e l m scs = true ↔ ∃ i j, i < j ∧ HasS scs i e ∧ HasS scs j l ∧ btw scs i j < m
  | [] => by
    constructor
    · intro h; cases h
    · rintro ⟨i, j, _, ⟨s, h, _⟩, _⟩; simp at h
  | s :: r => by
    unfold lacks
    by_cases c : (s.roles.contains e && tooSoon l m 0 r) = true
    · rw [if_pos c]
      rw [Bool.and_eq_true, soon_iff, List.contains_iff_mem] at c
      obtain ⟨c1, j, ⟨x, h1, h2⟩, h3⟩ := c
      refine ⟨fun _ => ⟨0, j + 1, by omega, ⟨s, rfl, c1⟩, ⟨x, by simpa using h1, h2⟩, ?_⟩, fun _ => rfl⟩
      unfold btw
      simp only [List.take_succ_cons, List.drop_succ_cons, List.drop_zero]
      omega
    · rw [if_neg c, lacks_iff e l m r]
      constructor
      · rintro ⟨i, j, h0, ⟨x, h1, h2⟩, ⟨y, h3, h4⟩, h5⟩
        refine ⟨i + 1, j + 1, by omega, ⟨x, by simpa using h1, h2⟩, ⟨y, by simpa using h3, h4⟩, ?_⟩
        unfold btw at h5 ⊢
        simpa only [List.take_succ_cons, List.drop_succ_cons] using h5
      · rintro ⟨i, j, h0, ⟨x, h1, h2⟩, ⟨y, h3, h4⟩, h5⟩
        cases j with
        | zero => omega
        | succ j =>
          cases i with
          | zero =>
            exfalso
            apply c
            rw [Bool.and_eq_true, soon_iff, List.contains_iff_mem]
            simp at h1
            subst h1
            refine ⟨h2, j, ⟨y, by simpa using h3, h4⟩, ?_⟩
            unfold btw at h5
            simp only [List.take_succ_cons, List.drop_succ_cons, List.drop_zero] at h5
            omega
          | succ i =>
            refine ⟨i, j, by omega, ⟨x, by simpa using h1, h2⟩, ⟨y, by simpa using h3, h4⟩, ?_⟩
            unfold btw at h5 ⊢
            simpa only [List.take_succ_cons, List.drop_succ_cons] using h5
theorem meets_iff (r s : Nat) (scs : List Uw02.Scene) : meets r s scs = true ↔ ∃ i, HasS scs i r ∧ HasS scs i s := by
  unfold meets
  rw [List.any_eq_true]
  constructor
  · rintro ⟨x, hx, h⟩
    rw [Bool.and_eq_true, List.contains_iff_mem, List.contains_iff_mem] at h
    obtain ⟨i, hi⟩ := List.mem_iff_getElem?.mp hx
    exact ⟨i, ⟨x, hi, h.1⟩, x, hi, h.2⟩
  · rintro ⟨i, ⟨x, h1, h2⟩, y, h3, h4⟩
    rw [h1] at h3
    cases h3
    exact ⟨x, List.mem_of_getElem? h1, by rw [Bool.and_eq_true, List.contains_iff_mem, List.contains_iff_mem]; exact ⟨h2, h4⟩⟩
theorem has_iff (p : Uw02.Play) (i r : Nat) : p.has i r = true ↔ HasS p.scenes i r := by
  unfold Uw02.Play.has HasS
  cases p.scenes[i]? with
  | none => simp
  | some s => simp
theorem where_iff (p : Uw02.Play) (i r : Nat) : i ∈ p.where_ r ↔ HasS p.scenes i r := by
  unfold Uw02.Play.where_
  rw [List.mem_filter, has_iff, List.mem_range]
  constructor
  · exact fun h => h.2
  · intro h
    obtain ⟨s, h1, _⟩ := id h
    exact ⟨(List.getElem?_eq_some_iff.mp h1).1, h⟩
theorem between_eq (p : Uw02.Play) (i j : Nat) : p.between i j = btw p.scenes i j := total2_sum _
theorem clash_eq (p : Uw02.Play) (r s : Nat) : (p.clash r s).isSome = clashB p r s := by
  rw [Bool.eq_iff_iff]
  unfold Uw02.Play.clash clashB
  rw [List.find?_isSome, Bool.or_eq_true, Bool.or_eq_true, meets_iff, lacks_iff, lacks_iff]
  constructor
  · rintro ⟨⟨i, j⟩, hm, h⟩
    obtain ⟨i', hi', hm⟩ := List.mem_flatMap.mp hm
    obtain ⟨j', hj', e⟩ := List.mem_map.mp hm
    cases e
    rw [where_iff] at hi' hj'
    simp only [Bool.or_eq_true, beq_iff_eq] at h
    rcases h with h | h
    · subst h
      exact .inl ⟨i, hi', hj'⟩
    · by_cases c : i < j
      · rw [if_pos c, decide_eq_true_iff, between_eq] at h
        exact .inr (.inl ⟨i, j, c, hi', hj', h⟩)
      · rw [if_neg c, decide_eq_true_iff, between_eq] at h
        by_cases c2 : i = j
        · subst c2; exact .inl ⟨i, hi', hj'⟩
        · exact .inr (.inr ⟨j, i, by omega, hj', hi', h⟩)
  · have mem : ∀ i j, HasS p.scenes i r → HasS p.scenes j s → (i, j) ∈ ((p.where_ r).flatMap fun i => (p.where_ s).map fun j => (i, j)) := fun i j h1 h2 =>
      List.mem_flatMap.mpr ⟨i, (where_iff p i r).mpr h1, List.mem_map.mpr ⟨j, (where_iff p j s).mpr h2, rfl⟩⟩
    rintro (⟨i, h1, h2⟩ | ⟨i, j, h0, h1, h2, h3⟩ | ⟨i, j, h0, h1, h2, h3⟩)
    · exact ⟨(i, i), mem i i h1 h2, by simp⟩
    · refine ⟨(i, j), mem i j h1 h2, ?_⟩
      simp only [Bool.or_eq_true, beq_iff_eq]
      right
      rw [if_pos h0, decide_eq_true_iff, between_eq]
      exact h3
    · refine ⟨(j, i), mem j i h2 h1, ?_⟩
      simp only [Bool.or_eq_true, beq_iff_eq]
      right
      rw [if_neg (by omega), decide_eq_true_iff, between_eq]
      exact h3
/-! the pairs that clash, as two loops find them -/
def rowP (p : Uw02.Play) (a k : Nat) : List (Nat × Nat) := ((List.range k).map fun i => (a, a + 1 + i)).filter fun x => clashB p x.1 x.2
def clashes (p : Uw02.Play) : List (Nat × Nat) := (List.range p.dress.length).flatMap fun a => rowP p a (p.dress.length - (a + 1))
theorem rowP_succ (p : Uw02.Play) (a k : Nat) : rowP p a (k + 1) = rowP p a k ++ (if clashB p a (a + 1 + k) = true then [(a, a + 1 + k)] else []) := by
  unfold rowP
  rw [List.range_succ, List.map_append, List.filter_append]
  congr 1
  simp only [List.map_cons, List.map_nil, List.filter_cons, List.filter_nil]
theorem later_eq (n a : Nat) : ((List.range n).filter fun b => decide (a < b)) = (List.range (n - (a + 1))).map fun i => a + 1 + i := by
  induction n with
  | zero => simp
  | succ n ih =>
    rw [List.range_succ, List.filter_append, ih]
    by_cases h : a < n
    · have e : n + 1 - (a + 1) = (n - (a + 1)) + 1 := by omega
      rw [e, List.range_succ, List.map_append]
      simp [h]
      omega
    · have e : n + 1 - (a + 1) = 0 := by omega
      have e2 : n - (a + 1) = 0 := by omega
      simp [h, e, e2]
theorem clashes_eq (p : Uw02.Play) : clashes p = (Uw02.pairs p.dress.length).filter fun x => (p.clash x.1 x.2).isSome := by
  unfold clashes Uw02.pairs
  rw [List.filter_flatMap]
  congr 1
  funext a
  rw [later_eq, List.map_map]
  unfold rowP
  simp only [clash_eq]
  rfl
/-! what is wrong with a casting -/
def nums3 : Option (Nat × Nat × Nat) → List Nat
  | none => []
  | some x => [x.1, x.2.1, x.2.2]
theorem wrong_split (p : Uw02.Play) (c : List Nat) (hl : c.length = p.dress.length) : p.wrong c = match (List.range c.length).find? fun r => (p.fee r (c.getD r 0)).isNone with
    | some r => some (1, r, c.getD r 0)
    | none => ((clashes p).find? fun x => c.getD x.1 0 == c.getD x.2 0).map fun x => (2, x.1, x.2) := by
  unfold Uw02.Play.wrong
  rw [clashes_eq, List.find?_filter, hl]
  cases (List.range p.dress.length).find? fun r => (p.fee r (c.getD r 0)).isNone with
  | some r => rfl
  | none =>
    simp only
    congr 2
    funext y
    rw [Bool.and_comm, Bool.decide_and, Bool.decide_eq_true, Bool.decide_eq_true]
theorem clash_lt {p : Uw02.Play} {x : Nat × Nat} (h : x ∈ clashes p) : x.1 < p.dress.length ∧ x.2 < p.dress.length := by
  obtain ⟨a, ha, h⟩ := List.mem_flatMap.mp h
  have h := (List.mem_filter.mp h).1
  obtain ⟨i, hi, rfl⟩ := List.mem_map.mp h
  have := List.mem_range.mp ha
  have := List.mem_range.mp hi
  exact ⟨by omega, by show a + 1 + i < _; omega⟩
theorem find_first {n i : Nat} {p : Nat → Bool} (hi : i < n) (h : ∀ r, r < i → p r = false) (hp : p i = true) : (List.range n).find? p = some i := by
  rw [List.find?_range_eq_some]
  exact ⟨hp, List.mem_range.mpr hi, fun j hj => by rw [h j hj]; rfl⟩
theorem find_none {n : Nat} {p : Nat → Bool} (h : ∀ r, r < n → p r = false) : (List.range n).find? p = none := by
  rw [List.find?_eq_none]
  intro x hx
  rw [h x (List.mem_range.mp hx)]
  simp
theorem rows_length (n : Nat) : ∀ k : Nat, (Uw02.rows n k).length = n ^ k
  | 0 => rfl
  | k + 1 => by
    rw [rows_snoc, List.length_flatMap]
    simp only [List.length_map, List.length_range]
    rw [List.map_const', List.sum_replicate_nat, rows_length n k, Nat.pow_succ]
theorem rows_small {n k : Nat} (hn : n ≤ 4) (hk : k ≤ 5) : (Uw02.rows n k).length ≤ 1024 := by
  rw [rows_length]
  calc n ^ k ≤ 4 ^ k := Nat.pow_le_pow_left hn k
    _ ≤ 4 ^ 5 := Nat.pow_le_pow_right (by decide) hk
    _ = 1024 := by decide
/-! what a casting costs -/
def wageOf (p : Uw02.Play) (a : Nat) : Nat := ((p.players[a]?).map fun x => x.wage).getD 0
def wagesTo (p : Uw02.Play) (c : List Nat) (i : Nat) : Nat := (((List.range i).filter fun a => c.contains a).map (wageOf p)).sum
def feesTo (p : Uw02.Play) (c : List Nat) (i : Nat) : Nat := ((c.take i).zipIdx.map fun x => (p.fee x.2 x.1).getD 0).sum
theorem wagesTo_succ (p : Uw02.Play) (c : List Nat) (i : Nat) : wagesTo p c (i + 1) = wagesTo p c i + if c.contains i = true then wageOf p i else 0 := by
  unfold wagesTo
  rw [List.range_succ, List.filter_append, List.map_append, List.sum_append]
  congr 1
  simp only [List.filter_cons, List.filter_nil]
  by_cases h : c.contains i = true
  · rw [if_pos h, if_pos h]; simp
  · rw [if_neg h, if_neg h]; rfl
theorem feesTo_succ (p : Uw02.Play) (c : List Nat) (i a : Nat) (h : c[i]? = some a) : feesTo p c (i + 1) = feesTo p c i + (p.fee i a).getD 0 := by
  unfold feesTo
  have hl : i < c.length := (List.getElem?_eq_some_iff.mp h).1
  rw [List.take_add_one, h, Option.toList_some, List.zipIdx_append, List.map_append, List.sum_append]
  congr 1
  rw [List.length_take, Nat.min_eq_left (by omega)]
  simp
theorem cost_eq (p : Uw02.Play) (c : List Nat) : p.cost c = wagesTo p c p.players.length + feesTo p c c.length := by
  unfold Uw02.Play.cost wagesTo feesTo Uw02.Play.engaged
  rw [total2_sum, total2_sum, List.take_length]
  rfl
end RC
/-! ### Orders: the program's way and the specification's -/
namespace RC
def extO (n : Nat) (o : List Nat) : List (List Nat) := ((List.range n).filter fun p => !o.contains p).map fun p => o ++ [p]
def ordS (n : Nat) : Nat → List (List Nat)
  | 0 => [[]]
  | k + 1 => (ordS n k).flatMap (extO n)
/-- orders of k of a list's things -/
def preO : Nat → List Nat → List (List Nat)
  | 0, _ => [[]]
  | k + 1, l => l.flatMap fun x => (preO k (Uw03.others x l)).map fun r => x :: r
theorem others_filter : ∀ {l : List Nat} {x : Nat}, l.Nodup → Uw03.others x l = l.filter fun y => decide (y ≠ x)
  | [], _, _ => rfl
  | y :: l, x, h => by
    have h2 := List.nodup_cons.mp h
    unfold Uw03.others
    by_cases c : y = x
    · rw [if_pos c]
      subst c
      simp only [List.filter_cons, ne_eq, not_true_eq_false, decide_false, Bool.false_eq_true, if_false]
      symm
      rw [List.filter_eq_self]
      intro z hz
      exact decide_eq_true fun e => h2.1 (e ▸ hz)
    · rw [if_neg c, others_filter h2.2]
      simp [c]
theorem others_nodup {l : List Nat} {x : Nat} (h : l.Nodup) : (Uw03.others x l).Nodup := by
  rw [others_filter h]
  exact h.filter _
theorem others_len : ∀ {l : List Nat} {x : Nat}, x ∈ l → (Uw03.others x l).length + 1 = l.length
  | y :: l, x, h => by
    unfold Uw03.others
    by_cases c : y = x
    · rw [if_pos c]; rfl
    · rw [if_neg c]
      have h' : x ∈ l := by
        rcases List.mem_cons.mp h with e | e
        · exact absurd e.symm c
        · exact e
      have := others_len h'
      simp
      exact this
theorem preO_snoc : ∀ (k : Nat) (l : List Nat), l.Nodup → preO (k + 1) l = (preO k l).flatMap fun o => (l.filter fun p => !o.contains p).map fun p => o ++ [p]
  | 0, l, _ => by
    show (l.flatMap fun x => [[x]]) = _
    rw [flat_one]
    have e : (l.filter fun p => !([] : List Nat).contains p) = l := List.filter_eq_self.mpr fun _ _ => rfl
    show _ = ([[]] : List (List Nat)).flatMap _
    rw [List.flatMap_cons, List.flatMap_nil, List.append_nil, e]
    rfl
  | k + 1, l, h => by
    have e1 : preO (k + 1 + 1) l = l.flatMap fun x => (preO (k + 1) (Uw03.others x l)).map fun r => x :: r := rfl
    have e2 : preO (k + 1) l = l.flatMap fun x => (preO k (Uw03.others x l)).map fun r => x :: r := rfl
    rw [e1, e2, List.flatMap_assoc]
    congr 1
    funext x
    rw [preO_snoc k _ (others_nodup h), List.map_flatMap, List.flatMap_map]
    congr 1
    funext o
    rw [List.map_map, others_filter h, List.filter_filter]
    have : (l.filter fun p => (!o.contains p && decide (p ≠ x))) = l.filter fun p => !(x :: o).contains p := by
      apply List.filter_congr
      intro p _
      simp only [List.contains_cons, Bool.not_or, ne_eq, decide_not]
      rw [Bool.and_comm]
      congr 2
    rw [this]
    rfl
theorem flat_congr {α β : Type} {f g : α → List β} : ∀ {l : List α}, (∀ x ∈ l, f x = g x) → l.flatMap f = l.flatMap g
  | [], _ => rfl
  | x :: l, h => by rw [List.flatMap_cons, List.flatMap_cons, h x List.mem_cons_self, flat_congr fun y hy => h y (List.mem_cons_of_mem _ hy)]
theorem full_of {o : List Nat} : ∀ {l : List Nat}, o.Nodup → (∀ x ∈ o, x ∈ l) → l.length ≤ o.length → ∀ x ∈ l, x ∈ o := by
  induction o with
  | nil =>
    intro l _ _ hl x hx
    have : l = [] := List.length_eq_zero_iff.mp (Nat.le_zero.mp hl)
    rw [this] at hx
    cases hx
  | cons a o ih =>
    intro l nd sub hl x hx
    have nd2 := List.nodup_cons.mp nd
    have ma : a ∈ l := sub a List.mem_cons_self
    by_cases e : x = a
    · rw [e]; exact List.mem_cons_self
    · refine List.mem_cons_of_mem _ (ih (l := l.erase a) nd2.2 (fun y hy => ?_) ?_ x ((List.mem_erase_of_ne e).mpr hx))
      · have ne : y ≠ a := fun z => nd2.1 (z ▸ hy)
        exact (List.mem_erase_of_ne ne).mpr (sub y (List.mem_cons_of_mem _ hy))
      · rw [List.length_erase_of_mem ma]
        simp at hl
        omega
theorem orders_pre : ∀ (n : Nat) (l : List Nat), l.length = n → Uw03.orders n l = preO n l
  | 0, l, h => by
    have : l = [] := List.length_eq_zero_iff.mp h
    subst this
    rfl
  | n + 1, [], h => by cases h
  | n + 1, y :: l, h => by
    show ((y :: l).flatMap fun k => (Uw03.orders n (Uw03.others k (y :: l))).map fun r => k :: r) = _
    unfold preO
    apply flat_congr
    intro k hk
    have := others_len hk
    rw [orders_pre n _ (by omega)]
theorem ordS_pre (n : Nat) : ∀ k : Nat, ordS n k = preO k (List.range n)
  | 0 => rfl
  | k + 1 => by
    rw [preO_snoc k _ List.nodup_range, ← ordS_pre n k]
    rfl
theorem ordS_eq (n : Nat) : ordS n n = Uw03.orders n (List.range n) := by
  rw [ordS_pre, orders_pre n _ List.length_range]
theorem ordS_ok (n : Nat) : ∀ (k : Nat) (o : List Nat), o ∈ ordS n k → o.length = k ∧ o.Nodup ∧ ∀ x ∈ o, x < n
  | 0, o, h => by
    have : o = [] := by simpa [ordS] using h
    subst this
    exact ⟨rfl, List.nodup_nil, fun x hx => by cases hx⟩
  | k + 1, o, h => by
    obtain ⟨o', ho', h⟩ := List.mem_flatMap.mp h
    obtain ⟨p, hp, rfl⟩ := List.mem_map.mp h
    obtain ⟨h1, h2, h3⟩ := ordS_ok n k o' ho'
    obtain ⟨m1, m2⟩ := List.mem_filter.mp hp
    have np : p ∉ o' := by simpa using m2
    refine ⟨by simp [h1], ?_, fun x hx => ?_⟩
    · rw [List.nodup_append]
      exact ⟨h2, by simp, fun a ha b hb => by rw [List.mem_singleton.mp hb]; exact fun e => np (e ▸ ha)⟩
    · rcases List.mem_append.mp hx with hx | hx
      · exact h3 x hx
      · rw [List.mem_singleton.mp hx]; exact List.mem_range.mp m1
theorem extO_len (n : Nat) (o : List Nat) : (extO n o).length ≤ n := by
  unfold extO
  rw [List.length_map]
  exact Nat.le_trans (List.length_filter_le _ _) (by simp)
theorem flatO_len (n : Nat) : ∀ l : List (List Nat), (l.flatMap (extO n)).length ≤ l.length * n
  | [] => by simp
  | o :: l => by
    rw [List.flatMap_cons, List.length_append, List.length_cons, Nat.succ_mul]
    have := extO_len n o
    have := flatO_len n l
    omega
theorem ordS_len (n : Nat) : ∀ k : Nat, (ordS n k).length ≤ n ^ k
  | 0 => Nat.le_refl _
  | k + 1 => Nat.le_trans (flatO_len n (ordS n k)) (Nat.mul_le_mul_right n (ordS_len n k))
theorem ordS_small {n k : Nat} (hn : n ≤ 4) (hk : k ≤ 4) : (ordS n k).length ≤ 256 := by
  have := ordS_len n k
  calc (ordS n k).length ≤ n ^ k := this
    _ ≤ 4 ^ k := Nat.pow_le_pow_left hn k
    _ ≤ 4 ^ 4 := Nat.pow_le_pow_right (by decide) hk
    _ = 256 := by decide
/-- an order has each piece once -/
def IsO (n : Nat) (o : List Nat) : Prop := o.Nodup ∧ (∀ x ∈ o, x < n) ∧ ∀ x, x < n → x ∈ o
theorem isO_of {n : Nat} {o : List Nat} (h1 : o.Nodup) (h2 : ∀ x ∈ o, x < n) (h3 : o.length = n) : IsO n o :=
  ⟨h1, h2, fun x hx => full_of h1 (fun y hy => List.mem_range.mpr (h2 y hy)) (by rw [List.length_range, h3]; exact Nat.le_refl _) x (List.mem_range.mpr hx)⟩
theorem IsO.perm {n : Nat} {o : List Nat} (h : IsO n o) : o.Perm (List.range n) := by
  rw [List.perm_ext_iff_of_nodup h.1 List.nodup_range]
  intro x
  rw [List.mem_range]
  exact ⟨h.2.1 x, h.2.2 x⟩
theorem ordS_isO {n : Nat} {o : List Nat} (h : o ∈ ordS n n) : IsO n o := by
  obtain ⟨h1, h2, h3⟩ := ordS_ok n n o h
  exact isO_of h2 h3 h1
/-! when each piece begins -/
abbrev Pcs := List (Nat × List Nat)
def longP (pcs : Pcs) (k : Nat) : Nat := ((pcs[k]?).map fun p => p.1).getD 0
def lenP (pcs : Pcs) (o : List Nat) : Nat := (o.map (longP pcs)).sum
def bg (pcs : Pcs) (o : List Nat) (k : Nat) : Nat := lenP pcs (o.take (o.idxOf k))
def begunL (pcs : Pcs) (o : List Nat) : List Nat := (List.range pcs.length).map fun j => if o.contains j = true then bg pcs o j else 0
theorem lenP_snoc (pcs : Pcs) (o : List Nat) (k : Nat) : lenP pcs (o ++ [k]) = lenP pcs o + longP pcs k := by simp [lenP]
theorem bg_old (pcs : Pcs) {o : List Nat} {k j : Nat} (h : j ∈ o) : bg pcs (o ++ [k]) j = bg pcs o j := by
  unfold bg
  rw [List.idxOf_append, if_pos h, List.take_append_of_le_length (Nat.le_of_lt (List.idxOf_lt_length_of_mem h))]
theorem bg_new (pcs : Pcs) {o : List Nat} {k : Nat} (h : k ∉ o) : bg pcs (o ++ [k]) k = lenP pcs o := by
  unfold bg
  rw [List.idxOf_append, if_neg h]
  simp
theorem begunL_nil (pcs : Pcs) : begunL pcs [] = List.replicate pcs.length 0 := by
  unfold begunL
  simp [List.map_const']
theorem begunL_len (pcs : Pcs) (o : List Nat) : (begunL pcs o).length = pcs.length := by simp [begunL]
theorem begunL_snoc (pcs : Pcs) {o : List Nat} {k : Nat} (h : k ∉ o) : begunL pcs (o ++ [k]) = (begunL pcs o).set k (lenP pcs o) := by
  apply List.ext_getElem?
  intro j
  unfold begunL
  rw [List.getElem?_set]
  simp only [List.getElem?_map, List.length_map, List.length_range]
  by_cases c : k = j
  · subst c
    rw [if_pos rfl]
    by_cases l : k < pcs.length
    · rw [if_pos l, List.getElem?_range l]
      simp [bg_new pcs h]
    · rw [if_neg l, List.getElem?_eq_none (by simp; omega)]
      rfl
  · rw [if_neg c]
    by_cases l : j < pcs.length
    · rw [List.getElem?_range l]
      simp only [Option.map_some, List.contains_iff_mem, List.mem_append, List.mem_singleton]
      have c' : ¬ j = k := fun e => c e.symm
      by_cases m : j ∈ o
      · rw [if_pos (.inl m), if_pos m, bg_old pcs m]
      · rw [if_neg (by rintro (z | z); exact m z; exact c' z), if_neg m]
    · rw [List.getElem?_eq_none (by simp; omega)]
      rfl
theorem begunL_at (pcs : Pcs) {o : List Nat} {j : Nat} (h : j ∈ o) (l : j < pcs.length) : (begunL pcs o)[j]? = some (bg pcs o j) := by
  unfold begunL
  rw [List.getElem?_map, List.getElem?_range l]
  simp [h]
/-! who is there when -/
def inP (c : List Nat) (pcs : Pcs) (a i : Nat) : Bool := ((pcs[i]?).map fun p => p.2.any fun r => c[r]? == some a).getD false
def ownL (c : List Nat) (pcs : Pcs) (a : Nat) : List Nat := (List.range pcs.length).filter (inP c pcs a)
def mn (l : List Nat) : Nat := l.min?.getD 0
def mx (l : List Nat) : Nat := l.max?.getD 0
theorem mn_eq {l : List Nat} {a : Nat} (h1 : a ∈ l) (h2 : ∀ b ∈ l, a ≤ b) : mn l = a := by
  unfold mn
  rw [List.min?_eq_some_iff.mpr ⟨h1, h2⟩]
  rfl
theorem mx_eq {l : List Nat} {a : Nat} (h1 : a ∈ l) (h2 : ∀ b ∈ l, b ≤ a) : mx l = a := by
  unfold mx
  rw [List.max?_eq_some_iff.mpr ⟨h1, h2⟩]
  rfl
def stayN (pcs : Pcs) (bl own : List Nat) : List Int :=
  if own = [] then [] else [ni (mn (own.map fun k => bl.getD k 0)), ni (mx (own.map fun k => bl.getD k 0 + longP pcs k)), ni (mx (own.map fun k => bl.getD k 0 + longP pcs k)) - ni (mn (own.map fun k => bl.getD k 0)) - ni ((own.map (longP pcs)).sum)]
/-- the specification's stay, as the program lists it -/
def stayS (d : Uw03.Day) (o : List Nat) (a : Nat) : List Int := match d.stays o a with
  | none => []
  | some x => [ni x.1, ni x.2, ni (d.waits o a)]
theorem day_long' (h : Uw07.House) (c : Uw02.Cast) (i : Nat) : (h.day c).long i = longP h.pieces i := day_long h c i
theorem lenO_eq (h : Uw07.House) (c : Uw02.Cast) (o : List Nat) : lenO (h.day c) o = lenP h.pieces o := by
  unfold lenO lenP
  congr 1
  apply List.map_congr_left
  intro i _
  exact day_long h c i
theorem day_in (h : Uw07.House) (c : Uw02.Cast) {a : Nat} (ha : a < h.hours.length) (i : Nat) : (h.day c).has i a = inP c h.pieces a i := by
  rw [day_has]
  unfold inP
  rw [decide_eq_true ha]
  simp only [Bool.true_and]
theorem bg_le (pcs : Pcs) {o : List Nat} {j : Nat} (h : j ∈ o) : bg pcs o j + longP pcs j ≤ lenP pcs o := by
  have hi := List.idxOf_lt_length_of_mem h
  have e : o.take (o.idxOf j + 1) = o.take (o.idxOf j) ++ [j] := by
    rw [List.take_add_one, List.getElem?_eq_getElem hi, List.getElem_idxOf]
    rfl
  have e2 : bg pcs o j + longP pcs j = lenP pcs (o.take (o.idxOf j + 1)) := by
    rw [e, lenP_snoc]; rfl
  rw [e2]
  conv => rhs; rw [← List.take_append_drop (o.idxOf j + 1) o]
  unfold lenP
  rw [List.map_append, List.sum_append]
  exact Nat.le_add_right _ _
theorem stays_char (h : Uw07.House) (c : Uw02.Cast) {a : Nat} (ha : a < h.hours.length) : ∀ (n : Nat) (o : List Nat), o.length = n → o.Nodup → match (h.day c).stays o a with
    | none => ∀ k ∈ o, inP c h.pieces a k = false
    | some x => (∃ k ∈ o, inP c h.pieces a k = true ∧ bg h.pieces o k = x.1) ∧ (∀ k ∈ o, inP c h.pieces a k = true → x.1 ≤ bg h.pieces o k) ∧ (∃ k ∈ o, inP c h.pieces a k = true ∧ bg h.pieces o k + longP h.pieces k = x.2) ∧ (∀ k ∈ o, inP c h.pieces a k = true → bg h.pieces o k + longP h.pieces k ≤ x.2)
  | 0, o, hn, _ => by
    have : o = [] := List.length_eq_zero_iff.mp hn
    subst this
    intro k hk
    cases hk
  | n + 1, o, hn, nd => by
    obtain ⟨o', k, rfl⟩ : ∃ o' k, o = o' ++ [k] := by
      have ne : o ≠ [] := fun z => by rw [z] at hn; cases hn
      exact ⟨o.dropLast, o.getLast ne, (List.dropLast_concat_getLast ne).symm⟩
    have hl : o'.length = n := by simpa using hn
    rw [List.nodup_append] at nd
    have nk : k ∉ o' := fun z => nd.2.2 k z k (by simp) rfl
    have ih := stays_char h c ha n o' hl nd.1
    have split : ∀ (Q : Nat → Prop), (∀ j ∈ o', Q j) → Q k → ∀ j ∈ o' ++ [k], Q j := fun Q h1 h2 j hj => by
      rcases List.mem_append.mp hj with hj | hj
      · exact h1 j hj
      · rw [List.mem_singleton.mp hj]; exact h2
    rw [stays_snoc, day_in h c ha, lenO_eq, day_long']
    by_cases q : inP c h.pieces a k = true
    · rw [if_pos q]
      have last : bg h.pieces (o' ++ [k]) k = lenP h.pieces o' := bg_new _ nk
      cases e : (h.day c).stays o' a with
      | none =>
        rw [e] at ih
        simp only [Option.map_none, Option.getD_none]
        have no : ∀ j ∈ o', ¬ inP c h.pieces a j = true := fun j hj z => by rw [ih j hj] at z; cases z
        refine ⟨⟨k, by simp, q, last⟩, split _ (fun j hj z => absurd z (no j hj)) (fun _ => by rw [last]; exact Nat.le_refl _), ⟨k, by simp, q, by rw [last]⟩, split _ (fun j hj z => absurd z (no j hj)) fun _ => by rw [last]; exact Nat.le_refl _⟩
      | some x =>
        rw [e] at ih
        simp only [Option.map_some, Option.getD_some]
        obtain ⟨⟨i, hi, qi, ei⟩, lo, _, hi2⟩ := ih
        refine ⟨⟨i, List.mem_append_left _ hi, qi, by rw [bg_old _ hi, ei]⟩, split _ (fun j hj z => by rw [bg_old _ hj]; exact lo j hj z) (fun _ => ?_), ⟨k, by simp, q, by rw [last]⟩, split _ (fun j hj z => ?_) fun _ => by rw [last]; exact Nat.le_refl _⟩
        · rw [last, ← ei]
          have := bg_le h.pieces hi
          omega
        · rw [bg_old _ hj]
          have := bg_le h.pieces hj
          omega
    · rw [if_neg q]
      cases e : (h.day c).stays o' a with
      | none =>
        rw [e] at ih
        exact split _ ih (by simpa using q)
      | some x =>
        rw [e] at ih
        obtain ⟨⟨i, hi, qi, ei⟩, lo, ⟨i2, hi2, qi2, ei2⟩, hi3⟩ := ih
        exact ⟨⟨i, List.mem_append_left _ hi, qi, by rw [bg_old _ hi, ei]⟩, split _ (fun j hj z => by rw [bg_old _ hj]; exact lo j hj z) (fun z => absurd z q), ⟨i2, List.mem_append_left _ hi2, qi2, by rw [bg_old _ hi2, ei2]⟩, split _ (fun j hj z => by rw [bg_old _ hj]; exact hi3 j hj z) fun z => absurd z q⟩
theorem work_filter (h : Uw07.House) (c : Uw02.Cast) {a : Nat} (ha : a < h.hours.length) : ∀ (n : Nat) (o : List Nat), o.length = n → workO (h.day c) o a = ((o.filter (inP c h.pieces a)).map (longP h.pieces)).sum
  | 0, o, hn => by
    have : o = [] := List.length_eq_zero_iff.mp hn
    subst this
    rfl
  | n + 1, o, hn => by
    obtain ⟨o', k, rfl⟩ : ∃ o' k, o = o' ++ [k] := by
      have ne : o ≠ [] := fun z => by rw [z] at hn; cases hn
      exact ⟨o.dropLast, o.getLast ne, (List.dropLast_concat_getLast ne).symm⟩
    have hl : o'.length = n := by simpa using hn
    rw [workO_snoc, work_filter h c ha n o' hl, List.filter_append, List.map_append, List.sum_append, day_in h c ha, day_long']
    congr 1
    simp only [List.filter_cons, List.filter_nil]
    by_cases q : inP c h.pieces a k = true
    · rw [if_pos q, if_pos q]; simp
    · rw [if_neg q, if_neg q]; rfl
theorem stayN_eq (h : Uw07.House) (c : Uw02.Cast) {a : Nat} (ha : a < h.hours.length) {o : List Nat} (io : IsO h.pieces.length o) : stayN h.pieces (begunL h.pieces o) (ownL c h.pieces a) = stayS (h.day c) o a := by
  have ch := stays_char h c ha _ o rfl io.1
  have mem : ∀ k, k ∈ ownL c h.pieces a ↔ k ∈ o ∧ inP c h.pieces a k = true := fun k => by
    unfold ownL
    rw [List.mem_filter, List.mem_range]
    exact ⟨fun z => ⟨io.2.2 k z.1, z.2⟩, fun z => ⟨io.2.1 k z.1, z.2⟩⟩
  have at' : ∀ k ∈ o, (begunL h.pieces o).getD k 0 = bg h.pieces o k := fun k hk => by
    rw [List.getD_eq_getElem?_getD, begunL_at _ hk (io.2.1 k hk)]; rfl
  have wk : ((ownL c h.pieces a).map (longP h.pieces)).sum = workO (h.day c) o a := by
    rw [work_filter h c ha _ o rfl]
    exact ((io.perm.symm.filter _).map _).sum_nat
  have le := stay_le (h.day c) o a
  have we := waits_eq (h.day c) o a
  unfold stayN stayS
  cases e : (h.day c).stays o a with
  | none =>
    rw [e] at ch
    have : ownL c h.pieces a = [] := by
      rw [List.eq_nil_iff_forall_not_mem]
      intro k hk
      have := (mem k).mp hk
      rw [ch k this.1] at this
      cases this.2
    rw [if_pos this]
  | some x =>
    rw [e] at ch le we
    obtain ⟨⟨i, hi, qi, ei⟩, lo, ⟨j, hj, qj, ej⟩, up⟩ := ch
    have ne : ownL c h.pieces a ≠ [] := fun z => by
      have := (mem i).mpr ⟨hi, qi⟩
      rw [z] at this
      cases this
    rw [if_neg ne]
    have m1 : mn ((ownL c h.pieces a).map fun k => (begunL h.pieces o).getD k 0) = x.1 := by
      refine mn_eq (List.mem_map.mpr ⟨i, (mem i).mpr ⟨hi, qi⟩, by rw [at' i hi, ei]⟩) fun b hb => ?_
      obtain ⟨k, hk, rfl⟩ := List.mem_map.mp hb
      obtain ⟨h1, h2⟩ := (mem k).mp hk
      rw [at' k h1]
      exact lo k h1 h2
    have m2 : mx ((ownL c h.pieces a).map fun k => (begunL h.pieces o).getD k 0 + longP h.pieces k) = x.2 := by
      refine mx_eq (List.mem_map.mpr ⟨j, (mem j).mpr ⟨hj, qj⟩, by rw [at' j hj, ej]⟩) fun b hb => ?_
      obtain ⟨k, hk, rfl⟩ := List.mem_map.mp hb
      obtain ⟨h1, h2⟩ := (mem k).mp hk
      rw [at' k h1]
      exact up k h1 h2
    rw [m1, m2, wk]
    have l2 : x.1 + workO (h.day c) o a ≤ x.2 := le.1
    have w2 : (h.day c).waits o a = x.2 - x.1 - workO (h.day c) o a := we
    rw [w2]
    have : ni x.2 - ni x.1 - ni (workO (h.day c) o a) = ni (x.2 - x.1 - workO (h.day c) o a) := by unfold ni; omega
    rw [this]
end RC
/-! ### What is wrong with an order, what it costs; the cheapest of all -/
namespace RC
def bp (o : List Nat) (prs : List (Nat × Nat)) : Option Nat := prs.findIdx? fun x => decide (o.idxOf x.2 < o.idxOf x.1)
def wrongS (z : List Int) (y : Nat × Nat × Nat) : Nat := match z with
  | u :: v :: _ => if u < ni y.2.1 then 2 else if ni y.2.2 < v then 3 else 0
  | _ => 0
def costS (z : List Int) (y : Nat × Nat × Nat) : Int := match z with
  | u :: v :: _ => ni y.1 * (v - u)
  | _ => 0
/-- a stay is empty, or tells when one comes and goes -/
def Stay (z : List Int) : Prop := z = [] ∨ ∃ u v r, z = u :: v :: r
theorem stay_N (pcs : Pcs) (bl own : List Nat) : Stay (stayN pcs bl own) := by
  unfold stayN
  by_cases h : own = []
  · rw [if_pos h]; exact .inl rfl
  · rw [if_neg h]; exact .inr ⟨_, _, _, rfl⟩
theorem stay_S (d : Uw03.Day) (o : List Nat) (a : Nat) : Stay (stayS d o a) := by
  unfold stayS
  cases d.stays o a with
  | none => exact .inl rfl
  | some x => exact .inr ⟨_, _, _, rfl⟩
def hrA (h : Uw07.House) (a : Nat) : Nat × Nat × Nat := (h.hours[a]?).getD (0, 0, 0)
def wsA (h : Uw07.House) (c o : List Nat) (a : Nat) : Nat := wrongS (stayS (h.day c) o a) (hrA h a)
def csA (h : Uw07.House) (c o : List Nat) (a : Nat) : Int := costS (stayS (h.day c) o a) (hrA h a)
def wrA (h : Uw07.House) (c o : List Nat) (a : Nat) : Option (Nat × Nat) := if wsA h c o a = 0 then none else some (wsA h c o a, a)
theorem zi_map {α β : Type} (l : List α) (g : α × Nat → β) (G : Nat → β) (h : ∀ i x, l[i]? = some x → g (x, i) = G i) : l.zipIdx.map g = (List.range l.length).map G := by
  apply List.ext_getElem?
  intro i
  rw [List.getElem?_map, List.getElem?_map, List.getElem?_zipIdx]
  cases e : l[i]? with
  | none =>
    have : l.length ≤ i := List.getElem?_eq_none_iff.mp e
    rw [List.getElem?_eq_none (by simpa using this)]
    rfl
  | some x =>
    have : i < l.length := (List.getElem?_eq_some_iff.mp e).1
    rw [List.getElem?_range this]
    simp only [Option.map_some, Nat.zero_add]
    rw [h i x e]
theorem find_map {α β : Type} (f : α → Option β) (l : List α) : l.findSome? f = (l.map f).findSome? id := by
  rw [List.findSome?_map]; rfl
theorem day_players (h : Uw07.House) (c : Uw02.Cast) : (h.day c).players = h.hours.map fun x => (⟨x.1, x.2.1, x.2.2⟩ : Uw03.Player) := rfl
theorem day_pl_at {h : Uw07.House} {c : Uw02.Cast} {i : Nat} {x : Uw03.Player} (e : (h.day c).players[i]? = some x) : x = ⟨(hrA h i).1, (hrA h i).2.1, (hrA h i).2.2⟩ := by
  rw [day_players, List.getElem?_map] at e
  unfold hrA
  cases q : h.hours[i]? with
  | none => rw [q] at e; cases e
  | some y => rw [q] at e; cases e; rfl
theorem wrong_eq (h : Uw07.House) (c o : List Nat) : (h.day c).wrong o = match bp o h.ahead with
    | some i => some (1, i)
    | none => (List.range h.hours.length).findSome? (wrA h c o) := by
  unfold Uw03.Day.wrong
  show (match bp o h.ahead with | some i => some (1, i) | none => _) = _
  cases bp o h.ahead with
  | some i => rfl
  | none =>
    simp only
    rw [find_map, find_map (wrA h c o), zi_map _ _ (wrA h c o), day_players, List.length_map]
    intro i x e
    have := day_pl_at e
    subst this
    cases q : (h.day c).stays o i with
    | none =>
      have e2 : wsA h c o i = 0 := by unfold wsA stayS; rw [q]; rfl
      unfold wrA
      rw [if_pos e2]
    | some y =>
      have e2 : wsA h c o i = if ni y.1 < ni (hrA h i).2.1 then 2 else if ni (hrA h i).2.2 < ni y.2 then 3 else 0 := by unfold wsA stayS; rw [q]; rfl
      unfold wrA
      rw [e2]
      simp only
      by_cases c1 : y.1 < (hrA h i).2.1
      · rw [if_pos c1, if_pos (show ni y.1 < ni (hrA h i).2.1 by unfold ni; omega)]; rfl
      · rw [if_neg c1, if_neg (show ¬ ni y.1 < ni (hrA h i).2.1 by unfold ni; omega)]
        by_cases c2 : (hrA h i).2.2 < y.2
        · rw [if_pos c2, if_pos (show ni (hrA h i).2.2 < ni y.2 by unfold ni; omega)]; rfl
        · rw [if_neg c2, if_neg (show ¬ ni (hrA h i).2.2 < ni y.2 by unfold ni; omega)]; rfl
theorem sum_ni (l : List Nat) : ni l.sum = (l.map ni).sum := by
  induction l with
  | nil => rfl
  | cons x l ih =>
    rw [List.sum_cons, List.map_cons, List.sum_cons, ← ih]
    unfold ni
    omega
theorem dcost_eq (h : Uw07.House) (c o : List Nat) : ni ((h.day c).cost o) = ((List.range h.hours.length).map (csA h c o)).sum := by
  unfold Uw03.Day.cost
  rw [total3_sum, sum_ni, List.map_map, zi_map _ _ (csA h c o), day_players, List.length_map]
  intro i x e
  have := day_pl_at e
  subst this
  simp only [Function.comp, csA, stayS]
  have le := stay_le (h.day c) o i
  cases q : (h.day c).stays o i with
  | none => rfl
  | some y =>
    rw [q] at le
    have l2 : y.1 + workO (h.day c) o i ≤ y.2 := le.1
    simp only [costS]
    have : ni y.2 - ni y.1 = ((y.2 - y.1 : Nat) : Int) := by unfold ni; omega
    rw [this]
    exact Int.natCast_mul _ _
/-- what all players up to k cost, or nothing if something is wrong with one -/
def totO (h : Uw07.House) (c o : List Nat) : Nat → Option Int
  | 0 => some 0
  | k + 1 => match totO h c o k with
    | none => none
    | some t => if wsA h c o k = 0 then some (t + csA h c o k) else none
theorem totO_eq (h : Uw07.House) (c o : List Nat) : ∀ k : Nat, totO h c o k = match (List.range k).findSome? (wrA h c o) with
    | some _ => none
    | none => some ((List.range k).map (csA h c o)).sum
  | 0 => rfl
  | k + 1 => by
    rw [totO, totO_eq h c o k, List.range_succ, List.findSome?_append, List.map_append, List.sum_append]
    cases e : (List.range k).findSome? (wrA h c o) with
    | some y => rfl
    | none =>
      simp only [Option.none_or, List.findSome?_cons, List.findSome?_nil]
      unfold wrA
      by_cases q : wsA h c o k = 0
      · rw [if_pos q, if_pos q]; simp
      · rw [if_neg q, if_neg q]
/-- what an order costs with a casting, if it's right -/
theorem tot_right (h : Uw07.House) (c o : List Nat) (hb : bp o h.ahead = none) : totO h c o h.hours.length = if (h.day c).right o = true then some (ni ((h.day c).cost o)) else none := by
  rw [totO_eq, dcost_eq]
  unfold Uw03.Day.right
  rw [wrong_eq, hb]
  simp only
  cases (List.range h.hours.length).findSome? (wrA h c o) with
  | none => rfl
  | some y => rfl
theorem right_bp {h : Uw07.House} {c o : List Nat} (r : (h.day c).right o = true) : bp o h.ahead = none := by
  unfold Uw03.Day.right at r
  rw [wrong_eq] at r
  cases e : bp o h.ahead with
  | none => rfl
  | some i => rw [e] at r; cases r
/-! the cheapest: how much, how many, the first -/
def bet {α : Type} (a b : Option (Nat × Nat × α)) : Option (Nat × Nat × α) := match a, b with
  | none, b => b
  | a, none => a
  | some x, some y => if y.1 < x.1 then some y else if x.1 < y.1 then some x else some (x.1, x.2.1 + y.2.1, x.2.2)
def manyOf {α : Type} (l : List (Nat × Nat × α)) : Nat := (l.map fun x => x.2.1).sum
theorem bet_fold {α : Type} : ∀ (n : Nat) (l : List (Nat × Nat × α)), l.length = n → l ≠ [] → ∃ m x r, l.filter (fun y => decide (y.1 = m)) = x :: r ∧ (∀ y ∈ l, m ≤ y.1) ∧ x.1 = m ∧ (l.map some).foldl bet none = some (m, manyOf (x :: r), x.2.2)
  | 0, l, hn, ne => absurd (List.length_eq_zero_iff.mp hn) ne
  | n + 1, l, hn, ne => by
    obtain ⟨l', y, rfl⟩ : ∃ l' y, l = l' ++ [y] := ⟨l.dropLast, l.getLast ne, (List.dropLast_concat_getLast ne).symm⟩
    have hl : l'.length = n := by simpa using hn
    rw [List.map_append, List.foldl_append]
    by_cases e : l' = []
    · subst e
      refine ⟨y.1, y, [], by simp, by simp, rfl, ?_⟩
      show some y = _
      simp [manyOf]
    · obtain ⟨m, x, r, h1, h2, h3, h4⟩ := bet_fold n l' hl e
      rw [h4]
      simp only [List.map_cons, List.map_nil, List.foldl_cons, List.foldl_nil, bet]
      by_cases c1 : y.1 < m
      · refine ⟨y.1, y, [], ?_, ?_, rfl, ?_⟩
        · have : l'.filter (fun z => decide (z.1 = y.1)) = [] := by
            rw [List.filter_eq_nil_iff]
            intro z hz
            have := h2 z hz
            simp
            omega
          rw [List.filter_append, this]
          simp
        · intro z hz
          rcases List.mem_append.mp hz with hz | hz
          · have := h2 z hz; omega
          · rw [List.mem_singleton.mp hz]; exact Nat.le_refl _
        · rw [if_pos c1]; simp [manyOf]
      · rw [if_neg c1]
        by_cases c2 : m < y.1
        · refine ⟨m, x, r, ?_, ?_, h3, by rw [if_pos c2]⟩
          · rw [List.filter_append, h1]
            have : ¬ y.1 = m := by omega
            simp [this]
          · intro z hz
            rcases List.mem_append.mp hz with hz | hz
            · exact h2 z hz
            · rw [List.mem_singleton.mp hz]; omega
        · have e2 : y.1 = m := by omega
          refine ⟨m, x, r ++ [y], ?_, ?_, h3, ?_⟩
          · rw [List.filter_append, h1]
            simp [e2]
          · intro z hz
            rcases List.mem_append.mp hz with hz | hz
            · exact h2 z hz
            · rw [List.mem_singleton.mp hz]; omega
          · rw [if_neg c2]
            simp only [manyOf, List.map_cons, List.map_append, List.sum_cons, List.sum_append, List.map_nil, List.sum_nil]
            simp
            omega
/-- the same by the least cost itself -/
theorem bet_at {α : Type} {l : List (Nat × Nat × α)} {m : Nat} (h1 : ∃ x ∈ l, x.1 = m) (h2 : ∀ y ∈ l, m ≤ y.1) : ∃ x r, l.filter (fun y => decide (y.1 = m)) = x :: r ∧ (l.map some).foldl bet none = some (m, manyOf (x :: r), x.2.2) := by
  obtain ⟨x, hx, ex⟩ := h1
  have ne : l ≠ [] := fun z => by rw [z] at hx; cases hx
  obtain ⟨m', x', r, e1, e2, e3, e4⟩ := bet_fold _ l rfl ne
  have mem : x' ∈ l := (List.mem_filter.mp (by rw [e1]; exact List.mem_cons_self : x' ∈ l.filter fun y => decide (y.1 = m'))).1
  have : m' = m := by
    have a := e2 x hx
    have b := h2 x' mem
    omega
  subst this
  exact ⟨x', r, e1, e4⟩
def of3 (x : Nat × Nat × List Nat) : Uw03.Best := ⟨x.1, x.2.1, x.2.2⟩
def of2 (x : Nat × Nat × List Nat) : Uw02.Best := ⟨x.1, x.2.1, x.2.2⟩
def of7 (x : Nat × Nat × List Nat × List Nat) : Uw07.Best := ⟨x.1, x.2.1, x.2.2.1, x.2.2.2⟩
theorem bet3 (a b : Option (Nat × Nat × List Nat)) : (bet a b).map of3 = Uw03.better (a.map of3) (b.map of3) := by
  cases a with
  | none => cases b <;> rfl
  | some x =>
    cases b with
    | none => rfl
    | some y =>
      simp only [bet, Option.map_some, Uw03.better, of3]
      split
      · rfl
      · split <;> rfl
theorem bet2 (a b : Option (Nat × Nat × List Nat)) : (bet a b).map of2 = Uw02.better (a.map of2) (b.map of2) := by
  cases a with
  | none => cases b <;> rfl
  | some x =>
    cases b with
    | none => rfl
    | some y =>
      simp only [bet, Option.map_some, Uw02.better, of2]
      split
      · rfl
      · split <;> rfl
theorem bet7 (a b : Option (Nat × Nat × List Nat × List Nat)) : (bet a b).map of7 = Uw07.better (a.map of7) (b.map of7) := by
  cases a with
  | none => cases b <;> rfl
  | some x =>
    cases b with
    | none => rfl
    | some y =>
      simp only [bet, Option.map_some, Uw07.better, of7]
      split
      · rfl
      · split <;> rfl
theorem fold3 (l : List (Option (Nat × Nat × List Nat))) (a : Option (Nat × Nat × List Nat)) : (l.foldl bet a).map of3 = (l.map (Option.map of3)).foldl Uw03.better (a.map of3) := by
  induction l generalizing a with
  | nil => rfl
  | cons x l ih => rw [List.foldl_cons, ih, List.map_cons, List.foldl_cons, bet3]
theorem fold2 (l : List (Option (Nat × Nat × List Nat))) (a : Option (Nat × Nat × List Nat)) : (l.foldl bet a).map of2 = (l.map (Option.map of2)).foldl Uw02.better (a.map of2) := by
  induction l generalizing a with
  | nil => rfl
  | cons x l ih => rw [List.foldl_cons, ih, List.map_cons, List.foldl_cons, bet2]
theorem fold7 (l : List (Option (Nat × Nat × List Nat × List Nat))) (a : Option (Nat × Nat × List Nat × List Nat)) : (l.foldl bet a).map of7 = (l.map (Option.map of7)).foldl Uw07.better (a.map of7) := by
  induction l generalizing a with
  | nil => rfl
  | cons x l ih => rw [List.foldl_cons, ih, List.map_cons, List.foldl_cons, bet7]
/-- nothing among them is nothing -/
theorem bet_skip {α : Type} (l : List (Option (Nat × Nat × α))) (a : Option (Nat × Nat × α)) : l.foldl bet a = ((l.filterMap id).map some).foldl bet a := by
  induction l generalizing a with
  | nil => rfl
  | cons x l ih =>
    cases x with
    | none =>
      rw [List.foldl_cons, List.filterMap_cons]
      have : bet a none = a := by cases a <;> rfl
      rw [this]
      exact ih a
    | some y =>
      rw [List.foldl_cons, List.filterMap_cons]
      exact ih _
/-- the orders that keep the pairs -/
def ordK (h : Uw07.House) : List (List Nat) := (ordS h.pieces.length h.pieces.length).filter fun o => (bp o h.ahead).isNone
theorem day_pieces (h : Uw07.House) (c : Uw02.Cast) : (h.day c).pieces.length = h.pieces.length := List.length_map _
theorem all_ordK (h : Uw07.House) (c : Uw02.Cast) : (h.day c).all = (ordK h).filter (h.day c).right := by
  unfold Uw03.Day.all ordK
  rw [day_pieces, ← ordS_eq, List.filter_filter]
  apply List.filter_congr
  intro o _
  cases e : (h.day c).right o with
  | false => rfl
  | true => rw [right_bp e]; rfl
/-- each order's cost with a casting -/
def tots (h : Uw07.House) (c : List Nat) : List (Option Int) := (ordK h).map fun o => totO h c o h.hours.length
theorem tots_eq (h : Uw07.House) (c : List Nat) : tots h c = (ordK h).map fun o => if (h.day c).right o = true then some (ni ((h.day c).cost o)) else none := by
  unfold tots
  apply List.map_congr_left
  intro o ho
  have := (List.mem_filter.mp ho).2
  apply tot_right
  cases e : bp o h.ahead with
  | none => rfl
  | some i => rw [e] at this; cases this
theorem tots_fm (h : Uw07.House) (c : List Nat) : (tots h c).filterMap id = (h.day c).all.map fun o => ni ((h.day c).cost o) := by
  rw [tots_eq, all_ordK]
  induction ordK h with
  | nil => rfl
  | cons o l ih =>
    rw [List.map_cons, List.filterMap_cons, List.filter_cons]
    by_cases q : (h.day c).right o = true
    · simp only [q, if_true, id, List.map_cons]
      rw [ih]
    · simp only [q, if_false, id, Bool.false_eq_true]
      exact ih
theorem best_none {h : Uw07.House} {c : List Nat} (e : (h.day c).all = []) : (h.day c).best = none := by
  unfold Uw03.Day.best
  rw [e]; rfl
/-- the cheapest order: least m, the first at j among those that keep the pairs -/
theorem best_some {h : Uw07.House} {c : List Nat} {m : Nat} {j : Nat} (h1 : ni m ∈ (tots h c).filterMap id) (h2 : ∀ y ∈ (tots h c).filterMap id, ni m ≤ y) (h3 : (tots h c)[j]? = some (some (ni m))) (h4 : ∀ i, i < j → (tots h c)[i]? ≠ some (some (ni m))) :
    ∃ o, (ordK h)[j]? = some o ∧ (h.day c).best = some ⟨m, ((tots h c).filterMap id).count (ni m), o⟩ := by
  have e3 := h3
  rw [tots_eq, List.getElem?_map] at e3
  cases q : (ordK h)[j]? with
  | none => rw [q] at e3; cases e3
  | some o =>
    rw [q] at e3
    refine ⟨o, rfl, ?_⟩
    have cr : (h.day c).right o = true ∧ (h.day c).cost o = m := by
      by_cases z : (h.day c).right o = true
      · simp only [Option.map_some, z, if_true, Option.some.injEq] at e3
        exact ⟨z, by unfold ni at e3; omega⟩
      · simp only [Option.map_some, z, Bool.false_eq_true, if_false, Option.some.injEq] at e3
        cases e3
    rw [tots_fm] at h1 h2 ⊢
    have b1 : ∃ x ∈ (h.day c).all.map (fun o => ((h.day c).cost o, 1, o)), x.1 = m := by
      obtain ⟨o', ho', e⟩ := List.mem_map.mp h1
      exact ⟨_, List.mem_map.mpr ⟨o', ho', rfl⟩, by show (h.day c).cost o' = m; unfold ni at e; omega⟩
    have b2 : ∀ y ∈ (h.day c).all.map (fun o => ((h.day c).cost o, 1, o)), m ≤ y.1 := by
      intro y hy
      obtain ⟨o', ho', rfl⟩ := List.mem_map.mp hy
      have := h2 (ni ((h.day c).cost o')) (List.mem_map.mpr ⟨o', ho', rfl⟩)
      unfold ni at this
      show m ≤ (h.day c).cost o'
      omega
    obtain ⟨x, r, e1, e2⟩ := bet_at b1 b2
    have e5 : (h.day c).best = (((h.day c).all.map (fun o => ((h.day c).cost o, 1, o))).map some |>.foldl bet none).map of3 := by
      rw [fold3]
      unfold Uw03.Day.best
      rw [List.map_map, List.map_map]
      rfl
    rw [e5, e2]
    -- the first, the number
    have f1 : ((h.day c).all.map (fun o => ((h.day c).cost o, 1, o))).filter (fun y => decide (y.1 = m)) = ((h.day c).all.filter fun o => decide ((h.day c).cost o = m)).map fun o => ((h.day c).cost o, 1, o) := by
      rw [List.filter_map]; rfl
    rw [f1] at e1
    have f2 : ((h.day c).all.filter fun o => decide ((h.day c).cost o = m)).head? = some o := by
      rw [List.head?_filter]
      rw [all_ordK, List.find?_filter, List.find?_eq_some_iff_getElem]
      obtain ⟨l1, l2⟩ := List.getElem?_eq_some_iff.mp q
      refine ⟨by simp [cr.1, cr.2], j, l1, l2, fun i hi => ?_⟩
      have n4 := h4 i hi
      rw [tots_eq, List.getElem?_map, List.getElem?_eq_getElem (by omega)] at n4
      simp only [Option.map_some, ne_eq, Option.some.injEq] at n4
      by_cases z : (h.day c).right ((ordK h)[i]) = true
      · simp only [z, if_true, Option.some.injEq] at n4
        have : ¬ (h.day c).cost ((ordK h)[i]) = m := fun y => n4 (by rw [y])
        simp [this]
      · simp [z]
    have f3 : ((h.day c).all.map fun o => ni ((h.day c).cost o)).count (ni m) = ((h.day c).all.filter fun o => decide ((h.day c).cost o = m)).length := by
      rw [List.count_eq_countP, List.countP_map, List.countP_eq_length_filter]
      congr 1
      apply List.filter_congr
      intro o' _
      show (ni _ == ni m) = _
      by_cases z : (h.day c).cost o' = m
      · rw [z]; simp
      · have : ¬ ni ((h.day c).cost o') = ni m := fun y => z (by unfold ni at y; omega)
        rw [beq_eq_false_iff_ne.mpr this, decide_eq_false z]
    cases e6 : (h.day c).all.filter fun o => decide ((h.day c).cost o = m) with
    | nil => rw [e6] at f2; cases f2
    | cons o' r' =>
      rw [e6] at f2 e1 f3
      cases f2
      cases e1
      rw [f3]
      show some (of3 (m, manyOf (((h.day c).cost o, 1, o) :: r'.map fun o => ((h.day c).cost o, 1, o)), o)) = _
      have : manyOf (((h.day c).cost o, 1, o) :: r'.map fun o => ((h.day c).cost o, 1, o)) = (o :: r').length := by
        simp only [manyOf, List.map_cons, List.map_map, List.sum_cons, List.length_cons]
        have : (r'.map ((fun x : Nat × Nat × List Nat => x.2.1) ∘ fun o => ((h.day c).cost o, 1, o))) = r'.map fun _ => 1 := rfl
        rw [this, List.map_const', List.sum_replicate_nat]
        omega
      rw [this]
      rfl
end RC
/-! ### Plans: castings with orders -/
namespace RC
theorem perm_of {l : List Nat} : ∀ {m : List Nat}, l.Nodup → (∀ x ∈ l, x ∈ m) → m.length ≤ l.length → m.Perm l := by
  induction l with
  | nil =>
    intro m _ _ hl
    have : m = [] := List.length_eq_zero_iff.mp (Nat.le_zero.mp hl)
    rw [this]
  | cons a l ih =>
    intro m nd sub hl
    have nd2 := List.nodup_cons.mp nd
    have ma : a ∈ m := sub a List.mem_cons_self
    have p1 : m.Perm (a :: m.erase a) := List.perm_cons_erase ma
    refine p1.trans (List.Perm.cons a (ih nd2.2 (fun x hx => ?_) ?_))
    · have ne : x ≠ a := fun z => nd2.1 (z ▸ hx)
      exact (List.mem_erase_of_ne ne).mpr (sub x (List.mem_cons_of_mem _ hx))
    · rw [List.length_erase_of_mem ma]
      simp at hl
      omega
theorem sorted_eq : ∀ {l m : List Int}, l.Perm m → l.Pairwise (· ≤ ·) → m.Pairwise (· ≤ ·) → l = m
  | [], m, p, _, _ => (List.Perm.nil_eq p)
  | a :: l, [], p, _, _ => (List.Perm.eq_nil p)
  | a :: l, b :: m, p, h1, h2 => by
    have e : a = b := by
      have ha : a ∈ b :: m := p.mem_iff.mp List.mem_cons_self
      have hb : b ∈ a :: l := p.mem_iff.mpr List.mem_cons_self
      rcases List.mem_cons.mp ha with e | ha
      · exact e
      rcases List.mem_cons.mp hb with e | hb
      · exact e.symm
      have := (List.pairwise_cons.mp h1).1 b hb
      have := (List.pairwise_cons.mp h2).1 a ha
      omega
    subst e
    rw [sorted_eq (List.Perm.cons_inv p) (List.pairwise_cons.mp h1).2 (List.pairwise_cons.mp h2).2]
theorem range_sorted (n : Nat) : (nis (List.range n)).Pairwise (· ≤ ·) := by
  rw [List.pairwise_map]
  refine List.Pairwise.imp ?_ (List.pairwise_lt_range (n := n))
  intro a b h
  unfold ni
  omega
theorem nis_perm {l m : List Nat} (p : (nis l).Perm (nis m)) : l.Perm m := by
  have := p.map Int.toNat
  rwa [toNats, toNats] at this
theorem orderOk_iff (h : Uw07.House) (o : List Nat) : Uw07.orderOk h o = true ↔ o.Perm (List.range h.pieces.length) := by
  unfold Uw07.orderOk
  rw [Bool.and_eq_true, beq_iff_eq, List.all_eq_true]
  constructor
  · rintro ⟨h1, h2⟩
    refine perm_of List.nodup_range (fun x hx => ?_) (by rw [List.length_range, h1]; exact Nat.le_refl _)
    have := h2 x hx
    rwa [List.contains_iff_mem] at this
  · intro p
    refine ⟨by rw [p.length_eq, List.length_range], fun x hx => ?_⟩
    rw [List.contains_iff_mem]
    exact p.mem_iff.mpr hx
theorem orderOk_isO {h : Uw07.House} {o : List Nat} (q : Uw07.orderOk h o = true) : IsO h.pieces.length o := by
  have p := (orderOk_iff h o).mp q
  exact ⟨p.nodup_iff.mpr List.nodup_range, fun x hx => List.mem_range.mp (p.mem_iff.mp hx), fun x hx => p.mem_iff.mpr (List.mem_range.mpr hx)⟩
theorem order_dec {h : Uw07.House} {o : List Nat} {l : List Int} (pm : l.Perm (nis o)) (so : l.Pairwise (· ≤ ·)) : decide (l = nis (List.range h.pieces.length)) = Uw07.orderOk h o := by
  rw [Bool.eq_iff_iff, decide_eq_true_iff, orderOk_iff]
  constructor
  · intro e
    rw [e] at pm
    exact (nis_perm pm).symm
  · intro p
    exact sorted_eq (pm.trans (p.map ni)) so (range_sorted _)
/-! the cheapest casting with the cheapest order -/
def plansB (h : Uw07.House) : List (List Nat × Uw03.Best) := h.play.casts.filterMap fun c => (h.day c).best.map fun b => (c, b)
def trip (h : Uw07.House) (x : List Nat × Uw03.Best) : Nat × Nat × List Nat × List Nat := (h.play.cost x.1 + x.2.cost, x.2.many, x.1, x.2.order)
theorem hbest_eq (h : Uw07.House) : h.best = ((((plansB h).map (trip h)).map some).foldl bet none).map of7 := by
  have e : (plansB h).map (trip h) = (h.play.casts.map fun c => (h.day c).best.map fun b => trip h (c, b)).filterMap id := by
    unfold plansB
    rw [List.map_filterMap, List.filterMap_map]
    congr 1
    funext c
    show Option.map (trip h) ((h.day c).best.map fun b => (c, b)) = ((h.day c).best.map fun b => trip h (c, b))
    rw [Option.map_map]
    rfl
  rw [e, ← bet_skip, fold7, List.map_map]
  unfold Uw07.House.best
  congr 1
  apply List.map_congr_left
  intro c _
  show _ = Option.map of7 ((h.day c).best.map fun b => trip h (c, b))
  rw [Option.map_map]
  rfl
theorem hbest_none {h : Uw07.House} (e : plansB h = []) : h.best = none := by rw [hbest_eq, e]; rfl
theorem hbest_some {h : Uw07.House} {m : Nat} (h1 : ∃ x ∈ plansB h, (trip h x).1 = m) (h2 : ∀ x ∈ plansB h, m ≤ (trip h x).1) :
    ∃ x r, (plansB h).filter (fun x => decide ((trip h x).1 = m)) = x :: r ∧ h.best = some ⟨m, ((x :: r).map fun y => y.2.many).sum, x.1, x.2.order⟩ := by
  have b1 : ∃ x ∈ (plansB h).map (trip h), x.1 = m := by
    obtain ⟨x, hx, e⟩ := h1
    exact ⟨_, List.mem_map.mpr ⟨x, hx, rfl⟩, e⟩
  have b2 : ∀ y ∈ (plansB h).map (trip h), m ≤ y.1 := by
    intro y hy
    obtain ⟨x, hx, rfl⟩ := List.mem_map.mp hy
    exact h2 x hx
  obtain ⟨y, r, e1, e2⟩ := bet_at b1 b2
  rw [List.filter_map] at e1
  have f1 : ((plansB h).filter (fun x => decide ((trip h x).1 = m))).map (trip h) = y :: r := e1
  cases e3 : (plansB h).filter (fun x => decide ((trip h x).1 = m)) with
  | nil => rw [e3] at f1; cases f1
  | cons x r' =>
    rw [e3] at f1
    cases f1
    refine ⟨x, r', rfl, ?_⟩
    rw [hbest_eq, e2]
    show some (of7 (m, manyOf (trip h x :: r'.map (trip h)), x.1, x.2.order)) = _
    have : manyOf (trip h x :: r'.map (trip h)) = ((x :: r').map fun y => y.2.many).sum := by
      unfold manyOf
      rw [← List.map_cons, List.map_map]
      rfl
    rw [this]
    rfl
theorem cheap_none {h : Uw07.House} (e : h.play.casts = []) : h.play.cheapest = none := by
  unfold Uw02.Play.cheapest Uw02.Play.least
  rw [e]; rfl
theorem cheap_some {h : Uw07.House} {m j : Nat} {c : List Nat} (h1 : m ∈ h.play.casts.map h.play.cost) (h2 : ∀ y ∈ h.play.casts.map h.play.cost, m ≤ y) (hj : h.play.casts[j]? = some c) (e : h.play.cost c = m)
    (first : ∀ i, i < j → (h.play.casts.map h.play.cost)[i]? ≠ some m) : ∃ k, h.play.cheapest = some ⟨m, k, c⟩ := by
  have b1 : ∃ x ∈ h.play.casts.map (fun c => (h.play.cost c, 1, c)), x.1 = m := by
    obtain ⟨c', hc', e⟩ := List.mem_map.mp h1
    exact ⟨_, List.mem_map.mpr ⟨c', hc', rfl⟩, e⟩
  have b2 : ∀ y ∈ h.play.casts.map (fun c => (h.play.cost c, 1, c)), m ≤ y.1 := by
    intro y hy
    obtain ⟨c', hc', rfl⟩ := List.mem_map.mp hy
    exact h2 _ (List.mem_map.mpr ⟨c', hc', rfl⟩)
  obtain ⟨x, r, e1, e2⟩ := bet_at b1 b2
  have e5 : h.play.cheapest = ((h.play.casts.map (fun c => (h.play.cost c, 1, c))).map some |>.foldl bet none).map of2 := by
    rw [fold2]
    unfold Uw02.Play.cheapest Uw02.Play.least
    rw [List.map_map, List.map_map]
    rfl
  have f2 : ((h.play.casts.map (fun c => (h.play.cost c, 1, c))).filter (fun y => decide (y.1 = m))).head? = some (h.play.cost c, 1, c) := by
    rw [List.filter_map, List.head?_map, List.head?_filter]
    have : h.play.casts.find? ((fun y : Nat × Nat × List Nat => decide (y.1 = m)) ∘ fun c => (h.play.cost c, 1, c)) = some c := by
      rw [List.find?_eq_some_iff_getElem]
      obtain ⟨l1, l2⟩ := List.getElem?_eq_some_iff.mp hj
      refine ⟨by simp [e], j, l1, l2, fun i hi => ?_⟩
      have n := first i hi
      rw [List.getElem?_map, List.getElem?_eq_getElem (by omega)] at n
      simp only [Option.map_some, ne_eq, Option.some.injEq] at n
      simp [n]
    rw [this]; rfl
  rw [e1] at f2
  have ex : x = (h.play.cost c, 1, c) := Option.some.inj f2
  rw [e5, e2, ex]
  exact ⟨_, rfl⟩
/-- the cheapest order is one of the right ones -/
theorem best_mem {h : Uw07.House} {c : List Nat} {b : Uw03.Best} (e : (h.day c).best = some b) : b.order ∈ (h.day c).all := by
  have e5 : (h.day c).best = (((h.day c).all.map (fun o => ((h.day c).cost o, 1, o))).map some |>.foldl bet none).map of3 := by
    rw [fold3]
    unfold Uw03.Day.best
    rw [List.map_map, List.map_map]
    rfl
  by_cases q : (h.day c).all = []
  · rw [best_none q] at e; cases e
  · obtain ⟨m, x, r, e1, _, _, e4⟩ := bet_fold _ ((h.day c).all.map (fun o => ((h.day c).cost o, 1, o))) rfl (by simpa using q)
    rw [e5, e4] at e
    have e6 : b.order = x.2.2 := by cases e; rfl
    have mem : x ∈ (h.day c).all.map (fun o => ((h.day c).cost o, 1, o)) := (List.mem_filter.mp (by rw [e1]; exact List.mem_cons_self : x ∈ ((h.day c).all.map (fun o => ((h.day c).cost o, 1, o))).filter fun y => decide (y.1 = m))).1
    obtain ⟨o, ho, rfl⟩ := List.mem_map.mp mem
    rw [e6]
    exact ho
theorem best_len {h : Uw07.House} {c : List Nat} {b : Uw03.Best} (e : (h.day c).best = some b) : b.order.length = h.pieces.length := by
  have m := best_mem e
  rw [all_ordK] at m
  have m2 := (List.mem_filter.mp (List.mem_filter.mp m).1).1
  exact (ordS_ok _ _ _ m2).1
theorem plansB_len (h : Uw07.House) : (plansB h).length ≤ h.play.casts.length := List.length_filterMap_le _ _
theorem plansB_mem {h : Uw07.House} {x : List Nat × Uw03.Best} (hx : x ∈ plansB h) : x.1 ∈ h.play.casts ∧ (h.day x.1).best = some x.2 := by
  obtain ⟨c, hc, e⟩ := List.mem_filterMap.mp hx
  obtain ⟨b, hb, rfl⟩ := Option.map_eq_some_iff.mp e
  exact ⟨hc, hb⟩
theorem due_best_none {h : Uw07.House} (e : h.best = none) : Uw07Neutral.out (Uw07.step h .best).2 = [-6] := by
  simp only [Uw07.step, e]; rfl
theorem due_best {h : Uw07.House} {b : Uw07.Best} (e : h.best = some b) : Uw07Neutral.out (Uw07.step h .best).2 = ni b.cost :: ([2, ni b.many, ni (h.play.cost b.cast)] ++ (ni b.cast.length :: nis b.cast) ++ (ni b.order.length :: nis b.order)) := by
  simp only [Uw07.step, e]
  simp [Uw07Neutral.out, ni, nis]
theorem due_apart_none {h : Uw07.House} (e : h.play.cheapest = none) : Uw07Neutral.out (Uw07.step h .apart).2 = [-6] := by
  simp only [Uw07.step, e]; rfl
theorem due_apart_no {h : Uw07.House} {b : Uw02.Best} (e : h.play.cheapest = some b) (e2 : (h.day b.cast).best = none) : Uw07Neutral.out (Uw07.step h .apart).2 = [-3] := by
  simp only [Uw07.step, e, Uw07.House.plan, e2]; rfl
theorem due_apart {h : Uw07.House} {b : Uw02.Best} {x : Uw03.Best} (e : h.play.cheapest = some b) (e2 : (h.day b.cast).best = some x) : Uw07Neutral.out (Uw07.step h .apart).2 = ni (h.play.cost b.cast + x.cost) :: ((ni b.cast.length :: nis b.cast) ++ (ni x.order.length :: nis x.order)) := by
  simp only [Uw07.step, e, Uw07.House.plan, e2, Option.map_some]
  simp [Uw07Neutral.out, ni, nis]
theorem due_order_bad {h : Uw07.House} {c : List Nat} (e : Uw07.castOk h c = false) : Uw07Neutral.out (Uw07.step h (.order c)).2 = [-1] := by
  simp only [Uw07.step]
  rw [if_pos e]; rfl
theorem due_order_none {h : Uw07.House} {c : List Nat} (e : Uw07.castOk h c = true) (e2 : (h.day c).best = none) : Uw07Neutral.out (Uw07.step h (.order c)).2 = [-6] := by
  simp only [Uw07.step]
  rw [if_neg (by rw [e]; simp)]
  simp only [e2]; rfl
theorem due_order {h : Uw07.House} {c : List Nat} {b : Uw03.Best} (e : Uw07.castOk h c = true) (e2 : (h.day c).best = some b) : Uw07Neutral.out (Uw07.step h (.order c)).2 = ni b.cost :: ([1, ni b.many] ++ (ni b.order.length :: nis b.order)) := by
  simp only [Uw07.step]
  rw [if_neg (by rw [e]; simp)]
  simp only [e2]
  simp [Uw07Neutral.out, ni, nis]
theorem due_check_bad {h : Uw07.House} {c o : List Nat} (e : Uw07.castOk h c = false ∨ Uw07.orderOk h o = false) : Uw07Neutral.out (Uw07.step h (.check c o)).2 = [-1] := by
  simp only [Uw07.step]
  rw [if_pos e]; rfl
theorem due_check_c {h : Uw07.House} {c o : List Nat} {x : Nat × Nat × Nat} (e1 : Uw07.castOk h c = true) (e2 : Uw07.orderOk h o = true) (e3 : h.play.wrong c = some x) : Uw07Neutral.out (Uw07.step h (.check c o)).2 = [0, 4, 1, ni x.1, ni x.2.1, ni x.2.2] := by
  simp only [Uw07.step]
  rw [if_neg (by rw [e1, e2]; simp)]
  simp only [e3]
  rfl
theorem due_check_o {h : Uw07.House} {c o : List Nat} {x : Nat × Nat} (e1 : Uw07.castOk h c = true) (e2 : Uw07.orderOk h o = true) (e3 : h.play.wrong c = none) (e4 : (h.day c).wrong o = some x) : Uw07Neutral.out (Uw07.step h (.check c o)).2 = [0, 3, 2, ni x.1, ni x.2] := by
  simp only [Uw07.step]
  rw [if_neg (by rw [e1, e2]; simp)]
  simp only [e3, e4]
  rfl
def rowsZ (l : List (List Int)) : List Int := l.flatMap fun z => ni z.length :: z
theorem tell_eq (d : Uw03.Day) (o : List Nat) (n : Nat) : (((List.range n).map fun a => match d.stays o a with | some x => [x.1, x.2, d.waits o a] | none => []).flatMap fun w : List Nat => (w.length : Int) :: w.map fun (x : Nat) => (x : Int)) = rowsZ ((List.range n).map (stayS d o)) := by
  unfold rowsZ
  rw [List.flatMap_map, List.flatMap_map]
  apply flat_congr
  intro a _
  simp only [stayS]
  cases d.stays o a with
  | none => rfl
  | some x => rfl
theorem due_check {h : Uw07.House} {c o : List Nat} (e1 : Uw07.castOk h c = true) (e2 : Uw07.orderOk h o = true) (e3 : h.play.wrong c = none) (e4 : (h.day c).wrong o = none) :
    Uw07Neutral.out (Uw07.step h (.check c o)).2 = 1 :: ([2, ni (h.play.cost c), ni ((h.day c).cost o)] ++ rowsZ ((List.range h.hours.length).map (stayS (h.day c) o))) := by
  simp only [Uw07.step]
  rw [if_neg (by rw [e1, e2]; simp)]
  simp only [e3, e4]
  have l : (h.day c).players.length = h.hours.length := by rw [day_players, List.length_map]
  rw [← tell_eq]
  unfold Uw07Neutral.out Uw03.Day.tell
  rw [l]
  rfl
theorem stayS_len (d : Uw03.Day) (o : List Nat) (a : Nat) : (stayS d o a).length ≤ 3 := by
  unfold stayS
  cases d.stays o a with
  | none => exact Nat.zero_le _
  | some x => exact Nat.le_refl _
end RC
/-! ### Words of my own over the hand layer -/
namespace RC
open PySem PySem.Spec PyProof.Rows L2
abbrev oAdd : R2 := rI0 fun i j => .int (i + j)
abbrev oSub : R2 := rI0 fun i j => .int (i - j)
abbrev oMul : R2 := rI CMul fun i j => .int (i * j)
abbrev oFdiv : R2 := rI CDiv fun i j => .int (i / j)
abbrev oMod : R2 := rI (fun _ j => 0 < j) fun i j => .int (i % j)
abbrev oLt : R2 := rI0 fun i j => .bl (decide (i < j))
abbrev oLe : R2 := rI0 fun i j => .bl (decide (i ≤ j))
abbrev oGt : R2 := rI0 fun i j => .bl (decide (j < i))
abbrev oGe : R2 := rI0 fun i j => .bl (decide (j ≤ i))
abbrev oIsN : R2 := fun x y H Q => y = .non ∧ Q (.bl (decide (x = .non))) H
abbrev oNotN : R2 := fun x y H Q => y = .non ∧ Q (.bl (!decide (x = .non))) H
abbrev oNeg : V → Hp → VK → Prop := rU fun i => .int (-i)
abbrev rLenS (K : PySem.W.Frag) : List V → Hp → VK → Prop := fun xs H Q => ∃ p ys, xs = [.ref p] ∧ (SqL K H p ys ∨ SqT K H p ys) ∧ Q (.int ys.length) H
abbrev rTupOf (K : PySem.W.Frag) : List V → Hp → VK → Prop := fun vs H Q => ∃ p ys, vs = [.ref p] ∧ ((SqL K H p ys ∧ ∀ l, H l = none → Q (.ref l) (upd H l (.tup ys))) ∨ (SqT K H p ys ∧ Q (.ref p) H))
theorem hu65 {A : Around} {k : Nat} (hr : Room k A) : A.units + 65 < cLine := by
  have := hr.un
  omega
/-! attributes by name -/
theorem lk_hit {k : Str} {v : V} {r : List (Str × V)} : List.lookup k ((k, v) :: r) = some v := by
  rw [List.lookup_cons_self]
theorem lk_miss {k g : Str} {v : V} {r : List (Str × V)} {o : Option V} (h : (k == g) = false) (e : List.lookup k r = o) : List.lookup k ((g, v) :: r) = o := by
  rw [← e]
  simp only [List.lookup, h]
theorem put_hit {f : Str} {v x : V} {r : List (Str × V)} : putF f v ((f, x) :: r) = (f, v) :: r := if_pos rfl
theorem put_miss {f g : Str} {v x : V} {r s : List (Str × V)} (h : ¬ g = f) (e : putF f v r = s) : putF f v ((g, x) :: r) = (g, x) :: s := (if_neg h).trans (congrArg _ e)
/-- a test whose outcome is known -/
theorem ifT {c : Bool} {X Y : Prop} (hc : c = true) (h : X) : if c = true then X else Y := by
  subst hc
  exact iteT h
theorem ifF {c : Bool} {X Y : Prop} (hc : c = false) (h : Y) : if c = true then X else Y := by
  subst hc
  exact iteF h
end RC
/-! ### A dict whose keys are a number and a tuple of numbers; a list against the empty one -/
namespace RC
open PySem PySem.Spec PyProof.Rows L2
section
variable {X : Cx}
def rEqNil (K : PySem.W.Frag) : R2 := fun x y H Q => ∃ p q xs, x = .ref p ∧ y = .ref q ∧ SqL K H p xs ∧ SqL K H q [] ∧ Q (.bl xs.isEmpty) H
theorem op_eqNil (hu : X.A.units + 64 < cLine) : OpR X (compareOp .Eq) (rEqNil X.K) := by
  intro pins s σ H x y v u Q I rx ry h
  obtain ⟨p, q, xs, rfl, rfl, h1, h2, k⟩ := h
  cases rx
  cases ry
  obtain ⟨i1, r1, ⟨o1, n1, g1, c1, d1, e1⟩, z1⟩ := I.list h1
  obtain ⟨i2, r2, ⟨o2, n2, g2, c2, d2, e2⟩, z2⟩ := I.list h2
  cases r2
  have hu' : X.A.units < cLine := by omega
  cases r1 with
  | nil => exact SeqAt.eq_listAt (e := fun _ => true) ⟨o1, g1, c1, n1, e1⟩ ⟨o2, g2, c2, n2, e2⟩ rfl hu' (fun j z _ => absurd z (Nat.not_lt_zero j)) ⟨.bl true, H, I, rfl, k⟩
  | cons a b => exact SeqAt.eq_list_lengthsAt ⟨o1, g1, c1, n1, e1⟩ ⟨o2, g2, c2, n2, e2⟩ rfl hu' ⟨.bl false, H, I, rfl, k⟩
end
/-- the key: a number and numbers -/
def nkey (a : Int) (l : List Int) : NestedKey := .tup [.num a, .tup (l.map .num)]
/-- at b stands the pair that is the key k -/
def NKey (H : Hp) (k : NestedKey) (b : Addr) : Prop := ∃ a l o, k = nkey a l ∧ H b = some (.tup [.int a, .ref o]) ∧ H o = some (.tup (l.map V.int))
theorem NKey.keep {H H' : Hp} {k : NestedKey} {b : Addr} (h : NKey H k b) (g : ∀ c ys, H c = some (.tup ys) → H' c = some (.tup ys)) : NKey H' k b := by
  obtain ⟨a, l, o, e, h1, h2⟩ := h
  exact ⟨a, l, o, e, g _ _ h1, g _ _ h2⟩
theorem nums_are {h : Heap} : ∀ {l : List Int} {us : List Value}, Vals (l.map V.int) us → NestedAll h (l.map .num) us
  | [], _, .nil => .nil
  | _ :: _, _, .cons ⟨_, r⟩ t => by subst r; exact .cons (.int _ _) (nums_are t)
theorem NKey.is {P : Program} {w : World} {H : Hp} {h : Heap} {k : NestedKey} {b : Addr} (x : NKey H k b) (ok : HOk P w H h) : (nestedKind P w).is h k b := by
  obtain ⟨a, l, o, rfl, h1, h2⟩ := x
  obtain ⟨_, i1, r1, o1, g1, c1, n1, d1⟩ := (show ObjOk P w H h b (.tup [.int a, .ref o]) from ok b _ h1)
  obtain ⟨_, i2, r2, o2, g2, c2, n2, d2⟩ := (show ObjOk P w H h o (.tup (l.map V.int)) from ok o _ h2)
  cases r1 with
  | cons q1 t1 =>
    cases t1 with
    | cons q2 t2 =>
      cases t2
      obtain ⟨t, rfl⟩ := q1
      cases q2
      refine ⟨.tup g1 c1 d1 (.cons (.int _ _) (.cons (.tup g2 c2 d2 (nums_are r2)) .nil)), ?_⟩
      have dn : ∀ m : List Int, NestedKey.depthAll (m.map .num) = 0 := by
        intro m
        induction m with
        | nil => rfl
        | cons z m ih => simp only [List.map_cons, NestedKey.depthAll, ih, NestedKey.depth]; rfl
      simp only [nkey, NestedKey.depth, NestedKey.depthAll, dn]
      decide
abbrev Ents := List (NestedKey × Addr × V)
/-- such a dict, as one object -/
def dnO (P : Program) (w : World) (d : Addr) (kvs : Ents) : HO := .ext fun h => kvs.length ≤ sizeLine ∧ (d == sysModules) = false ∧
  ∃ xs : List (NestedKey × Addr × Value), Paired (fun p q => p.1 = q.1 ∧ p.2.1 = q.2.1 ∧ RelV p.2.2 q.2.2) kvs xs ∧ ∃ o es ep, h.get? d = some o ∧ o.ExactDict ∧ o.data = .dict es ep ∧ es.toList = xs.map (entryOfKey (nestedKind P w)) ∧ (xs.map (·.1)).Nodup
def valN (kvs : Ents) (k : NestedKey) : Option V := (kvs.find? fun e => decide (e.1 = k)).map fun e => e.2.2
/-- the dict at d, its entries' keys standing -/
def DN (P : Program) (w : World) (H : Hp) (d : Addr) (kvs : Ents) : Prop := H d = some (dnO P w d kvs) ∧ ∀ e ∈ kvs, NKey H e.1 e.2.1
theorem val_at {k : NestedKey} : ∀ {kvs : Ents} {xs : List (NestedKey × Addr × Value)}, Paired (fun p q => p.1 = q.1 ∧ p.2.1 = q.2.1 ∧ RelV p.2.2 q.2.2) kvs xs → RelO (valN kvs k) ((atKey xs k).map (·.2))
  | _, _, .nil => True.intro
  | _, _, @Paired.cons _ _ _ p q ps qs ⟨e1, _, e3⟩ t => by
    by_cases h : p.1 = k
    · have h' : q.1 = k := e1 ▸ h
      simp only [valN, atKey, List.find?_cons, h, h', decide_true, Option.map_some]
      exact e3
    · have h' : ¬ q.1 = k := fun z => h (e1.trans z)
      have ih := val_at (k := k) t
      simp only [valN, atKey, List.find?_cons, h, h', decide_false] at ih ⊢
      exact ih
theorem DN.open {P : Program} {w : World} {H : Hp} {h : Heap} {d : Addr} {kvs : Ents} (x : DN P w H d kvs) (ok : HOk P w H h) : kvs.length ≤ sizeLine ∧ (d == sysModules) = false ∧
    ∃ xs, Paired (fun p q => p.1 = q.1 ∧ p.2.1 = q.2.1 ∧ RelV p.2.2 q.2.2) kvs xs ∧ h.DictOfH (nestedKind P w) d xs := by
  obtain ⟨⟨z, y, xs, r, o, es, ep, h1, h2, h3, h4, h5⟩, _, _⟩ := (show ObjOk P w H h d (dnO P w d kvs) from ok d _ x.1)
  refine ⟨z, y, xs, r, o, es, ep, h1, h2, h3, h4, fun e he => ?_, h5⟩
  have all : ∀ {l : Ents} {m : List (NestedKey × Addr × Value)}, Paired (fun p q => p.1 = q.1 ∧ p.2.1 = q.2.1 ∧ RelV p.2.2 q.2.2) l m → (∀ e ∈ l, NKey H e.1 e.2.1) → ∀ e ∈ m, (nestedKind P w).is h e.1 e.2.1 := by
    intro l m q
    induction q with
    | nil => intro _ e he; exact nomatch he
    | @cons p q ps qs hq t ih =>
      intro g e he
      rcases List.mem_cons.mp he with z | he
      · subst z
        have := (g p List.mem_cons_self).is ok
        rw [hq.1, hq.2.1] at this
        exact this
      · exact ih (fun e he => g e (List.mem_cons_of_mem _ he)) e he
  exact all r x.2 e he
theorem Room.un8 {A : Around} (hu : A.units + 64 < cLine) : (A.in1).units + 8 < cLine := by
  have : A.in1.units ≤ A.units + 1 := Nat.le_refl _
  omega
section
variable {X : Cx}
/-- k not in d -/
def rNotN (P : Program) (w : World) : R2 := fun x y H Q => ∃ b d kvs k, x = .ref b ∧ y = .ref d ∧ DN P w H d kvs ∧ NKey H k b ∧ Q (.bl (!(valN kvs k).isSome)) H
theorem op_notN2 (hu : X.A.units + 64 < cLine) : OpR X (compareOp .NotIn) (rNotN X.prog X.w) := by
  intro pins s σ H x y v u Q I rx ry h
  obtain ⟨b, d, kvs, k, rfl, rfl, hd, hk, q⟩ := h
  cases rx
  cases ry
  obtain ⟨z, y, xs, r, dd⟩ := hd.open I.hok
  refine wpAny_notIn_heap (knd := nestedKind X.prog X.w) (Room.un8 hu) (hk.is I.hok) y dd ?_
  have e := (val_at (k := k) r).isSome_eq
  rw [Option.isSome_map] at e
  rw [← e]
  exact ⟨.bl _, H, I.tok _, rfl, q⟩
/-- d[k] -/
def tGetN (P : Program) (w : World) (td ty : TE) : TE := fun σ H Q => td σ H fun x H1 => ty σ H1 fun y H2 => ∃ d b kvs k v, x = .ref d ∧ y = .ref b ∧ DN P w H2 d kvs ∧ NKey H2 k b ∧ valN kvs k = some v ∧ Q v H2
theorem pe_getN {o i : Expr} {pos : Pos} {td ty : TE} (hu : X.A.units + 64 < cLine) (ho : PE X o td) (hi : PE X i ty) (hs : NoSl i) : PE X (.Subscript o i pos) (tGetN X.prog X.w td ty) := by
  constructor
  intro pins s σ H Q I h
  refine subD_of PySem.F.slot_dict_getitem.lookup hs (thn (ho.run pins s σ H _ I h) fun u s1 z1 => ?_)
  obtain ⟨x, H1, I1, rx, q1⟩ := z1
  refine thn (hi.run pins s1 σ H1 _ I1 q1) fun iv s2 z2 => ?_
  obtain ⟨y, H2, I2, ry, d, b, kvs, k, v, rfl, rfl, hd, hk, hv, q2⟩ := z2
  cases rx
  cases ry
  obtain ⟨_, _, xs, r, dd⟩ := hd.open I2.hok
  obtain ⟨w', hw, rw'⟩ := RelO.some_of (v := v) (o := (atKey xs k).map (·.2)) (by rw [← hv]; exact val_at r)
  obtain ⟨p, hp, hp2⟩ := Option.map_eq_some_iff.mp hw
  refine ⟨dd.typeIs, wpAny_getItem_heap (knd := nestedKind X.prog X.w) (Room.un8 hu) (hk.is I2.hok) dd hp ?_⟩
  rw [hp2]
  exact ⟨v, H2, I2.tok _, rw', q2⟩
/-- d[k] = v, a new key -/
def rPutN (P : Program) (w : World) : V → V → V → Hp → (Hp → Prop) → Prop := fun o i v H Q => ∃ d b kvs k, o = .ref d ∧ i = .ref b ∧ DN P w H d kvs ∧ NKey H k b ∧ valN kvs k = none ∧ kvs.length < sizeLine ∧ Q (upd H d (dnO P w d (kvs ++ [(k, b, v)])))
theorem set_N (hu : X.A.units + 64 < cLine) : PSet X (rPutN X.prog X.w) := by
  intro pins s σ H o i v ov iv u Q I ro ri rv h
  obtain ⟨d, b, kvs, k, rfl, rfl, hd, hk, hv, hl, q⟩ := h
  cases ro
  cases ri
  obtain ⟨z, y, xs, r, dd⟩ := hd.open I.hok
  have hn : atKey xs k = none := by
    have e := (val_at (k := k) r).isSome_eq
    rw [Option.isSome_map, hv] at e
    cases e2 : atKey xs k with
    | none => rfl
    | some p => rw [e2] at e; cases e
  have hz : xs.length ≤ sizeLine := by rw [← Paired.length r]; exact z
  refine wpAny_setItem_heap (hsz := hz) (knd := nestedKind X.prog X.w) (Room.un8 hu) (hk.is I.hok) dd fun h' dd' hs => ?_
  rw [storedH_new hn] at dd'
  obtain ⟨q1, es, ep, hq, h2, h3, h4, _, h5⟩ := dd'
  refine ⟨_, d_write (ob := dnO X.prog X.w d (kvs ++ [(k, b, v)])) I (by rw [hd.1]; exact True.intro) hs ⟨q1, hq⟩ ?_, q⟩
  refine ⟨⟨?_, y, xs ++ [(k, b, u)], Paired.snoc r ⟨rfl, rfl, rv⟩, q1, es, ep, hq, h2, h3, h4, h5⟩, ⟨q1, hq⟩, ?_⟩
  · rw [List.length_append]; exact hl
  · rintro g1 g2 ⟨a1, a2, xs', a3, o', es', ep', a4, a5⟩ g
    exact ⟨a1, a2, xs', a3, o', es', ep', g _ a4, a5⟩
/-- {} -/
def tNewN (P : Program) (w : World) : TE := fun _ H Q => ∀ p, H p = none → Q (.ref p) (upd H p (dnO P w p []))
theorem pe_newN {pos : Pos} : PE X (.Dict [] [] pos) (tNewN X.prog X.w) := by
  constructor
  intro pins s σ H Q I h
  refine wpAny_Dict_empty ⟨.ref s.heap.objs.size, _, I.laid (a := s.heap.objs.size) (o := dnO X.prog X.w s.heap.objs.size []) (t' := s.toks) (fun _ _ q => Heap.get?_push_of_some _ q) (Nat.le_refl _) ?_, rfl, h _ (I.hok.fresh (Nat.le_refl _))⟩
  refine ⟨⟨Nat.zero_le _, beq_eq_false_iff_ne.mpr (Ne.symm (Nat.ne_of_lt I.big)), [], .nil, _, #[], 0, Heap.get?_push_size _ rfl, ⟨rfl, rfl, rfl⟩, rfl, rfl, List.nodup_nil⟩, ⟨_, Heap.get?_push_size _ rfl⟩, ?_⟩
  rintro g1 g2 ⟨a1, a2, xs', a3, o', es', ep', a4, a5⟩ g
  exact ⟨a1, a2, xs', a3, o', es', ep', g _ a4, a5⟩
end
end RC
/-! ### The text, its readings: printed by tie.py from the program as linked -/
namespace RC
open PySem PySem.Spec PyProof.Rows L2
def top (i : Nat) : Stmt := PySem.Challenge.pw_rolecasting_s01_answers.main.body.getD i (.Pass ⟨0, 0, 0, 0⟩)
abbrev s_comes_too_soon : Stmt := top 1
abbrev s_lacks_time : Stmt := top 2
abbrev s_are_in_one_scene : Stmt := top 3
abbrev s_do_clash : Stmt := top 4
abbrev s_clashing_pairs : Stmt := top 5
abbrev s_can_play : Stmt := top 6
abbrev s_wrong_with_casting : Stmt := top 7
abbrev s_all_castings : Stmt := top 8
abbrev s_right_castings : Stmt := top 9
abbrev s_casting_cost : Stmt := top 10
abbrev s_all_orders : Stmt := top 12
abbrev s_beginnings : Stmt := top 13
abbrev s_is_in : Stmt := top 14
abbrev s_own_pieces : Stmt := top 15
abbrev s_stay_for : Stmt := top 16
abbrev s_stays_of_all : Stmt := top 17
abbrev s_stay_cost : Stmt := top 18
abbrev s_order_cost : Stmt := top 19
abbrev s_wrong_with_stay : Stmt := top 20
abbrev s_broken_pair : Stmt := top 21
abbrev s_wrong_with_order : Stmt := top 22
abbrev s_Cheapest_init : Stmt := inClass (top 23) 0
abbrev s_Rehearsals_init : Stmt := inClass (top 24) 0
abbrev s_Rehearsals_player_cost : Stmt := inClass (top 24) 1
abbrev s_Rehearsals_player_costs : Stmt := inClass (top 24) 2
abbrev s_Rehearsals_costs : Stmt := inClass (top 24) 3
abbrev s_Rehearsals_cheapest : Stmt := inClass (top 24) 4
abbrev s_row : Stmt := top 26
abbrev s_is_casting : Stmt := top 27
abbrev s_is_order : Stmt := top 28
abbrev s_Plan_init : Stmt := inClass (top 29) 0
abbrev s_plans_by_casting : Stmt := top 30
abbrev s_best_plan : Stmt := top 31
abbrev s_plan_apart : Stmt := top 32
abbrev s_checked_plan : Stmt := top 33
abbrev s_cheapest_order : Stmt := top 34
abbrev s_Scene_init : Stmt := inClass (top 56) 0
abbrev s_Player_init : Stmt := inClass (top 57) 0
abbrev s_Piece_init : Stmt := inClass (top 58) 0
abbrev s_Play_init : Stmt := inClass (top 59) 0
abbrev s_Play_renew : Stmt := inClass (top 59) 1
abbrev s_Play_begins : Stmt := inClass (top 59) 2
abbrev s_Play_scene : Stmt := inClass (top 59) 3
abbrev s_Play_player : Stmt := inClass (top 59) 4
abbrev s_Play_piece : Stmt := inClass (top 59) 5
abbrev s_Play_ahead : Stmt := inClass (top 59) 6
abbrev s_Play_are_rising_roles : Stmt := inClass (top 59) 7
abbrev s_Play_are_fees : Stmt := inClass (top 59) 8
abbrev s_Reader_init : Stmt := inClass (top 60) 0
abbrev s_Reader_is_done : Stmt := inClass (top 60) 1
abbrev s_Reader_number : Stmt := inClass (top 60) 2
abbrev s_Reader_row : Stmt := inClass (top 60) 3
abbrev s_answer_begins : Stmt := top 61
abbrev s_answer_scene : Stmt := top 62
abbrev s_answer_player : Stmt := top 63
abbrev s_answer_piece : Stmt := top 64
abbrev s_answer_ahead : Stmt := top 65
abbrev s_answer_check : Stmt := top 66
abbrev s_answer_order : Stmt := top 67
abbrev s_answer_call : Stmt := top 68
abbrev s_answers : Stmt := top 69
theorem sc_comes_too_soon : FnScope ["role", "minutes", "scenes", "between", "scene"] ["role", "minutes", "scenes"] (defScope s_comes_too_soon) := ⟨rfl, rfl, rfl, by decide +kernel, rfl, by decide +kernel, by decide +kernel⟩
theorem sc_lacks_time : FnScope ["earlier", "later", "dressing", "scenes", "place", "scene"] ["earlier", "later", "dressing", "scenes"] (defScope s_lacks_time) := ⟨rfl, rfl, rfl, by decide +kernel, rfl, by decide +kernel, by decide +kernel⟩
theorem sc_are_in_one_scene : FnScope ["one", "other", "scenes", "scene"] ["one", "other", "scenes"] (defScope s_are_in_one_scene) := ⟨rfl, rfl, rfl, by decide +kernel, rfl, by decide +kernel, by decide +kernel⟩
theorem sc_do_clash : FnScope ["one", "other", "dressing", "scenes"] ["one", "other", "dressing", "scenes"] (defScope s_do_clash) := ⟨rfl, rfl, rfl, by decide +kernel, rfl, by decide +kernel, by decide +kernel⟩
theorem sc_clashing_pairs : FnScope ["dressing", "scenes", "found", "low", "high"] ["dressing", "scenes"] (defScope s_clashing_pairs) := ⟨rfl, rfl, rfl, by decide +kernel, rfl, by decide +kernel, by decide +kernel⟩
theorem sc_can_play : FnScope ["player", "role"] ["player", "role"] (defScope s_can_play) := ⟨rfl, rfl, rfl, by decide +kernel, rfl, by decide +kernel, by decide +kernel⟩
theorem sc_wrong_with_casting : FnScope ["casting", "players", "clashes", "role", "who", "low", "high"] ["casting", "players", "clashes"] (defScope s_wrong_with_casting) := ⟨rfl, rfl, rfl, by decide +kernel, rfl, by decide +kernel, by decide +kernel⟩
theorem sc_all_castings : FnScope ["roles", "players", "found", "role", "longer", "casting", "who"] ["roles", "players"] (defScope s_all_castings) := ⟨rfl, rfl, rfl, by decide +kernel, rfl, by decide +kernel, by decide +kernel⟩
theorem sc_right_castings : FnScope ["play", "clashes", "castings", "casting"] ["play"] (defScope s_right_castings) := ⟨rfl, rfl, rfl, by decide +kernel, rfl, by decide +kernel, by decide +kernel⟩
theorem sc_casting_cost : FnScope ["casting", "players", "cost", "who", "player", "role"] ["casting", "players"] (defScope s_casting_cost) := ⟨rfl, rfl, rfl, by decide +kernel, rfl, by decide +kernel, by decide +kernel⟩
theorem sc_all_orders : FnScope ["pieces", "found", "place", "longer", "order", "piece"] ["pieces"] (defScope s_all_orders) := ⟨rfl, rfl, rfl, by decide +kernel, rfl, by decide +kernel, by decide +kernel⟩
theorem sc_beginnings : FnScope ["order", "pieces", "begun", "minute", "number"] ["order", "pieces"] (defScope s_beginnings) := ⟨rfl, rfl, rfl, by decide +kernel, rfl, by decide +kernel, by decide +kernel⟩
theorem sc_is_in : FnScope ["who", "casting", "piece", "role"] ["who", "casting", "piece"] (defScope s_is_in) := ⟨rfl, rfl, rfl, by decide +kernel, rfl, by decide +kernel, by decide +kernel⟩
theorem sc_own_pieces : FnScope ["who", "casting", "pieces", "number", "piece"] ["who", "casting", "pieces"] (defScope s_own_pieces) := ⟨rfl, rfl, rfl, by decide +kernel, rfl, by decide +kernel, by decide +kernel⟩
theorem sc_stay_for : FnScope ["own", "begun", "pieces", "comes", "number", "goes", "busy"] ["own", "begun", "pieces"] (defScope s_stay_for) := ⟨rfl, rfl, rfl, by decide +kernel, rfl, by decide +kernel, by decide +kernel⟩
theorem sc_stays_of_all : FnScope ["casting", "order", "players", "pieces", "begun", "who"] ["casting", "order", "players", "pieces"] (defScope s_stays_of_all) := ⟨rfl, rfl, rfl, by decide +kernel, rfl, by decide +kernel, by decide +kernel⟩
theorem sc_stay_cost : FnScope ["stay", "player"] ["stay", "player"] (defScope s_stay_cost) := ⟨rfl, rfl, rfl, by decide +kernel, rfl, by decide +kernel, by decide +kernel⟩
theorem sc_order_cost : FnScope ["stays", "players", "stay", "player"] ["stays", "players"] (defScope s_order_cost) := ⟨rfl, rfl, rfl, by decide +kernel, rfl, by decide +kernel, by decide +kernel⟩
theorem sc_wrong_with_stay : FnScope ["stay", "player"] ["stay", "player"] (defScope s_wrong_with_stay) := ⟨rfl, rfl, rfl, by decide +kernel, rfl, by decide +kernel, by decide +kernel⟩
theorem sc_broken_pair : FnScope ["order", "pairs", "told", "pair"] ["order", "pairs"] (defScope s_broken_pair) := ⟨rfl, rfl, rfl, by decide +kernel, rfl, by decide +kernel, by decide +kernel⟩
theorem sc_wrong_with_order : FnScope ["order", "pairs", "stays", "players", "told", "who", "player", "wrong"] ["order", "pairs", "stays", "players"] (defScope s_wrong_with_order) := ⟨rfl, rfl, rfl, by decide +kernel, rfl, by decide +kernel, by decide +kernel⟩
theorem sc_Cheapest_init : FnScope ["self", "cost", "many", "order"] ["self", "cost", "many", "order"] (defScope s_Cheapest_init) := ⟨rfl, rfl, rfl, by decide +kernel, rfl, by decide +kernel, by decide +kernel⟩
theorem sc_Rehearsals_init : FnScope ["self", "players", "pieces", "pairs", "order"] ["self", "players", "pieces", "pairs"] (defScope s_Rehearsals_init) := ⟨rfl, rfl, rfl, by decide +kernel, rfl, by decide +kernel, by decide +kernel⟩
theorem sc_Rehearsals_player_cost : FnScope ["self", "who", "own", "begun", "stay"] ["self", "who", "own", "begun"] (defScope s_Rehearsals_player_cost) := ⟨rfl, rfl, rfl, by decide +kernel, rfl, by decide +kernel, by decide +kernel⟩
theorem sc_Rehearsals_player_costs : FnScope ["self", "who", "own", "begun"] ["self", "who", "own"] (defScope s_Rehearsals_player_costs) := ⟨rfl, rfl, rfl, by decide +kernel, rfl, by decide +kernel, by decide +kernel⟩
theorem sc_Rehearsals_costs : FnScope ["self", "casting", "totals", "who", "added", "total", "cost"] ["self", "casting"] (defScope s_Rehearsals_costs) := ⟨rfl, rfl, rfl, by decide +kernel, rfl, by decide +kernel, by decide +kernel⟩
theorem sc_Rehearsals_cheapest : FnScope ["self", "casting", "totals", "right", "total", "least"] ["self", "casting"] (defScope s_Rehearsals_cheapest) := ⟨rfl, rfl, rfl, by decide +kernel, rfl, by decide +kernel, by decide +kernel⟩
theorem sc_row : FnScope ["numbers"] ["numbers"] (defScope s_row) := ⟨rfl, rfl, rfl, by decide +kernel, rfl, by decide +kernel, by decide +kernel⟩
theorem sc_is_casting : FnScope ["casting", "play", "who"] ["casting", "play"] (defScope s_is_casting) := ⟨rfl, rfl, rfl, by decide +kernel, rfl, by decide +kernel, by decide +kernel⟩
theorem sc_is_order : FnScope ["order", "play"] ["order", "play"] (defScope s_is_order) := ⟨rfl, rfl, rfl, by decide +kernel, rfl, by decide +kernel, by decide +kernel⟩
theorem sc_Plan_init : FnScope ["self", "casting", "casting_price", "cheapest"] ["self", "casting", "casting_price", "cheapest"] (defScope s_Plan_init) := ⟨rfl, rfl, rfl, by decide +kernel, rfl, by decide +kernel, by decide +kernel⟩
theorem sc_plans_by_casting : FnScope ["play", "rehearsals", "plans", "casting", "cheapest"] ["play"] (defScope s_plans_by_casting) := ⟨rfl, rfl, rfl, by decide +kernel, rfl, by decide +kernel, by decide +kernel⟩
theorem sc_best_plan : FnScope ["play", "plans", "least", "plan", "alike", "many", "first"] ["play"] (defScope s_best_plan) := ⟨rfl, rfl, rfl, by decide +kernel, rfl, by decide +kernel, by decide +kernel⟩
theorem sc_plan_apart : FnScope ["play", "castings", "prices", "casting", "price", "cheapest"] ["play"] (defScope s_plan_apart) := ⟨rfl, rfl, rfl, by decide +kernel, rfl, by decide +kernel, by decide +kernel⟩
theorem sc_checked_plan : FnScope ["play", "casting", "order", "wrong", "stays", "given", "stay"] ["play", "casting", "order"] (defScope s_checked_plan) := ⟨rfl, rfl, rfl, by decide +kernel, rfl, by decide +kernel, by decide +kernel⟩
theorem sc_cheapest_order : FnScope ["play", "casting", "cheapest"] ["play", "casting"] (defScope s_cheapest_order) := ⟨rfl, rfl, rfl, by decide +kernel, rfl, by decide +kernel, by decide +kernel⟩
theorem sc_Scene_init : FnScope ["self", "minutes", "roles"] ["self", "minutes", "roles"] (defScope s_Scene_init) := ⟨rfl, rfl, rfl, by decide +kernel, rfl, by decide +kernel, by decide +kernel⟩
theorem sc_Player_init : FnScope ["self", "wage", "rate", "since", "till", "fees"] ["self", "wage", "rate", "since", "till", "fees"] (defScope s_Player_init) := ⟨rfl, rfl, rfl, by decide +kernel, rfl, by decide +kernel, by decide +kernel⟩
theorem sc_Piece_init : FnScope ["self", "minutes", "roles"] ["self", "minutes", "roles"] (defScope s_Piece_init) := ⟨rfl, rfl, rfl, by decide +kernel, rfl, by decide +kernel, by decide +kernel⟩
theorem sc_Play_init : FnScope ["self"] ["self"] (defScope s_Play_init) := ⟨rfl, rfl, rfl, by decide +kernel, rfl, by decide +kernel, by decide +kernel⟩
theorem sc_Play_renew : FnScope ["self", "dressing"] ["self", "dressing"] (defScope s_Play_renew) := ⟨rfl, rfl, rfl, by decide +kernel, rfl, by decide +kernel, by decide +kernel⟩
theorem sc_Play_begins : FnScope ["self", "dressing"] ["self", "dressing"] (defScope s_Play_begins) := ⟨rfl, rfl, rfl, by decide +kernel, rfl, by decide +kernel, by decide +kernel⟩
theorem sc_Play_scene : FnScope ["self", "minutes", "roles"] ["self", "minutes", "roles"] (defScope s_Play_scene) := ⟨rfl, rfl, rfl, by decide +kernel, rfl, by decide +kernel, by decide +kernel⟩
theorem sc_Play_player : FnScope ["self", "wage", "rate", "since", "till", "fees"] ["self", "wage", "rate", "since", "till", "fees"] (defScope s_Play_player) := ⟨rfl, rfl, rfl, by decide +kernel, rfl, by decide +kernel, by decide +kernel⟩
theorem sc_Play_piece : FnScope ["self", "minutes", "roles"] ["self", "minutes", "roles"] (defScope s_Play_piece) := ⟨rfl, rfl, rfl, by decide +kernel, rfl, by decide +kernel, by decide +kernel⟩
theorem sc_Play_ahead : FnScope ["self", "i", "j"] ["self", "i", "j"] (defScope s_Play_ahead) := ⟨rfl, rfl, rfl, by decide +kernel, rfl, by decide +kernel, by decide +kernel⟩
theorem sc_Play_are_rising_roles : FnScope ["self", "roles", "before", "role"] ["self", "roles"] (defScope s_Play_are_rising_roles) := ⟨rfl, rfl, rfl, by decide +kernel, rfl, by decide +kernel, by decide +kernel⟩
theorem sc_Play_are_fees : FnScope ["self", "fees", "told"] ["self", "fees"] (defScope s_Play_are_fees) := ⟨rfl, rfl, rfl, by decide +kernel, rfl, by decide +kernel, by decide +kernel⟩
theorem sc_Reader_init : FnScope ["self", "numbers"] ["self", "numbers"] (defScope s_Reader_init) := ⟨rfl, rfl, rfl, by decide +kernel, rfl, by decide +kernel, by decide +kernel⟩
theorem sc_Reader_is_done : FnScope ["self"] ["self"] (defScope s_Reader_is_done) := ⟨rfl, rfl, rfl, by decide +kernel, rfl, by decide +kernel, by decide +kernel⟩
theorem sc_Reader_number : FnScope ["self", "found"] ["self"] (defScope s_Reader_number) := ⟨rfl, rfl, rfl, by decide +kernel, rfl, by decide +kernel, by decide +kernel⟩
theorem sc_Reader_row : FnScope ["self", "size", "found"] ["self"] (defScope s_Reader_row) := ⟨rfl, rfl, rfl, by decide +kernel, rfl, by decide +kernel, by decide +kernel⟩
theorem sc_answer_begins : FnScope ["play", "reader", "dressing"] ["play", "reader"] (defScope s_answer_begins) := ⟨rfl, rfl, rfl, by decide +kernel, rfl, by decide +kernel, by decide +kernel⟩
theorem sc_answer_scene : FnScope ["play", "reader", "minutes", "roles"] ["play", "reader"] (defScope s_answer_scene) := ⟨rfl, rfl, rfl, by decide +kernel, rfl, by decide +kernel, by decide +kernel⟩
theorem sc_answer_player : FnScope ["play", "reader", "wage", "rate", "since", "till", "fees"] ["play", "reader"] (defScope s_answer_player) := ⟨rfl, rfl, rfl, by decide +kernel, rfl, by decide +kernel, by decide +kernel⟩
theorem sc_answer_piece : FnScope ["play", "reader", "minutes", "roles"] ["play", "reader"] (defScope s_answer_piece) := ⟨rfl, rfl, rfl, by decide +kernel, rfl, by decide +kernel, by decide +kernel⟩
theorem sc_answer_ahead : FnScope ["play", "reader", "i", "j"] ["play", "reader"] (defScope s_answer_ahead) := ⟨rfl, rfl, rfl, by decide +kernel, rfl, by decide +kernel, by decide +kernel⟩
theorem sc_answer_check : FnScope ["play", "reader", "casting", "order"] ["play", "reader"] (defScope s_answer_check) := ⟨rfl, rfl, rfl, by decide +kernel, rfl, by decide +kernel, by decide +kernel⟩
theorem sc_answer_order : FnScope ["play", "reader", "casting"] ["play", "reader"] (defScope s_answer_order) := ⟨rfl, rfl, rfl, by decide +kernel, rfl, by decide +kernel, by decide +kernel⟩
theorem sc_answer_call : FnScope ["play", "reader", "call"] ["play", "reader"] (defScope s_answer_call) := ⟨rfl, rfl, rfl, by decide +kernel, rfl, by decide +kernel, by decide +kernel⟩
theorem sc_answers : FnScope ["calls", "play", "reader", "given", "answer"] ["calls"] (defScope s_answers) := ⟨rfl, rfl, rfl, by decide +kernel, rfl, by decide +kernel, by decide +kernel⟩
/-- where all that stands -/
structure Ad where
  c_Cheapest : Addr
  c_Rehearsals : Addr
  c_Plan : Addr
  c_Scene : Addr
  c_Player : Addr
  c_Piece : Addr
  c_Play : Addr
  c_Reader : Addr
  f_comes_too_soon : Addr
  d_comes_too_soon : FuncData
  f_lacks_time : Addr
  d_lacks_time : FuncData
  f_are_in_one_scene : Addr
  d_are_in_one_scene : FuncData
  f_do_clash : Addr
  d_do_clash : FuncData
  f_clashing_pairs : Addr
  d_clashing_pairs : FuncData
  f_can_play : Addr
  d_can_play : FuncData
  f_wrong_with_casting : Addr
  d_wrong_with_casting : FuncData
  f_all_castings : Addr
  d_all_castings : FuncData
  f_right_castings : Addr
  d_right_castings : FuncData
  f_casting_cost : Addr
  d_casting_cost : FuncData
  f_all_orders : Addr
  d_all_orders : FuncData
  f_beginnings : Addr
  d_beginnings : FuncData
  f_is_in : Addr
  d_is_in : FuncData
  f_own_pieces : Addr
  d_own_pieces : FuncData
  f_stay_for : Addr
  d_stay_for : FuncData
  f_stays_of_all : Addr
  d_stays_of_all : FuncData
  f_stay_cost : Addr
  d_stay_cost : FuncData
  f_order_cost : Addr
  d_order_cost : FuncData
  f_wrong_with_stay : Addr
  d_wrong_with_stay : FuncData
  f_broken_pair : Addr
  d_broken_pair : FuncData
  f_wrong_with_order : Addr
  d_wrong_with_order : FuncData
  f_Cheapest_init : Addr
  d_Cheapest_init : FuncData
  f_Rehearsals_init : Addr
  d_Rehearsals_init : FuncData
  f_Rehearsals_player_cost : Addr
  d_Rehearsals_player_cost : FuncData
  f_Rehearsals_player_costs : Addr
  d_Rehearsals_player_costs : FuncData
  f_Rehearsals_costs : Addr
  d_Rehearsals_costs : FuncData
  f_Rehearsals_cheapest : Addr
  d_Rehearsals_cheapest : FuncData
  f_row : Addr
  d_row : FuncData
  f_is_casting : Addr
  d_is_casting : FuncData
  f_is_order : Addr
  d_is_order : FuncData
  f_Plan_init : Addr
  d_Plan_init : FuncData
  f_plans_by_casting : Addr
  d_plans_by_casting : FuncData
  f_best_plan : Addr
  d_best_plan : FuncData
  f_plan_apart : Addr
  d_plan_apart : FuncData
  f_checked_plan : Addr
  d_checked_plan : FuncData
  f_cheapest_order : Addr
  d_cheapest_order : FuncData
  f_Scene_init : Addr
  d_Scene_init : FuncData
  f_Player_init : Addr
  d_Player_init : FuncData
  f_Piece_init : Addr
  d_Piece_init : FuncData
  f_Play_init : Addr
  d_Play_init : FuncData
  f_Play_renew : Addr
  d_Play_renew : FuncData
  f_Play_begins : Addr
  d_Play_begins : FuncData
  f_Play_scene : Addr
  d_Play_scene : FuncData
  f_Play_player : Addr
  d_Play_player : FuncData
  f_Play_piece : Addr
  d_Play_piece : FuncData
  f_Play_ahead : Addr
  d_Play_ahead : FuncData
  f_Play_are_rising_roles : Addr
  d_Play_are_rising_roles : FuncData
  f_Play_are_fees : Addr
  d_Play_are_fees : FuncData
  f_Reader_init : Addr
  d_Reader_init : FuncData
  f_Reader_is_done : Addr
  d_Reader_is_done : FuncData
  f_Reader_number : Addr
  d_Reader_number : FuncData
  f_Reader_row : Addr
  d_Reader_row : FuncData
  f_answer_begins : Addr
  d_answer_begins : FuncData
  f_answer_scene : Addr
  d_answer_scene : FuncData
  f_answer_player : Addr
  d_answer_player : FuncData
  f_answer_piece : Addr
  d_answer_piece : FuncData
  f_answer_ahead : Addr
  d_answer_ahead : FuncData
  f_answer_check : Addr
  d_answer_check : FuncData
  f_answer_order : Addr
  d_answer_order : FuncData
  f_answer_call : Addr
  d_answer_call : FuncData
  f_answers : Addr
  d_answers : FuncData
  t_MOST_ROLES : Tok
  t_MOST_DRESSING : Tok
  t_MOST_SCENES : Tok
  t_MOST_SCENE_MINUTES : Tok
  t_MOST_PLAYERS : Tok
  t_MOST_WAGE : Tok
  t_MOST_FEE : Tok
  t_MOST_RATE : Tok
  t_LAST_MINUTE : Tok
  t_MOST_PIECES : Tok
  t_MOST_PIECE_MINUTES : Tok
  t_BEGINS : Tok
  t_SCENE : Tok
  t_PLAYER : Tok
  t_PIECE : Tok
  t_AHEAD : Tok
  t_BEST : Tok
  t_APART : Tok
  t_CHECK : Tok
  t_ORDER : Tok
/-- what the top has written -/
structure Txt (K : PySem.W.Frag) (mg : Str → Option Value) (A : Ad) : Prop where
  cl_Cheapest : Cls K A.c_Cheapest
  g_Cheapest : mg "Cheapest" = some (.ref A.c_Cheapest)
  mk_Cheapest : Mk K A.c_Cheapest A.f_Cheapest_init
  a_Cheapest_cost : NoAttr K A.c_Cheapest "cost"
  a_Cheapest_many : NoAttr K A.c_Cheapest "many"
  a_Cheapest_order : NoAttr K A.c_Cheapest "order"
  cl_Rehearsals : Cls K A.c_Rehearsals
  g_Rehearsals : mg "Rehearsals" = some (.ref A.c_Rehearsals)
  mk_Rehearsals : Mk K A.c_Rehearsals A.f_Rehearsals_init
  a_Rehearsals_players : NoAttr K A.c_Rehearsals "players"
  a_Rehearsals_pieces : NoAttr K A.c_Rehearsals "pieces"
  a_Rehearsals_orders : NoAttr K A.c_Rehearsals "orders"
  a_Rehearsals_tables : NoAttr K A.c_Rehearsals "tables"
  a_Rehearsals_known : NoAttr K A.c_Rehearsals "known"
  cl_Plan : Cls K A.c_Plan
  g_Plan : mg "Plan" = some (.ref A.c_Plan)
  mk_Plan : Mk K A.c_Plan A.f_Plan_init
  a_Plan_casting : NoAttr K A.c_Plan "casting"
  a_Plan_casting_price : NoAttr K A.c_Plan "casting_price"
  a_Plan_order : NoAttr K A.c_Plan "order"
  a_Plan_cost : NoAttr K A.c_Plan "cost"
  a_Plan_many : NoAttr K A.c_Plan "many"
  cl_Scene : Cls K A.c_Scene
  g_Scene : mg "Scene" = some (.ref A.c_Scene)
  mk_Scene : Mk K A.c_Scene A.f_Scene_init
  a_Scene_minutes : NoAttr K A.c_Scene "minutes"
  a_Scene_roles : NoAttr K A.c_Scene "roles"
  cl_Player : Cls K A.c_Player
  g_Player : mg "Player" = some (.ref A.c_Player)
  mk_Player : Mk K A.c_Player A.f_Player_init
  a_Player_wage : NoAttr K A.c_Player "wage"
  a_Player_rate : NoAttr K A.c_Player "rate"
  a_Player_since : NoAttr K A.c_Player "since"
  a_Player_till : NoAttr K A.c_Player "till"
  a_Player_fees : NoAttr K A.c_Player "fees"
  cl_Piece : Cls K A.c_Piece
  g_Piece : mg "Piece" = some (.ref A.c_Piece)
  mk_Piece : Mk K A.c_Piece A.f_Piece_init
  a_Piece_minutes : NoAttr K A.c_Piece "minutes"
  a_Piece_roles : NoAttr K A.c_Piece "roles"
  cl_Play : Cls K A.c_Play
  g_Play : mg "Play" = some (.ref A.c_Play)
  mk_Play : Mk K A.c_Play A.f_Play_init
  a_Play_dressing : NoAttr K A.c_Play "dressing"
  a_Play_scenes : NoAttr K A.c_Play "scenes"
  a_Play_players : NoAttr K A.c_Play "players"
  a_Play_pieces : NoAttr K A.c_Play "pieces"
  a_Play_pairs : NoAttr K A.c_Play "pairs"
  cl_Reader : Cls K A.c_Reader
  g_Reader : mg "Reader" = some (.ref A.c_Reader)
  mk_Reader : Mk K A.c_Reader A.f_Reader_init
  a_Reader_numbers : NoAttr K A.c_Reader "numbers"
  a_Reader_place : NoAttr K A.c_Reader "place"
  F_comes_too_soon : Fun K "comes_too_soon" "comes_too_soon" s_comes_too_soon A.f_comes_too_soon A.d_comes_too_soon
  b_comes_too_soon : Binds K A.d_comes_too_soon ["role", "minutes", "scenes"] []
  g_comes_too_soon : mg "comes_too_soon" = some (.ref A.f_comes_too_soon)
  F_lacks_time : Fun K "lacks_time" "lacks_time" s_lacks_time A.f_lacks_time A.d_lacks_time
  b_lacks_time : Binds K A.d_lacks_time ["earlier", "later", "dressing", "scenes"] []
  g_lacks_time : mg "lacks_time" = some (.ref A.f_lacks_time)
  F_are_in_one_scene : Fun K "are_in_one_scene" "are_in_one_scene" s_are_in_one_scene A.f_are_in_one_scene A.d_are_in_one_scene
  b_are_in_one_scene : Binds K A.d_are_in_one_scene ["one", "other", "scenes"] []
  g_are_in_one_scene : mg "are_in_one_scene" = some (.ref A.f_are_in_one_scene)
  F_do_clash : Fun K "do_clash" "do_clash" s_do_clash A.f_do_clash A.d_do_clash
  b_do_clash : Binds K A.d_do_clash ["one", "other", "dressing", "scenes"] []
  g_do_clash : mg "do_clash" = some (.ref A.f_do_clash)
  F_clashing_pairs : Fun K "clashing_pairs" "clashing_pairs" s_clashing_pairs A.f_clashing_pairs A.d_clashing_pairs
  b_clashing_pairs : Binds K A.d_clashing_pairs ["dressing", "scenes"] []
  g_clashing_pairs : mg "clashing_pairs" = some (.ref A.f_clashing_pairs)
  F_can_play : Fun K "can_play" "can_play" s_can_play A.f_can_play A.d_can_play
  b_can_play : Binds K A.d_can_play ["player", "role"] []
  g_can_play : mg "can_play" = some (.ref A.f_can_play)
  F_wrong_with_casting : Fun K "wrong_with_casting" "wrong_with_casting" s_wrong_with_casting A.f_wrong_with_casting A.d_wrong_with_casting
  b_wrong_with_casting : Binds K A.d_wrong_with_casting ["casting", "players", "clashes"] []
  g_wrong_with_casting : mg "wrong_with_casting" = some (.ref A.f_wrong_with_casting)
  F_all_castings : Fun K "all_castings" "all_castings" s_all_castings A.f_all_castings A.d_all_castings
  b_all_castings : Binds K A.d_all_castings ["roles", "players"] []
  g_all_castings : mg "all_castings" = some (.ref A.f_all_castings)
  F_right_castings : Fun K "right_castings" "right_castings" s_right_castings A.f_right_castings A.d_right_castings
  b_right_castings : Binds K A.d_right_castings ["play"] []
  g_right_castings : mg "right_castings" = some (.ref A.f_right_castings)
  F_casting_cost : Fun K "casting_cost" "casting_cost" s_casting_cost A.f_casting_cost A.d_casting_cost
  b_casting_cost : Binds K A.d_casting_cost ["casting", "players"] []
  g_casting_cost : mg "casting_cost" = some (.ref A.f_casting_cost)
  F_all_orders : Fun K "all_orders" "all_orders" s_all_orders A.f_all_orders A.d_all_orders
  b_all_orders : Binds K A.d_all_orders ["pieces"] []
  g_all_orders : mg "all_orders" = some (.ref A.f_all_orders)
  F_beginnings : Fun K "beginnings" "beginnings" s_beginnings A.f_beginnings A.d_beginnings
  b_beginnings : Binds K A.d_beginnings ["order", "pieces"] []
  g_beginnings : mg "beginnings" = some (.ref A.f_beginnings)
  F_is_in : Fun K "is_in" "is_in" s_is_in A.f_is_in A.d_is_in
  b_is_in : Binds K A.d_is_in ["who", "casting", "piece"] []
  g_is_in : mg "is_in" = some (.ref A.f_is_in)
  F_own_pieces : Fun K "own_pieces" "own_pieces" s_own_pieces A.f_own_pieces A.d_own_pieces
  b_own_pieces : Binds K A.d_own_pieces ["who", "casting", "pieces"] []
  g_own_pieces : mg "own_pieces" = some (.ref A.f_own_pieces)
  F_stay_for : Fun K "stay_for" "stay_for" s_stay_for A.f_stay_for A.d_stay_for
  b_stay_for : Binds K A.d_stay_for ["own", "begun", "pieces"] []
  g_stay_for : mg "stay_for" = some (.ref A.f_stay_for)
  F_stays_of_all : Fun K "stays_of_all" "stays_of_all" s_stays_of_all A.f_stays_of_all A.d_stays_of_all
  b_stays_of_all : Binds K A.d_stays_of_all ["casting", "order", "players", "pieces"] []
  g_stays_of_all : mg "stays_of_all" = some (.ref A.f_stays_of_all)
  F_stay_cost : Fun K "stay_cost" "stay_cost" s_stay_cost A.f_stay_cost A.d_stay_cost
  b_stay_cost : Binds K A.d_stay_cost ["stay", "player"] []
  g_stay_cost : mg "stay_cost" = some (.ref A.f_stay_cost)
  F_order_cost : Fun K "order_cost" "order_cost" s_order_cost A.f_order_cost A.d_order_cost
  b_order_cost : Binds K A.d_order_cost ["stays", "players"] []
  g_order_cost : mg "order_cost" = some (.ref A.f_order_cost)
  F_wrong_with_stay : Fun K "wrong_with_stay" "wrong_with_stay" s_wrong_with_stay A.f_wrong_with_stay A.d_wrong_with_stay
  b_wrong_with_stay : Binds K A.d_wrong_with_stay ["stay", "player"] []
  g_wrong_with_stay : mg "wrong_with_stay" = some (.ref A.f_wrong_with_stay)
  F_broken_pair : Fun K "broken_pair" "broken_pair" s_broken_pair A.f_broken_pair A.d_broken_pair
  b_broken_pair : Binds K A.d_broken_pair ["order", "pairs"] []
  g_broken_pair : mg "broken_pair" = some (.ref A.f_broken_pair)
  F_wrong_with_order : Fun K "wrong_with_order" "wrong_with_order" s_wrong_with_order A.f_wrong_with_order A.d_wrong_with_order
  b_wrong_with_order : Binds K A.d_wrong_with_order ["order", "pairs", "stays", "players"] []
  g_wrong_with_order : mg "wrong_with_order" = some (.ref A.f_wrong_with_order)
  F_Cheapest_init : Fun K "__init__" "Cheapest.__init__" s_Cheapest_init A.f_Cheapest_init A.d_Cheapest_init
  b_Cheapest_init : Binds K A.d_Cheapest_init ["self", "cost", "many", "order"] []
  F_Rehearsals_init : Fun K "__init__" "Rehearsals.__init__" s_Rehearsals_init A.f_Rehearsals_init A.d_Rehearsals_init
  b_Rehearsals_init : Binds K A.d_Rehearsals_init ["self", "players", "pieces", "pairs"] []
  F_Rehearsals_player_cost : Fun K "player_cost" "Rehearsals.player_cost" s_Rehearsals_player_cost A.f_Rehearsals_player_cost A.d_Rehearsals_player_cost
  b_Rehearsals_player_cost : Binds K A.d_Rehearsals_player_cost ["self", "who", "own", "begun"] []
  m_Rehearsals_player_cost : Meth K A.c_Rehearsals "player_cost" A.f_Rehearsals_player_cost
  F_Rehearsals_player_costs : Fun K "player_costs" "Rehearsals.player_costs" s_Rehearsals_player_costs A.f_Rehearsals_player_costs A.d_Rehearsals_player_costs
  b_Rehearsals_player_costs : Binds K A.d_Rehearsals_player_costs ["self", "who", "own"] []
  m_Rehearsals_player_costs : Meth K A.c_Rehearsals "player_costs" A.f_Rehearsals_player_costs
  F_Rehearsals_costs : Fun K "costs" "Rehearsals.costs" s_Rehearsals_costs A.f_Rehearsals_costs A.d_Rehearsals_costs
  b_Rehearsals_costs : Binds K A.d_Rehearsals_costs ["self", "casting"] []
  m_Rehearsals_costs : Meth K A.c_Rehearsals "costs" A.f_Rehearsals_costs
  F_Rehearsals_cheapest : Fun K "cheapest" "Rehearsals.cheapest" s_Rehearsals_cheapest A.f_Rehearsals_cheapest A.d_Rehearsals_cheapest
  b_Rehearsals_cheapest : Binds K A.d_Rehearsals_cheapest ["self", "casting"] []
  m_Rehearsals_cheapest : Meth K A.c_Rehearsals "cheapest" A.f_Rehearsals_cheapest
  F_row : Fun K "row" "row" s_row A.f_row A.d_row
  b_row : Binds K A.d_row ["numbers"] []
  g_row : mg "row" = some (.ref A.f_row)
  F_is_casting : Fun K "is_casting" "is_casting" s_is_casting A.f_is_casting A.d_is_casting
  b_is_casting : Binds K A.d_is_casting ["casting", "play"] []
  g_is_casting : mg "is_casting" = some (.ref A.f_is_casting)
  F_is_order : Fun K "is_order" "is_order" s_is_order A.f_is_order A.d_is_order
  b_is_order : Binds K A.d_is_order ["order", "play"] []
  g_is_order : mg "is_order" = some (.ref A.f_is_order)
  F_Plan_init : Fun K "__init__" "Plan.__init__" s_Plan_init A.f_Plan_init A.d_Plan_init
  b_Plan_init : Binds K A.d_Plan_init ["self", "casting", "casting_price", "cheapest"] []
  F_plans_by_casting : Fun K "plans_by_casting" "plans_by_casting" s_plans_by_casting A.f_plans_by_casting A.d_plans_by_casting
  b_plans_by_casting : Binds K A.d_plans_by_casting ["play"] []
  g_plans_by_casting : mg "plans_by_casting" = some (.ref A.f_plans_by_casting)
  F_best_plan : Fun K "best_plan" "best_plan" s_best_plan A.f_best_plan A.d_best_plan
  b_best_plan : Binds K A.d_best_plan ["play"] []
  g_best_plan : mg "best_plan" = some (.ref A.f_best_plan)
  F_plan_apart : Fun K "plan_apart" "plan_apart" s_plan_apart A.f_plan_apart A.d_plan_apart
  b_plan_apart : Binds K A.d_plan_apart ["play"] []
  g_plan_apart : mg "plan_apart" = some (.ref A.f_plan_apart)
  F_checked_plan : Fun K "checked_plan" "checked_plan" s_checked_plan A.f_checked_plan A.d_checked_plan
  b_checked_plan : Binds K A.d_checked_plan ["play", "casting", "order"] []
  g_checked_plan : mg "checked_plan" = some (.ref A.f_checked_plan)
  F_cheapest_order : Fun K "cheapest_order" "cheapest_order" s_cheapest_order A.f_cheapest_order A.d_cheapest_order
  b_cheapest_order : Binds K A.d_cheapest_order ["play", "casting"] []
  g_cheapest_order : mg "cheapest_order" = some (.ref A.f_cheapest_order)
  F_Scene_init : Fun K "__init__" "Scene.__init__" s_Scene_init A.f_Scene_init A.d_Scene_init
  b_Scene_init : Binds K A.d_Scene_init ["self", "minutes", "roles"] []
  F_Player_init : Fun K "__init__" "Player.__init__" s_Player_init A.f_Player_init A.d_Player_init
  b_Player_init : Binds K A.d_Player_init ["self", "wage", "rate", "since", "till", "fees"] []
  F_Piece_init : Fun K "__init__" "Piece.__init__" s_Piece_init A.f_Piece_init A.d_Piece_init
  b_Piece_init : Binds K A.d_Piece_init ["self", "minutes", "roles"] []
  F_Play_init : Fun K "__init__" "Play.__init__" s_Play_init A.f_Play_init A.d_Play_init
  b_Play_init : Binds K A.d_Play_init ["self"] []
  F_Play_renew : Fun K "renew" "Play.renew" s_Play_renew A.f_Play_renew A.d_Play_renew
  b_Play_renew : Binds K A.d_Play_renew ["self", "dressing"] []
  m_Play_renew : Meth K A.c_Play "renew" A.f_Play_renew
  F_Play_begins : Fun K "begins" "Play.begins" s_Play_begins A.f_Play_begins A.d_Play_begins
  b_Play_begins : Binds K A.d_Play_begins ["self", "dressing"] []
  m_Play_begins : Meth K A.c_Play "begins" A.f_Play_begins
  F_Play_scene : Fun K "scene" "Play.scene" s_Play_scene A.f_Play_scene A.d_Play_scene
  b_Play_scene : Binds K A.d_Play_scene ["self", "minutes", "roles"] []
  m_Play_scene : Meth K A.c_Play "scene" A.f_Play_scene
  F_Play_player : Fun K "player" "Play.player" s_Play_player A.f_Play_player A.d_Play_player
  b_Play_player : Binds K A.d_Play_player ["self", "wage", "rate", "since", "till", "fees"] []
  m_Play_player : Meth K A.c_Play "player" A.f_Play_player
  F_Play_piece : Fun K "piece" "Play.piece" s_Play_piece A.f_Play_piece A.d_Play_piece
  b_Play_piece : Binds K A.d_Play_piece ["self", "minutes", "roles"] []
  m_Play_piece : Meth K A.c_Play "piece" A.f_Play_piece
  F_Play_ahead : Fun K "ahead" "Play.ahead" s_Play_ahead A.f_Play_ahead A.d_Play_ahead
  b_Play_ahead : Binds K A.d_Play_ahead ["self", "i", "j"] []
  m_Play_ahead : Meth K A.c_Play "ahead" A.f_Play_ahead
  F_Play_are_rising_roles : Fun K "are_rising_roles" "Play.are_rising_roles" s_Play_are_rising_roles A.f_Play_are_rising_roles A.d_Play_are_rising_roles
  b_Play_are_rising_roles : Binds K A.d_Play_are_rising_roles ["self", "roles"] []
  m_Play_are_rising_roles : Meth K A.c_Play "are_rising_roles" A.f_Play_are_rising_roles
  F_Play_are_fees : Fun K "are_fees" "Play.are_fees" s_Play_are_fees A.f_Play_are_fees A.d_Play_are_fees
  b_Play_are_fees : Binds K A.d_Play_are_fees ["self", "fees"] []
  m_Play_are_fees : Meth K A.c_Play "are_fees" A.f_Play_are_fees
  F_Reader_init : Fun K "__init__" "Reader.__init__" s_Reader_init A.f_Reader_init A.d_Reader_init
  b_Reader_init : Binds K A.d_Reader_init ["self", "numbers"] []
  F_Reader_is_done : Fun K "is_done" "Reader.is_done" s_Reader_is_done A.f_Reader_is_done A.d_Reader_is_done
  b_Reader_is_done : Binds K A.d_Reader_is_done ["self"] []
  m_Reader_is_done : Meth K A.c_Reader "is_done" A.f_Reader_is_done
  F_Reader_number : Fun K "number" "Reader.number" s_Reader_number A.f_Reader_number A.d_Reader_number
  b_Reader_number : Binds K A.d_Reader_number ["self"] []
  m_Reader_number : Meth K A.c_Reader "number" A.f_Reader_number
  F_Reader_row : Fun K "row" "Reader.row" s_Reader_row A.f_Reader_row A.d_Reader_row
  b_Reader_row : Binds K A.d_Reader_row ["self"] []
  m_Reader_row : Meth K A.c_Reader "row" A.f_Reader_row
  F_answer_begins : Fun K "answer_begins" "answer_begins" s_answer_begins A.f_answer_begins A.d_answer_begins
  b_answer_begins : Binds K A.d_answer_begins ["play", "reader"] []
  g_answer_begins : mg "answer_begins" = some (.ref A.f_answer_begins)
  F_answer_scene : Fun K "answer_scene" "answer_scene" s_answer_scene A.f_answer_scene A.d_answer_scene
  b_answer_scene : Binds K A.d_answer_scene ["play", "reader"] []
  g_answer_scene : mg "answer_scene" = some (.ref A.f_answer_scene)
  F_answer_player : Fun K "answer_player" "answer_player" s_answer_player A.f_answer_player A.d_answer_player
  b_answer_player : Binds K A.d_answer_player ["play", "reader"] []
  g_answer_player : mg "answer_player" = some (.ref A.f_answer_player)
  F_answer_piece : Fun K "answer_piece" "answer_piece" s_answer_piece A.f_answer_piece A.d_answer_piece
  b_answer_piece : Binds K A.d_answer_piece ["play", "reader"] []
  g_answer_piece : mg "answer_piece" = some (.ref A.f_answer_piece)
  F_answer_ahead : Fun K "answer_ahead" "answer_ahead" s_answer_ahead A.f_answer_ahead A.d_answer_ahead
  b_answer_ahead : Binds K A.d_answer_ahead ["play", "reader"] []
  g_answer_ahead : mg "answer_ahead" = some (.ref A.f_answer_ahead)
  F_answer_check : Fun K "answer_check" "answer_check" s_answer_check A.f_answer_check A.d_answer_check
  b_answer_check : Binds K A.d_answer_check ["play", "reader"] []
  g_answer_check : mg "answer_check" = some (.ref A.f_answer_check)
  F_answer_order : Fun K "answer_order" "answer_order" s_answer_order A.f_answer_order A.d_answer_order
  b_answer_order : Binds K A.d_answer_order ["play", "reader"] []
  g_answer_order : mg "answer_order" = some (.ref A.f_answer_order)
  F_answer_call : Fun K "answer_call" "answer_call" s_answer_call A.f_answer_call A.d_answer_call
  b_answer_call : Binds K A.d_answer_call ["play", "reader"] []
  g_answer_call : mg "answer_call" = some (.ref A.f_answer_call)
  F_answers : Fun K "answers" "answers" s_answers A.f_answers A.d_answers
  b_answers : Binds K A.d_answers ["calls"] []
  g_answers : mg "answers" = some (.ref A.f_answers)
  g_MOST_ROLES : mg "MOST_ROLES" = some (.int (5) A.t_MOST_ROLES)
  g_MOST_DRESSING : mg "MOST_DRESSING" = some (.int (1000) A.t_MOST_DRESSING)
  g_MOST_SCENES : mg "MOST_SCENES" = some (.int (10) A.t_MOST_SCENES)
  g_MOST_SCENE_MINUTES : mg "MOST_SCENE_MINUTES" = some (.int (1000) A.t_MOST_SCENE_MINUTES)
  g_MOST_PLAYERS : mg "MOST_PLAYERS" = some (.int (4) A.t_MOST_PLAYERS)
  g_MOST_WAGE : mg "MOST_WAGE" = some (.int (100000) A.t_MOST_WAGE)
  g_MOST_FEE : mg "MOST_FEE" = some (.int (100000) A.t_MOST_FEE)
  g_MOST_RATE : mg "MOST_RATE" = some (.int (1000) A.t_MOST_RATE)
  g_LAST_MINUTE : mg "LAST_MINUTE" = some (.int (3600) A.t_LAST_MINUTE)
  g_MOST_PIECES : mg "MOST_PIECES" = some (.int (4) A.t_MOST_PIECES)
  g_MOST_PIECE_MINUTES : mg "MOST_PIECE_MINUTES" = some (.int (600) A.t_MOST_PIECE_MINUTES)
  g_BEGINS : mg "BEGINS" = some (.int (0) A.t_BEGINS)
  g_SCENE : mg "SCENE" = some (.int (1) A.t_SCENE)
  g_PLAYER : mg "PLAYER" = some (.int (2) A.t_PLAYER)
  g_PIECE : mg "PIECE" = some (.int (3) A.t_PIECE)
  g_AHEAD : mg "AHEAD" = some (.int (4) A.t_AHEAD)
  g_BEST : mg "BEST" = some (.int (5) A.t_BEST)
  g_APART : mg "APART" = some (.int (6) A.t_APART)
  g_CHECK : mg "CHECK" = some (.int (7) A.t_CHECK)
  g_ORDER : mg "ORDER" = some (.int (8) A.t_ORDER)
  n_enumerate : mg "enumerate" = none
  n_range : mg "range" = none
  n_len : mg "len" = none
  n_tuple : mg "tuple" = none
  n_min : mg "min" = none
  n_max : mg "max" = none
  n_sum : mg "sum" = none
  n_zip : mg "zip" = none
  n_all : mg "all" = none
  n_sorted : mg "sorted" = none
  n_list : mg "list" = none
def fs_Cheapest (v0 v1 v2 : V) : List (Str × V) := [("cost", v0), ("many", v1), ("order", v2)]
theorem lk_Cheapest_cost {v0 v1 v2 : V} : (fs_Cheapest v0 v1 v2).lookup ("cost" : Str) = some v0 := lk_hit
theorem put_Cheapest_cost {v0 v1 v2 x : V} : putF "cost" x (fs_Cheapest v0 v1 v2) = fs_Cheapest x v1 v2 := put_hit
theorem lk_Cheapest_many {v0 v1 v2 : V} : (fs_Cheapest v0 v1 v2).lookup ("many" : Str) = some v1 := (lk_miss (by decide +kernel) lk_hit)
theorem put_Cheapest_many {v0 v1 v2 x : V} : putF "many" x (fs_Cheapest v0 v1 v2) = fs_Cheapest v0 x v2 := (put_miss (by decide +kernel) put_hit)
theorem lk_Cheapest_order {v0 v1 v2 : V} : (fs_Cheapest v0 v1 v2).lookup ("order" : Str) = some v2 := (lk_miss (by decide +kernel) (lk_miss (by decide +kernel) lk_hit))
theorem put_Cheapest_order {v0 v1 v2 x : V} : putF "order" x (fs_Cheapest v0 v1 v2) = fs_Cheapest v0 v1 x := (put_miss (by decide +kernel) (put_miss (by decide +kernel) put_hit))
theorem new_Cheapest_cost {v0 : V} : putF "cost" v0 ([] : List (Str × V)) = [(("cost" : Str), v0)] := rfl
theorem new_Cheapest_many {v0 v1 : V} : putF "many" v1 ([(("cost" : Str), v0)] : List (Str × V)) = [(("cost" : Str), v0), (("many" : Str), v1)] := (put_miss (by decide +kernel) rfl)
theorem new_Cheapest_order {v0 v1 v2 : V} : putF "order" v2 ([(("cost" : Str), v0), (("many" : Str), v1)] : List (Str × V)) = fs_Cheapest v0 v1 v2 := (put_miss (by decide +kernel) (put_miss (by decide +kernel) rfl))
def fs_Rehearsals (v0 v1 v2 v3 v4 : V) : List (Str × V) := [("players", v0), ("pieces", v1), ("orders", v2), ("tables", v3), ("known", v4)]
theorem lk_Rehearsals_players {v0 v1 v2 v3 v4 : V} : (fs_Rehearsals v0 v1 v2 v3 v4).lookup ("players" : Str) = some v0 := lk_hit
theorem put_Rehearsals_players {v0 v1 v2 v3 v4 x : V} : putF "players" x (fs_Rehearsals v0 v1 v2 v3 v4) = fs_Rehearsals x v1 v2 v3 v4 := put_hit
theorem lk_Rehearsals_pieces {v0 v1 v2 v3 v4 : V} : (fs_Rehearsals v0 v1 v2 v3 v4).lookup ("pieces" : Str) = some v1 := (lk_miss (by decide +kernel) lk_hit)
theorem put_Rehearsals_pieces {v0 v1 v2 v3 v4 x : V} : putF "pieces" x (fs_Rehearsals v0 v1 v2 v3 v4) = fs_Rehearsals v0 x v2 v3 v4 := (put_miss (by decide +kernel) put_hit)
theorem lk_Rehearsals_orders {v0 v1 v2 v3 v4 : V} : (fs_Rehearsals v0 v1 v2 v3 v4).lookup ("orders" : Str) = some v2 := (lk_miss (by decide +kernel) (lk_miss (by decide +kernel) lk_hit))
theorem put_Rehearsals_orders {v0 v1 v2 v3 v4 x : V} : putF "orders" x (fs_Rehearsals v0 v1 v2 v3 v4) = fs_Rehearsals v0 v1 x v3 v4 := (put_miss (by decide +kernel) (put_miss (by decide +kernel) put_hit))
theorem lk_Rehearsals_tables {v0 v1 v2 v3 v4 : V} : (fs_Rehearsals v0 v1 v2 v3 v4).lookup ("tables" : Str) = some v3 := (lk_miss (by decide +kernel) (lk_miss (by decide +kernel) (lk_miss (by decide +kernel) lk_hit)))
theorem put_Rehearsals_tables {v0 v1 v2 v3 v4 x : V} : putF "tables" x (fs_Rehearsals v0 v1 v2 v3 v4) = fs_Rehearsals v0 v1 v2 x v4 := (put_miss (by decide +kernel) (put_miss (by decide +kernel) (put_miss (by decide +kernel) put_hit)))
theorem lk_Rehearsals_known {v0 v1 v2 v3 v4 : V} : (fs_Rehearsals v0 v1 v2 v3 v4).lookup ("known" : Str) = some v4 := (lk_miss (by decide +kernel) (lk_miss (by decide +kernel) (lk_miss (by decide +kernel) (lk_miss (by decide +kernel) lk_hit))))
theorem put_Rehearsals_known {v0 v1 v2 v3 v4 x : V} : putF "known" x (fs_Rehearsals v0 v1 v2 v3 v4) = fs_Rehearsals v0 v1 v2 v3 x := (put_miss (by decide +kernel) (put_miss (by decide +kernel) (put_miss (by decide +kernel) (put_miss (by decide +kernel) put_hit))))
theorem no_Rehearsals_player_cost {v0 v1 v2 v3 v4 : V} : (fs_Rehearsals v0 v1 v2 v3 v4).lookup ("player_cost" : Str) = none := (lk_miss (by decide +kernel) (lk_miss (by decide +kernel) (lk_miss (by decide +kernel) (lk_miss (by decide +kernel) (lk_miss (by decide +kernel) rfl)))))
theorem no_Rehearsals_player_costs {v0 v1 v2 v3 v4 : V} : (fs_Rehearsals v0 v1 v2 v3 v4).lookup ("player_costs" : Str) = none := (lk_miss (by decide +kernel) (lk_miss (by decide +kernel) (lk_miss (by decide +kernel) (lk_miss (by decide +kernel) (lk_miss (by decide +kernel) rfl)))))
theorem no_Rehearsals_costs {v0 v1 v2 v3 v4 : V} : (fs_Rehearsals v0 v1 v2 v3 v4).lookup ("costs" : Str) = none := (lk_miss (by decide +kernel) (lk_miss (by decide +kernel) (lk_miss (by decide +kernel) (lk_miss (by decide +kernel) (lk_miss (by decide +kernel) rfl)))))
theorem no_Rehearsals_cheapest {v0 v1 v2 v3 v4 : V} : (fs_Rehearsals v0 v1 v2 v3 v4).lookup ("cheapest" : Str) = none := (lk_miss (by decide +kernel) (lk_miss (by decide +kernel) (lk_miss (by decide +kernel) (lk_miss (by decide +kernel) (lk_miss (by decide +kernel) rfl)))))
theorem new_Rehearsals_players {v0 : V} : putF "players" v0 ([] : List (Str × V)) = [(("players" : Str), v0)] := rfl
theorem new_Rehearsals_pieces {v0 v1 : V} : putF "pieces" v1 ([(("players" : Str), v0)] : List (Str × V)) = [(("players" : Str), v0), (("pieces" : Str), v1)] := (put_miss (by decide +kernel) rfl)
theorem new_Rehearsals_orders {v0 v1 v2 : V} : putF "orders" v2 ([(("players" : Str), v0), (("pieces" : Str), v1)] : List (Str × V)) = [(("players" : Str), v0), (("pieces" : Str), v1), (("orders" : Str), v2)] := (put_miss (by decide +kernel) (put_miss (by decide +kernel) rfl))
theorem new_Rehearsals_tables {v0 v1 v2 v3 : V} : putF "tables" v3 ([(("players" : Str), v0), (("pieces" : Str), v1), (("orders" : Str), v2)] : List (Str × V)) = [(("players" : Str), v0), (("pieces" : Str), v1), (("orders" : Str), v2), (("tables" : Str), v3)] := (put_miss (by decide +kernel) (put_miss (by decide +kernel) (put_miss (by decide +kernel) rfl)))
theorem new_Rehearsals_known {v0 v1 v2 v3 v4 : V} : putF "known" v4 ([(("players" : Str), v0), (("pieces" : Str), v1), (("orders" : Str), v2), (("tables" : Str), v3)] : List (Str × V)) = fs_Rehearsals v0 v1 v2 v3 v4 := (put_miss (by decide +kernel) (put_miss (by decide +kernel) (put_miss (by decide +kernel) (put_miss (by decide +kernel) rfl))))
def fs_Plan (v0 v1 v2 v3 v4 : V) : List (Str × V) := [("casting", v0), ("casting_price", v1), ("order", v2), ("cost", v3), ("many", v4)]
theorem lk_Plan_casting {v0 v1 v2 v3 v4 : V} : (fs_Plan v0 v1 v2 v3 v4).lookup ("casting" : Str) = some v0 := lk_hit
theorem put_Plan_casting {v0 v1 v2 v3 v4 x : V} : putF "casting" x (fs_Plan v0 v1 v2 v3 v4) = fs_Plan x v1 v2 v3 v4 := put_hit
theorem lk_Plan_casting_price {v0 v1 v2 v3 v4 : V} : (fs_Plan v0 v1 v2 v3 v4).lookup ("casting_price" : Str) = some v1 := (lk_miss (by decide +kernel) lk_hit)
theorem put_Plan_casting_price {v0 v1 v2 v3 v4 x : V} : putF "casting_price" x (fs_Plan v0 v1 v2 v3 v4) = fs_Plan v0 x v2 v3 v4 := (put_miss (by decide +kernel) put_hit)
theorem lk_Plan_order {v0 v1 v2 v3 v4 : V} : (fs_Plan v0 v1 v2 v3 v4).lookup ("order" : Str) = some v2 := (lk_miss (by decide +kernel) (lk_miss (by decide +kernel) lk_hit))
theorem put_Plan_order {v0 v1 v2 v3 v4 x : V} : putF "order" x (fs_Plan v0 v1 v2 v3 v4) = fs_Plan v0 v1 x v3 v4 := (put_miss (by decide +kernel) (put_miss (by decide +kernel) put_hit))
theorem lk_Plan_cost {v0 v1 v2 v3 v4 : V} : (fs_Plan v0 v1 v2 v3 v4).lookup ("cost" : Str) = some v3 := (lk_miss (by decide +kernel) (lk_miss (by decide +kernel) (lk_miss (by decide +kernel) lk_hit)))
theorem put_Plan_cost {v0 v1 v2 v3 v4 x : V} : putF "cost" x (fs_Plan v0 v1 v2 v3 v4) = fs_Plan v0 v1 v2 x v4 := (put_miss (by decide +kernel) (put_miss (by decide +kernel) (put_miss (by decide +kernel) put_hit)))
theorem lk_Plan_many {v0 v1 v2 v3 v4 : V} : (fs_Plan v0 v1 v2 v3 v4).lookup ("many" : Str) = some v4 := (lk_miss (by decide +kernel) (lk_miss (by decide +kernel) (lk_miss (by decide +kernel) (lk_miss (by decide +kernel) lk_hit))))
theorem put_Plan_many {v0 v1 v2 v3 v4 x : V} : putF "many" x (fs_Plan v0 v1 v2 v3 v4) = fs_Plan v0 v1 v2 v3 x := (put_miss (by decide +kernel) (put_miss (by decide +kernel) (put_miss (by decide +kernel) (put_miss (by decide +kernel) put_hit))))
theorem new_Plan_casting {v0 : V} : putF "casting" v0 ([] : List (Str × V)) = [(("casting" : Str), v0)] := rfl
theorem new_Plan_casting_price {v0 v1 : V} : putF "casting_price" v1 ([(("casting" : Str), v0)] : List (Str × V)) = [(("casting" : Str), v0), (("casting_price" : Str), v1)] := (put_miss (by decide +kernel) rfl)
theorem new_Plan_order {v0 v1 v2 : V} : putF "order" v2 ([(("casting" : Str), v0), (("casting_price" : Str), v1)] : List (Str × V)) = [(("casting" : Str), v0), (("casting_price" : Str), v1), (("order" : Str), v2)] := (put_miss (by decide +kernel) (put_miss (by decide +kernel) rfl))
theorem new_Plan_cost {v0 v1 v2 v3 : V} : putF "cost" v3 ([(("casting" : Str), v0), (("casting_price" : Str), v1), (("order" : Str), v2)] : List (Str × V)) = [(("casting" : Str), v0), (("casting_price" : Str), v1), (("order" : Str), v2), (("cost" : Str), v3)] := (put_miss (by decide +kernel) (put_miss (by decide +kernel) (put_miss (by decide +kernel) rfl)))
theorem new_Plan_many {v0 v1 v2 v3 v4 : V} : putF "many" v4 ([(("casting" : Str), v0), (("casting_price" : Str), v1), (("order" : Str), v2), (("cost" : Str), v3)] : List (Str × V)) = fs_Plan v0 v1 v2 v3 v4 := (put_miss (by decide +kernel) (put_miss (by decide +kernel) (put_miss (by decide +kernel) (put_miss (by decide +kernel) rfl))))
def fs_Scene (v0 v1 : V) : List (Str × V) := [("minutes", v0), ("roles", v1)]
theorem lk_Scene_minutes {v0 v1 : V} : (fs_Scene v0 v1).lookup ("minutes" : Str) = some v0 := lk_hit
theorem put_Scene_minutes {v0 v1 x : V} : putF "minutes" x (fs_Scene v0 v1) = fs_Scene x v1 := put_hit
theorem lk_Scene_roles {v0 v1 : V} : (fs_Scene v0 v1).lookup ("roles" : Str) = some v1 := (lk_miss (by decide +kernel) lk_hit)
theorem put_Scene_roles {v0 v1 x : V} : putF "roles" x (fs_Scene v0 v1) = fs_Scene v0 x := (put_miss (by decide +kernel) put_hit)
theorem new_Scene_minutes {v0 : V} : putF "minutes" v0 ([] : List (Str × V)) = [(("minutes" : Str), v0)] := rfl
theorem new_Scene_roles {v0 v1 : V} : putF "roles" v1 ([(("minutes" : Str), v0)] : List (Str × V)) = fs_Scene v0 v1 := (put_miss (by decide +kernel) rfl)
def fs_Player (v0 v1 v2 v3 v4 : V) : List (Str × V) := [("wage", v0), ("rate", v1), ("since", v2), ("till", v3), ("fees", v4)]
theorem lk_Player_wage {v0 v1 v2 v3 v4 : V} : (fs_Player v0 v1 v2 v3 v4).lookup ("wage" : Str) = some v0 := lk_hit
theorem put_Player_wage {v0 v1 v2 v3 v4 x : V} : putF "wage" x (fs_Player v0 v1 v2 v3 v4) = fs_Player x v1 v2 v3 v4 := put_hit
theorem lk_Player_rate {v0 v1 v2 v3 v4 : V} : (fs_Player v0 v1 v2 v3 v4).lookup ("rate" : Str) = some v1 := (lk_miss (by decide +kernel) lk_hit)
theorem put_Player_rate {v0 v1 v2 v3 v4 x : V} : putF "rate" x (fs_Player v0 v1 v2 v3 v4) = fs_Player v0 x v2 v3 v4 := (put_miss (by decide +kernel) put_hit)
theorem lk_Player_since {v0 v1 v2 v3 v4 : V} : (fs_Player v0 v1 v2 v3 v4).lookup ("since" : Str) = some v2 := (lk_miss (by decide +kernel) (lk_miss (by decide +kernel) lk_hit))
theorem put_Player_since {v0 v1 v2 v3 v4 x : V} : putF "since" x (fs_Player v0 v1 v2 v3 v4) = fs_Player v0 v1 x v3 v4 := (put_miss (by decide +kernel) (put_miss (by decide +kernel) put_hit))
theorem lk_Player_till {v0 v1 v2 v3 v4 : V} : (fs_Player v0 v1 v2 v3 v4).lookup ("till" : Str) = some v3 := (lk_miss (by decide +kernel) (lk_miss (by decide +kernel) (lk_miss (by decide +kernel) lk_hit)))
theorem put_Player_till {v0 v1 v2 v3 v4 x : V} : putF "till" x (fs_Player v0 v1 v2 v3 v4) = fs_Player v0 v1 v2 x v4 := (put_miss (by decide +kernel) (put_miss (by decide +kernel) (put_miss (by decide +kernel) put_hit)))
theorem lk_Player_fees {v0 v1 v2 v3 v4 : V} : (fs_Player v0 v1 v2 v3 v4).lookup ("fees" : Str) = some v4 := (lk_miss (by decide +kernel) (lk_miss (by decide +kernel) (lk_miss (by decide +kernel) (lk_miss (by decide +kernel) lk_hit))))
theorem put_Player_fees {v0 v1 v2 v3 v4 x : V} : putF "fees" x (fs_Player v0 v1 v2 v3 v4) = fs_Player v0 v1 v2 v3 x := (put_miss (by decide +kernel) (put_miss (by decide +kernel) (put_miss (by decide +kernel) (put_miss (by decide +kernel) put_hit))))
theorem new_Player_wage {v0 : V} : putF "wage" v0 ([] : List (Str × V)) = [(("wage" : Str), v0)] := rfl
theorem new_Player_rate {v0 v1 : V} : putF "rate" v1 ([(("wage" : Str), v0)] : List (Str × V)) = [(("wage" : Str), v0), (("rate" : Str), v1)] := (put_miss (by decide +kernel) rfl)
theorem new_Player_since {v0 v1 v2 : V} : putF "since" v2 ([(("wage" : Str), v0), (("rate" : Str), v1)] : List (Str × V)) = [(("wage" : Str), v0), (("rate" : Str), v1), (("since" : Str), v2)] := (put_miss (by decide +kernel) (put_miss (by decide +kernel) rfl))
theorem new_Player_till {v0 v1 v2 v3 : V} : putF "till" v3 ([(("wage" : Str), v0), (("rate" : Str), v1), (("since" : Str), v2)] : List (Str × V)) = [(("wage" : Str), v0), (("rate" : Str), v1), (("since" : Str), v2), (("till" : Str), v3)] := (put_miss (by decide +kernel) (put_miss (by decide +kernel) (put_miss (by decide +kernel) rfl)))
theorem new_Player_fees {v0 v1 v2 v3 v4 : V} : putF "fees" v4 ([(("wage" : Str), v0), (("rate" : Str), v1), (("since" : Str), v2), (("till" : Str), v3)] : List (Str × V)) = fs_Player v0 v1 v2 v3 v4 := (put_miss (by decide +kernel) (put_miss (by decide +kernel) (put_miss (by decide +kernel) (put_miss (by decide +kernel) rfl))))
def fs_Piece (v0 v1 : V) : List (Str × V) := [("minutes", v0), ("roles", v1)]
theorem lk_Piece_minutes {v0 v1 : V} : (fs_Piece v0 v1).lookup ("minutes" : Str) = some v0 := lk_hit
theorem put_Piece_minutes {v0 v1 x : V} : putF "minutes" x (fs_Piece v0 v1) = fs_Piece x v1 := put_hit
theorem lk_Piece_roles {v0 v1 : V} : (fs_Piece v0 v1).lookup ("roles" : Str) = some v1 := (lk_miss (by decide +kernel) lk_hit)
theorem put_Piece_roles {v0 v1 x : V} : putF "roles" x (fs_Piece v0 v1) = fs_Piece v0 x := (put_miss (by decide +kernel) put_hit)
theorem new_Piece_minutes {v0 : V} : putF "minutes" v0 ([] : List (Str × V)) = [(("minutes" : Str), v0)] := rfl
theorem new_Piece_roles {v0 v1 : V} : putF "roles" v1 ([(("minutes" : Str), v0)] : List (Str × V)) = fs_Piece v0 v1 := (put_miss (by decide +kernel) rfl)
def fs_Play (v0 v1 v2 v3 v4 : V) : List (Str × V) := [("dressing", v0), ("scenes", v1), ("players", v2), ("pieces", v3), ("pairs", v4)]
theorem lk_Play_dressing {v0 v1 v2 v3 v4 : V} : (fs_Play v0 v1 v2 v3 v4).lookup ("dressing" : Str) = some v0 := lk_hit
theorem put_Play_dressing {v0 v1 v2 v3 v4 x : V} : putF "dressing" x (fs_Play v0 v1 v2 v3 v4) = fs_Play x v1 v2 v3 v4 := put_hit
theorem lk_Play_scenes {v0 v1 v2 v3 v4 : V} : (fs_Play v0 v1 v2 v3 v4).lookup ("scenes" : Str) = some v1 := (lk_miss (by decide +kernel) lk_hit)
theorem put_Play_scenes {v0 v1 v2 v3 v4 x : V} : putF "scenes" x (fs_Play v0 v1 v2 v3 v4) = fs_Play v0 x v2 v3 v4 := (put_miss (by decide +kernel) put_hit)
theorem lk_Play_players {v0 v1 v2 v3 v4 : V} : (fs_Play v0 v1 v2 v3 v4).lookup ("players" : Str) = some v2 := (lk_miss (by decide +kernel) (lk_miss (by decide +kernel) lk_hit))
theorem put_Play_players {v0 v1 v2 v3 v4 x : V} : putF "players" x (fs_Play v0 v1 v2 v3 v4) = fs_Play v0 v1 x v3 v4 := (put_miss (by decide +kernel) (put_miss (by decide +kernel) put_hit))
theorem lk_Play_pieces {v0 v1 v2 v3 v4 : V} : (fs_Play v0 v1 v2 v3 v4).lookup ("pieces" : Str) = some v3 := (lk_miss (by decide +kernel) (lk_miss (by decide +kernel) (lk_miss (by decide +kernel) lk_hit)))
theorem put_Play_pieces {v0 v1 v2 v3 v4 x : V} : putF "pieces" x (fs_Play v0 v1 v2 v3 v4) = fs_Play v0 v1 v2 x v4 := (put_miss (by decide +kernel) (put_miss (by decide +kernel) (put_miss (by decide +kernel) put_hit)))
theorem lk_Play_pairs {v0 v1 v2 v3 v4 : V} : (fs_Play v0 v1 v2 v3 v4).lookup ("pairs" : Str) = some v4 := (lk_miss (by decide +kernel) (lk_miss (by decide +kernel) (lk_miss (by decide +kernel) (lk_miss (by decide +kernel) lk_hit))))
theorem put_Play_pairs {v0 v1 v2 v3 v4 x : V} : putF "pairs" x (fs_Play v0 v1 v2 v3 v4) = fs_Play v0 v1 v2 v3 x := (put_miss (by decide +kernel) (put_miss (by decide +kernel) (put_miss (by decide +kernel) (put_miss (by decide +kernel) put_hit))))
theorem no_Play_renew {v0 v1 v2 v3 v4 : V} : (fs_Play v0 v1 v2 v3 v4).lookup ("renew" : Str) = none := (lk_miss (by decide +kernel) (lk_miss (by decide +kernel) (lk_miss (by decide +kernel) (lk_miss (by decide +kernel) (lk_miss (by decide +kernel) rfl)))))
theorem no_Play_begins {v0 v1 v2 v3 v4 : V} : (fs_Play v0 v1 v2 v3 v4).lookup ("begins" : Str) = none := (lk_miss (by decide +kernel) (lk_miss (by decide +kernel) (lk_miss (by decide +kernel) (lk_miss (by decide +kernel) (lk_miss (by decide +kernel) rfl)))))
theorem no_Play_scene {v0 v1 v2 v3 v4 : V} : (fs_Play v0 v1 v2 v3 v4).lookup ("scene" : Str) = none := (lk_miss (by decide +kernel) (lk_miss (by decide +kernel) (lk_miss (by decide +kernel) (lk_miss (by decide +kernel) (lk_miss (by decide +kernel) rfl)))))
theorem no_Play_player {v0 v1 v2 v3 v4 : V} : (fs_Play v0 v1 v2 v3 v4).lookup ("player" : Str) = none := (lk_miss (by decide +kernel) (lk_miss (by decide +kernel) (lk_miss (by decide +kernel) (lk_miss (by decide +kernel) (lk_miss (by decide +kernel) rfl)))))
theorem no_Play_piece {v0 v1 v2 v3 v4 : V} : (fs_Play v0 v1 v2 v3 v4).lookup ("piece" : Str) = none := (lk_miss (by decide +kernel) (lk_miss (by decide +kernel) (lk_miss (by decide +kernel) (lk_miss (by decide +kernel) (lk_miss (by decide +kernel) rfl)))))
theorem no_Play_ahead {v0 v1 v2 v3 v4 : V} : (fs_Play v0 v1 v2 v3 v4).lookup ("ahead" : Str) = none := (lk_miss (by decide +kernel) (lk_miss (by decide +kernel) (lk_miss (by decide +kernel) (lk_miss (by decide +kernel) (lk_miss (by decide +kernel) rfl)))))
theorem no_Play_are_rising_roles {v0 v1 v2 v3 v4 : V} : (fs_Play v0 v1 v2 v3 v4).lookup ("are_rising_roles" : Str) = none := (lk_miss (by decide +kernel) (lk_miss (by decide +kernel) (lk_miss (by decide +kernel) (lk_miss (by decide +kernel) (lk_miss (by decide +kernel) rfl)))))
theorem no_Play_are_fees {v0 v1 v2 v3 v4 : V} : (fs_Play v0 v1 v2 v3 v4).lookup ("are_fees" : Str) = none := (lk_miss (by decide +kernel) (lk_miss (by decide +kernel) (lk_miss (by decide +kernel) (lk_miss (by decide +kernel) (lk_miss (by decide +kernel) rfl)))))
theorem new_Play_dressing {v0 : V} : putF "dressing" v0 ([] : List (Str × V)) = [(("dressing" : Str), v0)] := rfl
theorem new_Play_scenes {v0 v1 : V} : putF "scenes" v1 ([(("dressing" : Str), v0)] : List (Str × V)) = [(("dressing" : Str), v0), (("scenes" : Str), v1)] := (put_miss (by decide +kernel) rfl)
theorem new_Play_players {v0 v1 v2 : V} : putF "players" v2 ([(("dressing" : Str), v0), (("scenes" : Str), v1)] : List (Str × V)) = [(("dressing" : Str), v0), (("scenes" : Str), v1), (("players" : Str), v2)] := (put_miss (by decide +kernel) (put_miss (by decide +kernel) rfl))
theorem new_Play_pieces {v0 v1 v2 v3 : V} : putF "pieces" v3 ([(("dressing" : Str), v0), (("scenes" : Str), v1), (("players" : Str), v2)] : List (Str × V)) = [(("dressing" : Str), v0), (("scenes" : Str), v1), (("players" : Str), v2), (("pieces" : Str), v3)] := (put_miss (by decide +kernel) (put_miss (by decide +kernel) (put_miss (by decide +kernel) rfl)))
theorem new_Play_pairs {v0 v1 v2 v3 v4 : V} : putF "pairs" v4 ([(("dressing" : Str), v0), (("scenes" : Str), v1), (("players" : Str), v2), (("pieces" : Str), v3)] : List (Str × V)) = fs_Play v0 v1 v2 v3 v4 := (put_miss (by decide +kernel) (put_miss (by decide +kernel) (put_miss (by decide +kernel) (put_miss (by decide +kernel) rfl))))
def fs_Reader (v0 v1 : V) : List (Str × V) := [("numbers", v0), ("place", v1)]
theorem lk_Reader_numbers {v0 v1 : V} : (fs_Reader v0 v1).lookup ("numbers" : Str) = some v0 := lk_hit
theorem put_Reader_numbers {v0 v1 x : V} : putF "numbers" x (fs_Reader v0 v1) = fs_Reader x v1 := put_hit
theorem lk_Reader_place {v0 v1 : V} : (fs_Reader v0 v1).lookup ("place" : Str) = some v1 := (lk_miss (by decide +kernel) lk_hit)
theorem put_Reader_place {v0 v1 x : V} : putF "place" x (fs_Reader v0 v1) = fs_Reader v0 x := (put_miss (by decide +kernel) put_hit)
theorem no_Reader_is_done {v0 v1 : V} : (fs_Reader v0 v1).lookup ("is_done" : Str) = none := (lk_miss (by decide +kernel) (lk_miss (by decide +kernel) rfl))
theorem no_Reader_number {v0 v1 : V} : (fs_Reader v0 v1).lookup ("number" : Str) = none := (lk_miss (by decide +kernel) (lk_miss (by decide +kernel) rfl))
theorem no_Reader_row {v0 v1 : V} : (fs_Reader v0 v1).lookup ("row" : Str) = none := (lk_miss (by decide +kernel) (lk_miss (by decide +kernel) rfl))
theorem new_Reader_numbers {v0 : V} : putF "numbers" v0 ([] : List (Str × V)) = [(("numbers" : Str), v0)] := rfl
theorem new_Reader_place {v0 v1 : V} : putF "place" v1 ([(("numbers" : Str), v0)] : List (Str × V)) = fs_Reader v0 v1 := (put_miss (by decide +kernel) rfl)
/-- comes_too_soon -/
def t_comes_too_soon (K : PySem.W.Frag) (A : Ad) : TS :=
  (tSeq (tAsg (tC (.int 0)) (gName 3))
    (tSeq (tFor (iList K (tVar 2)) (gName 4)
    (tSeq (tIfS (tAnd (tTest (tOp (rIn K false) (tVar 0) (tFld K (tVar 4) "roles"))) (tTest (tOp oLt (tVar 3) (tVar 1))))
    (tRet (tC (.bl true)))
    tNext)
    (tAsg (tOp oAdd (tVar 3) (tFld K (tVar 4) "minutes")) (gName 3))))
    (tRet (tC (.bl false)))))
/-- are_in_one_scene -/
def t_are_in_one_scene (K : PySem.W.Frag) (A : Ad) : TS :=
  (tSeq (tFor (iList K (tVar 2)) (gName 3)
    (tIfS (tAnd (tTest (tOp (rIn K false) (tVar 0) (tFld K (tVar 3) "roles"))) (tTest (tOp (rIn K false) (tVar 1) (tFld K (tVar 3) "roles"))))
    (tRet (tC (.bl true)))
    tNext))
    (tRet (tC (.bl false))))
/-- can_play -/
def t_can_play (K : PySem.W.Frag) (A : Ad) : TS :=
  (tRet (tOp oGt (tOp (rIxL K) (tFld K (tVar 0) "fees") (tVar 1)) (tC (.int 0))))
/-- all_castings -/
def t_all_castings (K : PySem.W.Frag) (A : Ad) : TS :=
  (tSeq (tAsg (tLst (tCons (tLst tNil) tNil)) (gName 2))
    (tSeq (tFor (iRng1 (tCons (tVar 0) tNil)) (gName 3)
    (tSeq (tAsg (tLst tNil) (gName 4))
    (tSeq (tFor (iList K (tVar 2)) (gName 5)
    (tDrop (tBM K "list" rExtend (tVar 4) (tCons (tLc (iRng1 (tCons (tVar 1) tNil)) (gName 6) tYes (tOp rCat (tVar 5) (tLst (tCons (tVar 6) tNil))) [6]) tNil))))
    (tAsg (tVar 4) (gName 2)))))
    (tRet (tVar 2))))
/-- casting_cost -/
def t_casting_cost (K : PySem.W.Frag) (A : Ad) : TS :=
  (tSeq (tAsg (tC (.int 0)) (gName 2))
    (tSeq (tFor (iEnum K (tCons (tVar 1) tNil)) (gTup K 2 (gCons (gName 3) (gCons (gName 4) gNil)))
    (tIfS (tTest (tOp (rIn K false) (tVar 3) (tVar 0)))
    (tAsg (tOp oAdd (tVar 2) (tFld K (tVar 4) "wage")) (gName 2))
    tNext))
    (tSeq (tFor (iEnum K (tCons (tVar 0) tNil)) (gTup K 2 (gCons (gName 5) (gCons (gName 3) gNil)))
    (tAsg (tOp oSub (tOp oAdd (tVar 2) (tOp (rIxL K) (tFld K (tOp (rIxL K) (tVar 1) (tVar 3)) "fees") (tVar 5))) (tC (.int 1))) (gName 2)))
    (tRet (tVar 2)))))
/-- all_orders -/
def t_all_orders (K : PySem.W.Frag) (A : Ad) : TS :=
  (tSeq (tAsg (tLst (tCons (tLst tNil) tNil)) (gName 1))
    (tSeq (tFor (iRng1 (tCons (tVar 0) tNil)) (gName 2)
    (tSeq (tAsg (tLst tNil) (gName 3))
    (tSeq (tFor (iList K (tVar 1)) (gName 4)
    (tDrop (tBM K "list" rExtend (tVar 3) (tCons (tLc (iRng1 (tCons (tVar 0) tNil)) (gName 5) (tTest (tOp (rIn K true) (tVar 5) (tVar 4))) (tOp rCat (tVar 4) (tLst (tCons (tVar 5) tNil))) [5]) tNil))))
    (tAsg (tVar 3) (gName 1)))))
    (tRet (tVar 1))))
/-- beginnings -/
def t_beginnings (K : PySem.W.Frag) (A : Ad) : TS :=
  (tSeq (tAsg (tOp rRep (tLst (tCons (tC (.int 0)) tNil)) (tCB (rLenS K) (tCons (tVar 1) tNil))) (gName 2))
    (tSeq (tAsg (tC (.int 0)) (gName 3))
    (tSeq (tFor (iList K (tVar 0)) (gName 4)
    (tSeq (tAsg (tVar 3) (gSub (tVar 2) (tVar 4) rSetL))
    (tAsg (tOp oAdd (tVar 3) (tFld K (tOp (rIxL K) (tVar 1) (tVar 4)) "minutes")) (gName 3))))
    (tRet (tVar 2)))))
/-- is_in -/
def t_is_in (K : PySem.W.Frag) (A : Ad) : TS :=
  (tRet (tOp (rIn K false) (tVar 0) (tLc (iList K (tFld K (tVar 2) "roles")) (gName 3) tYes (tOp (rIxL K) (tVar 1) (tVar 3)) [3])))
/-- stay_for -/
def t_stay_for (K : PySem.W.Frag) (A : Ad) : TS :=
  (tSeq (tIfS (tTest (tOp rEq (tCB (rLenS K) (tCons (tVar 0) tNil)) (tC (.int 0))))
    (tRet (tLst tNil))
    tNext)
    (tSeq (tAsg (tCB (rMin K) (tCons (tLc (iTup K (tVar 0)) (gName 4) tYes (tOp (rIxL K) (tVar 1) (tVar 4)) [4]) tNil)) (gName 3))
    (tSeq (tAsg (tCB (rMax K) (tCons (tLc (iTup K (tVar 0)) (gName 4) tYes (tOp oAdd (tOp (rIxL K) (tVar 1) (tVar 4)) (tFld K (tOp (rIxL K) (tVar 2) (tVar 4)) "minutes")) [4]) tNil)) (gName 5))
    (tSeq (tAsg (tCB (rSum K) (tCons (tLc (iTup K (tVar 0)) (gName 4) tYes (tFld K (tOp (rIxL K) (tVar 2) (tVar 4)) "minutes") [4]) tNil)) (gName 6))
    (tRet (tLst (tCons (tVar 3) (tCons (tVar 5) (tCons (tOp oSub (tOp oSub (tVar 5) (tVar 3)) (tVar 6)) tNil)))))))))
/-- stay_cost -/
def t_stay_cost (K : PySem.W.Frag) (A : Ad) : TS :=
  (tSeq (tIfS (tTest (tOp (rEqNil K) (tVar 0) (tLst tNil)))
    (tRet (tC (.int 0)))
    tNext)
    (tRet (tOp oMul (tFld K (tVar 1) "rate") (tOp oSub (tOp (rIxL K) (tVar 0) (tC (.int 1))) (tOp (rIxL K) (tVar 0) (tC (.int 0)))))))
/-- wrong_with_stay -/
def t_wrong_with_stay (K : PySem.W.Frag) (A : Ad) : TS :=
  (tSeq (tIfS (tTest (tOp (rEqNil K) (tVar 0) (tLst tNil)))
    (tRet (tC (.int 0)))
    tNext)
    (tSeq (tIfS (tTest (tOp oLt (tOp (rIxL K) (tVar 0) (tC (.int 0))) (tFld K (tVar 1) "since")))
    (tRet (tC (.int 2)))
    tNext)
    (tSeq (tIfS (tTest (tOp oGt (tOp (rIxL K) (tVar 0) (tC (.int 1))) (tFld K (tVar 1) "till")))
    (tRet (tC (.int 3)))
    tNext)
    (tRet (tC (.int 0))))))
/-- broken_pair -/
def t_broken_pair (K : PySem.W.Frag) (A : Ad) : TS :=
  (tSeq (tFor (iEnum K (tCons (tVar 1) tNil)) (gTup K 2 (gCons (gName 2) (gCons (gName 3) gNil)))
    (tIfS (tTest (tOp oGt (tBM K "list" (rIndex K) (tVar 0) (tCons (tOp (rIxT K) (tVar 3) (tC (.int 0))) tNil)) (tBM K "list" (rIndex K) (tVar 0) (tCons (tOp (rIxT K) (tVar 3) (tC (.int 1))) tNil))))
    (tRet (tVar 2))
    tNext))
    (tRet (tC .non)))
/-- Cheapest.__init__ -/
def t_Cheapest_init (K : PySem.W.Frag) (A : Ad) : TS :=
  (tSeq (sFld K (tVar 0) (tVar 1) "cost")
    (tSeq (sFld K (tVar 0) (tVar 2) "many")
    (sFld K (tVar 0) (tVar 3) "order")))
/-- row -/
def t_row (K : PySem.W.Frag) (A : Ad) : TS :=
  (tRet (tOp rCat (tLst (tCons (tCB (rLenS K) (tCons (tVar 0) tNil)) tNil)) (tVar 0)))
/-- is_casting -/
def t_is_casting (K : PySem.W.Frag) (A : Ad) : TS :=
  (tSeq (tIfS (tTest (tOp rNe (tCB (rLenS K) (tCons (tVar 0) tNil)) (tCB (rLenS K) (tCons (tFld K (tVar 1) "dressing") tNil))))
    (tRet (tC (.bl false)))
    tNext)
    (tRet (tCB (rAll K) (tCons (tLc (iList K (tVar 0)) (gName 2) tYes (tOp oLt (tVar 2) (tCB (rLenS K) (tCons (tFld K (tVar 1) "players") tNil))) [2]) tNil))))
/-- is_order -/
def t_is_order (K : PySem.W.Frag) (A : Ad) : TS :=
  (tRet (tOp (rEqD K) (tCB (rSorted K) (tCons (tVar 0) tNil)) (tLstRg (tRg1 (tCB (rLenS K) (tCons (tFld K (tVar 1) "pieces") tNil))))))
/-- Plan.__init__ -/
def t_Plan_init (K : PySem.W.Frag) (A : Ad) : TS :=
  (tSeq (sFld K (tVar 0) (tVar 1) "casting")
    (tSeq (sFld K (tVar 0) (tVar 2) "casting_price")
    (tSeq (sFld K (tVar 0) (tFld K (tVar 3) "order") "order")
    (tSeq (sFld K (tVar 0) (tOp oAdd (tVar 2) (tFld K (tVar 3) "cost")) "cost")
    (sFld K (tVar 0) (tFld K (tVar 3) "many") "many")))))
/-- Scene.__init__ -/
def t_Scene_init (K : PySem.W.Frag) (A : Ad) : TS :=
  (tSeq (sFld K (tVar 0) (tVar 1) "minutes")
    (sFld K (tVar 0) (tVar 2) "roles"))
/-- Player.__init__ -/
def t_Player_init (K : PySem.W.Frag) (A : Ad) : TS :=
  (tSeq (sFld K (tVar 0) (tVar 1) "wage")
    (tSeq (sFld K (tVar 0) (tVar 2) "rate")
    (tSeq (sFld K (tVar 0) (tVar 3) "since")
    (tSeq (sFld K (tVar 0) (tVar 4) "till")
    (sFld K (tVar 0) (tVar 5) "fees")))))
/-- Piece.__init__ -/
def t_Piece_init (K : PySem.W.Frag) (A : Ad) : TS :=
  (tSeq (sFld K (tVar 0) (tVar 1) "minutes")
    (sFld K (tVar 0) (tVar 2) "roles"))
/-- Play.renew -/
def t_Play_renew (K : PySem.W.Frag) (A : Ad) : TS :=
  (tSeq (sFld K (tVar 0) (tVar 1) "dressing")
    (tSeq (sFld K (tVar 0) (tLst tNil) "scenes")
    (tSeq (sFld K (tVar 0) (tLst tNil) "players")
    (tSeq (sFld K (tVar 0) (tLst tNil) "pieces")
    (sFld K (tVar 0) (tLst tNil) "pairs")))))
/-- Play.ahead -/
def t_Play_ahead (K : PySem.W.Frag) (A : Ad) : TS :=
  (tSeq (tIfS (tOr (tTest (tOp oGe (tVar 1) (tCB (rLenS K) (tCons (tFld K (tVar 0) "pieces") tNil)))) (tTest (tOp oGe (tVar 2) (tCB (rLenS K) (tCons (tFld K (tVar 0) "pieces") tNil)))))
    (tRet (tUn oNeg (tC (.int 2))))
    tNext)
    (tSeq (tIfS (tOr (tTest (tOp rEq (tVar 1) (tVar 2))) (tTest (tOp (rInD K) (tTup (tCons (tVar 1) (tCons (tVar 2) tNil))) (tFld K (tVar 0) "pairs"))))
    (tRet (tUn oNeg (tC (.int 3))))
    tNext)
    (tSeq (tDrop (tBM K "list" rAppend (tFld K (tVar 0) "pairs") (tCons (tTup (tCons (tVar 1) (tCons (tVar 2) tNil))) tNil)))
    (tRet (tCB (rLenS K) (tCons (tFld K (tVar 0) "pairs") tNil))))))
/-- Play.are_rising_roles -/
def t_Play_are_rising_roles (K : PySem.W.Frag) (A : Ad) : TS :=
  (tSeq (tAsg (tUn oNeg (tC (.int 1))) (gName 2))
    (tSeq (tFor (iList K (tVar 1)) (gName 3)
    (tSeq (tIfS (tOr (tTest (tOp oLe (tVar 3) (tVar 2))) (tTest (tOp oGe (tVar 3) (tCB (rLenS K) (tCons (tFld K (tVar 0) "dressing") tNil)))))
    (tRet (tC (.bl false)))
    tNext)
    (tAsg (tVar 3) (gName 2))))
    (tRet (tC (.bl true)))))
/-- Play.are_fees -/
def t_Play_are_fees (K : PySem.W.Frag) (A : Ad) : TS :=
  (tSeq (tIfS (tTest (tOp rNe (tCB (rLenS K) (tCons (tVar 1) tNil)) (tCB (rLenS K) (tCons (tFld K (tVar 0) "dressing") tNil))))
    (tRet (tC (.bl false)))
    tNext)
    (tSeq (tFor (iList K (tVar 1)) (gName 2)
    (tIfS (tTest (tOp oGt (tVar 2) (tOp oAdd (tC (.int 100000)) (tC (.int 1)))))
    (tRet (tC (.bl false)))
    tNext))
    (tRet (tC (.bl true)))))
/-- Reader.__init__ -/
def t_Reader_init (K : PySem.W.Frag) (A : Ad) : TS :=
  (tSeq (sFld K (tVar 0) (tVar 1) "numbers")
    (sFld K (tVar 0) (tC (.int 0)) "place"))
/-- Reader.is_done -/
def t_Reader_is_done (K : PySem.W.Frag) (A : Ad) : TS :=
  (tRet (tOp oGe (tFld K (tVar 0) "place") (tCB (rLenS K) (tCons (tFld K (tVar 0) "numbers") tNil))))
/-- Reader.number -/
def t_Reader_number (K : PySem.W.Frag) (A : Ad) : TS :=
  (tSeq (tAsg (tOp (rIxL K) (tFld K (tVar 0) "numbers") (tFld K (tVar 0) "place")) (gName 1))
    (tSeq (sFld K (tVar 0) (tOp oAdd (tFld K (tVar 0) "place") (tC (.int 1))) "place")
    (tRet (tVar 1))))
/-- lacks_time -/
def t_lacks_time (K : PySem.W.Frag) (A : Ad) (sp_comes_too_soon : Sp) : TS :=
  (tSeq (tFor (iEnum K (tCons (tVar 3) tNil)) (gTup K 2 (gCons (gName 4) (gCons (gName 5) gNil)))
    (tIfS (tAnd (tTest (tOp (rIn K false) (tVar 0) (tFld K (tVar 5) "roles"))) (tB (tCall sp_comes_too_soon [] E0 (tCons (tVar 1) (tCons (tOp (rIxL K) (tVar 2) (tVar 1)) (tCons (tSl (rSlL K) (tVar 3) (tPart (tOp oAdd (tVar 4) (tC (.int 1)))) tNoPart) tNil))))))
    (tRet (tC (.bl true)))
    tNext))
    (tRet (tC (.bl false))))
/-- wrong_with_casting -/
def t_wrong_with_casting (K : PySem.W.Frag) (A : Ad) (sp_can_play : Sp) : TS :=
  (tSeq (tFor (iEnum K (tCons (tVar 0) tNil)) (gTup K 2 (gCons (gName 3) (gCons (gName 4) gNil)))
    (tIfS (tNot (tB (tCall sp_can_play [] E0 (tCons (tOp (rIxL K) (tVar 1) (tVar 4)) (tCons (tVar 3) tNil)))))
    (tRet (tLst (tCons (tC (.int 1)) (tCons (tVar 3) (tCons (tVar 4) tNil)))))
    tNext))
    (tSeq (tFor (iList K (tVar 2)) (gTup K 2 (gCons (gName 5) (gCons (gName 6) gNil)))
    (tIfS (tTest (tOp rEq (tOp (rIxL K) (tVar 0) (tVar 5)) (tOp (rIxL K) (tVar 0) (tVar 6))))
    (tRet (tLst (tCons (tC (.int 2)) (tCons (tVar 5) (tCons (tVar 6) tNil)))))
    tNext))
    (tRet (tLst tNil))))
/-- own_pieces -/
def t_own_pieces (K : PySem.W.Frag) (A : Ad) (sp_is_in : Sp) : TS :=
  (tRet (tCB (rTupOf K) (tCons (tLc (iEnum K (tCons (tVar 2) tNil)) (gTup K 2 (gCons (gName 3) (gCons (gName 4) gNil))) (tB (tCall sp_is_in [] E0 (tCons (tVar 0) (tCons (tVar 1) (tCons (tVar 4) tNil))))) (tVar 3) [3, 4]) tNil)))
/-- order_cost -/
def t_order_cost (K : PySem.W.Frag) (A : Ad) (sp_stay_cost : Sp) : TS :=
  (tRet (tCB (rSum K) (tCons (tLc (iZip K (tCons (tVar 0) (tCons (tVar 1) tNil))) (gTup K 2 (gCons (gName 2) (gCons (gName 3) gNil))) tYes (tCall sp_stay_cost [] E0 (tCons (tVar 2) (tCons (tVar 3) tNil))) [2, 3]) tNil)))
/-- wrong_with_order -/
def t_wrong_with_order (K : PySem.W.Frag) (A : Ad) (sp_broken_pair sp_wrong_with_stay : Sp) : TS :=
  (tSeq (tAsg (tCall sp_broken_pair [] E0 (tCons (tVar 0) (tCons (tVar 1) tNil))) (gName 4))
    (tSeq (tIfS (tTest (tOp oNotN (tVar 4) (tC .non)))
    (tRet (tLst (tCons (tC (.int 1)) (tCons (tVar 4) tNil))))
    tNext)
    (tSeq (tFor (iEnum K (tCons (tVar 3) tNil)) (gTup K 2 (gCons (gName 5) (gCons (gName 6) gNil)))
    (tSeq (tAsg (tCall sp_wrong_with_stay [] E0 (tCons (tOp (rIxL K) (tVar 2) (tVar 5)) (tCons (tVar 6) tNil))) (gName 7))
    (tIfS (tTest (tOp rNe (tVar 7) (tC (.int 0))))
    (tRet (tLst (tCons (tVar 7) (tCons (tVar 5) tNil))))
    tNext)))
    (tRet (tLst tNil)))))
/-- Rehearsals.__init__ -/
def t_Rehearsals_init (P : Program) (w : World) (K : PySem.W.Frag) (A : Ad) (sp_all_orders sp_broken_pair sp_beginnings : Sp) : TS :=
  (tSeq (sFld K (tVar 0) (tVar 1) "players")
    (tSeq (sFld K (tVar 0) (tVar 2) "pieces")
    (tSeq (sFld K (tVar 0) (tLc (iList K (tCall sp_all_orders [] E0 (tCons (tCB (rLenS K) (tCons (tVar 2) tNil)) tNil))) (gName 4) (tTest (tOp oIsN (tCall sp_broken_pair [] E0 (tCons (tVar 4) (tCons (tVar 3) tNil))) (tC .non))) (tVar 4) [4]) "orders")
    (tSeq (sFld K (tVar 0) (tLc (iList K (tFld K (tVar 0) "orders")) (gName 4) tYes (tCall sp_beginnings [] E0 (tCons (tVar 4) (tCons (tVar 2) tNil))) [4]) "tables")
    (sFld K (tVar 0) (tNewN P w) "known")))))
/-- Rehearsals.player_cost -/
def t_Rehearsals_player_cost (K : PySem.W.Frag) (A : Ad) (sp_stay_for sp_wrong_with_stay sp_stay_cost : Sp) : TS :=
  (tSeq (tAsg (tCall sp_stay_for [] E0 (tCons (tVar 2) (tCons (tVar 3) (tCons (tFld K (tVar 0) "pieces") tNil)))) (gName 4))
    (tSeq (tIfS (tTest (tOp rNe (tCall sp_wrong_with_stay [] E0 (tCons (tVar 4) (tCons (tOp (rIxL K) (tFld K (tVar 0) "players") (tVar 1)) tNil))) (tC (.int 0))))
    (tRet (tC .non))
    tNext)
    (tRet (tCall sp_stay_cost [] E0 (tCons (tVar 4) (tCons (tOp (rIxL K) (tFld K (tVar 0) "players") (tVar 1)) tNil))))))
/-- Play.__init__ -/
def t_Play_init (K : PySem.W.Frag) (A : Ad) (sp_Play_renew : Sp) : TS :=
  (tDrop (tMeth A.c_Play "renew" sp_Play_renew [] E0 (tVar 0) (tCons (tLst tNil) tNil)))
/-- Play.begins -/
def t_Play_begins (K : PySem.W.Frag) (A : Ad) (sp_Play_renew : Sp) : TS :=
  (tSeq (tIfS (tOr (tTest (tOp oLt (tCB (rLenS K) (tCons (tVar 1) tNil)) (tC (.int 1)))) (tTest (tOp oGt (tCB (rLenS K) (tCons (tVar 1) tNil)) (tC (.int 5)))))
    (tRet (tUn oNeg (tC (.int 1))))
    tNext)
    (tSeq (tIfS (tTest (tOp oGt (tCB (rMax K) (tCons (tVar 1) tNil)) (tC (.int 1000))))
    (tRet (tUn oNeg (tC (.int 1))))
    tNext)
    (tSeq (tDrop (tMeth A.c_Play "renew" sp_Play_renew [] E0 (tVar 0) (tCons (tVar 1) tNil)))
    (tRet (tCB (rLenS K) (tCons (tVar 1) tNil))))))
/-- Reader.row -/
def t_Reader_row (K : PySem.W.Frag) (A : Ad) (sp_Reader_number : Sp) : TS :=
  (tSeq (tAsg (tMeth A.c_Reader "number" sp_Reader_number [] E0 (tVar 0) tNil) (gName 1))
    (tSeq (tAsg (tSl (rSlL K) (tFld K (tVar 0) "numbers") (tPart (tFld K (tVar 0) "place")) (tPart (tOp oAdd (tFld K (tVar 0) "place") (tVar 1)))) (gName 2))
    (tSeq (sFld K (tVar 0) (tOp oAdd (tFld K (tVar 0) "place") (tVar 1)) "place")
    (tRet (tVar 2)))))
/-- answer_ahead -/
def t_answer_ahead (K : PySem.W.Frag) (A : Ad) (sp_Reader_number sp_Play_ahead : Sp) : TS :=
  (tSeq (tAsg (tMeth A.c_Reader "number" sp_Reader_number [] E0 (tVar 1) tNil) (gName 2))
    (tSeq (tAsg (tMeth A.c_Reader "number" sp_Reader_number [] E0 (tVar 1) tNil) (gName 3))
    (tRet (tLst (tCons (tMeth A.c_Play "ahead" sp_Play_ahead [] E0 (tVar 0) (tCons (tVar 2) (tCons (tVar 3) tNil))) tNil)))))
/-- do_clash -/
def t_do_clash (K : PySem.W.Frag) (A : Ad) (sp_are_in_one_scene sp_lacks_time : Sp) : TS :=
  (tSeq (tIfS (tB (tCall sp_are_in_one_scene [] E0 (tCons (tVar 0) (tCons (tVar 1) (tCons (tVar 3) tNil)))))
    (tRet (tC (.bl true)))
    tNext)
    (tRet (tOrV (tCall sp_lacks_time [] E0 (tCons (tVar 0) (tCons (tVar 1) (tCons (tVar 2) (tCons (tVar 3) tNil))))) (tCall sp_lacks_time [] E0 (tCons (tVar 1) (tCons (tVar 0) (tCons (tVar 2) (tCons (tVar 3) tNil))))))))
/-- stays_of_all -/
def t_stays_of_all (K : PySem.W.Frag) (A : Ad) (sp_beginnings sp_stay_for sp_own_pieces : Sp) : TS :=
  (tSeq (tAsg (tCall sp_beginnings [] E0 (tCons (tVar 1) (tCons (tVar 3) tNil))) (gName 4))
    (tRet (tLc (iRng1 (tCons (tCB (rLenS K) (tCons (tVar 2) tNil)) tNil)) (gName 5) tYes (tCall sp_stay_for [] E0 (tCons (tCall sp_own_pieces [] E0 (tCons (tVar 5) (tCons (tVar 0) (tCons (tVar 3) tNil)))) (tCons (tVar 4) (tCons (tVar 3) tNil)))) [5])))
/-- Rehearsals.player_costs -/
def t_Rehearsals_player_costs (P : Program) (w : World) (K : PySem.W.Frag) (A : Ad) (sp_Rehearsals_player_cost : Sp) : TS :=
  (tSeq (tIfS (tTest (tOp (rNotN P w) (tTup (tCons (tVar 1) (tCons (tVar 2) tNil))) (tFld K (tVar 0) "known")))
    (tAsg (tLc (iList K (tFld K (tVar 0) "tables")) (gName 3) tYes (tMeth A.c_Rehearsals "player_cost" sp_Rehearsals_player_cost [] E0 (tVar 0) (tCons (tVar 1) (tCons (tVar 2) (tCons (tVar 3) tNil)))) [3]) (gSub (tFld K (tVar 0) "known") (tTup (tCons (tVar 1) (tCons (tVar 2) tNil))) (rPutN P w)))
    tNext)
    (tRet (tGetN P w (tFld K (tVar 0) "known") (tTup (tCons (tVar 1) (tCons (tVar 2) tNil))))))
/-- Play.scene -/
def t_Play_scene (K : PySem.W.Frag) (A : Ad) (sp_Play_are_rising_roles sp_Scene_init : Sp) : TS :=
  (tSeq (tIfS (tOr (tTest (tOp oGt (tVar 1) (tC (.int 1000)))) (tNot (tB (tMeth A.c_Play "are_rising_roles" sp_Play_are_rising_roles [] E0 (tVar 0) (tCons (tVar 2) tNil)))))
    (tRet (tUn oNeg (tC (.int 1))))
    tNext)
    (tSeq (tIfS (tTest (tOp oGe (tCB (rLenS K) (tCons (tFld K (tVar 0) "scenes") tNil)) (tC (.int 10))))
    (tRet (tUn oNeg (tC (.int 5))))
    tNext)
    (tSeq (tDrop (tBM K "list" rAppend (tFld K (tVar 0) "scenes") (tCons (tMake A.c_Scene sp_Scene_init [] E0 (tCons (tVar 1) (tCons (tVar 2) tNil))) tNil)))
    (tRet (tOp oSub (tCB (rLenS K) (tCons (tFld K (tVar 0) "scenes") tNil)) (tC (.int 1)))))))
/-- Play.player -/
def t_Play_player (K : PySem.W.Frag) (A : Ad) (sp_Play_are_fees sp_Player_init : Sp) : TS :=
  (tSeq (tIfS (tOr (tTest (tOp oGt (tVar 2) (tC (.int 1000)))) (tOr (tTest (tOp oLt (tVar 4) (tVar 3))) (tTest (tOp oGt (tVar 4) (tC (.int 3600))))))
    (tRet (tUn oNeg (tC (.int 1))))
    tNext)
    (tSeq (tIfS (tTest (tOp oGe (tCB (rLenS K) (tCons (tFld K (tVar 0) "players") tNil)) (tC (.int 4))))
    (tRet (tUn oNeg (tC (.int 5))))
    tNext)
    (tSeq (tIfS (tOr (tTest (tOp oGt (tVar 1) (tC (.int 100000)))) (tNot (tB (tMeth A.c_Play "are_fees" sp_Play_are_fees [] E0 (tVar 0) (tCons (tVar 5) tNil)))))
    (tRet (tUn oNeg (tC (.int 1))))
    tNext)
    (tSeq (tDrop (tBM K "list" rAppend (tFld K (tVar 0) "players") (tCons (tMake A.c_Player sp_Player_init [] E0 (tCons (tVar 1) (tCons (tVar 2) (tCons (tVar 3) (tCons (tVar 4) (tCons (tVar 5) tNil)))))) tNil)))
    (tRet (tOp oSub (tCB (rLenS K) (tCons (tFld K (tVar 0) "players") tNil)) (tC (.int 1))))))))
/-- Play.piece -/
def t_Play_piece (K : PySem.W.Frag) (A : Ad) (sp_Play_are_rising_roles sp_Piece_init : Sp) : TS :=
  (tSeq (tIfS (tOr (tTest (tOp oLt (tVar 1) (tC (.int 1)))) (tOr (tTest (tOp oGt (tVar 1) (tC (.int 600)))) (tNot (tB (tMeth A.c_Play "are_rising_roles" sp_Play_are_rising_roles [] E0 (tVar 0) (tCons (tVar 2) tNil))))))
    (tRet (tUn oNeg (tC (.int 1))))
    tNext)
    (tSeq (tIfS (tTest (tOp oGe (tCB (rLenS K) (tCons (tFld K (tVar 0) "pieces") tNil)) (tC (.int 4))))
    (tRet (tUn oNeg (tC (.int 5))))
    tNext)
    (tSeq (tDrop (tBM K "list" rAppend (tFld K (tVar 0) "pieces") (tCons (tMake A.c_Piece sp_Piece_init [] E0 (tCons (tVar 1) (tCons (tVar 2) tNil))) tNil)))
    (tRet (tOp oSub (tCB (rLenS K) (tCons (tFld K (tVar 0) "pieces") tNil)) (tC (.int 1)))))))
/-- answer_begins -/
def t_answer_begins (K : PySem.W.Frag) (A : Ad) (sp_Reader_row sp_Play_begins : Sp) : TS :=
  (tSeq (tAsg (tMeth A.c_Reader "row" sp_Reader_row [] E0 (tVar 1) tNil) (gName 2))
    (tRet (tLst (tCons (tMeth A.c_Play "begins" sp_Play_begins [] E0 (tVar 0) (tCons (tVar 2) tNil)) tNil))))
/-- clashing_pairs -/
def t_clashing_pairs (K : PySem.W.Frag) (A : Ad) (sp_do_clash : Sp) : TS :=
  (tSeq (tAsg (tLst tNil) (gName 2))
    (tSeq (tFor (iRng1 (tCons (tCB (rLenS K) (tCons (tVar 0) tNil)) tNil)) (gName 3)
    (tFor (iRng2 (tCons (tOp oAdd (tVar 3) (tC (.int 1))) (tCons (tCB (rLenS K) (tCons (tVar 0) tNil)) tNil))) (gName 4)
    (tIfS (tB (tCall sp_do_clash [] E0 (tCons (tVar 3) (tCons (tVar 4) (tCons (tVar 0) (tCons (tVar 1) tNil))))))
    (tDrop (tBM K "list" rAppend (tVar 2) (tCons (tTup (tCons (tVar 3) (tCons (tVar 4) tNil))) tNil)))
    tNext)))
    (tRet (tVar 2))))
/-- Rehearsals.costs -/
def t_Rehearsals_costs (K : PySem.W.Frag) (A : Ad) (sp_Rehearsals_player_costs sp_own_pieces : Sp) : TS :=
  (tSeq (tAsg (tOp rRep (tLst (tCons (tC (.int 0)) tNil)) (tCB (rLenS K) (tCons (tFld K (tVar 0) "orders") tNil))) (gName 2))
    (tSeq (tFor (iRng1 (tCons (tCB (rLenS K) (tCons (tFld K (tVar 0) "players") tNil)) tNil)) (gName 3)
    (tSeq (tAsg (tMeth A.c_Rehearsals "player_costs" sp_Rehearsals_player_costs [] E0 (tVar 0) (tCons (tVar 3) (tCons (tCall sp_own_pieces [] E0 (tCons (tVar 3) (tCons (tVar 1) (tCons (tFld K (tVar 0) "pieces") tNil)))) tNil))) (gName 4))
    (tAsg (tLc (iZip K (tCons (tVar 2) (tCons (tVar 4) tNil))) (gTup K 2 (gCons (gName 5) (gCons (gName 6) gNil))) tYes (tIf (tOr (tTest (tOp oIsN (tVar 5) (tC .non))) (tTest (tOp oIsN (tVar 6) (tC .non)))) (tC .non) (tOp oAdd (tVar 5) (tVar 6))) [5, 6]) (gName 2))))
    (tRet (tVar 2))))
/-- answer_scene -/
def t_answer_scene (K : PySem.W.Frag) (A : Ad) (sp_Reader_number sp_Reader_row sp_Play_scene : Sp) : TS :=
  (tSeq (tAsg (tMeth A.c_Reader "number" sp_Reader_number [] E0 (tVar 1) tNil) (gName 2))
    (tSeq (tAsg (tMeth A.c_Reader "row" sp_Reader_row [] E0 (tVar 1) tNil) (gName 3))
    (tRet (tLst (tCons (tMeth A.c_Play "scene" sp_Play_scene [] E0 (tVar 0) (tCons (tVar 2) (tCons (tVar 3) tNil))) tNil)))))
/-- answer_player -/
def t_answer_player (K : PySem.W.Frag) (A : Ad) (sp_Reader_number sp_Reader_row sp_Play_player : Sp) : TS :=
  (tSeq (tAsg (tMeth A.c_Reader "number" sp_Reader_number [] E0 (tVar 1) tNil) (gName 2))
    (tSeq (tAsg (tMeth A.c_Reader "number" sp_Reader_number [] E0 (tVar 1) tNil) (gName 3))
    (tSeq (tAsg (tMeth A.c_Reader "number" sp_Reader_number [] E0 (tVar 1) tNil) (gName 4))
    (tSeq (tAsg (tMeth A.c_Reader "number" sp_Reader_number [] E0 (tVar 1) tNil) (gName 5))
    (tSeq (tAsg (tMeth A.c_Reader "row" sp_Reader_row [] E0 (tVar 1) tNil) (gName 6))
    (tRet (tLst (tCons (tMeth A.c_Play "player" sp_Play_player [] E0 (tVar 0) (tCons (tVar 2) (tCons (tVar 3) (tCons (tVar 4) (tCons (tVar 5) (tCons (tVar 6) tNil)))))) tNil))))))))
/-- answer_piece -/
def t_answer_piece (K : PySem.W.Frag) (A : Ad) (sp_Reader_number sp_Reader_row sp_Play_piece : Sp) : TS :=
  (tSeq (tAsg (tMeth A.c_Reader "number" sp_Reader_number [] E0 (tVar 1) tNil) (gName 2))
    (tSeq (tAsg (tMeth A.c_Reader "row" sp_Reader_row [] E0 (tVar 1) tNil) (gName 3))
    (tRet (tLst (tCons (tMeth A.c_Play "piece" sp_Play_piece [] E0 (tVar 0) (tCons (tVar 2) (tCons (tVar 3) tNil))) tNil)))))
/-- right_castings -/
def t_right_castings (K : PySem.W.Frag) (A : Ad) (sp_clashing_pairs sp_all_castings sp_wrong_with_casting : Sp) : TS :=
  (tSeq (tAsg (tCall sp_clashing_pairs [] E0 (tCons (tFld K (tVar 0) "dressing") (tCons (tFld K (tVar 0) "scenes") tNil))) (gName 1))
    (tSeq (tAsg (tCall sp_all_castings [] E0 (tCons (tCB (rLenS K) (tCons (tFld K (tVar 0) "dressing") tNil)) (tCons (tCB (rLenS K) (tCons (tFld K (tVar 0) "players") tNil)) tNil))) (gName 2))
    (tRet (tLc (iList K (tVar 2)) (gName 3) (tTest (tOp (rEqNil K) (tCall sp_wrong_with_casting [] E0 (tCons (tVar 3) (tCons (tFld K (tVar 0) "players") (tCons (tVar 1) tNil)))) (tLst tNil))) (tVar 3) [3]))))
/-- Rehearsals.cheapest -/
def t_Rehearsals_cheapest (K : PySem.W.Frag) (A : Ad) (sp_Rehearsals_costs sp_Cheapest_init : Sp) : TS :=
  (tSeq (tAsg (tMeth A.c_Rehearsals "costs" sp_Rehearsals_costs [] E0 (tVar 0) (tCons (tVar 1) tNil)) (gName 2))
    (tSeq (tAsg (tLc (iList K (tVar 2)) (gName 4) (tTest (tOp oNotN (tVar 4) (tC .non))) (tVar 4) [4]) (gName 3))
    (tSeq (tIfS (tTest (tOp (rEqNil K) (tVar 3) (tLst tNil)))
    (tRet (tC .non))
    tNext)
    (tSeq (tAsg (tCB (rMin K) (tCons (tVar 3) tNil)) (gName 5))
    (tRet (tMake A.c_Cheapest sp_Cheapest_init [] E0 (tCons (tVar 5) (tCons (tBM K "list" (rCntI K) (tVar 3) (tCons (tVar 5) tNil)) (tCons (tOp (rIxL K) (tFld K (tVar 0) "orders") (tBM K "list" (rIndex K) (tVar 2) (tCons (tVar 5) tNil))) tNil)))))))))
/-- checked_plan -/
def t_checked_plan (K : PySem.W.Frag) (A : Ad) (sp_is_casting sp_is_order sp_wrong_with_casting sp_clashing_pairs sp_row sp_stays_of_all sp_wrong_with_order sp_order_cost sp_casting_cost : Sp) : TS :=
  (tSeq (tIfS (tOr (tNot (tB (tCall sp_is_casting [] E0 (tCons (tVar 1) (tCons (tVar 0) tNil))))) (tNot (tB (tCall sp_is_order [] E0 (tCons (tVar 2) (tCons (tVar 0) tNil))))))
    (tRet (tLst (tCons (tUn oNeg (tC (.int 1))) tNil)))
    tNext)
    (tSeq (tAsg (tCall sp_wrong_with_casting [] E0 (tCons (tVar 1) (tCons (tFld K (tVar 0) "players") (tCons (tCall sp_clashing_pairs [] E0 (tCons (tFld K (tVar 0) "dressing") (tCons (tFld K (tVar 0) "scenes") tNil))) tNil)))) (gName 3))
    (tSeq (tIfS (tTest (tOp (rNeD K) (tVar 3) (tLst tNil)))
    (tRet (tOp rCat (tLst (tCons (tC (.int 0)) tNil)) (tCall sp_row [] E0 (tCons (tOp rCat (tLst (tCons (tC (.int 1)) tNil)) (tVar 3)) tNil))))
    tNext)
    (tSeq (tAsg (tCall sp_stays_of_all [] E0 (tCons (tVar 1) (tCons (tVar 2) (tCons (tFld K (tVar 0) "players") (tCons (tFld K (tVar 0) "pieces") tNil))))) (gName 4))
    (tSeq (tAsg (tCall sp_wrong_with_order [] E0 (tCons (tVar 2) (tCons (tFld K (tVar 0) "pairs") (tCons (tVar 4) (tCons (tFld K (tVar 0) "players") tNil))))) (gName 3))
    (tSeq (tIfS (tTest (tOp (rNeD K) (tVar 3) (tLst tNil)))
    (tRet (tOp rCat (tLst (tCons (tC (.int 0)) tNil)) (tCall sp_row [] E0 (tCons (tOp rCat (tLst (tCons (tC (.int 2)) tNil)) (tVar 3)) tNil))))
    tNext)
    (tSeq (tAsg (tOp rCat (tLst (tCons (tC (.int 1)) tNil)) (tCall sp_row [] E0 (tCons (tLst (tCons (tCall sp_casting_cost [] E0 (tCons (tVar 1) (tCons (tFld K (tVar 0) "players") tNil))) (tCons (tCall sp_order_cost [] E0 (tCons (tVar 4) (tCons (tFld K (tVar 0) "players") tNil))) tNil))) tNil))) (gName 5))
    (tSeq (tFor (iList K (tVar 4)) (gName 6)
    (tDrop (tBM K "list" rExtend (tVar 5) (tCons (tCall sp_row [] E0 (tCons (tVar 6) tNil)) tNil))))
    (tRet (tVar 5))))))))))
/-- plans_by_casting -/
def t_plans_by_casting (K : PySem.W.Frag) (A : Ad) (sp_Rehearsals_init sp_right_castings sp_Rehearsals_cheapest sp_Plan_init sp_casting_cost : Sp) : TS :=
  (tSeq (tAsg (tMake A.c_Rehearsals sp_Rehearsals_init [] E0 (tCons (tFld K (tVar 0) "players") (tCons (tFld K (tVar 0) "pieces") (tCons (tFld K (tVar 0) "pairs") tNil)))) (gName 1))
    (tSeq (tAsg (tLst tNil) (gName 2))
    (tSeq (tFor (iList K (tCall sp_right_castings [] E0 (tCons (tVar 0) tNil))) (gName 3)
    (tSeq (tAsg (tMeth A.c_Rehearsals "cheapest" sp_Rehearsals_cheapest [] E0 (tVar 1) (tCons (tVar 3) tNil)) (gName 4))
    (tIfS (tTest (tOp oNotN (tVar 4) (tC .non)))
    (tDrop (tBM K "list" rAppend (tVar 2) (tCons (tMake A.c_Plan sp_Plan_init [] E0 (tCons (tVar 3) (tCons (tCall sp_casting_cost [] E0 (tCons (tVar 3) (tCons (tFld K (tVar 0) "players") tNil))) (tCons (tVar 4) tNil)))) tNil)))
    tNext)))
    (tRet (tVar 2)))))
/-- plan_apart -/
def t_plan_apart (K : PySem.W.Frag) (A : Ad) (sp_right_castings sp_casting_cost sp_Rehearsals_init sp_Rehearsals_cheapest sp_row : Sp) : TS :=
  (tSeq (tAsg (tCall sp_right_castings [] E0 (tCons (tVar 0) tNil)) (gName 1))
    (tSeq (tIfS (tTest (tOp (rEqNil K) (tVar 1) (tLst tNil)))
    (tRet (tLst (tCons (tUn oNeg (tC (.int 6))) tNil)))
    tNext)
    (tSeq (tAsg (tLc (iList K (tVar 1)) (gName 3) tYes (tCall sp_casting_cost [] E0 (tCons (tVar 3) (tCons (tFld K (tVar 0) "players") tNil))) [3]) (gName 2))
    (tSeq (tAsg (tCB (rMin K) (tCons (tVar 2) tNil)) (gName 4))
    (tSeq (tAsg (tOp (rIxL K) (tVar 1) (tBM K "list" (rIndex K) (tVar 2) (tCons (tVar 4) tNil))) (gName 3))
    (tSeq (tAsg (tMeth A.c_Rehearsals "cheapest" sp_Rehearsals_cheapest [] E0 (tMake A.c_Rehearsals sp_Rehearsals_init [] E0 (tCons (tFld K (tVar 0) "players") (tCons (tFld K (tVar 0) "pieces") (tCons (tFld K (tVar 0) "pairs") tNil)))) (tCons (tVar 3) tNil)) (gName 5))
    (tSeq (tIfS (tTest (tOp oIsN (tVar 5) (tC .non)))
    (tRet (tLst (tCons (tUn oNeg (tC (.int 3))) tNil)))
    tNext)
    (tRet (tOp rCat (tOp rCat (tLst (tCons (tOp oAdd (tVar 4) (tFld K (tVar 5) "cost")) tNil)) (tCall sp_row [] E0 (tCons (tVar 3) tNil))) (tCall sp_row [] E0 (tCons (tFld K (tVar 5) "order") tNil)))))))))))
/-- cheapest_order -/
def t_cheapest_order (K : PySem.W.Frag) (A : Ad) (sp_is_casting sp_Rehearsals_init sp_Rehearsals_cheapest sp_row : Sp) : TS :=
  (tSeq (tIfS (tNot (tB (tCall sp_is_casting [] E0 (tCons (tVar 1) (tCons (tVar 0) tNil)))))
    (tRet (tLst (tCons (tUn oNeg (tC (.int 1))) tNil)))
    tNext)
    (tSeq (tAsg (tMeth A.c_Rehearsals "cheapest" sp_Rehearsals_cheapest [] E0 (tMake A.c_Rehearsals sp_Rehearsals_init [] E0 (tCons (tFld K (tVar 0) "players") (tCons (tFld K (tVar 0) "pieces") (tCons (tFld K (tVar 0) "pairs") tNil)))) (tCons (tVar 1) tNil)) (gName 2))
    (tSeq (tIfS (tTest (tOp oIsN (tVar 2) (tC .non)))
    (tRet (tLst (tCons (tUn oNeg (tC (.int 6))) tNil)))
    tNext)
    (tRet (tOp rCat (tOp rCat (tLst (tCons (tFld K (tVar 2) "cost") tNil)) (tCall sp_row [] E0 (tCons (tLst (tCons (tFld K (tVar 2) "many") tNil)) tNil))) (tCall sp_row [] E0 (tCons (tFld K (tVar 2) "order") tNil)))))))
/-- answer_check -/
def t_answer_check (K : PySem.W.Frag) (A : Ad) (sp_Reader_row sp_checked_plan : Sp) : TS :=
  (tSeq (tAsg (tMeth A.c_Reader "row" sp_Reader_row [] E0 (tVar 1) tNil) (gName 2))
    (tSeq (tAsg (tMeth A.c_Reader "row" sp_Reader_row [] E0 (tVar 1) tNil) (gName 3))
    (tRet (tCall sp_checked_plan [] E0 (tCons (tVar 0) (tCons (tVar 2) (tCons (tVar 3) tNil)))))))
/-- best_plan -/
def t_best_plan (K : PySem.W.Frag) (A : Ad) (sp_plans_by_casting sp_row : Sp) : TS :=
  (tSeq (tAsg (tCall sp_plans_by_casting [] E0 (tCons (tVar 0) tNil)) (gName 1))
    (tSeq (tIfS (tTest (tOp (rEqNil K) (tVar 1) (tLst tNil)))
    (tRet (tLst (tCons (tUn oNeg (tC (.int 6))) tNil)))
    tNext)
    (tSeq (tAsg (tCB (rMin K) (tCons (tLc (iList K (tVar 1)) (gName 3) tYes (tFld K (tVar 3) "cost") [3]) tNil)) (gName 2))
    (tSeq (tAsg (tLc (iList K (tVar 1)) (gName 3) (tTest (tOp rEq (tFld K (tVar 3) "cost") (tVar 2))) (tVar 3) [3]) (gName 4))
    (tSeq (tAsg (tCB (rSum K) (tCons (tLc (iList K (tVar 4)) (gName 3) tYes (tFld K (tVar 3) "many") [3]) tNil)) (gName 5))
    (tSeq (tAsg (tOp (rIxL K) (tVar 4) (tC (.int 0))) (gName 6))
    (tRet (tOp rCat (tOp rCat (tOp rCat (tLst (tCons (tVar 2) tNil)) (tCall sp_row [] E0 (tCons (tLst (tCons (tVar 5) (tCons (tFld K (tVar 6) "casting_price") tNil))) tNil))) (tCall sp_row [] E0 (tCons (tFld K (tVar 6) "casting") tNil))) (tCall sp_row [] E0 (tCons (tFld K (tVar 6) "order") tNil))))))))))
/-- answer_order -/
def t_answer_order (K : PySem.W.Frag) (A : Ad) (sp_Reader_row sp_cheapest_order : Sp) : TS :=
  (tSeq (tAsg (tMeth A.c_Reader "row" sp_Reader_row [] E0 (tVar 1) tNil) (gName 2))
    (tRet (tCall sp_cheapest_order [] E0 (tCons (tVar 0) (tCons (tVar 2) tNil)))))
/-- answer_call -/
def t_answer_call (K : PySem.W.Frag) (A : Ad) (sp_Reader_number sp_answer_begins sp_answer_scene sp_answer_player sp_answer_piece sp_answer_ahead sp_best_plan sp_plan_apart sp_answer_check sp_answer_order : Sp) : TS :=
  (tSeq (tAsg (tMeth A.c_Reader "number" sp_Reader_number [] E0 (tVar 1) tNil) (gName 2))
    (tSeq (tIfS (tTest (tOp rEq (tVar 2) (tC (.int 0))))
    (tRet (tCall sp_answer_begins [] E0 (tCons (tVar 0) (tCons (tVar 1) tNil))))
    tNext)
    (tSeq (tIfS (tTest (tOp rEq (tVar 2) (tC (.int 1))))
    (tRet (tCall sp_answer_scene [] E0 (tCons (tVar 0) (tCons (tVar 1) tNil))))
    tNext)
    (tSeq (tIfS (tTest (tOp rEq (tVar 2) (tC (.int 2))))
    (tRet (tCall sp_answer_player [] E0 (tCons (tVar 0) (tCons (tVar 1) tNil))))
    tNext)
    (tSeq (tIfS (tTest (tOp rEq (tVar 2) (tC (.int 3))))
    (tRet (tCall sp_answer_piece [] E0 (tCons (tVar 0) (tCons (tVar 1) tNil))))
    tNext)
    (tSeq (tIfS (tTest (tOp rEq (tVar 2) (tC (.int 4))))
    (tRet (tCall sp_answer_ahead [] E0 (tCons (tVar 0) (tCons (tVar 1) tNil))))
    tNext)
    (tSeq (tIfS (tTest (tOp rEq (tVar 2) (tC (.int 5))))
    (tRet (tCall sp_best_plan [] E0 (tCons (tVar 0) tNil)))
    tNext)
    (tSeq (tIfS (tTest (tOp rEq (tVar 2) (tC (.int 6))))
    (tRet (tCall sp_plan_apart [] E0 (tCons (tVar 0) tNil)))
    tNext)
    (tSeq (tIfS (tTest (tOp rEq (tVar 2) (tC (.int 7))))
    (tRet (tCall sp_answer_check [] E0 (tCons (tVar 0) (tCons (tVar 1) tNil))))
    tNext)
    (tSeq (tIfS (tTest (tOp rEq (tVar 2) (tC (.int 8))))
    (tRet (tCall sp_answer_order [] E0 (tCons (tVar 0) (tCons (tVar 1) tNil))))
    tNext)
    tNever))))))))))
/-- answers -/
def t_answers (K : PySem.W.Frag) (A : Ad) (sp_Play_init sp_Reader_init sp_Reader_is_done sp_answer_call : Sp) : TS :=
  (tSeq (tAsg (tMake A.c_Play sp_Play_init [] E0 tNil) (gName 1))
    (tSeq (tAsg (tMake A.c_Reader sp_Reader_init [] E0 (tCons (tVar 0) tNil)) (gName 2))
    (tSeq (tAsg (tLst tNil) (gName 3))
    (tSeq (tWhile (tNot (tB (tMeth A.c_Reader "is_done" sp_Reader_is_done [] E0 (tVar 2) tNil)))
    (tSeq (tAsg (tCall sp_answer_call [] E0 (tCons (tVar 1) (tCons (tVar 2) tNil))) (gName 4))
    (tSeq (tDrop (tBM K "list" rAppend (tVar 3) (tCons (tCB (rLenS K) (tCons (tVar 4) tNil)) tNil)))
    (tDrop (tBM K "list" rExtend (tVar 3) (tCons (tVar 4) tNil))))))
    (tRet (tVar 3))))))
section
variable {P : Program} {w : World} {K : PySem.W.Frag} {mg : Str → Option Value} {base : Heap} {A : Ad}
theorem ok_comes_too_soon {sp_comes_too_soon : Sp} (T : Txt K mg A)
    (len : ∀ vs H Q E, sp_comes_too_soon vs H Q E → vs.length = 3)
    (pure : ∀ vs H Q E, sp_comes_too_soon vs H Q E → t_comes_too_soon K A { nx := fun _ H' => Q .non H', rt := Q } (start ["role", "minutes", "scenes", "between", "scene"] vs) H) :
    FnOk P w K mg base CX0 1 A.f_comes_too_soon A.d_comes_too_soon ["role", "minutes", "scenes"] sp_comes_too_soon :=
  T.F_comes_too_soon.ok sc_comes_too_soon len fun cdv A0 outer s H vs Q E hr h => ⟨t_comes_too_soon K A, by
    exact (pss_cons (ps_set (i := 3) sc_comes_too_soon.nd rfl (Or.inl rfl) pe_int)
      (pss_cons (ps_for PassesOwn.never rfl (pi_list (pv 2)) (pg_name (i := 4) sc_comes_too_soon.nd rfl (Or.inl rfl)) (pss_cons (ps_if (PW.pt (pw_and (pt_cmpR op_in_seq (pv 0) (pe_fld (pv 4) rfl) (by rfl)) (pw_and1 (pt_cmpR op_lt (pv 3) (pv 1) (nomark _))))) (pss_one (ps_ret pe_bl)) pss_nil)
      (pss_one (ps_set (i := 3) sc_comes_too_soon.nd rfl (Or.inl rfl) (pe_op op_add (pv 3) (pe_fld (pv 4) rfl))))))
      (pss_one (ps_ret pe_bl)))), pure vs H Q E h⟩
theorem ok_are_in_one_scene {sp_are_in_one_scene : Sp} (T : Txt K mg A)
    (len : ∀ vs H Q E, sp_are_in_one_scene vs H Q E → vs.length = 3)
    (pure : ∀ vs H Q E, sp_are_in_one_scene vs H Q E → t_are_in_one_scene K A { nx := fun _ H' => Q .non H', rt := Q } (start ["one", "other", "scenes", "scene"] vs) H) :
    FnOk P w K mg base CX0 1 A.f_are_in_one_scene A.d_are_in_one_scene ["one", "other", "scenes"] sp_are_in_one_scene :=
  T.F_are_in_one_scene.ok sc_are_in_one_scene len fun cdv A0 outer s H vs Q E hr h => ⟨t_are_in_one_scene K A, by
    exact (pss_cons (ps_for PassesOwn.never rfl (pi_list (pv 2)) (pg_name (i := 3) sc_are_in_one_scene.nd rfl (Or.inl rfl)) (pss_one (ps_if (PW.pt (pw_and (pt_cmpR op_in_seq (pv 0) (pe_fld (pv 3) rfl) (by rfl)) (pw_and1 (pt_cmpR op_in_seq (pv 1) (pe_fld (pv 3) rfl) (by rfl))))) (pss_one (ps_ret pe_bl)) pss_nil)))
      (pss_one (ps_ret pe_bl))), pure vs H Q E h⟩
theorem ok_can_play {sp_can_play : Sp} (T : Txt K mg A)
    (len : ∀ vs H Q E, sp_can_play vs H Q E → vs.length = 2)
    (pure : ∀ vs H Q E, sp_can_play vs H Q E → t_can_play K A { nx := fun _ H' => Q .non H', rt := Q } (start ["player", "role"] vs) H) :
    FnOk P w K mg base CX0 1 A.f_can_play A.d_can_play ["player", "role"] sp_can_play :=
  T.F_can_play.ok sc_can_play len fun cdv A0 outer s H vs Q E hr h => ⟨t_can_play K A, by
    exact (pss_one (ps_ret (pe_cmpR op_gt (pe_ix ix_list (pe_fld (pv 0) rfl) (pv 1) (fun _ _ => rfl)) pe_int (nomark _)))), pure vs H Q E h⟩
theorem ok_all_castings {sp_all_castings : Sp} (T : Txt K mg A)
    (len : ∀ vs H Q E, sp_all_castings vs H Q E → vs.length = 2)
    (pure : ∀ vs H Q E, sp_all_castings vs H Q E → t_all_castings K A { nx := fun _ H' => Q .non H', rt := Q } (start ["roles", "players", "found", "role", "longer", "casting", "who"] vs) H) :
    FnOk P w K mg base CX0 1 A.f_all_castings A.d_all_castings ["roles", "players"] sp_all_castings :=
  T.F_all_castings.ok sc_all_castings len fun cdv A0 outer s H vs Q E hr h => ⟨t_all_castings K A, by
    exact (pss_cons (ps_set (i := 2) sc_all_castings.nd rfl (Or.inl rfl) (pe_lst (pa_cons (pe_lst pa_nil) pa_nil)))
      (pss_cons (ps_for PassesOwn.never rfl (pi_range1 rfl T.n_range (pa_cons (pv 0) pa_nil)) (pg_name (i := 3) sc_all_castings.nd rfl (Or.inl rfl)) (pss_cons (ps_set (i := 4) sc_all_castings.nd rfl (Or.inl rfl) (pe_lst pa_nil))
      (pss_cons (ps_for PassesOwn.never rfl (pi_list (pv 2)) (pg_name (i := 5) sc_all_castings.nd rfl (Or.inr rfl)) (pss_one (ps_expr (pe_bm PySem.F.plainAttrs_list PySem.F.slot_list_extend PySem.F.type_list_extend mt_extend (pv 4) (pa_cons (pe_lc (own := [("who", 6)]) (g := (gName 6)) (tt := tYes) rfl sc_all_castings.nd (pi_range1 rfl T.n_range (pa_cons (pv 1) pa_nil)) (blkOk_by (N := ["roles", "players", "found", "role", "longer", "casting", "who"]) (sc := defScope s_all_castings) (by decide +kernel)) (fun _ _ _ _ _ => (pg_name (i := 6) sc_all_castings.nd rfl (Or.inl rfl))) (fun _ _ _ _ _ => pts_nil) (fun _ _ _ _ _ => (pe_op op_cat (pv 5) (pe_lst (pa_cons (pv 6) pa_nil))))) pa_nil)))))
      (pss_one (ps_set (i := 2) sc_all_castings.nd rfl (Or.inl rfl) (pv 4))))))
      (pss_one (ps_ret (pv 2))))), pure vs H Q E h⟩
theorem ok_casting_cost {sp_casting_cost : Sp} (T : Txt K mg A)
    (len : ∀ vs H Q E, sp_casting_cost vs H Q E → vs.length = 2)
    (pure : ∀ vs H Q E, sp_casting_cost vs H Q E → t_casting_cost K A { nx := fun _ H' => Q .non H', rt := Q } (start ["casting", "players", "cost", "who", "player", "role"] vs) H) :
    FnOk P w K mg base CX0 1 A.f_casting_cost A.d_casting_cost ["casting", "players"] sp_casting_cost :=
  T.F_casting_cost.ok sc_casting_cost len fun cdv A0 outer s H vs Q E hr h => ⟨t_casting_cost K A, by
    exact (pss_cons (ps_set (i := 2) sc_casting_cost.nd rfl (Or.inl rfl) pe_int)
      (pss_cons (ps_for PassesOwn.never rfl (pi_enum (by rfl) T.n_enumerate (pa_cons (pv 1) pa_nil)) (pg_tup rfl (pgs_cons (pg_name (i := 3) sc_casting_cost.nd rfl (Or.inl rfl)) (pgs_cons (pg_name (i := 4) sc_casting_cost.nd rfl (Or.inl rfl)) pgs_nil))) (pss_one (ps_if (pt_cmpR op_in_seq (pv 3) (pv 0) (by rfl)) (pss_one (ps_set (i := 2) sc_casting_cost.nd rfl (Or.inl rfl) (pe_op op_add (pv 2) (pe_fld (pv 4) rfl)))) pss_nil)))
      (pss_cons (ps_for PassesOwn.never rfl (pi_enum (by rfl) T.n_enumerate (pa_cons (pv 0) pa_nil)) (pg_tup rfl (pgs_cons (pg_name (i := 5) sc_casting_cost.nd rfl (Or.inl rfl)) (pgs_cons (pg_name (i := 3) sc_casting_cost.nd rfl (Or.inl rfl)) pgs_nil))) (pss_one (ps_set (i := 2) sc_casting_cost.nd rfl (Or.inl rfl) (pe_op op_sub (pe_op op_add (pv 2) (pe_ix ix_list (pe_fld (pe_ix ix_list (pv 1) (pv 3) (fun _ _ => rfl)) rfl) (pv 5) (fun _ _ => rfl))) pe_int))))
      (pss_one (ps_ret (pv 2)))))), pure vs H Q E h⟩
theorem ok_all_orders {sp_all_orders : Sp} (T : Txt K mg A)
    (len : ∀ vs H Q E, sp_all_orders vs H Q E → vs.length = 1)
    (pure : ∀ vs H Q E, sp_all_orders vs H Q E → t_all_orders K A { nx := fun _ H' => Q .non H', rt := Q } (start ["pieces", "found", "place", "longer", "order", "piece"] vs) H) :
    FnOk P w K mg base CX0 1 A.f_all_orders A.d_all_orders ["pieces"] sp_all_orders :=
  T.F_all_orders.ok sc_all_orders len fun cdv A0 outer s H vs Q E hr h => ⟨t_all_orders K A, by
    exact (pss_cons (ps_set (i := 1) sc_all_orders.nd rfl (Or.inl rfl) (pe_lst (pa_cons (pe_lst pa_nil) pa_nil)))
      (pss_cons (ps_for PassesOwn.never rfl (pi_range1 rfl T.n_range (pa_cons (pv 0) pa_nil)) (pg_name (i := 2) sc_all_orders.nd rfl (Or.inl rfl)) (pss_cons (ps_set (i := 3) sc_all_orders.nd rfl (Or.inl rfl) (pe_lst pa_nil))
      (pss_cons (ps_for PassesOwn.never rfl (pi_list (pv 1)) (pg_name (i := 4) sc_all_orders.nd rfl (Or.inr rfl)) (pss_one (ps_expr (pe_bm PySem.F.plainAttrs_list PySem.F.slot_list_extend PySem.F.type_list_extend mt_extend (pv 3) (pa_cons (pe_lc (own := [("piece", 5)]) (g := (gName 5)) (tt := (tTest (tOp (rIn K true) (tVar 5) (tVar 4)))) rfl sc_all_orders.nd (pi_range1 rfl T.n_range (pa_cons (pv 0) pa_nil)) (blkOk_by (N := ["pieces", "found", "place", "longer", "order", "piece"]) (sc := defScope s_all_orders) (by decide +kernel)) (fun _ _ _ _ _ => (pg_name (i := 5) sc_all_orders.nd rfl (Or.inl rfl))) (fun _ _ _ _ _ => (pts_one (pt_cmpR op_notIn_seq (pv 5) (pv 4) (by rfl)))) (fun _ _ _ _ _ => (pe_op op_cat (pv 4) (pe_lst (pa_cons (pv 5) pa_nil))))) pa_nil)))))
      (pss_one (ps_set (i := 1) sc_all_orders.nd rfl (Or.inl rfl) (pv 3))))))
      (pss_one (ps_ret (pv 1))))), pure vs H Q E h⟩
theorem ok_beginnings {sp_beginnings : Sp} (T : Txt K mg A)
    (len : ∀ vs H Q E, sp_beginnings vs H Q E → vs.length = 2)
    (pure : ∀ vs H Q E, sp_beginnings vs H Q E → t_beginnings K A { nx := fun _ H' => Q .non H', rt := Q } (start ["order", "pieces", "begun", "minute", "number"] vs) H) :
    FnOk P w K mg base CX0 1 A.f_beginnings A.d_beginnings ["order", "pieces"] sp_beginnings :=
  T.F_beginnings.ok sc_beginnings len fun cdv A0 outer s H vs Q E hr h => ⟨t_beginnings K A, by
    exact (pss_cons (ps_set (i := 2) sc_beginnings.nd rfl (Or.inl rfl) (pe_op op_rep (pe_lst (pa_cons pe_int pa_nil)) (pe_callB call_len_seq (by rfl) T.n_len PySem.boot_len (pa_cons (pv 1) pa_nil))))
      (pss_cons (ps_set (i := 3) sc_beginnings.nd rfl (Or.inl rfl) pe_int)
      (pss_cons (ps_for PassesOwn.never rfl (pi_list (pv 0)) (pg_name (i := 4) sc_beginnings.nd rfl (Or.inl rfl)) (pss_cons (ps_asg (pv 3) (pg_sub (pv 2) (pv 4) set_list))
      (pss_one (ps_set (i := 3) sc_beginnings.nd rfl (Or.inl rfl) (pe_op op_add (pv 3) (pe_fld (pe_ix ix_list (pv 1) (pv 4) (fun _ _ => rfl)) rfl))))))
      (pss_one (ps_ret (pv 2)))))), pure vs H Q E h⟩
theorem ok_is_in {sp_is_in : Sp} (T : Txt K mg A)
    (len : ∀ vs H Q E, sp_is_in vs H Q E → vs.length = 3)
    (pure : ∀ vs H Q E, sp_is_in vs H Q E → t_is_in K A { nx := fun _ H' => Q .non H', rt := Q } (start ["who", "casting", "piece", "role"] vs) H) :
    FnOk P w K mg base CX0 1 A.f_is_in A.d_is_in ["who", "casting", "piece"] sp_is_in :=
  T.F_is_in.ok sc_is_in len fun cdv A0 outer s H vs Q E hr h => ⟨t_is_in K A, by
    exact (pss_one (ps_ret (pe_cmpR op_in_seq (pv 0) (pe_lc (own := [("role", 3)]) (g := (gName 3)) (tt := tYes) rfl sc_is_in.nd (pi_list (pe_fld (pv 2) rfl)) (blkOk_by (N := ["who", "casting", "piece", "role"]) (sc := defScope s_is_in) (by decide +kernel)) (fun _ _ _ _ _ => (pg_name (i := 3) sc_is_in.nd rfl (Or.inl rfl))) (fun _ _ _ _ _ => pts_nil) (fun _ _ _ _ _ => (pe_ix ix_list (pv 1) (pv 3) (fun _ _ => rfl)))) (by rfl)))), pure vs H Q E h⟩
theorem ok_stay_for {sp_stay_for : Sp} (T : Txt K mg A)
    (len : ∀ vs H Q E, sp_stay_for vs H Q E → vs.length = 3)
    (pure : ∀ vs H Q E, sp_stay_for vs H Q E → t_stay_for K A { nx := fun _ H' => Q .non H', rt := Q } (start ["own", "begun", "pieces", "comes", "number", "goes", "busy"] vs) H) :
    FnOk P w K mg base CX0 1 A.f_stay_for A.d_stay_for ["own", "begun", "pieces"] sp_stay_for :=
  T.F_stay_for.ok sc_stay_for len fun cdv A0 outer s H vs Q E hr h => ⟨t_stay_for K A, by
    exact (pss_cons (ps_if (pt_cmpR op_eq (pe_callB call_len_seq (by rfl) T.n_len PySem.boot_len (pa_cons (pv 0) pa_nil)) pe_int (nomark _)) (pss_one (ps_ret (pe_lst pa_nil))) pss_nil)
      (pss_cons (ps_set (i := 3) sc_stay_for.nd rfl (Or.inl rfl) (pe_callB (cr_min rfl) (by rfl) T.n_min (by decide +kernel) (pa_cons (pe_lc (own := [("number", 4)]) (g := (gName 4)) (tt := tYes) rfl sc_stay_for.nd (pi_tup (pv 0)) (blkOk_by (N := ["own", "begun", "pieces", "comes", "number", "goes", "busy"]) (sc := defScope s_stay_for) (by decide +kernel)) (fun _ _ _ _ _ => (pg_name (i := 4) sc_stay_for.nd rfl (Or.inl rfl))) (fun _ _ _ _ _ => pts_nil) (fun _ _ _ _ _ => (pe_ix ix_list (pv 1) (pv 4) (fun _ _ => rfl)))) pa_nil)))
      (pss_cons (ps_set (i := 5) sc_stay_for.nd rfl (Or.inl rfl) (pe_callB (cr_max rfl) (by rfl) T.n_max (by decide +kernel) (pa_cons (pe_lc (own := [("number", 4)]) (g := (gName 4)) (tt := tYes) rfl sc_stay_for.nd (pi_tup (pv 0)) (blkOk_by (N := ["own", "begun", "pieces", "comes", "number", "goes", "busy"]) (sc := defScope s_stay_for) (by decide +kernel)) (fun _ _ _ _ _ => (pg_name (i := 4) sc_stay_for.nd rfl (Or.inl rfl))) (fun _ _ _ _ _ => pts_nil) (fun _ _ _ _ _ => (pe_op op_add (pe_ix ix_list (pv 1) (pv 4) (fun _ _ => rfl)) (pe_fld (pe_ix ix_list (pv 2) (pv 4) (fun _ _ => rfl)) rfl)))) pa_nil)))
      (pss_cons (ps_set (i := 6) sc_stay_for.nd rfl (Or.inl rfl) (pe_callB (cr_sum rfl) (by rfl) T.n_sum (by decide +kernel) (pa_cons (pe_lc (own := [("number", 4)]) (g := (gName 4)) (tt := tYes) rfl sc_stay_for.nd (pi_tup (pv 0)) (blkOk_by (N := ["own", "begun", "pieces", "comes", "number", "goes", "busy"]) (sc := defScope s_stay_for) (by decide +kernel)) (fun _ _ _ _ _ => (pg_name (i := 4) sc_stay_for.nd rfl (Or.inl rfl))) (fun _ _ _ _ _ => pts_nil) (fun _ _ _ _ _ => (pe_fld (pe_ix ix_list (pv 2) (pv 4) (fun _ _ => rfl)) rfl))) pa_nil)))
      (pss_one (ps_ret (pe_lst (pa_cons (pv 3) (pa_cons (pv 5) (pa_cons (pe_op op_sub (pe_op op_sub (pv 5) (pv 3)) (pv 6)) pa_nil)))))))))), pure vs H Q E h⟩
theorem ok_stay_cost {sp_stay_cost : Sp} (T : Txt K mg A)
    (len : ∀ vs H Q E, sp_stay_cost vs H Q E → vs.length = 2)
    (pure : ∀ vs H Q E, sp_stay_cost vs H Q E → t_stay_cost K A { nx := fun _ H' => Q .non H', rt := Q } (start ["stay", "player"] vs) H) :
    FnOk P w K mg base CX0 1 A.f_stay_cost A.d_stay_cost ["stay", "player"] sp_stay_cost :=
  T.F_stay_cost.ok sc_stay_cost len fun cdv A0 outer s H vs Q E hr h => ⟨t_stay_cost K A, by
    exact (pss_cons (ps_if (pt_cmpR (op_eqNil hr.units) (pv 0) (pe_lst pa_nil) (nomark _)) (pss_one (ps_ret pe_int)) pss_nil)
      (pss_one (ps_ret (pe_op op_mul (pe_fld (pv 1) rfl) (pe_op op_sub (pe_ix ix_list (pv 0) pe_int (fun _ _ => rfl)) (pe_ix ix_list (pv 0) pe_int (fun _ _ => rfl))))))), pure vs H Q E h⟩
theorem ok_wrong_with_stay {sp_wrong_with_stay : Sp} (T : Txt K mg A)
    (len : ∀ vs H Q E, sp_wrong_with_stay vs H Q E → vs.length = 2)
    (pure : ∀ vs H Q E, sp_wrong_with_stay vs H Q E → t_wrong_with_stay K A { nx := fun _ H' => Q .non H', rt := Q } (start ["stay", "player"] vs) H) :
    FnOk P w K mg base CX0 1 A.f_wrong_with_stay A.d_wrong_with_stay ["stay", "player"] sp_wrong_with_stay :=
  T.F_wrong_with_stay.ok sc_wrong_with_stay len fun cdv A0 outer s H vs Q E hr h => ⟨t_wrong_with_stay K A, by
    exact (pss_cons (ps_if (pt_cmpR (op_eqNil hr.units) (pv 0) (pe_lst pa_nil) (nomark _)) (pss_one (ps_ret pe_int)) pss_nil)
      (pss_cons (ps_if (pt_cmpR op_lt (pe_ix ix_list (pv 0) pe_int (fun _ _ => rfl)) (pe_fld (pv 1) rfl) (nomark _)) (pss_one (ps_ret pe_int)) pss_nil)
      (pss_cons (ps_if (pt_cmpR op_gt (pe_ix ix_list (pv 0) pe_int (fun _ _ => rfl)) (pe_fld (pv 1) rfl) (nomark _)) (pss_one (ps_ret pe_int)) pss_nil)
      (pss_one (ps_ret pe_int))))), pure vs H Q E h⟩
theorem ok_broken_pair {sp_broken_pair : Sp} (T : Txt K mg A)
    (len : ∀ vs H Q E, sp_broken_pair vs H Q E → vs.length = 2)
    (pure : ∀ vs H Q E, sp_broken_pair vs H Q E → t_broken_pair K A { nx := fun _ H' => Q .non H', rt := Q } (start ["order", "pairs", "told", "pair"] vs) H) :
    FnOk P w K mg base CX0 1 A.f_broken_pair A.d_broken_pair ["order", "pairs"] sp_broken_pair :=
  T.F_broken_pair.ok sc_broken_pair len fun cdv A0 outer s H vs Q E hr h => ⟨t_broken_pair K A, by
    exact (pss_cons (ps_for PassesOwn.never rfl (pi_enum (by rfl) T.n_enumerate (pa_cons (pv 1) pa_nil)) (pg_tup rfl (pgs_cons (pg_name (i := 2) sc_broken_pair.nd rfl (Or.inl rfl)) (pgs_cons (pg_name (i := 3) sc_broken_pair.nd rfl (Or.inl rfl)) pgs_nil))) (pss_one (ps_if (pt_cmpR op_gt (pe_bm PySem.F.plainAttrs_list PySem.F.slot_list_index PySem.F.type_list_index mt_index (pv 0) (pa_cons (pe_ix ix_tup (pv 3) pe_int (fun _ _ => rfl)) pa_nil)) (pe_bm PySem.F.plainAttrs_list PySem.F.slot_list_index PySem.F.type_list_index mt_index (pv 0) (pa_cons (pe_ix ix_tup (pv 3) pe_int (fun _ _ => rfl)) pa_nil)) (nomark _)) (pss_one (ps_ret (pv 2))) pss_nil)))
      (pss_one (ps_ret pe_non))), pure vs H Q E h⟩
theorem ok_Cheapest_init {sp_Cheapest_init : Sp} (T : Txt K mg A)
    (len : ∀ vs H Q E, sp_Cheapest_init vs H Q E → vs.length = 4)
    (pure : ∀ vs H Q E, sp_Cheapest_init vs H Q E → t_Cheapest_init K A { nx := fun _ H' => Q .non H', rt := Q } (start ["self", "cost", "many", "order"] vs) H) :
    FnOk P w K mg base CX0 1 A.f_Cheapest_init A.d_Cheapest_init ["self", "cost", "many", "order"] sp_Cheapest_init :=
  T.F_Cheapest_init.ok sc_Cheapest_init len fun cdv A0 outer s H vs Q E hr h => ⟨t_Cheapest_init K A, by
    exact (pss_cons (ps_fld (pv 0) (pv 1) rfl)
      (pss_cons (ps_fld (pv 0) (pv 2) rfl)
      (pss_one (ps_fld (pv 0) (pv 3) rfl)))), pure vs H Q E h⟩
theorem ok_row {sp_row : Sp} (T : Txt K mg A)
    (len : ∀ vs H Q E, sp_row vs H Q E → vs.length = 1)
    (pure : ∀ vs H Q E, sp_row vs H Q E → t_row K A { nx := fun _ H' => Q .non H', rt := Q } (start ["numbers"] vs) H) :
    FnOk P w K mg base CX0 1 A.f_row A.d_row ["numbers"] sp_row :=
  T.F_row.ok sc_row len fun cdv A0 outer s H vs Q E hr h => ⟨t_row K A, by
    exact (pss_one (ps_ret (pe_op op_cat (pe_lst (pa_cons (pe_callB call_len_seq (by rfl) T.n_len PySem.boot_len (pa_cons (pv 0) pa_nil)) pa_nil)) (pv 0)))), pure vs H Q E h⟩
theorem ok_is_casting {sp_is_casting : Sp} (T : Txt K mg A)
    (len : ∀ vs H Q E, sp_is_casting vs H Q E → vs.length = 2)
    (pure : ∀ vs H Q E, sp_is_casting vs H Q E → t_is_casting K A { nx := fun _ H' => Q .non H', rt := Q } (start ["casting", "play", "who"] vs) H) :
    FnOk P w K mg base CX0 1 A.f_is_casting A.d_is_casting ["casting", "play"] sp_is_casting :=
  T.F_is_casting.ok sc_is_casting len fun cdv A0 outer s H vs Q E hr h => ⟨t_is_casting K A, by
    exact (pss_cons (ps_if (pt_cmpR op_ne (pe_callB call_len_seq (by rfl) T.n_len PySem.boot_len (pa_cons (pv 0) pa_nil)) (pe_callB call_len_seq (by rfl) T.n_len PySem.boot_len (pa_cons (pe_fld (pv 1) rfl) pa_nil)) (nomark _)) (pss_one (ps_ret pe_bl)) pss_nil)
      (pss_one (ps_ret (pe_callB (cr_all rfl) (by rfl) T.n_all (by decide +kernel) (pa_cons (pe_lc (own := [("who", 2)]) (g := (gName 2)) (tt := tYes) rfl sc_is_casting.nd (pi_list (pv 0)) (blkOk_by (N := ["casting", "play", "who"]) (sc := defScope s_is_casting) (by decide +kernel)) (fun _ _ _ _ _ => (pg_name (i := 2) sc_is_casting.nd rfl (Or.inl rfl))) (fun _ _ _ _ _ => pts_nil) (fun _ _ _ _ _ => (pe_cmpR op_lt (pv 2) (pe_callB call_len_seq (by rfl) T.n_len PySem.boot_len (pa_cons (pe_fld (pv 1) rfl) pa_nil)) (nomark _)))) pa_nil))))), pure vs H Q E h⟩
theorem ok_is_order {sp_is_order : Sp} (T : Txt K mg A)
    (len : ∀ vs H Q E, sp_is_order vs H Q E → vs.length = 2)
    (pure : ∀ vs H Q E, sp_is_order vs H Q E → t_is_order K A { nx := fun _ H' => Q .non H', rt := Q } (start ["order", "play"] vs) H) :
    FnOk P w K mg base CX0 1 A.f_is_order A.d_is_order ["order", "play"] sp_is_order :=
  T.F_is_order.ok sc_is_order len fun cdv A0 outer s H vs Q E hr h => ⟨t_is_order K A, by
    exact (pss_one (ps_ret (pe_cmpR (op_eqD hr.units) (pe_callB cr_sorted (by rfl) T.n_sorted (by decide +kernel) (pa_cons (pv 0) pa_nil)) (pe_listRg rfl (by rfl) T.n_list (prg_1 (by rfl) T.n_range (pe_callB call_len_seq (by rfl) T.n_len PySem.boot_len (pa_cons (pe_fld (pv 1) rfl) pa_nil)))) (nomark _)))), pure vs H Q E h⟩
theorem ok_Plan_init {sp_Plan_init : Sp} (T : Txt K mg A)
    (len : ∀ vs H Q E, sp_Plan_init vs H Q E → vs.length = 4)
    (pure : ∀ vs H Q E, sp_Plan_init vs H Q E → t_Plan_init K A { nx := fun _ H' => Q .non H', rt := Q } (start ["self", "casting", "casting_price", "cheapest"] vs) H) :
    FnOk P w K mg base CX0 1 A.f_Plan_init A.d_Plan_init ["self", "casting", "casting_price", "cheapest"] sp_Plan_init :=
  T.F_Plan_init.ok sc_Plan_init len fun cdv A0 outer s H vs Q E hr h => ⟨t_Plan_init K A, by
    exact (pss_cons (ps_fld (pv 0) (pv 1) rfl)
      (pss_cons (ps_fld (pv 0) (pv 2) rfl)
      (pss_cons (ps_fld (pv 0) (pe_fld (pv 3) rfl) rfl)
      (pss_cons (ps_fld (pv 0) (pe_op op_add (pv 2) (pe_fld (pv 3) rfl)) rfl)
      (pss_one (ps_fld (pv 0) (pe_fld (pv 3) rfl) rfl)))))), pure vs H Q E h⟩
theorem ok_Scene_init {sp_Scene_init : Sp} (T : Txt K mg A)
    (len : ∀ vs H Q E, sp_Scene_init vs H Q E → vs.length = 3)
    (pure : ∀ vs H Q E, sp_Scene_init vs H Q E → t_Scene_init K A { nx := fun _ H' => Q .non H', rt := Q } (start ["self", "minutes", "roles"] vs) H) :
    FnOk P w K mg base CX0 1 A.f_Scene_init A.d_Scene_init ["self", "minutes", "roles"] sp_Scene_init :=
  T.F_Scene_init.ok sc_Scene_init len fun cdv A0 outer s H vs Q E hr h => ⟨t_Scene_init K A, by
    exact (pss_cons (ps_fld (pv 0) (pv 1) rfl)
      (pss_one (ps_fld (pv 0) (pv 2) rfl))), pure vs H Q E h⟩
theorem ok_Player_init {sp_Player_init : Sp} (T : Txt K mg A)
    (len : ∀ vs H Q E, sp_Player_init vs H Q E → vs.length = 6)
    (pure : ∀ vs H Q E, sp_Player_init vs H Q E → t_Player_init K A { nx := fun _ H' => Q .non H', rt := Q } (start ["self", "wage", "rate", "since", "till", "fees"] vs) H) :
    FnOk P w K mg base CX0 1 A.f_Player_init A.d_Player_init ["self", "wage", "rate", "since", "till", "fees"] sp_Player_init :=
  T.F_Player_init.ok sc_Player_init len fun cdv A0 outer s H vs Q E hr h => ⟨t_Player_init K A, by
    exact (pss_cons (ps_fld (pv 0) (pv 1) rfl)
      (pss_cons (ps_fld (pv 0) (pv 2) rfl)
      (pss_cons (ps_fld (pv 0) (pv 3) rfl)
      (pss_cons (ps_fld (pv 0) (pv 4) rfl)
      (pss_one (ps_fld (pv 0) (pv 5) rfl)))))), pure vs H Q E h⟩
theorem ok_Piece_init {sp_Piece_init : Sp} (T : Txt K mg A)
    (len : ∀ vs H Q E, sp_Piece_init vs H Q E → vs.length = 3)
    (pure : ∀ vs H Q E, sp_Piece_init vs H Q E → t_Piece_init K A { nx := fun _ H' => Q .non H', rt := Q } (start ["self", "minutes", "roles"] vs) H) :
    FnOk P w K mg base CX0 1 A.f_Piece_init A.d_Piece_init ["self", "minutes", "roles"] sp_Piece_init :=
  T.F_Piece_init.ok sc_Piece_init len fun cdv A0 outer s H vs Q E hr h => ⟨t_Piece_init K A, by
    exact (pss_cons (ps_fld (pv 0) (pv 1) rfl)
      (pss_one (ps_fld (pv 0) (pv 2) rfl))), pure vs H Q E h⟩
theorem ok_Play_renew {sp_Play_renew : Sp} (T : Txt K mg A)
    (len : ∀ vs H Q E, sp_Play_renew vs H Q E → vs.length = 2)
    (pure : ∀ vs H Q E, sp_Play_renew vs H Q E → t_Play_renew K A { nx := fun _ H' => Q .non H', rt := Q } (start ["self", "dressing"] vs) H) :
    FnOk P w K mg base CX0 1 A.f_Play_renew A.d_Play_renew ["self", "dressing"] sp_Play_renew :=
  T.F_Play_renew.ok sc_Play_renew len fun cdv A0 outer s H vs Q E hr h => ⟨t_Play_renew K A, by
    exact (pss_cons (ps_fld (pv 0) (pv 1) rfl)
      (pss_cons (ps_fld (pv 0) (pe_lst pa_nil) rfl)
      (pss_cons (ps_fld (pv 0) (pe_lst pa_nil) rfl)
      (pss_cons (ps_fld (pv 0) (pe_lst pa_nil) rfl)
      (pss_one (ps_fld (pv 0) (pe_lst pa_nil) rfl)))))), pure vs H Q E h⟩
theorem ok_Play_ahead {sp_Play_ahead : Sp} (T : Txt K mg A)
    (len : ∀ vs H Q E, sp_Play_ahead vs H Q E → vs.length = 3)
    (pure : ∀ vs H Q E, sp_Play_ahead vs H Q E → t_Play_ahead K A { nx := fun _ H' => Q .non H', rt := Q } (start ["self", "i", "j"] vs) H) :
    FnOk P w K mg base CX0 1 A.f_Play_ahead A.d_Play_ahead ["self", "i", "j"] sp_Play_ahead :=
  T.F_Play_ahead.ok sc_Play_ahead len fun cdv A0 outer s H vs Q E hr h => ⟨t_Play_ahead K A, by
    exact (pss_cons (ps_if (PW.pt (pw_or (pt_cmpR op_ge (pv 1) (pe_callB call_len_seq (by rfl) T.n_len PySem.boot_len (pa_cons (pe_fld (pv 0) rfl) pa_nil)) (nomark _)) (pw_or1 (pt_cmpR op_ge (pv 2) (pe_callB call_len_seq (by rfl) T.n_len PySem.boot_len (pa_cons (pe_fld (pv 0) rfl) pa_nil)) (nomark _))))) (pss_one (ps_ret (pe_un un_neg pe_int))) pss_nil)
      (pss_cons (ps_if (PW.pt (pw_or (pt_cmpR op_eq (pv 1) (pv 2) (nomark _)) (pw_or1 (pt_cmpR (op_inD (hu65 hr)) (pe_tup (pa_cons (pv 1) (pa_cons (pv 2) pa_nil))) (pe_fld (pv 0) rfl) (by rfl))))) (pss_one (ps_ret (pe_un un_neg pe_int))) pss_nil)
      (pss_cons (ps_expr (pe_bm PySem.F.plainAttrs_list PySem.F.slot_list_append PySem.F.type_list_append mt_append (pe_fld (pv 0) rfl) (pa_cons (pe_tup (pa_cons (pv 1) (pa_cons (pv 2) pa_nil))) pa_nil)))
      (pss_one (ps_ret (pe_callB call_len_seq (by rfl) T.n_len PySem.boot_len (pa_cons (pe_fld (pv 0) rfl) pa_nil))))))), pure vs H Q E h⟩
theorem ok_Play_are_rising_roles {sp_Play_are_rising_roles : Sp} (T : Txt K mg A)
    (len : ∀ vs H Q E, sp_Play_are_rising_roles vs H Q E → vs.length = 2)
    (pure : ∀ vs H Q E, sp_Play_are_rising_roles vs H Q E → t_Play_are_rising_roles K A { nx := fun _ H' => Q .non H', rt := Q } (start ["self", "roles", "before", "role"] vs) H) :
    FnOk P w K mg base CX0 1 A.f_Play_are_rising_roles A.d_Play_are_rising_roles ["self", "roles"] sp_Play_are_rising_roles :=
  T.F_Play_are_rising_roles.ok sc_Play_are_rising_roles len fun cdv A0 outer s H vs Q E hr h => ⟨t_Play_are_rising_roles K A, by
    exact (pss_cons (ps_set (i := 2) sc_Play_are_rising_roles.nd rfl (Or.inl rfl) (pe_un un_neg pe_int))
      (pss_cons (ps_for PassesOwn.never rfl (pi_list (pv 1)) (pg_name (i := 3) sc_Play_are_rising_roles.nd rfl (Or.inl rfl)) (pss_cons (ps_if (PW.pt (pw_or (pt_cmpR op_le (pv 3) (pv 2) (nomark _)) (pw_or1 (pt_cmpR op_ge (pv 3) (pe_callB call_len_seq (by rfl) T.n_len PySem.boot_len (pa_cons (pe_fld (pv 0) rfl) pa_nil)) (nomark _))))) (pss_one (ps_ret pe_bl)) pss_nil)
      (pss_one (ps_set (i := 2) sc_Play_are_rising_roles.nd rfl (Or.inl rfl) (pv 3)))))
      (pss_one (ps_ret pe_bl)))), pure vs H Q E h⟩
theorem ok_Play_are_fees {sp_Play_are_fees : Sp} (T : Txt K mg A)
    (len : ∀ vs H Q E, sp_Play_are_fees vs H Q E → vs.length = 2)
    (pure : ∀ vs H Q E, sp_Play_are_fees vs H Q E → t_Play_are_fees K A { nx := fun _ H' => Q .non H', rt := Q } (start ["self", "fees", "told"] vs) H) :
    FnOk P w K mg base CX0 1 A.f_Play_are_fees A.d_Play_are_fees ["self", "fees"] sp_Play_are_fees :=
  T.F_Play_are_fees.ok sc_Play_are_fees len fun cdv A0 outer s H vs Q E hr h => ⟨t_Play_are_fees K A, by
    exact (pss_cons (ps_if (pt_cmpR op_ne (pe_callB call_len_seq (by rfl) T.n_len PySem.boot_len (pa_cons (pv 1) pa_nil)) (pe_callB call_len_seq (by rfl) T.n_len PySem.boot_len (pa_cons (pe_fld (pv 0) rfl) pa_nil)) (nomark _)) (pss_one (ps_ret pe_bl)) pss_nil)
      (pss_cons (ps_for PassesOwn.never rfl (pi_list (pv 1)) (pg_name (i := 2) sc_Play_are_fees.nd rfl (Or.inl rfl)) (pss_one (ps_if (pt_cmpR op_gt (pv 2) (pe_op op_add (pe_glob rfl T.g_MOST_FEE ⟨_, rfl⟩) pe_int) (nomark _)) (pss_one (ps_ret pe_bl)) pss_nil)))
      (pss_one (ps_ret pe_bl)))), pure vs H Q E h⟩
theorem ok_Reader_init {sp_Reader_init : Sp} (T : Txt K mg A)
    (len : ∀ vs H Q E, sp_Reader_init vs H Q E → vs.length = 2)
    (pure : ∀ vs H Q E, sp_Reader_init vs H Q E → t_Reader_init K A { nx := fun _ H' => Q .non H', rt := Q } (start ["self", "numbers"] vs) H) :
    FnOk P w K mg base CX0 1 A.f_Reader_init A.d_Reader_init ["self", "numbers"] sp_Reader_init :=
  T.F_Reader_init.ok sc_Reader_init len fun cdv A0 outer s H vs Q E hr h => ⟨t_Reader_init K A, by
    exact (pss_cons (ps_fld (pv 0) (pv 1) rfl)
      (pss_one (ps_fld (pv 0) pe_int rfl))), pure vs H Q E h⟩
theorem ok_Reader_is_done {sp_Reader_is_done : Sp} (T : Txt K mg A)
    (len : ∀ vs H Q E, sp_Reader_is_done vs H Q E → vs.length = 1)
    (pure : ∀ vs H Q E, sp_Reader_is_done vs H Q E → t_Reader_is_done K A { nx := fun _ H' => Q .non H', rt := Q } (start ["self"] vs) H) :
    FnOk P w K mg base CX0 1 A.f_Reader_is_done A.d_Reader_is_done ["self"] sp_Reader_is_done :=
  T.F_Reader_is_done.ok sc_Reader_is_done len fun cdv A0 outer s H vs Q E hr h => ⟨t_Reader_is_done K A, by
    exact (pss_one (ps_ret (pe_cmpR op_ge (pe_fld (pv 0) rfl) (pe_callB call_len_seq (by rfl) T.n_len PySem.boot_len (pa_cons (pe_fld (pv 0) rfl) pa_nil)) (nomark _)))), pure vs H Q E h⟩
theorem ok_Reader_number {sp_Reader_number : Sp} (T : Txt K mg A)
    (len : ∀ vs H Q E, sp_Reader_number vs H Q E → vs.length = 1)
    (pure : ∀ vs H Q E, sp_Reader_number vs H Q E → t_Reader_number K A { nx := fun _ H' => Q .non H', rt := Q } (start ["self", "found"] vs) H) :
    FnOk P w K mg base CX0 1 A.f_Reader_number A.d_Reader_number ["self"] sp_Reader_number :=
  T.F_Reader_number.ok sc_Reader_number len fun cdv A0 outer s H vs Q E hr h => ⟨t_Reader_number K A, by
    exact (pss_cons (ps_set (i := 1) sc_Reader_number.nd rfl (Or.inl rfl) (pe_ix ix_list (pe_fld (pv 0) rfl) (pe_fld (pv 0) rfl) (fun _ _ => rfl)))
      (pss_cons (ps_fld (pv 0) (pe_op op_add (pe_fld (pv 0) rfl) pe_int) rfl)
      (pss_one (ps_ret (pv 1))))), pure vs H Q E h⟩
theorem ok_lacks_time {sp_lacks_time sp_comes_too_soon : Sp} (T : Txt K mg A)
    (G_comes_too_soon : FnOk P w K mg base CX0 1 A.f_comes_too_soon A.d_comes_too_soon ["role", "minutes", "scenes"] sp_comes_too_soon)
    (len : ∀ vs H Q E, sp_lacks_time vs H Q E → vs.length = 4)
    (pure : ∀ vs H Q E, sp_lacks_time vs H Q E → t_lacks_time K A sp_comes_too_soon { nx := fun _ H' => Q .non H', rt := Q } (start ["earlier", "later", "dressing", "scenes", "place", "scene"] vs) H) :
    FnOk P w K mg base CX0 2 A.f_lacks_time A.d_lacks_time ["earlier", "later", "dressing", "scenes"] sp_lacks_time :=
  T.F_lacks_time.ok sc_lacks_time len fun cdv A0 outer s H vs Q E hr h => ⟨t_lacks_time K A sp_comes_too_soon, by
    exact (pss_cons (ps_for PassesOwn.never rfl (pi_enum (by rfl) T.n_enumerate (pa_cons (pv 3) pa_nil)) (pg_tup rfl (pgs_cons (pg_name (i := 4) sc_lacks_time.nd rfl (Or.inl rfl)) (pgs_cons (pg_name (i := 5) sc_lacks_time.nd rfl (Or.inl rfl)) pgs_nil))) (pss_one (ps_if (PW.pt (pw_and (pt_cmpR op_in_seq (pv 0) (pe_fld (pv 5) rfl) (by rfl)) (pw_and1 (pt_val (pe_call G_comes_too_soon (hr.mono (by decide)) rfl T.g_comes_too_soon T.F_comes_too_soon.kp T.b_comes_too_soon .nil pass0 (pa_cons (pv 1) (pa_cons (pe_ix ix_list (pv 2) (pv 1) (fun _ _ => rfl)) (pa_cons (pe_slice sl_list (pv 3) (po_some (pe_op op_add (pv 4) pe_int)) po_none) pa_nil)))))))) (pss_one (ps_ret pe_bl)) pss_nil)))
      (pss_one (ps_ret pe_bl))), pure vs H Q E h⟩
theorem ok_wrong_with_casting {sp_wrong_with_casting sp_can_play : Sp} (T : Txt K mg A)
    (G_can_play : FnOk P w K mg base CX0 1 A.f_can_play A.d_can_play ["player", "role"] sp_can_play)
    (len : ∀ vs H Q E, sp_wrong_with_casting vs H Q E → vs.length = 3)
    (pure : ∀ vs H Q E, sp_wrong_with_casting vs H Q E → t_wrong_with_casting K A sp_can_play { nx := fun _ H' => Q .non H', rt := Q } (start ["casting", "players", "clashes", "role", "who", "low", "high"] vs) H) :
    FnOk P w K mg base CX0 2 A.f_wrong_with_casting A.d_wrong_with_casting ["casting", "players", "clashes"] sp_wrong_with_casting :=
  T.F_wrong_with_casting.ok sc_wrong_with_casting len fun cdv A0 outer s H vs Q E hr h => ⟨t_wrong_with_casting K A sp_can_play, by
    exact (pss_cons (ps_for PassesOwn.never rfl (pi_enum (by rfl) T.n_enumerate (pa_cons (pv 0) pa_nil)) (pg_tup rfl (pgs_cons (pg_name (i := 3) sc_wrong_with_casting.nd rfl (Or.inl rfl)) (pgs_cons (pg_name (i := 4) sc_wrong_with_casting.nd rfl (Or.inl rfl)) pgs_nil))) (pss_one (ps_if (pt_not (pt_val (pe_call G_can_play (hr.mono (by decide)) rfl T.g_can_play T.F_can_play.kp T.b_can_play .nil pass0 (pa_cons (pe_ix ix_list (pv 1) (pv 4) (fun _ _ => rfl)) (pa_cons (pv 3) pa_nil))))) (pss_one (ps_ret (pe_lst (pa_cons pe_int (pa_cons (pv 3) (pa_cons (pv 4) pa_nil)))))) pss_nil)))
      (pss_cons (ps_for PassesOwn.never rfl (pi_list (pv 2)) (pg_tup rfl (pgs_cons (pg_name (i := 5) sc_wrong_with_casting.nd rfl (Or.inl rfl)) (pgs_cons (pg_name (i := 6) sc_wrong_with_casting.nd rfl (Or.inl rfl)) pgs_nil))) (pss_one (ps_if (pt_cmpR op_eq (pe_ix ix_list (pv 0) (pv 5) (fun _ _ => rfl)) (pe_ix ix_list (pv 0) (pv 6) (fun _ _ => rfl)) (nomark _)) (pss_one (ps_ret (pe_lst (pa_cons pe_int (pa_cons (pv 5) (pa_cons (pv 6) pa_nil)))))) pss_nil)))
      (pss_one (ps_ret (pe_lst pa_nil))))), pure vs H Q E h⟩
theorem ok_own_pieces {sp_own_pieces sp_is_in : Sp} (T : Txt K mg A)
    (G_is_in : FnOk P w K mg base CX0 1 A.f_is_in A.d_is_in ["who", "casting", "piece"] sp_is_in)
    (len : ∀ vs H Q E, sp_own_pieces vs H Q E → vs.length = 3)
    (pure : ∀ vs H Q E, sp_own_pieces vs H Q E → t_own_pieces K A sp_is_in { nx := fun _ H' => Q .non H', rt := Q } (start ["who", "casting", "pieces", "number", "piece"] vs) H) :
    FnOk P w K mg base CX0 2 A.f_own_pieces A.d_own_pieces ["who", "casting", "pieces"] sp_own_pieces :=
  T.F_own_pieces.ok sc_own_pieces len fun cdv A0 outer s H vs Q E hr h => ⟨t_own_pieces K A sp_is_in, by
    exact (pss_one (ps_ret (pe_callTy call_tuple_of (by rfl) T.n_tuple (by decide +kernel) (pa_cons (pe_lc (own := [("number", 3), ("piece", 4)]) (g := (gTup K 2 (gCons (gName 3) (gCons (gName 4) gNil)))) (tt := (tB (tCall sp_is_in [] E0 (tCons (tVar 0) (tCons (tVar 1) (tCons (tVar 4) tNil)))))) rfl sc_own_pieces.nd (pi_enum (by rfl) T.n_enumerate (pa_cons (pv 2) pa_nil)) (blkOk_by (N := ["who", "casting", "pieces", "number", "piece"]) (sc := defScope s_own_pieces) (by decide +kernel)) (fun _ _ _ _ _ => (pg_tup rfl (pgs_cons (pg_name (i := 3) sc_own_pieces.nd rfl (Or.inl rfl)) (pgs_cons (pg_name (i := 4) sc_own_pieces.nd rfl (Or.inl rfl)) pgs_nil)))) (fun _ _ _ _ _ => (pts_one (pt_val (pe_call G_is_in (hr.mono (by decide)) rfl T.g_is_in T.F_is_in.kp T.b_is_in .nil pass0 (pa_cons (pv 0) (pa_cons (pv 1) (pa_cons (pv 4) pa_nil))))))) (fun _ _ _ _ _ => (pv 3))) pa_nil)))), pure vs H Q E h⟩
theorem ok_order_cost {sp_order_cost sp_stay_cost : Sp} (T : Txt K mg A)
    (G_stay_cost : FnOk P w K mg base CX0 1 A.f_stay_cost A.d_stay_cost ["stay", "player"] sp_stay_cost)
    (len : ∀ vs H Q E, sp_order_cost vs H Q E → vs.length = 2)
    (pure : ∀ vs H Q E, sp_order_cost vs H Q E → t_order_cost K A sp_stay_cost { nx := fun _ H' => Q .non H', rt := Q } (start ["stays", "players", "stay", "player"] vs) H) :
    FnOk P w K mg base CX0 2 A.f_order_cost A.d_order_cost ["stays", "players"] sp_order_cost :=
  T.F_order_cost.ok sc_order_cost len fun cdv A0 outer s H vs Q E hr h => ⟨t_order_cost K A sp_stay_cost, by
    exact (pss_one (ps_ret (pe_callB (cr_sum rfl) (by rfl) T.n_sum (by decide +kernel) (pa_cons (pe_lc (own := [("stay", 2), ("player", 3)]) (g := (gTup K 2 (gCons (gName 2) (gCons (gName 3) gNil)))) (tt := tYes) rfl sc_order_cost.nd (pi_zip (by rfl) T.n_zip (pa_cons (pv 0) (pa_cons (pv 1) pa_nil))) (blkOk_by (N := ["stays", "players", "stay", "player"]) (sc := defScope s_order_cost) (by decide +kernel)) (fun _ _ _ _ _ => (pg_tup rfl (pgs_cons (pg_name (i := 2) sc_order_cost.nd rfl (Or.inl rfl)) (pgs_cons (pg_name (i := 3) sc_order_cost.nd rfl (Or.inl rfl)) pgs_nil)))) (fun _ _ _ _ _ => pts_nil) (fun _ _ _ _ _ => (pe_call G_stay_cost (hr.mono (by decide)) rfl T.g_stay_cost T.F_stay_cost.kp T.b_stay_cost .nil pass0 (pa_cons (pv 2) (pa_cons (pv 3) pa_nil))))) pa_nil)))), pure vs H Q E h⟩
theorem ok_wrong_with_order {sp_wrong_with_order sp_broken_pair sp_wrong_with_stay : Sp} (T : Txt K mg A)
    (G_broken_pair : FnOk P w K mg base CX0 1 A.f_broken_pair A.d_broken_pair ["order", "pairs"] sp_broken_pair)
    (G_wrong_with_stay : FnOk P w K mg base CX0 1 A.f_wrong_with_stay A.d_wrong_with_stay ["stay", "player"] sp_wrong_with_stay)
    (len : ∀ vs H Q E, sp_wrong_with_order vs H Q E → vs.length = 4)
    (pure : ∀ vs H Q E, sp_wrong_with_order vs H Q E → t_wrong_with_order K A sp_broken_pair sp_wrong_with_stay { nx := fun _ H' => Q .non H', rt := Q } (start ["order", "pairs", "stays", "players", "told", "who", "player", "wrong"] vs) H) :
    FnOk P w K mg base CX0 2 A.f_wrong_with_order A.d_wrong_with_order ["order", "pairs", "stays", "players"] sp_wrong_with_order :=
  T.F_wrong_with_order.ok sc_wrong_with_order len fun cdv A0 outer s H vs Q E hr h => ⟨t_wrong_with_order K A sp_broken_pair sp_wrong_with_stay, by
    exact (pss_cons (ps_set (i := 4) sc_wrong_with_order.nd rfl (Or.inl rfl) (pe_call G_broken_pair (hr.mono (by decide)) rfl T.g_broken_pair T.F_broken_pair.kp T.b_broken_pair .nil pass0 (pa_cons (pv 0) (pa_cons (pv 1) pa_nil))))
      (pss_cons (ps_if (pt_cmpR op_notN (pv 4) pe_non (nomark _)) (pss_one (ps_ret (pe_lst (pa_cons pe_int (pa_cons (pv 4) pa_nil))))) pss_nil)
      (pss_cons (ps_for PassesOwn.never rfl (pi_enum (by rfl) T.n_enumerate (pa_cons (pv 3) pa_nil)) (pg_tup rfl (pgs_cons (pg_name (i := 5) sc_wrong_with_order.nd rfl (Or.inl rfl)) (pgs_cons (pg_name (i := 6) sc_wrong_with_order.nd rfl (Or.inl rfl)) pgs_nil))) (pss_cons (ps_set (i := 7) sc_wrong_with_order.nd rfl (Or.inl rfl) (pe_call G_wrong_with_stay (hr.mono (by decide)) rfl T.g_wrong_with_stay T.F_wrong_with_stay.kp T.b_wrong_with_stay .nil pass0 (pa_cons (pe_ix ix_list (pv 2) (pv 5) (fun _ _ => rfl)) (pa_cons (pv 6) pa_nil))))
      (pss_one (ps_if (pt_cmpR op_ne (pv 7) pe_int (nomark _)) (pss_one (ps_ret (pe_lst (pa_cons (pv 7) (pa_cons (pv 5) pa_nil))))) pss_nil))))
      (pss_one (ps_ret (pe_lst pa_nil)))))), pure vs H Q E h⟩
theorem ok_Rehearsals_init {sp_Rehearsals_init sp_all_orders sp_broken_pair sp_beginnings : Sp} (T : Txt K mg A)
    (G_all_orders : FnOk P w K mg base CX0 1 A.f_all_orders A.d_all_orders ["pieces"] sp_all_orders)
    (G_broken_pair : FnOk P w K mg base CX0 1 A.f_broken_pair A.d_broken_pair ["order", "pairs"] sp_broken_pair)
    (G_beginnings : FnOk P w K mg base CX0 1 A.f_beginnings A.d_beginnings ["order", "pieces"] sp_beginnings)
    (len : ∀ vs H Q E, sp_Rehearsals_init vs H Q E → vs.length = 4)
    (pure : ∀ vs H Q E, sp_Rehearsals_init vs H Q E → t_Rehearsals_init P w K A sp_all_orders sp_broken_pair sp_beginnings { nx := fun _ H' => Q .non H', rt := Q } (start ["self", "players", "pieces", "pairs", "order"] vs) H) :
    FnOk P w K mg base CX0 2 A.f_Rehearsals_init A.d_Rehearsals_init ["self", "players", "pieces", "pairs"] sp_Rehearsals_init :=
  T.F_Rehearsals_init.ok sc_Rehearsals_init len fun cdv A0 outer s H vs Q E hr h => ⟨t_Rehearsals_init P w K A sp_all_orders sp_broken_pair sp_beginnings, by
    exact (pss_cons (ps_fld (pv 0) (pv 1) rfl)
      (pss_cons (ps_fld (pv 0) (pv 2) rfl)
      (pss_cons (ps_fld (pv 0) (pe_lc (own := [("order", 4)]) (g := (gName 4)) (tt := (tTest (tOp oIsN (tCall sp_broken_pair [] E0 (tCons (tVar 4) (tCons (tVar 3) tNil))) (tC .non)))) rfl sc_Rehearsals_init.nd (pi_list (pe_call G_all_orders (hr.mono (by decide)) rfl T.g_all_orders T.F_all_orders.kp T.b_all_orders .nil pass0 (pa_cons (pe_callB call_len_seq (by rfl) T.n_len PySem.boot_len (pa_cons (pv 2) pa_nil)) pa_nil))) (blkOk_by (N := ["self", "players", "pieces", "pairs", "order"]) (sc := defScope s_Rehearsals_init) (by decide +kernel)) (fun _ _ _ _ _ => (pg_name (i := 4) sc_Rehearsals_init.nd rfl (Or.inl rfl))) (fun _ _ _ _ _ => (pts_one (pt_cmpR op_isN (pe_call G_broken_pair (hr.mono (by decide)) rfl T.g_broken_pair T.F_broken_pair.kp T.b_broken_pair .nil pass0 (pa_cons (pv 4) (pa_cons (pv 3) pa_nil))) pe_non (nomark _)))) (fun _ _ _ _ _ => (pv 4))) rfl)
      (pss_cons (ps_fld (pv 0) (pe_lc (own := [("order", 4)]) (g := (gName 4)) (tt := tYes) rfl sc_Rehearsals_init.nd (pi_list (pe_fld (pv 0) rfl)) (blkOk_by (N := ["self", "players", "pieces", "pairs", "order"]) (sc := defScope s_Rehearsals_init) (by decide +kernel)) (fun _ _ _ _ _ => (pg_name (i := 4) sc_Rehearsals_init.nd rfl (Or.inl rfl))) (fun _ _ _ _ _ => pts_nil) (fun _ _ _ _ _ => (pe_call G_beginnings (hr.mono (by decide)) rfl T.g_beginnings T.F_beginnings.kp T.b_beginnings .nil pass0 (pa_cons (pv 4) (pa_cons (pv 2) pa_nil))))) rfl)
      (pss_one (ps_fld (pv 0) pe_newN rfl)))))), pure vs H Q E h⟩
theorem ok_Rehearsals_player_cost {sp_Rehearsals_player_cost sp_stay_for sp_wrong_with_stay sp_stay_cost : Sp} (T : Txt K mg A)
    (G_stay_for : FnOk P w K mg base CX0 1 A.f_stay_for A.d_stay_for ["own", "begun", "pieces"] sp_stay_for)
    (G_wrong_with_stay : FnOk P w K mg base CX0 1 A.f_wrong_with_stay A.d_wrong_with_stay ["stay", "player"] sp_wrong_with_stay)
    (G_stay_cost : FnOk P w K mg base CX0 1 A.f_stay_cost A.d_stay_cost ["stay", "player"] sp_stay_cost)
    (len : ∀ vs H Q E, sp_Rehearsals_player_cost vs H Q E → vs.length = 4)
    (pure : ∀ vs H Q E, sp_Rehearsals_player_cost vs H Q E → t_Rehearsals_player_cost K A sp_stay_for sp_wrong_with_stay sp_stay_cost { nx := fun _ H' => Q .non H', rt := Q } (start ["self", "who", "own", "begun", "stay"] vs) H) :
    FnOk P w K mg base CX0 2 A.f_Rehearsals_player_cost A.d_Rehearsals_player_cost ["self", "who", "own", "begun"] sp_Rehearsals_player_cost :=
  T.F_Rehearsals_player_cost.ok sc_Rehearsals_player_cost len fun cdv A0 outer s H vs Q E hr h => ⟨t_Rehearsals_player_cost K A sp_stay_for sp_wrong_with_stay sp_stay_cost, by
    exact (pss_cons (ps_set (i := 4) sc_Rehearsals_player_cost.nd rfl (Or.inl rfl) (pe_call G_stay_for (hr.mono (by decide)) rfl T.g_stay_for T.F_stay_for.kp T.b_stay_for .nil pass0 (pa_cons (pv 2) (pa_cons (pv 3) (pa_cons (pe_fld (pv 0) rfl) pa_nil)))))
      (pss_cons (ps_if (pt_cmpR op_ne (pe_call G_wrong_with_stay (hr.mono (by decide)) rfl T.g_wrong_with_stay T.F_wrong_with_stay.kp T.b_wrong_with_stay .nil pass0 (pa_cons (pv 4) (pa_cons (pe_ix ix_list (pe_fld (pv 0) rfl) (pv 1) (fun _ _ => rfl)) pa_nil))) pe_int (nomark _)) (pss_one (ps_ret pe_non)) pss_nil)
      (pss_one (ps_ret (pe_call G_stay_cost (hr.mono (by decide)) rfl T.g_stay_cost T.F_stay_cost.kp T.b_stay_cost .nil pass0 (pa_cons (pv 4) (pa_cons (pe_ix ix_list (pe_fld (pv 0) rfl) (pv 1) (fun _ _ => rfl)) pa_nil))))))), pure vs H Q E h⟩
theorem ok_Play_init {sp_Play_init sp_Play_renew : Sp} (T : Txt K mg A)
    (G_Play_renew : FnOk P w K mg base CX0 1 A.f_Play_renew A.d_Play_renew ["self", "dressing"] sp_Play_renew)
    (len : ∀ vs H Q E, sp_Play_init vs H Q E → vs.length = 1)
    (pure : ∀ vs H Q E, sp_Play_init vs H Q E → t_Play_init K A sp_Play_renew { nx := fun _ H' => Q .non H', rt := Q } (start ["self"] vs) H) :
    FnOk P w K mg base CX0 2 A.f_Play_init A.d_Play_init ["self"] sp_Play_init :=
  T.F_Play_init.ok sc_Play_init len fun cdv A0 outer s H vs Q E hr h => ⟨t_Play_init K A sp_Play_renew, by
    exact (pss_one (ps_expr (pe_meth (pv 0) T.cl_Play T.m_Play_renew G_Play_renew (hr.mono (by decide)) T.b_Play_renew .nil pass0 (pa_cons (pe_lst pa_nil) pa_nil)))), pure vs H Q E h⟩
theorem ok_Play_begins {sp_Play_begins sp_Play_renew : Sp} (T : Txt K mg A)
    (G_Play_renew : FnOk P w K mg base CX0 1 A.f_Play_renew A.d_Play_renew ["self", "dressing"] sp_Play_renew)
    (len : ∀ vs H Q E, sp_Play_begins vs H Q E → vs.length = 2)
    (pure : ∀ vs H Q E, sp_Play_begins vs H Q E → t_Play_begins K A sp_Play_renew { nx := fun _ H' => Q .non H', rt := Q } (start ["self", "dressing"] vs) H) :
    FnOk P w K mg base CX0 2 A.f_Play_begins A.d_Play_begins ["self", "dressing"] sp_Play_begins :=
  T.F_Play_begins.ok sc_Play_begins len fun cdv A0 outer s H vs Q E hr h => ⟨t_Play_begins K A sp_Play_renew, by
    exact (pss_cons (ps_if (PW.pt (pw_or (pt_cmpR op_lt (pe_callB call_len_seq (by rfl) T.n_len PySem.boot_len (pa_cons (pv 1) pa_nil)) pe_int (nomark _)) (pw_or1 (pt_cmpR op_gt (pe_callB call_len_seq (by rfl) T.n_len PySem.boot_len (pa_cons (pv 1) pa_nil)) (pe_glob rfl T.g_MOST_ROLES ⟨_, rfl⟩) (nomark _))))) (pss_one (ps_ret (pe_un un_neg pe_int))) pss_nil)
      (pss_cons (ps_if (pt_cmpR op_gt (pe_callB (cr_max rfl) (by rfl) T.n_max (by decide +kernel) (pa_cons (pv 1) pa_nil)) (pe_glob rfl T.g_MOST_DRESSING ⟨_, rfl⟩) (nomark _)) (pss_one (ps_ret (pe_un un_neg pe_int))) pss_nil)
      (pss_cons (ps_expr (pe_meth (pv 0) T.cl_Play T.m_Play_renew G_Play_renew (hr.mono (by decide)) T.b_Play_renew .nil pass0 (pa_cons (pv 1) pa_nil)))
      (pss_one (ps_ret (pe_callB call_len_seq (by rfl) T.n_len PySem.boot_len (pa_cons (pv 1) pa_nil))))))), pure vs H Q E h⟩
theorem ok_Reader_row {sp_Reader_row sp_Reader_number : Sp} (T : Txt K mg A)
    (G_Reader_number : FnOk P w K mg base CX0 1 A.f_Reader_number A.d_Reader_number ["self"] sp_Reader_number)
    (len : ∀ vs H Q E, sp_Reader_row vs H Q E → vs.length = 1)
    (pure : ∀ vs H Q E, sp_Reader_row vs H Q E → t_Reader_row K A sp_Reader_number { nx := fun _ H' => Q .non H', rt := Q } (start ["self", "size", "found"] vs) H) :
    FnOk P w K mg base CX0 2 A.f_Reader_row A.d_Reader_row ["self"] sp_Reader_row :=
  T.F_Reader_row.ok sc_Reader_row len fun cdv A0 outer s H vs Q E hr h => ⟨t_Reader_row K A sp_Reader_number, by
    exact (pss_cons (ps_set (i := 1) sc_Reader_row.nd rfl (Or.inl rfl) (pe_meth0 (pv 0) T.cl_Reader T.m_Reader_number G_Reader_number (hr.mono (by decide)) T.b_Reader_number .nil pass0))
      (pss_cons (ps_set (i := 2) sc_Reader_row.nd rfl (Or.inl rfl) (pe_slice sl_list (pe_fld (pv 0) rfl) (po_some (pe_fld (pv 0) rfl)) (po_some (pe_op op_add (pe_fld (pv 0) rfl) (pv 1)))))
      (pss_cons (ps_fld (pv 0) (pe_op op_add (pe_fld (pv 0) rfl) (pv 1)) rfl)
      (pss_one (ps_ret (pv 2)))))), pure vs H Q E h⟩
theorem ok_answer_ahead {sp_answer_ahead sp_Reader_number sp_Play_ahead : Sp} (T : Txt K mg A)
    (G_Reader_number : FnOk P w K mg base CX0 1 A.f_Reader_number A.d_Reader_number ["self"] sp_Reader_number)
    (G_Play_ahead : FnOk P w K mg base CX0 1 A.f_Play_ahead A.d_Play_ahead ["self", "i", "j"] sp_Play_ahead)
    (len : ∀ vs H Q E, sp_answer_ahead vs H Q E → vs.length = 2)
    (pure : ∀ vs H Q E, sp_answer_ahead vs H Q E → t_answer_ahead K A sp_Reader_number sp_Play_ahead { nx := fun _ H' => Q .non H', rt := Q } (start ["play", "reader", "i", "j"] vs) H) :
    FnOk P w K mg base CX0 2 A.f_answer_ahead A.d_answer_ahead ["play", "reader"] sp_answer_ahead :=
  T.F_answer_ahead.ok sc_answer_ahead len fun cdv A0 outer s H vs Q E hr h => ⟨t_answer_ahead K A sp_Reader_number sp_Play_ahead, by
    exact (pss_cons (ps_set (i := 2) sc_answer_ahead.nd rfl (Or.inl rfl) (pe_meth0 (pv 1) T.cl_Reader T.m_Reader_number G_Reader_number (hr.mono (by decide)) T.b_Reader_number .nil pass0))
      (pss_cons (ps_set (i := 3) sc_answer_ahead.nd rfl (Or.inl rfl) (pe_meth0 (pv 1) T.cl_Reader T.m_Reader_number G_Reader_number (hr.mono (by decide)) T.b_Reader_number .nil pass0))
      (pss_one (ps_ret (pe_lst (pa_cons (pe_meth (pv 0) T.cl_Play T.m_Play_ahead G_Play_ahead (hr.mono (by decide)) T.b_Play_ahead .nil pass0 (pa_cons (pv 2) (pa_cons (pv 3) pa_nil))) pa_nil)))))), pure vs H Q E h⟩
theorem ok_do_clash {sp_do_clash sp_are_in_one_scene sp_lacks_time : Sp} (T : Txt K mg A)
    (G_are_in_one_scene : FnOk P w K mg base CX0 1 A.f_are_in_one_scene A.d_are_in_one_scene ["one", "other", "scenes"] sp_are_in_one_scene)
    (G_lacks_time : FnOk P w K mg base CX0 2 A.f_lacks_time A.d_lacks_time ["earlier", "later", "dressing", "scenes"] sp_lacks_time)
    (len : ∀ vs H Q E, sp_do_clash vs H Q E → vs.length = 4)
    (pure : ∀ vs H Q E, sp_do_clash vs H Q E → t_do_clash K A sp_are_in_one_scene sp_lacks_time { nx := fun _ H' => Q .non H', rt := Q } (start ["one", "other", "dressing", "scenes"] vs) H) :
    FnOk P w K mg base CX0 3 A.f_do_clash A.d_do_clash ["one", "other", "dressing", "scenes"] sp_do_clash :=
  T.F_do_clash.ok sc_do_clash len fun cdv A0 outer s H vs Q E hr h => ⟨t_do_clash K A sp_are_in_one_scene sp_lacks_time, by
    exact (pss_cons (ps_if (pt_val (pe_call G_are_in_one_scene (hr.mono (by decide)) rfl T.g_are_in_one_scene T.F_are_in_one_scene.kp T.b_are_in_one_scene .nil pass0 (pa_cons (pv 0) (pa_cons (pv 1) (pa_cons (pv 3) pa_nil))))) (pss_one (ps_ret pe_bl)) pss_nil)
      (pss_one (ps_ret (pe_or (pe_call G_lacks_time (hr.mono (by decide)) rfl T.g_lacks_time T.F_lacks_time.kp T.b_lacks_time .nil pass0 (pa_cons (pv 0) (pa_cons (pv 1) (pa_cons (pv 2) (pa_cons (pv 3) pa_nil))))) (pe_one (pe_call G_lacks_time (hr.mono (by decide)) rfl T.g_lacks_time T.F_lacks_time.kp T.b_lacks_time .nil pass0 (pa_cons (pv 1) (pa_cons (pv 0) (pa_cons (pv 2) (pa_cons (pv 3) pa_nil)))))))))), pure vs H Q E h⟩
theorem ok_stays_of_all {sp_stays_of_all sp_beginnings sp_stay_for sp_own_pieces : Sp} (T : Txt K mg A)
    (G_beginnings : FnOk P w K mg base CX0 1 A.f_beginnings A.d_beginnings ["order", "pieces"] sp_beginnings)
    (G_stay_for : FnOk P w K mg base CX0 1 A.f_stay_for A.d_stay_for ["own", "begun", "pieces"] sp_stay_for)
    (G_own_pieces : FnOk P w K mg base CX0 2 A.f_own_pieces A.d_own_pieces ["who", "casting", "pieces"] sp_own_pieces)
    (len : ∀ vs H Q E, sp_stays_of_all vs H Q E → vs.length = 4)
    (pure : ∀ vs H Q E, sp_stays_of_all vs H Q E → t_stays_of_all K A sp_beginnings sp_stay_for sp_own_pieces { nx := fun _ H' => Q .non H', rt := Q } (start ["casting", "order", "players", "pieces", "begun", "who"] vs) H) :
    FnOk P w K mg base CX0 3 A.f_stays_of_all A.d_stays_of_all ["casting", "order", "players", "pieces"] sp_stays_of_all :=
  T.F_stays_of_all.ok sc_stays_of_all len fun cdv A0 outer s H vs Q E hr h => ⟨t_stays_of_all K A sp_beginnings sp_stay_for sp_own_pieces, by
    exact (pss_cons (ps_set (i := 4) sc_stays_of_all.nd rfl (Or.inr rfl) (pe_call G_beginnings (hr.mono (by decide)) rfl T.g_beginnings T.F_beginnings.kp T.b_beginnings .nil pass0 (pa_cons (pv 1) (pa_cons (pv 3) pa_nil))))
      (pss_one (ps_ret (pe_lc (own := [("who", 5)]) (g := (gName 5)) (tt := tYes) rfl sc_stays_of_all.nd (pi_range1 rfl T.n_range (pa_cons (pe_callB call_len_seq (by rfl) T.n_len PySem.boot_len (pa_cons (pv 2) pa_nil)) pa_nil)) (blkOk_by (N := ["casting", "order", "players", "pieces", "begun", "who"]) (sc := defScope s_stays_of_all) (by decide +kernel)) (fun _ _ _ _ _ => (pg_name (i := 5) sc_stays_of_all.nd rfl (Or.inl rfl))) (fun _ _ _ _ _ => pts_nil) (fun _ _ _ _ _ => (pe_call G_stay_for (hr.mono (by decide)) rfl T.g_stay_for T.F_stay_for.kp T.b_stay_for .nil pass0 (pa_cons (pe_call G_own_pieces (hr.mono (by decide)) rfl T.g_own_pieces T.F_own_pieces.kp T.b_own_pieces .nil pass0 (pa_cons (pv 5) (pa_cons (pv 0) (pa_cons (pv 3) pa_nil)))) (pa_cons (pv 4) (pa_cons (pv 3) pa_nil))))))))), pure vs H Q E h⟩
theorem ok_Rehearsals_player_costs {sp_Rehearsals_player_costs sp_Rehearsals_player_cost : Sp} (T : Txt K mg A)
    (G_Rehearsals_player_cost : FnOk P w K mg base CX0 2 A.f_Rehearsals_player_cost A.d_Rehearsals_player_cost ["self", "who", "own", "begun"] sp_Rehearsals_player_cost)
    (len : ∀ vs H Q E, sp_Rehearsals_player_costs vs H Q E → vs.length = 3)
    (pure : ∀ vs H Q E, sp_Rehearsals_player_costs vs H Q E → t_Rehearsals_player_costs P w K A sp_Rehearsals_player_cost { nx := fun _ H' => Q .non H', rt := Q } (start ["self", "who", "own", "begun"] vs) H) :
    FnOk P w K mg base CX0 3 A.f_Rehearsals_player_costs A.d_Rehearsals_player_costs ["self", "who", "own"] sp_Rehearsals_player_costs :=
  T.F_Rehearsals_player_costs.ok sc_Rehearsals_player_costs len fun cdv A0 outer s H vs Q E hr h => ⟨t_Rehearsals_player_costs P w K A sp_Rehearsals_player_cost, by
    exact (pss_cons (ps_if (pt_cmpR (op_notN2 hr.units) (pe_tup (pa_cons (pv 1) (pa_cons (pv 2) pa_nil))) (pe_fld (pv 0) rfl) (by rfl)) (pss_one (ps_asg (pe_lc (own := [("begun", 3)]) (g := (gName 3)) (tt := tYes) rfl sc_Rehearsals_player_costs.nd (pi_list (pe_fld (pv 0) rfl)) (blkOk_by (N := ["self", "who", "own", "begun"]) (sc := defScope s_Rehearsals_player_costs) (by decide +kernel)) (fun _ _ _ _ _ => (pg_name (i := 3) sc_Rehearsals_player_costs.nd rfl (Or.inl rfl))) (fun _ _ _ _ _ => pts_nil) (fun _ _ _ _ _ => (pe_meth (pv 0) T.cl_Rehearsals T.m_Rehearsals_player_cost G_Rehearsals_player_cost (hr.mono (by decide)) T.b_Rehearsals_player_cost .nil pass0 (pa_cons (pv 1) (pa_cons (pv 2) (pa_cons (pv 3) pa_nil)))))) (pg_sub (pe_fld (pv 0) rfl) (pe_tup (pa_cons (pv 1) (pa_cons (pv 2) pa_nil))) (set_N hr.units)))) pss_nil)
      (pss_one (ps_ret (pe_getN hr.units (pe_fld (pv 0) rfl) (pe_tup (pa_cons (pv 1) (pa_cons (pv 2) pa_nil))) (fun _ _ => rfl))))), pure vs H Q E h⟩
theorem ok_Play_scene {sp_Play_scene sp_Play_are_rising_roles sp_Scene_init : Sp} (T : Txt K mg A)
    (G_Play_are_rising_roles : FnOk P w K mg base CX0 1 A.f_Play_are_rising_roles A.d_Play_are_rising_roles ["self", "roles"] sp_Play_are_rising_roles)
    (G_Scene_init : FnOk P w K mg base CX0 1 A.f_Scene_init A.d_Scene_init ["self", "minutes", "roles"] sp_Scene_init)
    (len : ∀ vs H Q E, sp_Play_scene vs H Q E → vs.length = 3)
    (pure : ∀ vs H Q E, sp_Play_scene vs H Q E → t_Play_scene K A sp_Play_are_rising_roles sp_Scene_init { nx := fun _ H' => Q .non H', rt := Q } (start ["self", "minutes", "roles"] vs) H) :
    FnOk P w K mg base CX0 3 A.f_Play_scene A.d_Play_scene ["self", "minutes", "roles"] sp_Play_scene :=
  T.F_Play_scene.ok sc_Play_scene len fun cdv A0 outer s H vs Q E hr h => ⟨t_Play_scene K A sp_Play_are_rising_roles sp_Scene_init, by
    exact (pss_cons (ps_if (PW.pt (pw_or (pt_cmpR op_gt (pv 1) (pe_glob rfl T.g_MOST_SCENE_MINUTES ⟨_, rfl⟩) (nomark _)) (pw_or1 (pt_not (pt_val (pe_meth (pv 0) T.cl_Play T.m_Play_are_rising_roles G_Play_are_rising_roles (hr.mono (by decide)) T.b_Play_are_rising_roles .nil pass0 (pa_cons (pv 2) pa_nil))))))) (pss_one (ps_ret (pe_un un_neg pe_int))) pss_nil)
      (pss_cons (ps_if (pt_cmpR op_ge (pe_callB call_len_seq (by rfl) T.n_len PySem.boot_len (pa_cons (pe_fld (pv 0) rfl) pa_nil)) (pe_glob rfl T.g_MOST_SCENES ⟨_, rfl⟩) (nomark _)) (pss_one (ps_ret (pe_un un_neg pe_int))) pss_nil)
      (pss_cons (ps_expr (pe_bm PySem.F.plainAttrs_list PySem.F.slot_list_append PySem.F.type_list_append mt_append (pe_fld (pv 0) rfl) (pa_cons (pe_make T.mk_Scene G_Scene_init (hr.mono (by decide)) rfl T.g_Scene T.b_Scene_init .nil pass0 (pa_cons (pv 1) (pa_cons (pv 2) pa_nil))) pa_nil)))
      (pss_one (ps_ret (pe_op op_sub (pe_callB call_len_seq (by rfl) T.n_len PySem.boot_len (pa_cons (pe_fld (pv 0) rfl) pa_nil)) pe_int)))))), pure vs H Q E h⟩
theorem ok_Play_player {sp_Play_player sp_Play_are_fees sp_Player_init : Sp} (T : Txt K mg A)
    (G_Play_are_fees : FnOk P w K mg base CX0 1 A.f_Play_are_fees A.d_Play_are_fees ["self", "fees"] sp_Play_are_fees)
    (G_Player_init : FnOk P w K mg base CX0 1 A.f_Player_init A.d_Player_init ["self", "wage", "rate", "since", "till", "fees"] sp_Player_init)
    (len : ∀ vs H Q E, sp_Play_player vs H Q E → vs.length = 6)
    (pure : ∀ vs H Q E, sp_Play_player vs H Q E → t_Play_player K A sp_Play_are_fees sp_Player_init { nx := fun _ H' => Q .non H', rt := Q } (start ["self", "wage", "rate", "since", "till", "fees"] vs) H) :
    FnOk P w K mg base CX0 3 A.f_Play_player A.d_Play_player ["self", "wage", "rate", "since", "till", "fees"] sp_Play_player :=
  T.F_Play_player.ok sc_Play_player len fun cdv A0 outer s H vs Q E hr h => ⟨t_Play_player K A sp_Play_are_fees sp_Player_init, by
    exact (pss_cons (ps_if (PW.pt (pw_or (pt_cmpR op_gt (pv 2) (pe_glob rfl T.g_MOST_RATE ⟨_, rfl⟩) (nomark _)) (pw_or (pt_cmpR op_lt (pv 4) (pv 3) (nomark _)) (pw_or1 (pt_cmpR op_gt (pv 4) (pe_glob rfl T.g_LAST_MINUTE ⟨_, rfl⟩) (nomark _)))))) (pss_one (ps_ret (pe_un un_neg pe_int))) pss_nil)
      (pss_cons (ps_if (pt_cmpR op_ge (pe_callB call_len_seq (by rfl) T.n_len PySem.boot_len (pa_cons (pe_fld (pv 0) rfl) pa_nil)) (pe_glob rfl T.g_MOST_PLAYERS ⟨_, rfl⟩) (nomark _)) (pss_one (ps_ret (pe_un un_neg pe_int))) pss_nil)
      (pss_cons (ps_if (PW.pt (pw_or (pt_cmpR op_gt (pv 1) (pe_glob rfl T.g_MOST_WAGE ⟨_, rfl⟩) (nomark _)) (pw_or1 (pt_not (pt_val (pe_meth (pv 0) T.cl_Play T.m_Play_are_fees G_Play_are_fees (hr.mono (by decide)) T.b_Play_are_fees .nil pass0 (pa_cons (pv 5) pa_nil))))))) (pss_one (ps_ret (pe_un un_neg pe_int))) pss_nil)
      (pss_cons (ps_expr (pe_bm PySem.F.plainAttrs_list PySem.F.slot_list_append PySem.F.type_list_append mt_append (pe_fld (pv 0) rfl) (pa_cons (pe_make T.mk_Player G_Player_init (hr.mono (by decide)) rfl T.g_Player T.b_Player_init .nil pass0 (pa_cons (pv 1) (pa_cons (pv 2) (pa_cons (pv 3) (pa_cons (pv 4) (pa_cons (pv 5) pa_nil)))))) pa_nil)))
      (pss_one (ps_ret (pe_op op_sub (pe_callB call_len_seq (by rfl) T.n_len PySem.boot_len (pa_cons (pe_fld (pv 0) rfl) pa_nil)) pe_int))))))), pure vs H Q E h⟩
theorem ok_Play_piece {sp_Play_piece sp_Play_are_rising_roles sp_Piece_init : Sp} (T : Txt K mg A)
    (G_Play_are_rising_roles : FnOk P w K mg base CX0 1 A.f_Play_are_rising_roles A.d_Play_are_rising_roles ["self", "roles"] sp_Play_are_rising_roles)
    (G_Piece_init : FnOk P w K mg base CX0 1 A.f_Piece_init A.d_Piece_init ["self", "minutes", "roles"] sp_Piece_init)
    (len : ∀ vs H Q E, sp_Play_piece vs H Q E → vs.length = 3)
    (pure : ∀ vs H Q E, sp_Play_piece vs H Q E → t_Play_piece K A sp_Play_are_rising_roles sp_Piece_init { nx := fun _ H' => Q .non H', rt := Q } (start ["self", "minutes", "roles"] vs) H) :
    FnOk P w K mg base CX0 3 A.f_Play_piece A.d_Play_piece ["self", "minutes", "roles"] sp_Play_piece :=
  T.F_Play_piece.ok sc_Play_piece len fun cdv A0 outer s H vs Q E hr h => ⟨t_Play_piece K A sp_Play_are_rising_roles sp_Piece_init, by
    exact (pss_cons (ps_if (PW.pt (pw_or (pt_cmpR op_lt (pv 1) pe_int (nomark _)) (pw_or (pt_cmpR op_gt (pv 1) (pe_glob rfl T.g_MOST_PIECE_MINUTES ⟨_, rfl⟩) (nomark _)) (pw_or1 (pt_not (pt_val (pe_meth (pv 0) T.cl_Play T.m_Play_are_rising_roles G_Play_are_rising_roles (hr.mono (by decide)) T.b_Play_are_rising_roles .nil pass0 (pa_cons (pv 2) pa_nil)))))))) (pss_one (ps_ret (pe_un un_neg pe_int))) pss_nil)
      (pss_cons (ps_if (pt_cmpR op_ge (pe_callB call_len_seq (by rfl) T.n_len PySem.boot_len (pa_cons (pe_fld (pv 0) rfl) pa_nil)) (pe_glob rfl T.g_MOST_PIECES ⟨_, rfl⟩) (nomark _)) (pss_one (ps_ret (pe_un un_neg pe_int))) pss_nil)
      (pss_cons (ps_expr (pe_bm PySem.F.plainAttrs_list PySem.F.slot_list_append PySem.F.type_list_append mt_append (pe_fld (pv 0) rfl) (pa_cons (pe_make T.mk_Piece G_Piece_init (hr.mono (by decide)) rfl T.g_Piece T.b_Piece_init .nil pass0 (pa_cons (pv 1) (pa_cons (pv 2) pa_nil))) pa_nil)))
      (pss_one (ps_ret (pe_op op_sub (pe_callB call_len_seq (by rfl) T.n_len PySem.boot_len (pa_cons (pe_fld (pv 0) rfl) pa_nil)) pe_int)))))), pure vs H Q E h⟩
theorem ok_answer_begins {sp_answer_begins sp_Reader_row sp_Play_begins : Sp} (T : Txt K mg A)
    (G_Reader_row : FnOk P w K mg base CX0 2 A.f_Reader_row A.d_Reader_row ["self"] sp_Reader_row)
    (G_Play_begins : FnOk P w K mg base CX0 2 A.f_Play_begins A.d_Play_begins ["self", "dressing"] sp_Play_begins)
    (len : ∀ vs H Q E, sp_answer_begins vs H Q E → vs.length = 2)
    (pure : ∀ vs H Q E, sp_answer_begins vs H Q E → t_answer_begins K A sp_Reader_row sp_Play_begins { nx := fun _ H' => Q .non H', rt := Q } (start ["play", "reader", "dressing"] vs) H) :
    FnOk P w K mg base CX0 3 A.f_answer_begins A.d_answer_begins ["play", "reader"] sp_answer_begins :=
  T.F_answer_begins.ok sc_answer_begins len fun cdv A0 outer s H vs Q E hr h => ⟨t_answer_begins K A sp_Reader_row sp_Play_begins, by
    exact (pss_cons (ps_set (i := 2) sc_answer_begins.nd rfl (Or.inl rfl) (pe_meth0 (pv 1) T.cl_Reader T.m_Reader_row G_Reader_row (hr.mono (by decide)) T.b_Reader_row .nil pass0))
      (pss_one (ps_ret (pe_lst (pa_cons (pe_meth (pv 0) T.cl_Play T.m_Play_begins G_Play_begins (hr.mono (by decide)) T.b_Play_begins .nil pass0 (pa_cons (pv 2) pa_nil)) pa_nil))))), pure vs H Q E h⟩
theorem ok_clashing_pairs {sp_clashing_pairs sp_do_clash : Sp} (T : Txt K mg A)
    (G_do_clash : FnOk P w K mg base CX0 3 A.f_do_clash A.d_do_clash ["one", "other", "dressing", "scenes"] sp_do_clash)
    (len : ∀ vs H Q E, sp_clashing_pairs vs H Q E → vs.length = 2)
    (pure : ∀ vs H Q E, sp_clashing_pairs vs H Q E → t_clashing_pairs K A sp_do_clash { nx := fun _ H' => Q .non H', rt := Q } (start ["dressing", "scenes", "found", "low", "high"] vs) H) :
    FnOk P w K mg base CX0 4 A.f_clashing_pairs A.d_clashing_pairs ["dressing", "scenes"] sp_clashing_pairs :=
  T.F_clashing_pairs.ok sc_clashing_pairs len fun cdv A0 outer s H vs Q E hr h => ⟨t_clashing_pairs K A sp_do_clash, by
    exact (pss_cons (ps_set (i := 2) sc_clashing_pairs.nd rfl (Or.inl rfl) (pe_lst pa_nil))
      (pss_cons (ps_for PassesOwn.never rfl (pi_range1 rfl T.n_range (pa_cons (pe_callB call_len_seq (by rfl) T.n_len PySem.boot_len (pa_cons (pv 0) pa_nil)) pa_nil)) (pg_name (i := 3) sc_clashing_pairs.nd rfl (Or.inl rfl)) (pss_one (ps_for PassesOwn.never rfl (pi_range2 rfl T.n_range (pa_cons (pe_op op_add (pv 3) pe_int) (pa_cons (pe_callB call_len_seq (by rfl) T.n_len PySem.boot_len (pa_cons (pv 0) pa_nil)) pa_nil))) (pg_name (i := 4) sc_clashing_pairs.nd rfl (Or.inl rfl)) (pss_one (ps_if (pt_val (pe_call G_do_clash (hr.mono (by decide)) rfl T.g_do_clash T.F_do_clash.kp T.b_do_clash .nil pass0 (pa_cons (pv 3) (pa_cons (pv 4) (pa_cons (pv 0) (pa_cons (pv 1) pa_nil)))))) (pss_one (ps_expr (pe_bm PySem.F.plainAttrs_list PySem.F.slot_list_append PySem.F.type_list_append mt_append (pv 2) (pa_cons (pe_tup (pa_cons (pv 3) (pa_cons (pv 4) pa_nil))) pa_nil)))) pss_nil)))))
      (pss_one (ps_ret (pv 2))))), pure vs H Q E h⟩
theorem ok_Rehearsals_costs {sp_Rehearsals_costs sp_Rehearsals_player_costs sp_own_pieces : Sp} (T : Txt K mg A)
    (G_Rehearsals_player_costs : FnOk P w K mg base CX0 3 A.f_Rehearsals_player_costs A.d_Rehearsals_player_costs ["self", "who", "own"] sp_Rehearsals_player_costs)
    (G_own_pieces : FnOk P w K mg base CX0 2 A.f_own_pieces A.d_own_pieces ["who", "casting", "pieces"] sp_own_pieces)
    (len : ∀ vs H Q E, sp_Rehearsals_costs vs H Q E → vs.length = 2)
    (pure : ∀ vs H Q E, sp_Rehearsals_costs vs H Q E → t_Rehearsals_costs K A sp_Rehearsals_player_costs sp_own_pieces { nx := fun _ H' => Q .non H', rt := Q } (start ["self", "casting", "totals", "who", "added", "total", "cost"] vs) H) :
    FnOk P w K mg base CX0 4 A.f_Rehearsals_costs A.d_Rehearsals_costs ["self", "casting"] sp_Rehearsals_costs :=
  T.F_Rehearsals_costs.ok sc_Rehearsals_costs len fun cdv A0 outer s H vs Q E hr h => ⟨t_Rehearsals_costs K A sp_Rehearsals_player_costs sp_own_pieces, by
    exact (pss_cons (ps_set (i := 2) sc_Rehearsals_costs.nd rfl (Or.inl rfl) (pe_op op_rep (pe_lst (pa_cons pe_int pa_nil)) (pe_callB call_len_seq (by rfl) T.n_len PySem.boot_len (pa_cons (pe_fld (pv 0) rfl) pa_nil))))
      (pss_cons (ps_for PassesOwn.never rfl (pi_range1 rfl T.n_range (pa_cons (pe_callB call_len_seq (by rfl) T.n_len PySem.boot_len (pa_cons (pe_fld (pv 0) rfl) pa_nil)) pa_nil)) (pg_name (i := 3) sc_Rehearsals_costs.nd rfl (Or.inl rfl)) (pss_cons (ps_set (i := 4) sc_Rehearsals_costs.nd rfl (Or.inl rfl) (pe_meth (pv 0) T.cl_Rehearsals T.m_Rehearsals_player_costs G_Rehearsals_player_costs (hr.mono (by decide)) T.b_Rehearsals_player_costs .nil pass0 (pa_cons (pv 3) (pa_cons (pe_call G_own_pieces (hr.mono (by decide)) rfl T.g_own_pieces T.F_own_pieces.kp T.b_own_pieces .nil pass0 (pa_cons (pv 3) (pa_cons (pv 1) (pa_cons (pe_fld (pv 0) rfl) pa_nil)))) pa_nil))))
      (pss_one (ps_setLc (i := 2) (own := [("total", 5), ("cost", 6)]) (g := (gTup K 2 (gCons (gName 5) (gCons (gName 6) gNil)))) (tt := tYes) rfl sc_Rehearsals_costs.nd rfl rfl (sw_true rfl rfl rfl (by decide +kernel)) (pi_zip (by rfl) T.n_zip (pa_cons (pv 2) (pa_cons (pv 4) pa_nil))) (blkOk_by (N := ["self", "casting", "totals", "who", "added", "total", "cost"]) (sc := defScope s_Rehearsals_costs) (by decide +kernel)) (fun _ _ _ _ _ => (pg_tup rfl (pgs_cons (pg_name (i := 5) sc_Rehearsals_costs.nd rfl (Or.inl rfl)) (pgs_cons (pg_name (i := 6) sc_Rehearsals_costs.nd rfl (Or.inl rfl)) pgs_nil)))) (fun _ _ _ _ _ => pts_nil) (fun _ _ _ _ _ => (pe_ifExp (PW.pt (pw_or (pt_cmpR op_isN (pv 5) pe_non (nomark _)) (pw_or1 (pt_cmpR op_isN (pv 6) pe_non (nomark _))))) pe_non (pe_op op_add (pv 5) (pv 6))))))))
      (pss_one (ps_ret (pv 2))))), pure vs H Q E h⟩
theorem ok_answer_scene {sp_answer_scene sp_Reader_number sp_Reader_row sp_Play_scene : Sp} (T : Txt K mg A)
    (G_Reader_number : FnOk P w K mg base CX0 1 A.f_Reader_number A.d_Reader_number ["self"] sp_Reader_number)
    (G_Reader_row : FnOk P w K mg base CX0 2 A.f_Reader_row A.d_Reader_row ["self"] sp_Reader_row)
    (G_Play_scene : FnOk P w K mg base CX0 3 A.f_Play_scene A.d_Play_scene ["self", "minutes", "roles"] sp_Play_scene)
    (len : ∀ vs H Q E, sp_answer_scene vs H Q E → vs.length = 2)
    (pure : ∀ vs H Q E, sp_answer_scene vs H Q E → t_answer_scene K A sp_Reader_number sp_Reader_row sp_Play_scene { nx := fun _ H' => Q .non H', rt := Q } (start ["play", "reader", "minutes", "roles"] vs) H) :
    FnOk P w K mg base CX0 4 A.f_answer_scene A.d_answer_scene ["play", "reader"] sp_answer_scene :=
  T.F_answer_scene.ok sc_answer_scene len fun cdv A0 outer s H vs Q E hr h => ⟨t_answer_scene K A sp_Reader_number sp_Reader_row sp_Play_scene, by
    exact (pss_cons (ps_set (i := 2) sc_answer_scene.nd rfl (Or.inl rfl) (pe_meth0 (pv 1) T.cl_Reader T.m_Reader_number G_Reader_number (hr.mono (by decide)) T.b_Reader_number .nil pass0))
      (pss_cons (ps_set (i := 3) sc_answer_scene.nd rfl (Or.inl rfl) (pe_meth0 (pv 1) T.cl_Reader T.m_Reader_row G_Reader_row (hr.mono (by decide)) T.b_Reader_row .nil pass0))
      (pss_one (ps_ret (pe_lst (pa_cons (pe_meth (pv 0) T.cl_Play T.m_Play_scene G_Play_scene (hr.mono (by decide)) T.b_Play_scene .nil pass0 (pa_cons (pv 2) (pa_cons (pv 3) pa_nil))) pa_nil)))))), pure vs H Q E h⟩
theorem ok_answer_player {sp_answer_player sp_Reader_number sp_Reader_row sp_Play_player : Sp} (T : Txt K mg A)
    (G_Reader_number : FnOk P w K mg base CX0 1 A.f_Reader_number A.d_Reader_number ["self"] sp_Reader_number)
    (G_Reader_row : FnOk P w K mg base CX0 2 A.f_Reader_row A.d_Reader_row ["self"] sp_Reader_row)
    (G_Play_player : FnOk P w K mg base CX0 3 A.f_Play_player A.d_Play_player ["self", "wage", "rate", "since", "till", "fees"] sp_Play_player)
    (len : ∀ vs H Q E, sp_answer_player vs H Q E → vs.length = 2)
    (pure : ∀ vs H Q E, sp_answer_player vs H Q E → t_answer_player K A sp_Reader_number sp_Reader_row sp_Play_player { nx := fun _ H' => Q .non H', rt := Q } (start ["play", "reader", "wage", "rate", "since", "till", "fees"] vs) H) :
    FnOk P w K mg base CX0 4 A.f_answer_player A.d_answer_player ["play", "reader"] sp_answer_player :=
  T.F_answer_player.ok sc_answer_player len fun cdv A0 outer s H vs Q E hr h => ⟨t_answer_player K A sp_Reader_number sp_Reader_row sp_Play_player, by
    exact (pss_cons (ps_set (i := 2) sc_answer_player.nd rfl (Or.inl rfl) (pe_meth0 (pv 1) T.cl_Reader T.m_Reader_number G_Reader_number (hr.mono (by decide)) T.b_Reader_number .nil pass0))
      (pss_cons (ps_set (i := 3) sc_answer_player.nd rfl (Or.inl rfl) (pe_meth0 (pv 1) T.cl_Reader T.m_Reader_number G_Reader_number (hr.mono (by decide)) T.b_Reader_number .nil pass0))
      (pss_cons (ps_set (i := 4) sc_answer_player.nd rfl (Or.inl rfl) (pe_meth0 (pv 1) T.cl_Reader T.m_Reader_number G_Reader_number (hr.mono (by decide)) T.b_Reader_number .nil pass0))
      (pss_cons (ps_set (i := 5) sc_answer_player.nd rfl (Or.inl rfl) (pe_meth0 (pv 1) T.cl_Reader T.m_Reader_number G_Reader_number (hr.mono (by decide)) T.b_Reader_number .nil pass0))
      (pss_cons (ps_set (i := 6) sc_answer_player.nd rfl (Or.inl rfl) (pe_meth0 (pv 1) T.cl_Reader T.m_Reader_row G_Reader_row (hr.mono (by decide)) T.b_Reader_row .nil pass0))
      (pss_one (ps_ret (pe_lst (pa_cons (pe_meth (pv 0) T.cl_Play T.m_Play_player G_Play_player (hr.mono (by decide)) T.b_Play_player .nil pass0 (pa_cons (pv 2) (pa_cons (pv 3) (pa_cons (pv 4) (pa_cons (pv 5) (pa_cons (pv 6) pa_nil)))))) pa_nil))))))))), pure vs H Q E h⟩
theorem ok_answer_piece {sp_answer_piece sp_Reader_number sp_Reader_row sp_Play_piece : Sp} (T : Txt K mg A)
    (G_Reader_number : FnOk P w K mg base CX0 1 A.f_Reader_number A.d_Reader_number ["self"] sp_Reader_number)
    (G_Reader_row : FnOk P w K mg base CX0 2 A.f_Reader_row A.d_Reader_row ["self"] sp_Reader_row)
    (G_Play_piece : FnOk P w K mg base CX0 3 A.f_Play_piece A.d_Play_piece ["self", "minutes", "roles"] sp_Play_piece)
    (len : ∀ vs H Q E, sp_answer_piece vs H Q E → vs.length = 2)
    (pure : ∀ vs H Q E, sp_answer_piece vs H Q E → t_answer_piece K A sp_Reader_number sp_Reader_row sp_Play_piece { nx := fun _ H' => Q .non H', rt := Q } (start ["play", "reader", "minutes", "roles"] vs) H) :
    FnOk P w K mg base CX0 4 A.f_answer_piece A.d_answer_piece ["play", "reader"] sp_answer_piece :=
  T.F_answer_piece.ok sc_answer_piece len fun cdv A0 outer s H vs Q E hr h => ⟨t_answer_piece K A sp_Reader_number sp_Reader_row sp_Play_piece, by
    exact (pss_cons (ps_set (i := 2) sc_answer_piece.nd rfl (Or.inl rfl) (pe_meth0 (pv 1) T.cl_Reader T.m_Reader_number G_Reader_number (hr.mono (by decide)) T.b_Reader_number .nil pass0))
      (pss_cons (ps_set (i := 3) sc_answer_piece.nd rfl (Or.inl rfl) (pe_meth0 (pv 1) T.cl_Reader T.m_Reader_row G_Reader_row (hr.mono (by decide)) T.b_Reader_row .nil pass0))
      (pss_one (ps_ret (pe_lst (pa_cons (pe_meth (pv 0) T.cl_Play T.m_Play_piece G_Play_piece (hr.mono (by decide)) T.b_Play_piece .nil pass0 (pa_cons (pv 2) (pa_cons (pv 3) pa_nil))) pa_nil)))))), pure vs H Q E h⟩
theorem ok_right_castings {sp_right_castings sp_clashing_pairs sp_all_castings sp_wrong_with_casting : Sp} (T : Txt K mg A)
    (G_clashing_pairs : FnOk P w K mg base CX0 4 A.f_clashing_pairs A.d_clashing_pairs ["dressing", "scenes"] sp_clashing_pairs)
    (G_all_castings : FnOk P w K mg base CX0 1 A.f_all_castings A.d_all_castings ["roles", "players"] sp_all_castings)
    (G_wrong_with_casting : FnOk P w K mg base CX0 2 A.f_wrong_with_casting A.d_wrong_with_casting ["casting", "players", "clashes"] sp_wrong_with_casting)
    (len : ∀ vs H Q E, sp_right_castings vs H Q E → vs.length = 1)
    (pure : ∀ vs H Q E, sp_right_castings vs H Q E → t_right_castings K A sp_clashing_pairs sp_all_castings sp_wrong_with_casting { nx := fun _ H' => Q .non H', rt := Q } (start ["play", "clashes", "castings", "casting"] vs) H) :
    FnOk P w K mg base CX0 5 A.f_right_castings A.d_right_castings ["play"] sp_right_castings :=
  T.F_right_castings.ok sc_right_castings len fun cdv A0 outer s H vs Q E hr h => ⟨t_right_castings K A sp_clashing_pairs sp_all_castings sp_wrong_with_casting, by
    exact (pss_cons (ps_set (i := 1) sc_right_castings.nd rfl (Or.inr rfl) (pe_call G_clashing_pairs (hr.mono (by decide)) rfl T.g_clashing_pairs T.F_clashing_pairs.kp T.b_clashing_pairs .nil pass0 (pa_cons (pe_fld (pv 0) rfl) (pa_cons (pe_fld (pv 0) rfl) pa_nil))))
      (pss_cons (ps_set (i := 2) sc_right_castings.nd rfl (Or.inl rfl) (pe_call G_all_castings (hr.mono (by decide)) rfl T.g_all_castings T.F_all_castings.kp T.b_all_castings .nil pass0 (pa_cons (pe_callB call_len_seq (by rfl) T.n_len PySem.boot_len (pa_cons (pe_fld (pv 0) rfl) pa_nil)) (pa_cons (pe_callB call_len_seq (by rfl) T.n_len PySem.boot_len (pa_cons (pe_fld (pv 0) rfl) pa_nil)) pa_nil))))
      (pss_one (ps_ret (pe_lc (own := [("casting", 3)]) (g := (gName 3)) (tt := (tTest (tOp (rEqNil K) (tCall sp_wrong_with_casting [] E0 (tCons (tVar 3) (tCons (tFld K (tVar 0) "players") (tCons (tVar 1) tNil)))) (tLst tNil)))) rfl sc_right_castings.nd (pi_list (pv 2)) (blkOk_by (N := ["play", "clashes", "castings", "casting"]) (sc := defScope s_right_castings) (by decide +kernel)) (fun _ _ _ _ _ => (pg_name (i := 3) sc_right_castings.nd rfl (Or.inl rfl))) (fun _ _ _ _ _ => (pts_one (pt_cmpR (op_eqNil hr.units) (pe_call G_wrong_with_casting (hr.mono (by decide)) rfl T.g_wrong_with_casting T.F_wrong_with_casting.kp T.b_wrong_with_casting .nil pass0 (pa_cons (pv 3) (pa_cons (pe_fld (pv 0) rfl) (pa_cons (pv 1) pa_nil)))) (pe_lst pa_nil) (nomark _)))) (fun _ _ _ _ _ => (pv 3))))))), pure vs H Q E h⟩
theorem ok_Rehearsals_cheapest {sp_Rehearsals_cheapest sp_Rehearsals_costs sp_Cheapest_init : Sp} (T : Txt K mg A)
    (G_Rehearsals_costs : FnOk P w K mg base CX0 4 A.f_Rehearsals_costs A.d_Rehearsals_costs ["self", "casting"] sp_Rehearsals_costs)
    (G_Cheapest_init : FnOk P w K mg base CX0 1 A.f_Cheapest_init A.d_Cheapest_init ["self", "cost", "many", "order"] sp_Cheapest_init)
    (len : ∀ vs H Q E, sp_Rehearsals_cheapest vs H Q E → vs.length = 2)
    (pure : ∀ vs H Q E, sp_Rehearsals_cheapest vs H Q E → t_Rehearsals_cheapest K A sp_Rehearsals_costs sp_Cheapest_init { nx := fun _ H' => Q .non H', rt := Q } (start ["self", "casting", "totals", "right", "total", "least"] vs) H) :
    FnOk P w K mg base CX0 5 A.f_Rehearsals_cheapest A.d_Rehearsals_cheapest ["self", "casting"] sp_Rehearsals_cheapest :=
  T.F_Rehearsals_cheapest.ok sc_Rehearsals_cheapest len fun cdv A0 outer s H vs Q E hr h => ⟨t_Rehearsals_cheapest K A sp_Rehearsals_costs sp_Cheapest_init, by
    exact (pss_cons (ps_set (i := 2) sc_Rehearsals_cheapest.nd rfl (Or.inl rfl) (pe_meth (pv 0) T.cl_Rehearsals T.m_Rehearsals_costs G_Rehearsals_costs (hr.mono (by decide)) T.b_Rehearsals_costs .nil pass0 (pa_cons (pv 1) pa_nil)))
      (pss_cons (ps_setLc (i := 3) (own := [("total", 4)]) (g := (gName 4)) (tt := (tTest (tOp oNotN (tVar 4) (tC .non)))) rfl sc_Rehearsals_cheapest.nd rfl rfl (sw_true rfl rfl rfl (by decide +kernel)) (pi_list (pv 2)) (blkOk_by (N := ["self", "casting", "totals", "right", "total", "least"]) (sc := defScope s_Rehearsals_cheapest) (by decide +kernel)) (fun _ _ _ _ _ => (pg_name (i := 4) sc_Rehearsals_cheapest.nd rfl (Or.inl rfl))) (fun _ _ _ _ _ => (pts_one (pt_cmpR op_notN (pv 4) pe_non (nomark _)))) (fun _ _ _ _ _ => (pv 4)))
      (pss_cons (ps_if (pt_cmpR (op_eqNil hr.units) (pv 3) (pe_lst pa_nil) (nomark _)) (pss_one (ps_ret pe_non)) pss_nil)
      (pss_cons (ps_set (i := 5) sc_Rehearsals_cheapest.nd rfl (Or.inl rfl) (pe_callB (cr_min rfl) (by rfl) T.n_min (by decide +kernel) (pa_cons (pv 3) pa_nil)))
      (pss_one (ps_ret (pe_make T.mk_Cheapest G_Cheapest_init (hr.mono (by decide)) rfl T.g_Cheapest T.b_Cheapest_init .nil pass0 (pa_cons (pv 5) (pa_cons (pe_bm PySem.F.plainAttrs_list PySem.F.slot_list_count PySem.F.type_list_count mt_lcount (pv 3) (pa_cons (pv 5) pa_nil)) (pa_cons (pe_ix ix_list (pe_fld (pv 0) rfl) (pe_bm PySem.F.plainAttrs_list PySem.F.slot_list_index PySem.F.type_list_index mt_index (pv 2) (pa_cons (pv 5) pa_nil)) (fun _ _ => rfl)) pa_nil)))))))))), pure vs H Q E h⟩
theorem ok_checked_plan {sp_checked_plan sp_is_casting sp_is_order sp_wrong_with_casting sp_clashing_pairs sp_row sp_stays_of_all sp_wrong_with_order sp_order_cost sp_casting_cost : Sp} (T : Txt K mg A)
    (G_is_casting : FnOk P w K mg base CX0 1 A.f_is_casting A.d_is_casting ["casting", "play"] sp_is_casting)
    (G_is_order : FnOk P w K mg base CX0 1 A.f_is_order A.d_is_order ["order", "play"] sp_is_order)
    (G_wrong_with_casting : FnOk P w K mg base CX0 2 A.f_wrong_with_casting A.d_wrong_with_casting ["casting", "players", "clashes"] sp_wrong_with_casting)
    (G_clashing_pairs : FnOk P w K mg base CX0 4 A.f_clashing_pairs A.d_clashing_pairs ["dressing", "scenes"] sp_clashing_pairs)
    (G_row : FnOk P w K mg base CX0 1 A.f_row A.d_row ["numbers"] sp_row)
    (G_stays_of_all : FnOk P w K mg base CX0 3 A.f_stays_of_all A.d_stays_of_all ["casting", "order", "players", "pieces"] sp_stays_of_all)
    (G_wrong_with_order : FnOk P w K mg base CX0 2 A.f_wrong_with_order A.d_wrong_with_order ["order", "pairs", "stays", "players"] sp_wrong_with_order)
    (G_order_cost : FnOk P w K mg base CX0 2 A.f_order_cost A.d_order_cost ["stays", "players"] sp_order_cost)
    (G_casting_cost : FnOk P w K mg base CX0 1 A.f_casting_cost A.d_casting_cost ["casting", "players"] sp_casting_cost)
    (len : ∀ vs H Q E, sp_checked_plan vs H Q E → vs.length = 3)
    (pure : ∀ vs H Q E, sp_checked_plan vs H Q E → t_checked_plan K A sp_is_casting sp_is_order sp_wrong_with_casting sp_clashing_pairs sp_row sp_stays_of_all sp_wrong_with_order sp_order_cost sp_casting_cost { nx := fun _ H' => Q .non H', rt := Q } (start ["play", "casting", "order", "wrong", "stays", "given", "stay"] vs) H) :
    FnOk P w K mg base CX0 5 A.f_checked_plan A.d_checked_plan ["play", "casting", "order"] sp_checked_plan :=
  T.F_checked_plan.ok sc_checked_plan len fun cdv A0 outer s H vs Q E hr h => ⟨t_checked_plan K A sp_is_casting sp_is_order sp_wrong_with_casting sp_clashing_pairs sp_row sp_stays_of_all sp_wrong_with_order sp_order_cost sp_casting_cost, by
    exact (pss_cons (ps_if (PW.pt (pw_or (pt_not (pt_val (pe_call G_is_casting (hr.mono (by decide)) rfl T.g_is_casting T.F_is_casting.kp T.b_is_casting .nil pass0 (pa_cons (pv 1) (pa_cons (pv 0) pa_nil))))) (pw_or1 (pt_not (pt_val (pe_call G_is_order (hr.mono (by decide)) rfl T.g_is_order T.F_is_order.kp T.b_is_order .nil pass0 (pa_cons (pv 2) (pa_cons (pv 0) pa_nil)))))))) (pss_one (ps_ret (pe_lst (pa_cons (pe_un un_neg pe_int) pa_nil)))) pss_nil)
      (pss_cons (ps_set (i := 3) sc_checked_plan.nd rfl (Or.inl rfl) (pe_call G_wrong_with_casting (hr.mono (by decide)) rfl T.g_wrong_with_casting T.F_wrong_with_casting.kp T.b_wrong_with_casting .nil pass0 (pa_cons (pv 1) (pa_cons (pe_fld (pv 0) rfl) (pa_cons (pe_call G_clashing_pairs (hr.mono (by decide)) rfl T.g_clashing_pairs T.F_clashing_pairs.kp T.b_clashing_pairs .nil pass0 (pa_cons (pe_fld (pv 0) rfl) (pa_cons (pe_fld (pv 0) rfl) pa_nil))) pa_nil)))))
      (pss_cons (ps_if (pt_cmpR (op_neD hr.units) (pv 3) (pe_lst pa_nil) (nomark _)) (pss_one (ps_ret (pe_op op_cat (pe_lst (pa_cons pe_int pa_nil)) (pe_call G_row (hr.mono (by decide)) rfl T.g_row T.F_row.kp T.b_row .nil pass0 (pa_cons (pe_op op_cat (pe_lst (pa_cons pe_int pa_nil)) (pv 3)) pa_nil))))) pss_nil)
      (pss_cons (ps_set (i := 4) sc_checked_plan.nd rfl (Or.inl rfl) (pe_call G_stays_of_all (hr.mono (by decide)) rfl T.g_stays_of_all T.F_stays_of_all.kp T.b_stays_of_all .nil pass0 (pa_cons (pv 1) (pa_cons (pv 2) (pa_cons (pe_fld (pv 0) rfl) (pa_cons (pe_fld (pv 0) rfl) pa_nil))))))
      (pss_cons (ps_set (i := 3) sc_checked_plan.nd rfl (Or.inl rfl) (pe_call G_wrong_with_order (hr.mono (by decide)) rfl T.g_wrong_with_order T.F_wrong_with_order.kp T.b_wrong_with_order .nil pass0 (pa_cons (pv 2) (pa_cons (pe_fld (pv 0) rfl) (pa_cons (pv 4) (pa_cons (pe_fld (pv 0) rfl) pa_nil))))))
      (pss_cons (ps_if (pt_cmpR (op_neD hr.units) (pv 3) (pe_lst pa_nil) (nomark _)) (pss_one (ps_ret (pe_op op_cat (pe_lst (pa_cons pe_int pa_nil)) (pe_call G_row (hr.mono (by decide)) rfl T.g_row T.F_row.kp T.b_row .nil pass0 (pa_cons (pe_op op_cat (pe_lst (pa_cons pe_int pa_nil)) (pv 3)) pa_nil))))) pss_nil)
      (pss_cons (ps_set (i := 5) sc_checked_plan.nd rfl (Or.inl rfl) (pe_op op_cat (pe_lst (pa_cons pe_int pa_nil)) (pe_call G_row (hr.mono (by decide)) rfl T.g_row T.F_row.kp T.b_row .nil pass0 (pa_cons (pe_lst (pa_cons (pe_call G_casting_cost (hr.mono (by decide)) rfl T.g_casting_cost T.F_casting_cost.kp T.b_casting_cost .nil pass0 (pa_cons (pv 1) (pa_cons (pe_fld (pv 0) rfl) pa_nil))) (pa_cons (pe_call G_order_cost (hr.mono (by decide)) rfl T.g_order_cost T.F_order_cost.kp T.b_order_cost .nil pass0 (pa_cons (pv 4) (pa_cons (pe_fld (pv 0) rfl) pa_nil))) pa_nil))) pa_nil))))
      (pss_cons (ps_for PassesOwn.never rfl (pi_list (pv 4)) (pg_name (i := 6) sc_checked_plan.nd rfl (Or.inl rfl)) (pss_one (ps_expr (pe_bm PySem.F.plainAttrs_list PySem.F.slot_list_extend PySem.F.type_list_extend mt_extend (pv 5) (pa_cons (pe_call G_row (hr.mono (by decide)) rfl T.g_row T.F_row.kp T.b_row .nil pass0 (pa_cons (pv 6) pa_nil)) pa_nil)))))
      (pss_one (ps_ret (pv 5))))))))))), pure vs H Q E h⟩
theorem ok_plans_by_casting {sp_plans_by_casting sp_Rehearsals_init sp_right_castings sp_Rehearsals_cheapest sp_Plan_init sp_casting_cost : Sp} (T : Txt K mg A)
    (G_Rehearsals_init : FnOk P w K mg base CX0 2 A.f_Rehearsals_init A.d_Rehearsals_init ["self", "players", "pieces", "pairs"] sp_Rehearsals_init)
    (G_right_castings : FnOk P w K mg base CX0 5 A.f_right_castings A.d_right_castings ["play"] sp_right_castings)
    (G_Rehearsals_cheapest : FnOk P w K mg base CX0 5 A.f_Rehearsals_cheapest A.d_Rehearsals_cheapest ["self", "casting"] sp_Rehearsals_cheapest)
    (G_Plan_init : FnOk P w K mg base CX0 1 A.f_Plan_init A.d_Plan_init ["self", "casting", "casting_price", "cheapest"] sp_Plan_init)
    (G_casting_cost : FnOk P w K mg base CX0 1 A.f_casting_cost A.d_casting_cost ["casting", "players"] sp_casting_cost)
    (len : ∀ vs H Q E, sp_plans_by_casting vs H Q E → vs.length = 1)
    (pure : ∀ vs H Q E, sp_plans_by_casting vs H Q E → t_plans_by_casting K A sp_Rehearsals_init sp_right_castings sp_Rehearsals_cheapest sp_Plan_init sp_casting_cost { nx := fun _ H' => Q .non H', rt := Q } (start ["play", "rehearsals", "plans", "casting", "cheapest"] vs) H) :
    FnOk P w K mg base CX0 6 A.f_plans_by_casting A.d_plans_by_casting ["play"] sp_plans_by_casting :=
  T.F_plans_by_casting.ok sc_plans_by_casting len fun cdv A0 outer s H vs Q E hr h => ⟨t_plans_by_casting K A sp_Rehearsals_init sp_right_castings sp_Rehearsals_cheapest sp_Plan_init sp_casting_cost, by
    exact (pss_cons (ps_set (i := 1) sc_plans_by_casting.nd rfl (Or.inl rfl) (pe_make T.mk_Rehearsals G_Rehearsals_init (hr.mono (by decide)) rfl T.g_Rehearsals T.b_Rehearsals_init .nil pass0 (pa_cons (pe_fld (pv 0) rfl) (pa_cons (pe_fld (pv 0) rfl) (pa_cons (pe_fld (pv 0) rfl) pa_nil)))))
      (pss_cons (ps_set (i := 2) sc_plans_by_casting.nd rfl (Or.inl rfl) (pe_lst pa_nil))
      (pss_cons (ps_for PassesOwn.never rfl (pi_list (pe_call G_right_castings (hr.mono (by decide)) rfl T.g_right_castings T.F_right_castings.kp T.b_right_castings .nil pass0 (pa_cons (pv 0) pa_nil))) (pg_name (i := 3) sc_plans_by_casting.nd rfl (Or.inl rfl)) (pss_cons (ps_set (i := 4) sc_plans_by_casting.nd rfl (Or.inl rfl) (pe_meth (pv 1) T.cl_Rehearsals T.m_Rehearsals_cheapest G_Rehearsals_cheapest (hr.mono (by decide)) T.b_Rehearsals_cheapest .nil pass0 (pa_cons (pv 3) pa_nil)))
      (pss_one (ps_if (pt_cmpR op_notN (pv 4) pe_non (nomark _)) (pss_one (ps_expr (pe_bm PySem.F.plainAttrs_list PySem.F.slot_list_append PySem.F.type_list_append mt_append (pv 2) (pa_cons (pe_make T.mk_Plan G_Plan_init (hr.mono (by decide)) rfl T.g_Plan T.b_Plan_init .nil pass0 (pa_cons (pv 3) (pa_cons (pe_call G_casting_cost (hr.mono (by decide)) rfl T.g_casting_cost T.F_casting_cost.kp T.b_casting_cost .nil pass0 (pa_cons (pv 3) (pa_cons (pe_fld (pv 0) rfl) pa_nil))) (pa_cons (pv 4) pa_nil)))) pa_nil)))) pss_nil))))
      (pss_one (ps_ret (pv 2)))))), pure vs H Q E h⟩
theorem ok_plan_apart {sp_plan_apart sp_right_castings sp_casting_cost sp_Rehearsals_init sp_Rehearsals_cheapest sp_row : Sp} (T : Txt K mg A)
    (G_right_castings : FnOk P w K mg base CX0 5 A.f_right_castings A.d_right_castings ["play"] sp_right_castings)
    (G_casting_cost : FnOk P w K mg base CX0 1 A.f_casting_cost A.d_casting_cost ["casting", "players"] sp_casting_cost)
    (G_Rehearsals_init : FnOk P w K mg base CX0 2 A.f_Rehearsals_init A.d_Rehearsals_init ["self", "players", "pieces", "pairs"] sp_Rehearsals_init)
    (G_Rehearsals_cheapest : FnOk P w K mg base CX0 5 A.f_Rehearsals_cheapest A.d_Rehearsals_cheapest ["self", "casting"] sp_Rehearsals_cheapest)
    (G_row : FnOk P w K mg base CX0 1 A.f_row A.d_row ["numbers"] sp_row)
    (len : ∀ vs H Q E, sp_plan_apart vs H Q E → vs.length = 1)
    (pure : ∀ vs H Q E, sp_plan_apart vs H Q E → t_plan_apart K A sp_right_castings sp_casting_cost sp_Rehearsals_init sp_Rehearsals_cheapest sp_row { nx := fun _ H' => Q .non H', rt := Q } (start ["play", "castings", "prices", "casting", "price", "cheapest"] vs) H) :
    FnOk P w K mg base CX0 6 A.f_plan_apart A.d_plan_apart ["play"] sp_plan_apart :=
  T.F_plan_apart.ok sc_plan_apart len fun cdv A0 outer s H vs Q E hr h => ⟨t_plan_apart K A sp_right_castings sp_casting_cost sp_Rehearsals_init sp_Rehearsals_cheapest sp_row, by
    exact (pss_cons (ps_set (i := 1) sc_plan_apart.nd rfl (Or.inl rfl) (pe_call G_right_castings (hr.mono (by decide)) rfl T.g_right_castings T.F_right_castings.kp T.b_right_castings .nil pass0 (pa_cons (pv 0) pa_nil)))
      (pss_cons (ps_if (pt_cmpR (op_eqNil hr.units) (pv 1) (pe_lst pa_nil) (nomark _)) (pss_one (ps_ret (pe_lst (pa_cons (pe_un un_neg pe_int) pa_nil)))) pss_nil)
      (pss_cons (ps_setLc (i := 2) (own := [("casting", 3)]) (g := (gName 3)) (tt := tYes) rfl sc_plan_apart.nd rfl rfl (sw_true rfl rfl rfl (by decide +kernel)) (pi_list (pv 1)) (blkOk_by (N := ["play", "castings", "prices", "casting", "price", "cheapest"]) (sc := defScope s_plan_apart) (by decide +kernel)) (fun _ _ _ _ _ => (pg_name (i := 3) sc_plan_apart.nd rfl (Or.inl rfl))) (fun _ _ _ _ _ => pts_nil) (fun _ _ _ _ _ => (pe_call G_casting_cost (hr.mono (by decide)) rfl T.g_casting_cost T.F_casting_cost.kp T.b_casting_cost .nil pass0 (pa_cons (pv 3) (pa_cons (pe_fld (pv 0) rfl) pa_nil)))))
      (pss_cons (ps_set (i := 4) sc_plan_apart.nd rfl (Or.inl rfl) (pe_callB (cr_min rfl) (by rfl) T.n_min (by decide +kernel) (pa_cons (pv 2) pa_nil)))
      (pss_cons (ps_set (i := 3) sc_plan_apart.nd rfl (Or.inl rfl) (pe_ix ix_list (pv 1) (pe_bm PySem.F.plainAttrs_list PySem.F.slot_list_index PySem.F.type_list_index mt_index (pv 2) (pa_cons (pv 4) pa_nil)) (fun _ _ => rfl)))
      (pss_cons (ps_set (i := 5) sc_plan_apart.nd rfl (Or.inl rfl) (pe_meth (pe_make T.mk_Rehearsals G_Rehearsals_init (hr.mono (by decide)) rfl T.g_Rehearsals T.b_Rehearsals_init .nil pass0 (pa_cons (pe_fld (pv 0) rfl) (pa_cons (pe_fld (pv 0) rfl) (pa_cons (pe_fld (pv 0) rfl) pa_nil)))) T.cl_Rehearsals T.m_Rehearsals_cheapest G_Rehearsals_cheapest (hr.mono (by decide)) T.b_Rehearsals_cheapest .nil pass0 (pa_cons (pv 3) pa_nil)))
      (pss_cons (ps_if (pt_cmpR op_isN (pv 5) pe_non (nomark _)) (pss_one (ps_ret (pe_lst (pa_cons (pe_un un_neg pe_int) pa_nil)))) pss_nil)
      (pss_one (ps_ret (pe_op op_cat (pe_op op_cat (pe_lst (pa_cons (pe_op op_add (pv 4) (pe_fld (pv 5) rfl)) pa_nil)) (pe_call G_row (hr.mono (by decide)) rfl T.g_row T.F_row.kp T.b_row .nil pass0 (pa_cons (pv 3) pa_nil))) (pe_call G_row (hr.mono (by decide)) rfl T.g_row T.F_row.kp T.b_row .nil pass0 (pa_cons (pe_fld (pv 5) rfl) pa_nil)))))))))))), pure vs H Q E h⟩
theorem ok_cheapest_order {sp_cheapest_order sp_is_casting sp_Rehearsals_init sp_Rehearsals_cheapest sp_row : Sp} (T : Txt K mg A)
    (G_is_casting : FnOk P w K mg base CX0 1 A.f_is_casting A.d_is_casting ["casting", "play"] sp_is_casting)
    (G_Rehearsals_init : FnOk P w K mg base CX0 2 A.f_Rehearsals_init A.d_Rehearsals_init ["self", "players", "pieces", "pairs"] sp_Rehearsals_init)
    (G_Rehearsals_cheapest : FnOk P w K mg base CX0 5 A.f_Rehearsals_cheapest A.d_Rehearsals_cheapest ["self", "casting"] sp_Rehearsals_cheapest)
    (G_row : FnOk P w K mg base CX0 1 A.f_row A.d_row ["numbers"] sp_row)
    (len : ∀ vs H Q E, sp_cheapest_order vs H Q E → vs.length = 2)
    (pure : ∀ vs H Q E, sp_cheapest_order vs H Q E → t_cheapest_order K A sp_is_casting sp_Rehearsals_init sp_Rehearsals_cheapest sp_row { nx := fun _ H' => Q .non H', rt := Q } (start ["play", "casting", "cheapest"] vs) H) :
    FnOk P w K mg base CX0 6 A.f_cheapest_order A.d_cheapest_order ["play", "casting"] sp_cheapest_order :=
  T.F_cheapest_order.ok sc_cheapest_order len fun cdv A0 outer s H vs Q E hr h => ⟨t_cheapest_order K A sp_is_casting sp_Rehearsals_init sp_Rehearsals_cheapest sp_row, by
    exact (pss_cons (ps_if (pt_not (pt_val (pe_call G_is_casting (hr.mono (by decide)) rfl T.g_is_casting T.F_is_casting.kp T.b_is_casting .nil pass0 (pa_cons (pv 1) (pa_cons (pv 0) pa_nil))))) (pss_one (ps_ret (pe_lst (pa_cons (pe_un un_neg pe_int) pa_nil)))) pss_nil)
      (pss_cons (ps_set (i := 2) sc_cheapest_order.nd rfl (Or.inl rfl) (pe_meth (pe_make T.mk_Rehearsals G_Rehearsals_init (hr.mono (by decide)) rfl T.g_Rehearsals T.b_Rehearsals_init .nil pass0 (pa_cons (pe_fld (pv 0) rfl) (pa_cons (pe_fld (pv 0) rfl) (pa_cons (pe_fld (pv 0) rfl) pa_nil)))) T.cl_Rehearsals T.m_Rehearsals_cheapest G_Rehearsals_cheapest (hr.mono (by decide)) T.b_Rehearsals_cheapest .nil pass0 (pa_cons (pv 1) pa_nil)))
      (pss_cons (ps_if (pt_cmpR op_isN (pv 2) pe_non (nomark _)) (pss_one (ps_ret (pe_lst (pa_cons (pe_un un_neg pe_int) pa_nil)))) pss_nil)
      (pss_one (ps_ret (pe_op op_cat (pe_op op_cat (pe_lst (pa_cons (pe_fld (pv 2) rfl) pa_nil)) (pe_call G_row (hr.mono (by decide)) rfl T.g_row T.F_row.kp T.b_row .nil pass0 (pa_cons (pe_lst (pa_cons (pe_fld (pv 2) rfl) pa_nil)) pa_nil))) (pe_call G_row (hr.mono (by decide)) rfl T.g_row T.F_row.kp T.b_row .nil pass0 (pa_cons (pe_fld (pv 2) rfl) pa_nil)))))))), pure vs H Q E h⟩
theorem ok_answer_check {sp_answer_check sp_Reader_row sp_checked_plan : Sp} (T : Txt K mg A)
    (G_Reader_row : FnOk P w K mg base CX0 2 A.f_Reader_row A.d_Reader_row ["self"] sp_Reader_row)
    (G_checked_plan : FnOk P w K mg base CX0 5 A.f_checked_plan A.d_checked_plan ["play", "casting", "order"] sp_checked_plan)
    (len : ∀ vs H Q E, sp_answer_check vs H Q E → vs.length = 2)
    (pure : ∀ vs H Q E, sp_answer_check vs H Q E → t_answer_check K A sp_Reader_row sp_checked_plan { nx := fun _ H' => Q .non H', rt := Q } (start ["play", "reader", "casting", "order"] vs) H) :
    FnOk P w K mg base CX0 6 A.f_answer_check A.d_answer_check ["play", "reader"] sp_answer_check :=
  T.F_answer_check.ok sc_answer_check len fun cdv A0 outer s H vs Q E hr h => ⟨t_answer_check K A sp_Reader_row sp_checked_plan, by
    exact (pss_cons (ps_set (i := 2) sc_answer_check.nd rfl (Or.inl rfl) (pe_meth0 (pv 1) T.cl_Reader T.m_Reader_row G_Reader_row (hr.mono (by decide)) T.b_Reader_row .nil pass0))
      (pss_cons (ps_set (i := 3) sc_answer_check.nd rfl (Or.inl rfl) (pe_meth0 (pv 1) T.cl_Reader T.m_Reader_row G_Reader_row (hr.mono (by decide)) T.b_Reader_row .nil pass0))
      (pss_one (ps_ret (pe_call G_checked_plan (hr.mono (by decide)) rfl T.g_checked_plan T.F_checked_plan.kp T.b_checked_plan .nil pass0 (pa_cons (pv 0) (pa_cons (pv 2) (pa_cons (pv 3) pa_nil)))))))), pure vs H Q E h⟩
theorem ok_best_plan {sp_best_plan sp_plans_by_casting sp_row : Sp} (T : Txt K mg A)
    (G_plans_by_casting : FnOk P w K mg base CX0 6 A.f_plans_by_casting A.d_plans_by_casting ["play"] sp_plans_by_casting)
    (G_row : FnOk P w K mg base CX0 1 A.f_row A.d_row ["numbers"] sp_row)
    (len : ∀ vs H Q E, sp_best_plan vs H Q E → vs.length = 1)
    (pure : ∀ vs H Q E, sp_best_plan vs H Q E → t_best_plan K A sp_plans_by_casting sp_row { nx := fun _ H' => Q .non H', rt := Q } (start ["play", "plans", "least", "plan", "alike", "many", "first"] vs) H) :
    FnOk P w K mg base CX0 7 A.f_best_plan A.d_best_plan ["play"] sp_best_plan :=
  T.F_best_plan.ok sc_best_plan len fun cdv A0 outer s H vs Q E hr h => ⟨t_best_plan K A sp_plans_by_casting sp_row, by
    exact (pss_cons (ps_set (i := 1) sc_best_plan.nd rfl (Or.inl rfl) (pe_call G_plans_by_casting (hr.mono (by decide)) rfl T.g_plans_by_casting T.F_plans_by_casting.kp T.b_plans_by_casting .nil pass0 (pa_cons (pv 0) pa_nil)))
      (pss_cons (ps_if (pt_cmpR (op_eqNil hr.units) (pv 1) (pe_lst pa_nil) (nomark _)) (pss_one (ps_ret (pe_lst (pa_cons (pe_un un_neg pe_int) pa_nil)))) pss_nil)
      (pss_cons (ps_set (i := 2) sc_best_plan.nd rfl (Or.inr rfl) (pe_callB (cr_min rfl) (by rfl) T.n_min (by decide +kernel) (pa_cons (pe_lc (own := [("plan", 3)]) (g := (gName 3)) (tt := tYes) rfl sc_best_plan.nd (pi_list (pv 1)) (blkOk_by (N := ["play", "plans", "least", "plan", "alike", "many", "first"]) (sc := defScope s_best_plan) (by decide +kernel)) (fun _ _ _ _ _ => (pg_name (i := 3) sc_best_plan.nd rfl (Or.inl rfl))) (fun _ _ _ _ _ => pts_nil) (fun _ _ _ _ _ => (pe_fld (pv 3) rfl))) pa_nil)))
      (pss_cons (ps_setLc (i := 4) (own := [("plan", 3)]) (g := (gName 3)) (tt := (tTest (tOp rEq (tFld K (tVar 3) "cost") (tVar 2)))) rfl sc_best_plan.nd rfl rfl (sw_true rfl rfl rfl (by decide +kernel)) (pi_list (pv 1)) (blkOk_by (N := ["play", "plans", "least", "plan", "alike", "many", "first"]) (sc := defScope s_best_plan) (by decide +kernel)) (fun _ _ _ _ _ => (pg_name (i := 3) sc_best_plan.nd rfl (Or.inl rfl))) (fun _ _ _ _ _ => (pts_one (pt_cmpR op_eq (pe_fld (pv 3) rfl) (pv 2) (nomark _)))) (fun _ _ _ _ _ => (pv 3)))
      (pss_cons (ps_set (i := 5) sc_best_plan.nd rfl (Or.inl rfl) (pe_callB (cr_sum rfl) (by rfl) T.n_sum (by decide +kernel) (pa_cons (pe_lc (own := [("plan", 3)]) (g := (gName 3)) (tt := tYes) rfl sc_best_plan.nd (pi_list (pv 4)) (blkOk_by (N := ["play", "plans", "least", "plan", "alike", "many", "first"]) (sc := defScope s_best_plan) (by decide +kernel)) (fun _ _ _ _ _ => (pg_name (i := 3) sc_best_plan.nd rfl (Or.inl rfl))) (fun _ _ _ _ _ => pts_nil) (fun _ _ _ _ _ => (pe_fld (pv 3) rfl))) pa_nil)))
      (pss_cons (ps_set (i := 6) sc_best_plan.nd rfl (Or.inl rfl) (pe_ix ix_list (pv 4) pe_int (fun _ _ => rfl)))
      (pss_one (ps_ret (pe_op op_cat (pe_op op_cat (pe_op op_cat (pe_lst (pa_cons (pv 2) pa_nil)) (pe_call G_row (hr.mono (by decide)) rfl T.g_row T.F_row.kp T.b_row .nil pass0 (pa_cons (pe_lst (pa_cons (pv 5) (pa_cons (pe_fld (pv 6) rfl) pa_nil))) pa_nil))) (pe_call G_row (hr.mono (by decide)) rfl T.g_row T.F_row.kp T.b_row .nil pass0 (pa_cons (pe_fld (pv 6) rfl) pa_nil))) (pe_call G_row (hr.mono (by decide)) rfl T.g_row T.F_row.kp T.b_row .nil pass0 (pa_cons (pe_fld (pv 6) rfl) pa_nil))))))))))), pure vs H Q E h⟩
theorem ok_answer_order {sp_answer_order sp_Reader_row sp_cheapest_order : Sp} (T : Txt K mg A)
    (G_Reader_row : FnOk P w K mg base CX0 2 A.f_Reader_row A.d_Reader_row ["self"] sp_Reader_row)
    (G_cheapest_order : FnOk P w K mg base CX0 6 A.f_cheapest_order A.d_cheapest_order ["play", "casting"] sp_cheapest_order)
    (len : ∀ vs H Q E, sp_answer_order vs H Q E → vs.length = 2)
    (pure : ∀ vs H Q E, sp_answer_order vs H Q E → t_answer_order K A sp_Reader_row sp_cheapest_order { nx := fun _ H' => Q .non H', rt := Q } (start ["play", "reader", "casting"] vs) H) :
    FnOk P w K mg base CX0 7 A.f_answer_order A.d_answer_order ["play", "reader"] sp_answer_order :=
  T.F_answer_order.ok sc_answer_order len fun cdv A0 outer s H vs Q E hr h => ⟨t_answer_order K A sp_Reader_row sp_cheapest_order, by
    exact (pss_cons (ps_set (i := 2) sc_answer_order.nd rfl (Or.inl rfl) (pe_meth0 (pv 1) T.cl_Reader T.m_Reader_row G_Reader_row (hr.mono (by decide)) T.b_Reader_row .nil pass0))
      (pss_one (ps_ret (pe_call G_cheapest_order (hr.mono (by decide)) rfl T.g_cheapest_order T.F_cheapest_order.kp T.b_cheapest_order .nil pass0 (pa_cons (pv 0) (pa_cons (pv 2) pa_nil)))))), pure vs H Q E h⟩
theorem ok_answer_call {sp_answer_call sp_Reader_number sp_answer_begins sp_answer_scene sp_answer_player sp_answer_piece sp_answer_ahead sp_best_plan sp_plan_apart sp_answer_check sp_answer_order : Sp} (T : Txt K mg A)
    (G_Reader_number : FnOk P w K mg base CX0 1 A.f_Reader_number A.d_Reader_number ["self"] sp_Reader_number)
    (G_answer_begins : FnOk P w K mg base CX0 3 A.f_answer_begins A.d_answer_begins ["play", "reader"] sp_answer_begins)
    (G_answer_scene : FnOk P w K mg base CX0 4 A.f_answer_scene A.d_answer_scene ["play", "reader"] sp_answer_scene)
    (G_answer_player : FnOk P w K mg base CX0 4 A.f_answer_player A.d_answer_player ["play", "reader"] sp_answer_player)
    (G_answer_piece : FnOk P w K mg base CX0 4 A.f_answer_piece A.d_answer_piece ["play", "reader"] sp_answer_piece)
    (G_answer_ahead : FnOk P w K mg base CX0 2 A.f_answer_ahead A.d_answer_ahead ["play", "reader"] sp_answer_ahead)
    (G_best_plan : FnOk P w K mg base CX0 7 A.f_best_plan A.d_best_plan ["play"] sp_best_plan)
    (G_plan_apart : FnOk P w K mg base CX0 6 A.f_plan_apart A.d_plan_apart ["play"] sp_plan_apart)
    (G_answer_check : FnOk P w K mg base CX0 6 A.f_answer_check A.d_answer_check ["play", "reader"] sp_answer_check)
    (G_answer_order : FnOk P w K mg base CX0 7 A.f_answer_order A.d_answer_order ["play", "reader"] sp_answer_order)
    (len : ∀ vs H Q E, sp_answer_call vs H Q E → vs.length = 2)
    (pure : ∀ vs H Q E, sp_answer_call vs H Q E → t_answer_call K A sp_Reader_number sp_answer_begins sp_answer_scene sp_answer_player sp_answer_piece sp_answer_ahead sp_best_plan sp_plan_apart sp_answer_check sp_answer_order { nx := fun _ H' => Q .non H', rt := Q } (start ["play", "reader", "call"] vs) H) :
    FnOk P w K mg base CX0 8 A.f_answer_call A.d_answer_call ["play", "reader"] sp_answer_call :=
  T.F_answer_call.ok sc_answer_call len fun cdv A0 outer s H vs Q E hr h => ⟨t_answer_call K A sp_Reader_number sp_answer_begins sp_answer_scene sp_answer_player sp_answer_piece sp_answer_ahead sp_best_plan sp_plan_apart sp_answer_check sp_answer_order, by
    exact (pss_cons (ps_set (i := 2) sc_answer_call.nd rfl (Or.inl rfl) (pe_meth0 (pv 1) T.cl_Reader T.m_Reader_number G_Reader_number (hr.mono (by decide)) T.b_Reader_number .nil pass0))
      (pss_cons (ps_if (pt_cmpR op_eq (pv 2) (pe_glob rfl T.g_BEGINS ⟨_, rfl⟩) (nomark _)) (pss_one (ps_ret (pe_call G_answer_begins (hr.mono (by decide)) rfl T.g_answer_begins T.F_answer_begins.kp T.b_answer_begins .nil pass0 (pa_cons (pv 0) (pa_cons (pv 1) pa_nil))))) pss_nil)
      (pss_cons (ps_if (pt_cmpR op_eq (pv 2) (pe_glob rfl T.g_SCENE ⟨_, rfl⟩) (nomark _)) (pss_one (ps_ret (pe_call G_answer_scene (hr.mono (by decide)) rfl T.g_answer_scene T.F_answer_scene.kp T.b_answer_scene .nil pass0 (pa_cons (pv 0) (pa_cons (pv 1) pa_nil))))) pss_nil)
      (pss_cons (ps_if (pt_cmpR op_eq (pv 2) (pe_glob rfl T.g_PLAYER ⟨_, rfl⟩) (nomark _)) (pss_one (ps_ret (pe_call G_answer_player (hr.mono (by decide)) rfl T.g_answer_player T.F_answer_player.kp T.b_answer_player .nil pass0 (pa_cons (pv 0) (pa_cons (pv 1) pa_nil))))) pss_nil)
      (pss_cons (ps_if (pt_cmpR op_eq (pv 2) (pe_glob rfl T.g_PIECE ⟨_, rfl⟩) (nomark _)) (pss_one (ps_ret (pe_call G_answer_piece (hr.mono (by decide)) rfl T.g_answer_piece T.F_answer_piece.kp T.b_answer_piece .nil pass0 (pa_cons (pv 0) (pa_cons (pv 1) pa_nil))))) pss_nil)
      (pss_cons (ps_if (pt_cmpR op_eq (pv 2) (pe_glob rfl T.g_AHEAD ⟨_, rfl⟩) (nomark _)) (pss_one (ps_ret (pe_call G_answer_ahead (hr.mono (by decide)) rfl T.g_answer_ahead T.F_answer_ahead.kp T.b_answer_ahead .nil pass0 (pa_cons (pv 0) (pa_cons (pv 1) pa_nil))))) pss_nil)
      (pss_cons (ps_if (pt_cmpR op_eq (pv 2) (pe_glob rfl T.g_BEST ⟨_, rfl⟩) (nomark _)) (pss_one (ps_ret (pe_call G_best_plan (hr.mono (by decide)) rfl T.g_best_plan T.F_best_plan.kp T.b_best_plan .nil pass0 (pa_cons (pv 0) pa_nil)))) pss_nil)
      (pss_cons (ps_if (pt_cmpR op_eq (pv 2) (pe_glob rfl T.g_APART ⟨_, rfl⟩) (nomark _)) (pss_one (ps_ret (pe_call G_plan_apart (hr.mono (by decide)) rfl T.g_plan_apart T.F_plan_apart.kp T.b_plan_apart .nil pass0 (pa_cons (pv 0) pa_nil)))) pss_nil)
      (pss_cons (ps_if (pt_cmpR op_eq (pv 2) (pe_glob rfl T.g_CHECK ⟨_, rfl⟩) (nomark _)) (pss_one (ps_ret (pe_call G_answer_check (hr.mono (by decide)) rfl T.g_answer_check T.F_answer_check.kp T.b_answer_check .nil pass0 (pa_cons (pv 0) (pa_cons (pv 1) pa_nil))))) pss_nil)
      (pss_cons (ps_if (pt_cmpR op_eq (pv 2) (pe_glob rfl T.g_ORDER ⟨_, rfl⟩) (nomark _)) (pss_one (ps_ret (pe_call G_answer_order (hr.mono (by decide)) rfl T.g_answer_order T.F_answer_order.kp T.b_answer_order .nil pass0 (pa_cons (pv 0) (pa_cons (pv 1) pa_nil))))) pss_nil)
      (pss_one ps_never))))))))))), pure vs H Q E h⟩
theorem ok_answers {sp_answers sp_Play_init sp_Reader_init sp_Reader_is_done sp_answer_call : Sp} (T : Txt K mg A)
    (G_Play_init : FnOk P w K mg base CX0 2 A.f_Play_init A.d_Play_init ["self"] sp_Play_init)
    (G_Reader_init : FnOk P w K mg base CX0 1 A.f_Reader_init A.d_Reader_init ["self", "numbers"] sp_Reader_init)
    (G_Reader_is_done : FnOk P w K mg base CX0 1 A.f_Reader_is_done A.d_Reader_is_done ["self"] sp_Reader_is_done)
    (G_answer_call : FnOk P w K mg base CX0 8 A.f_answer_call A.d_answer_call ["play", "reader"] sp_answer_call)
    (len : ∀ vs H Q E, sp_answers vs H Q E → vs.length = 1)
    (pure : ∀ vs H Q E, sp_answers vs H Q E → t_answers K A sp_Play_init sp_Reader_init sp_Reader_is_done sp_answer_call { nx := fun _ H' => Q .non H', rt := Q } (start ["calls", "play", "reader", "given", "answer"] vs) H) :
    FnOk P w K mg base CX0 9 A.f_answers A.d_answers ["calls"] sp_answers :=
  T.F_answers.ok sc_answers len fun cdv A0 outer s H vs Q E hr h => ⟨t_answers K A sp_Play_init sp_Reader_init sp_Reader_is_done sp_answer_call, by
    exact (pss_cons (ps_set (i := 1) sc_answers.nd rfl (Or.inl rfl) (pe_make0 T.mk_Play G_Play_init (hr.mono (by decide)) rfl T.g_Play T.b_Play_init .nil pass0))
      (pss_cons (ps_set (i := 2) sc_answers.nd rfl (Or.inl rfl) (pe_make T.mk_Reader G_Reader_init (hr.mono (by decide)) rfl T.g_Reader T.b_Reader_init .nil pass0 (pa_cons (pv 0) pa_nil)))
      (pss_cons (ps_set (i := 3) sc_answers.nd rfl (Or.inl rfl) (pe_lst pa_nil))
      (pss_cons (ps_while PassesOwn.never (pt_not (pt_val (pe_meth0 (pv 2) T.cl_Reader T.m_Reader_is_done G_Reader_is_done (hr.mono (by decide)) T.b_Reader_is_done .nil pass0))) (pss_cons (ps_set (i := 4) sc_answers.nd rfl (Or.inl rfl) (pe_call G_answer_call (hr.mono (by decide)) rfl T.g_answer_call T.F_answer_call.kp T.b_answer_call .nil pass0 (pa_cons (pv 1) (pa_cons (pv 2) pa_nil))))
      (pss_cons (ps_expr (pe_bm PySem.F.plainAttrs_list PySem.F.slot_list_append PySem.F.type_list_append mt_append (pv 3) (pa_cons (pe_callB call_len_seq (by rfl) T.n_len PySem.boot_len (pa_cons (pv 4) pa_nil)) pa_nil)))
      (pss_one (ps_expr (pe_bm PySem.F.plainAttrs_list PySem.F.slot_list_extend PySem.F.type_list_extend mt_extend (pv 3) (pa_cons (pv 4) pa_nil)))))))
      (pss_one (ps_ret (pv 3))))))), pure vs H Q E h⟩
/-- a plain record is made -/
def sp_Cheapest_init (A : Ad) : Sp := fun vs H Q _ => ∃ (p dx : Addr) (x0 x1 x2 : V), vs = [.ref p, x0, x1, x2] ∧ H p = some (.ins A.c_Cheapest dx []) ∧ Q .non (upd H p (.ins A.c_Cheapest dx (fs_Cheapest x0 x1 x2)))
theorem pure_Cheapest_init (T : Txt K mg A) : ∀ vs H Q E, sp_Cheapest_init A vs H Q E → t_Cheapest_init K A { nx := fun _ H' => Q .non H', rt := Q } (start ["self", "cost", "many", "order"] vs) H := by
  rintro _ H Q E ⟨p, dx, x0, x1, x2, rfl, h0, k⟩
  refine ⟨_, rfl, _, rfl, p, A.c_Cheapest, dx, _, rfl, h0, T.cl_Cheapest, T.a_Cheapest_cost, (by first | (show 0 < 1000; decide) | (rw [List.length]; show 0 < 1000; decide)), ?_⟩
  refine ⟨_, rfl, _, rfl, p, A.c_Cheapest, dx, _, rfl, upd_same, T.cl_Cheapest, T.a_Cheapest_many, (by first | (show 0 < 1000; decide) | (rw [new_Cheapest_cost]; show 1 < 1000; decide)), ?_⟩
  refine ⟨_, rfl, _, rfl, p, A.c_Cheapest, dx, _, rfl, upd_same, T.cl_Cheapest, T.a_Cheapest_order, (by first | (show 0 < 1000; decide) | (rw [new_Cheapest_cost, new_Cheapest_many]; show 2 < 1000; decide)), ?_⟩
  simp only [upd_upd, new_Cheapest_cost, new_Cheapest_many, new_Cheapest_order]
  exact k
theorem fn_Cheapest_init (T : Txt K mg A) : FnOk P w K mg base CX0 1 A.f_Cheapest_init A.d_Cheapest_init ["self", "cost", "many", "order"] (sp_Cheapest_init A) := ok_Cheapest_init T (fun vs H Q E h => by obtain ⟨p, dx, x0, x1, x2, rfl, _⟩ := h; rfl) (pure_Cheapest_init T)
/-- a plain record is made -/
def sp_Scene_init (A : Ad) : Sp := fun vs H Q _ => ∃ (p dx : Addr) (x0 x1 : V), vs = [.ref p, x0, x1] ∧ H p = some (.ins A.c_Scene dx []) ∧ Q .non (upd H p (.ins A.c_Scene dx (fs_Scene x0 x1)))
theorem pure_Scene_init (T : Txt K mg A) : ∀ vs H Q E, sp_Scene_init A vs H Q E → t_Scene_init K A { nx := fun _ H' => Q .non H', rt := Q } (start ["self", "minutes", "roles"] vs) H := by
  rintro _ H Q E ⟨p, dx, x0, x1, rfl, h0, k⟩
  refine ⟨_, rfl, _, rfl, p, A.c_Scene, dx, _, rfl, h0, T.cl_Scene, T.a_Scene_minutes, (by first | (show 0 < 1000; decide) | (rw [List.length]; show 0 < 1000; decide)), ?_⟩
  refine ⟨_, rfl, _, rfl, p, A.c_Scene, dx, _, rfl, upd_same, T.cl_Scene, T.a_Scene_roles, (by first | (show 0 < 1000; decide) | (rw [new_Scene_minutes]; show 1 < 1000; decide)), ?_⟩
  simp only [upd_upd, new_Scene_minutes, new_Scene_roles]
  exact k
theorem fn_Scene_init (T : Txt K mg A) : FnOk P w K mg base CX0 1 A.f_Scene_init A.d_Scene_init ["self", "minutes", "roles"] (sp_Scene_init A) := ok_Scene_init T (fun vs H Q E h => by obtain ⟨p, dx, x0, x1, rfl, _⟩ := h; rfl) (pure_Scene_init T)
/-- a plain record is made -/
def sp_Player_init (A : Ad) : Sp := fun vs H Q _ => ∃ (p dx : Addr) (x0 x1 x2 x3 x4 : V), vs = [.ref p, x0, x1, x2, x3, x4] ∧ H p = some (.ins A.c_Player dx []) ∧ Q .non (upd H p (.ins A.c_Player dx (fs_Player x0 x1 x2 x3 x4)))
theorem pure_Player_init (T : Txt K mg A) : ∀ vs H Q E, sp_Player_init A vs H Q E → t_Player_init K A { nx := fun _ H' => Q .non H', rt := Q } (start ["self", "wage", "rate", "since", "till", "fees"] vs) H := by
  rintro _ H Q E ⟨p, dx, x0, x1, x2, x3, x4, rfl, h0, k⟩
  refine ⟨_, rfl, _, rfl, p, A.c_Player, dx, _, rfl, h0, T.cl_Player, T.a_Player_wage, (by first | (show 0 < 1000; decide) | (rw [List.length]; show 0 < 1000; decide)), ?_⟩
  refine ⟨_, rfl, _, rfl, p, A.c_Player, dx, _, rfl, upd_same, T.cl_Player, T.a_Player_rate, (by first | (show 0 < 1000; decide) | (rw [new_Player_wage]; show 1 < 1000; decide)), ?_⟩
  refine ⟨_, rfl, _, rfl, p, A.c_Player, dx, _, rfl, upd_same, T.cl_Player, T.a_Player_since, (by first | (show 0 < 1000; decide) | (rw [new_Player_wage, new_Player_rate]; show 2 < 1000; decide)), ?_⟩
  refine ⟨_, rfl, _, rfl, p, A.c_Player, dx, _, rfl, upd_same, T.cl_Player, T.a_Player_till, (by first | (show 0 < 1000; decide) | (rw [new_Player_wage, new_Player_rate, new_Player_since]; show 3 < 1000; decide)), ?_⟩
  refine ⟨_, rfl, _, rfl, p, A.c_Player, dx, _, rfl, upd_same, T.cl_Player, T.a_Player_fees, (by first | (show 0 < 1000; decide) | (rw [new_Player_wage, new_Player_rate, new_Player_since, new_Player_till]; show 4 < 1000; decide)), ?_⟩
  simp only [upd_upd, new_Player_wage, new_Player_rate, new_Player_since, new_Player_till, new_Player_fees]
  exact k
theorem fn_Player_init (T : Txt K mg A) : FnOk P w K mg base CX0 1 A.f_Player_init A.d_Player_init ["self", "wage", "rate", "since", "till", "fees"] (sp_Player_init A) := ok_Player_init T (fun vs H Q E h => by obtain ⟨p, dx, x0, x1, x2, x3, x4, rfl, _⟩ := h; rfl) (pure_Player_init T)
/-- a plain record is made -/
def sp_Piece_init (A : Ad) : Sp := fun vs H Q _ => ∃ (p dx : Addr) (x0 x1 : V), vs = [.ref p, x0, x1] ∧ H p = some (.ins A.c_Piece dx []) ∧ Q .non (upd H p (.ins A.c_Piece dx (fs_Piece x0 x1)))
theorem pure_Piece_init (T : Txt K mg A) : ∀ vs H Q E, sp_Piece_init A vs H Q E → t_Piece_init K A { nx := fun _ H' => Q .non H', rt := Q } (start ["self", "minutes", "roles"] vs) H := by
  rintro _ H Q E ⟨p, dx, x0, x1, rfl, h0, k⟩
  refine ⟨_, rfl, _, rfl, p, A.c_Piece, dx, _, rfl, h0, T.cl_Piece, T.a_Piece_minutes, (by first | (show 0 < 1000; decide) | (rw [List.length]; show 0 < 1000; decide)), ?_⟩
  refine ⟨_, rfl, _, rfl, p, A.c_Piece, dx, _, rfl, upd_same, T.cl_Piece, T.a_Piece_roles, (by first | (show 0 < 1000; decide) | (rw [new_Piece_minutes]; show 1 < 1000; decide)), ?_⟩
  simp only [upd_upd, new_Piece_minutes, new_Piece_roles]
  exact k
theorem fn_Piece_init (T : Txt K mg A) : FnOk P w K mg base CX0 1 A.f_Piece_init A.d_Piece_init ["self", "minutes", "roles"] (sp_Piece_init A) := ok_Piece_init T (fun vs H Q E h => by obtain ⟨p, dx, x0, x1, rfl, _⟩ := h; rfl) (pure_Piece_init T)
/-- a plain record is made -/
def sp_Reader_init (A : Ad) : Sp := fun vs H Q _ => ∃ (p dx : Addr) (x0 : V), vs = [.ref p, x0] ∧ H p = some (.ins A.c_Reader dx []) ∧ Q .non (upd H p (.ins A.c_Reader dx (fs_Reader x0 (.int 0))))
theorem pure_Reader_init (T : Txt K mg A) : ∀ vs H Q E, sp_Reader_init A vs H Q E → t_Reader_init K A { nx := fun _ H' => Q .non H', rt := Q } (start ["self", "numbers"] vs) H := by
  rintro _ H Q E ⟨p, dx, x0, rfl, h0, k⟩
  refine ⟨_, rfl, _, rfl, p, A.c_Reader, dx, _, rfl, h0, T.cl_Reader, T.a_Reader_numbers, (by first | (show 0 < 1000; decide) | (rw [List.length]; show 0 < 1000; decide)), ?_⟩
  refine ⟨_, rfl, p, A.c_Reader, dx, _, rfl, upd_same, T.cl_Reader, T.a_Reader_place, (by first | (show 0 < 1000; decide) | (rw [new_Reader_numbers]; show 1 < 1000; decide)), ?_⟩
  simp only [upd_upd, new_Reader_numbers, new_Reader_place]
  exact k
theorem fn_Reader_init (T : Txt K mg A) : FnOk P w K mg base CX0 1 A.f_Reader_init A.d_Reader_init ["self", "numbers"] (sp_Reader_init A) := ok_Reader_init T (fun vs H Q E h => by obtain ⟨p, dx, x0, rfl, _⟩ := h; rfl) (pure_Reader_init T)
end
end RC
/-! ### The play as it lies in the heap -/
namespace RC
open PySem PySem.Spec PyProof.Rows L2
abbrev vis (l : List Nat) : List V := (nis l).map V.int
theorem vis_len (l : List Nat) : (vis l).length = l.length := by simp [vis, nis]
theorem vis_app (l m : List Nat) : vis (l ++ m) = vis l ++ vis m := by simp [vis, nis]
theorem vis_get {l : List Nat} {i : Nat} {v : V} (h : (vis l)[i]? = some v) : ∃ n, l[i]? = some n ∧ v = .int (ni n) := by
  rw [List.getElem?_map, List.getElem?_map] at h
  cases e : l[i]? with
  | none => rw [e] at h; cases h
  | some n => rw [e] at h; exact ⟨n, rfl, (Option.some.inj h).symm⟩
theorem get_vis {l : List Nat} {i : Nat} {n : Nat} (h : l[i]? = some n) : (vis l)[i]? = some (.int (ni n)) := by
  rw [List.getElem?_map, List.getElem?_map, h]
  rfl
/-- a fee as it is kept: 0 for none, else 1 more -/
def feeN : Option Nat → Nat
  | none => 0
  | some x => x + 1
theorem feeN_of (x : Nat) : feeN (feeOf x) = x := by
  unfold feeOf
  by_cases h : x = 0
  · rw [if_pos h, h]; rfl
  · rw [if_neg h]; show x - 1 + 1 = x; omega
theorem fees_back (f : List Nat) : (f.map feeOf).map feeN = f := by
  rw [List.map_map]
  induction f with
  | nil => rfl
  | cons a f ih => show feeN (feeOf a) :: f.map (feeN ∘ feeOf) = a :: f; rw [feeN_of, ih]
/-- what is written by others, or by the play itself, is none of these: G -/
def SceneAt (A : Ad) (G : Addr → Prop) (H : Hp) (v : V) (s : Uw02.Scene) : Prop :=
  ∃ p dx q, v = .ref p ∧ ¬ G p ∧ ¬ G q ∧ H p = some (.ins A.c_Scene dx (fs_Scene (.int (ni s.long)) (.ref q))) ∧ H q = some (.lst (vis s.roles))
def PieceAt (A : Ad) (G : Addr → Prop) (H : Hp) (v : V) (s : Nat × List Nat) : Prop :=
  ∃ p dx q, v = .ref p ∧ ¬ G p ∧ ¬ G q ∧ H p = some (.ins A.c_Piece dx (fs_Piece (.int (ni s.1)) (.ref q))) ∧ H q = some (.lst (vis s.2))
def PlayerAt (A : Ad) (G : Addr → Prop) (H : Hp) (v : V) (s : Uw02.Player × (Nat × Nat × Nat)) : Prop :=
  ∃ p dx q, v = .ref p ∧ ¬ G p ∧ ¬ G q ∧ H p = some (.ins A.c_Player dx (fs_Player (.int (ni s.1.wage)) (.int (ni s.2.1)) (.int (ni s.2.2.1)) (.int (ni s.2.2.2)) (.ref q))) ∧ H q = some (.lst (vis (s.1.fees.map feeN)))
def PairAt (G : Addr → Prop) (H : Hp) (v : V) (s : Nat × Nat) : Prop := ∃ p, v = .ref p ∧ ¬ G p ∧ H p = some (.tup [.int (ni s.1), .int (ni s.2)])
section
variable {A : Ad} {G G' : Addr → Prop} {H H' : Hp} {v : V}
theorem SceneAt.keep {s : Uw02.Scene} (h : SceneAt A G H v s) (k : ∀ b o, ¬ G b → H b = some o → H' b = some o) (g : ∀ b, ¬ G b → H b ≠ none → ¬ G' b) : SceneAt A G' H' v s := by
  obtain ⟨p, dx, q, e, n1, n2, h1, h2⟩ := h
  exact ⟨p, dx, q, e, g p n1 (by rw [h1]; simp), g q n2 (by rw [h2]; simp), k p _ n1 h1, k q _ n2 h2⟩
theorem PieceAt.keep {s : Nat × List Nat} (h : PieceAt A G H v s) (k : ∀ b o, ¬ G b → H b = some o → H' b = some o) (g : ∀ b, ¬ G b → H b ≠ none → ¬ G' b) : PieceAt A G' H' v s := by
  obtain ⟨p, dx, q, e, n1, n2, h1, h2⟩ := h
  exact ⟨p, dx, q, e, g p n1 (by rw [h1]; simp), g q n2 (by rw [h2]; simp), k p _ n1 h1, k q _ n2 h2⟩
theorem PlayerAt.keep {s : Uw02.Player × (Nat × Nat × Nat)} (h : PlayerAt A G H v s) (k : ∀ b o, ¬ G b → H b = some o → H' b = some o) (g : ∀ b, ¬ G b → H b ≠ none → ¬ G' b) : PlayerAt A G' H' v s := by
  obtain ⟨p, dx, q, e, n1, n2, h1, h2⟩ := h
  exact ⟨p, dx, q, e, g p n1 (by rw [h1]; simp), g q n2 (by rw [h2]; simp), k p _ n1 h1, k q _ n2 h2⟩
theorem PairAt.keep {s : Nat × Nat} (h : PairAt G H v s) (k : ∀ b o, ¬ G b → H b = some o → H' b = some o) (g : ∀ b, ¬ G b → H b ≠ none → ¬ G' b) : PairAt G' H' v s := by
  obtain ⟨p, e, n1, h1⟩ := h
  exact ⟨p, e, g p n1 (by rw [h1]; simp), k p _ n1 h1⟩
end
/-- where the play's parts stand -/
structure Pl where
  dx : Addr
  ld : Addr
  ls : Addr
  lp : Addr
  lc : Addr
  la : Addr
  xs : List V
  ps : List V
  cs : List V
  as : List V
/-- what may be written: by others (F), by the play itself -/
def Wr (F : Addr → Prop) (p : Pl) (b : Addr) : Prop := F b ∨ b = p.ls ∨ b = p.lp ∨ b = p.lc ∨ b = p.la
abbrev fP (p : Pl) : List (Str × V) := fs_Play (.ref p.ld) (.ref p.ls) (.ref p.lp) (.ref p.lc) (.ref p.la)
structure PlayAt (A : Ad) (F : Addr → Prop) (H : Hp) (a : Addr) (h : Uw07.House) (p : Pl) : Prop where
  ob : H a = some (.ins A.c_Play p.dx (fP p))
  dr : H p.ld = some (.lst (vis h.play.dress))
  sc : H p.ls = some (.lst p.xs)
  pl : H p.lp = some (.lst p.ps)
  pc : H p.lc = some (.lst p.cs)
  pa : H p.la = some (.lst p.as)
  scs : Paired (SceneAt A (Wr F p) H) p.xs h.play.scenes
  pls : Paired (PlayerAt A (Wr F p) H) p.ps (h.play.players.zip h.hours)
  pcs : Paired (PieceAt A (Wr F p) H) p.cs h.pieces
  pas : Paired (PairAt (Wr F p) H) p.as h.ahead
  nA : ¬ F a
  nS : ¬ F p.ls
  nP : ¬ F p.lp
  nC : ¬ F p.lc
  nR : ¬ F p.la
  nD : ¬ Wr F p p.ld
  d1 : p.ls ≠ p.lp
  d2 : p.ls ≠ p.lc
  d3 : p.ls ≠ p.la
  d4 : p.lp ≠ p.lc
  d5 : p.lp ≠ p.la
  d6 : p.lc ≠ p.la
  ok : HOK h
section
variable {A : Ad} {F F' : Addr → Prop} {H H' : Hp} {a : Addr} {h : Uw07.House} {p : Pl}
/-- others have written what is theirs, or new things -/
theorem PlayAt.keep (k : PlayAt A F H a h p) (g : ∀ b o, ¬ F b → H b = some o → H' b = some o) (m : ∀ b, F' b → H b ≠ none → F b) : PlayAt A F' H' a h p := by
  have gw : ∀ b o, ¬ Wr F p b → H b = some o → H' b = some o := fun b o n e => g b o (fun z => n (.inl z)) e
  have nf : ∀ b o, ¬ F b → H b = some o → ¬ F' b := fun b o n e z => n (m b z (by rw [e]; simp))
  have mw : ∀ b, ¬ Wr F p b → H b ≠ none → ¬ Wr F' p b := fun b n e z => by
    rcases z with z | z
    · exact n (.inl (m b z e))
    · exact n (.inr z)
  have nd : ¬ F p.ld := fun z => k.nD (.inl z)
  exact { ob := g _ _ k.nA k.ob, dr := g _ _ nd k.dr, sc := g _ _ k.nS k.sc, pl := g _ _ k.nP k.pl, pc := g _ _ k.nC k.pc, pa := g _ _ k.nR k.pa
          scs := Paired.mapP k.scs fun v s q => q.keep gw mw, pls := Paired.mapP k.pls fun v s q => q.keep gw mw, pcs := Paired.mapP k.pcs fun v s q => q.keep gw mw, pas := Paired.mapP k.pas fun v s q => q.keep gw mw
          nA := nf _ _ k.nA k.ob, nS := nf _ _ k.nS k.sc, nP := nf _ _ k.nP k.pl, nC := nf _ _ k.nC k.pc, nR := nf _ _ k.nR k.pa, nD := mw _ k.nD (by rw [k.dr]; simp)
          d1 := k.d1, d2 := k.d2, d3 := k.d3, d4 := k.d4, d5 := k.d5, d6 := k.d6, ok := k.ok }
theorem PlayAt.same (k : PlayAt A F H a h p) (g : Same H H') : PlayAt A F H' a h p := k.keep (fun b o _ e => g b o e) fun _ z _ => z
theorem PlayAt.less (k : PlayAt A F H a h p) (m : ∀ b, F' b → H b ≠ none → F b) : PlayAt A F' H a h p := k.keep (fun _ _ _ e => e) m
end
/-- the set F with q -/
abbrev Pq (F : Addr → Prop) (q : Addr) : Addr → Prop := fun b => F b ∨ b = q
/-- F's things stand -/
abbrev Tr (F : Addr → Prop) (H : Hp) : Prop := ∀ b, F b → H b ≠ none
abbrev Agr (F : Addr → Prop) (H H' : Hp) : Prop := ∀ b o, F b → H b = some o → H' b = some o
theorem upd_some {H : Hp} {a b : Addr} {o u : HO} (n : H a = none) (e : H b = some u) : upd H a o b = some u := by
  rw [upd_ne (ne_of_none e n)]
  exact e
theorem Same.new {H : Hp} {a : Addr} {o : HO} (n : H a = none) : Same H (upd H a o) := fun _ _ e => upd_some n e
/-- a record is made -/
theorem Same.rec {H : Hp} {x dx : Addr} {o u : HO} (n : H x = none) (m : H dx = none) : Same H (upd (upd H dx u) x o) := fun b _ e => by
  rw [upd_ne (ne_of_none e n), upd_ne (ne_of_none e m)]
  exact e
end RC
/-! ### The reader: its promises -/
namespace RC
open PySem PySem.Spec PyProof.Rows L2
theorem putF_len (f : Str) (v : V) : ∀ fs : List (Str × V), (putF f v fs).length ≤ fs.length + 1
  | [] => Nat.le_refl _
  | (g, x) :: r => by
    unfold putF
    by_cases h : g = f
    · rw [if_pos h]; simp
    · rw [if_neg h]; have := putF_len f v r; simp; omega
/-- a list that is read at c: it stands and is one of F's, or the program's top has written it -/
def SqF (K : PySem.W.Frag) (F : Addr → Prop) (H : Hp) (c : Addr) (xs : List V) : Prop := (Rd H c (.lst xs) ∧ F c) ∨ ((∀ H', SqL K H' c xs))
theorem SqF.sq {K : PySem.W.Frag} {F : Addr → Prop} {H : Hp} {c : Addr} {xs : List V} (h : SqF K F H c xs) : SqL K H c xs := h.elim (fun z => .inl z.1) fun z => z H
theorem SqF.on {K : PySem.W.Frag} {F : Addr → Prop} {H H' : Hp} {c : Addr} {xs : List V} (h : SqF K F H c xs) (k : ∀ o, F c → (∀ C dx fs, o ≠ HO.ins C dx fs) → H c = some o → H' c = some o) : SqF K F H' c xs := by
  rcases h with ⟨h | ⟨o, h⟩, f⟩ | h
  · exact .inl ⟨.inl (k _ f (fun _ _ _ z => by cases z) h), f⟩
  · exact .inl ⟨.inr ⟨o, k _ f (fun _ _ _ z => by cases z) h⟩, f⟩
  · exact .inr h
/-- r reads the list at c, and t is still to come -/
structure ReaderAt (A : Ad) (K : PySem.W.Frag) (F : Addr → Prop) (H : Hp) (r c : Addr) (t : List Int) : Prop where
  ex : ∃ (dx : Addr) (ns : List Int) (i : Nat), H r = some (.ins A.c_Reader dx (fs_Reader (.ref c) (.int (ni i)))) ∧ SqF K F H c (ns.map V.int) ∧ ns.drop i = t ∧ i ≤ ns.length
theorem ReaderAt.keep {A : Ad} {K : PySem.W.Frag} {F : Addr → Prop} {H H' : Hp} {r c : Addr} {t : List Int} (R : ReaderAt A K F H r c t) (f : ∀ o, H r = some o → H' r = some o) (k : Agr F H H') : ReaderAt A K F H' r c t := by
  obtain ⟨dx, ns, i, h1, h2, h3, h4⟩ := R.ex
  exact ⟨⟨dx, ns, i, f _ h1, h2.on fun o z _ e => k c o z e, h3, h4⟩⟩
theorem ReaderAt.obj {A : Ad} {K : PySem.W.Frag} {F : Addr → Prop} {H : Hp} {r c : Addr} {t : List Int} (R : ReaderAt A K F H r c t) : ∃ dx v, H r = some (.ins A.c_Reader dx (fs_Reader (.ref c) v)) := by
  obtain ⟨dx, ns, i, h1, _⟩ := R.ex
  exact ⟨dx, _, h1⟩
/-- all but r is as it was -/
abbrev But (r : Addr) (H H' : Hp) : Prop := ∀ b o, b ≠ r → H b = some o → H' b = some o
def sp_is_done (A : Ad) (K : PySem.W.Frag) : Sp := fun vs H Q _ => ∃ r c t F, vs = [.ref r] ∧ ReaderAt A K F H r c t ∧ Q (.bl (decide (t = []))) H
def sp_number (A : Ad) (K : PySem.W.Frag) : Sp := fun vs H Q _ => ∃ r c z t F, vs = [.ref r] ∧ ReaderAt A K F H r c (z :: t) ∧ ∀ H', ReaderAt A K F H' r c t → But r H H' → Q (.int z) H'
def sp_row (A : Ad) (K : PySem.W.Frag) : Sp := fun vs H Q _ => ∃ r c d t F, vs = [.ref r] ∧ ReaderAt A K F H r c (ni d.length :: (nis d ++ t)) ∧
  ∀ H' q, H q = none → H' q = some (.lst (vis d)) → ReaderAt A K F H' r c t → But r H H' → Q (.ref q) H'
section
variable {P : Program} {w : World} {K : PySem.W.Frag} {mg : Str → Option Value} {base : Heap} {A : Ad}
theorem drop_cons {ns : List Int} {i : Nat} {z : Int} {t : List Int} (h : ns.drop i = z :: t) : ns[i]? = some z ∧ ns.drop (i + 1) = t ∧ i + 1 ≤ ns.length := by
  have h1 : i < ns.length := by
    apply Nat.lt_of_not_le
    intro hl
    rw [List.drop_eq_nil_of_le hl] at h
    cases h
  have h2 := List.drop_eq_getElem_cons h1
  rw [h] at h2
  obtain ⟨e1, e2⟩ := List.cons.inj h2
  exact ⟨by rw [List.getElem?_eq_getElem h1, e1], e2.symm, h1⟩
theorem pure_is_done (T : Txt K mg A) : ∀ vs H Q E, sp_is_done A K vs H Q E → t_Reader_is_done K A { nx := fun _ H' => Q .non H', rt := Q } (start ["self"] vs) H := by
  rintro _ H Q E ⟨r, c, t, F, rfl, ⟨⟨dx, ns, i, h1, h2, h3, h4⟩⟩, k⟩
  refine ⟨_, rfl, r, _, dx, _, _, rfl, h1, T.cl_Reader, T.a_Reader_place, lk_Reader_place, _, rfl, r, _, dx, _, _, rfl, h1, T.cl_Reader, T.a_Reader_numbers, lk_Reader_numbers, c, _, rfl, .inl h2.sq, _, _, rfl, rfl, ?_⟩
  have e : decide ((((ns.map V.int).length : Nat) : Int) ≤ ni i) = decide (t = []) := by
    rw [List.length_map]
    apply decide_eq_decide.mpr
    rw [← h3, List.drop_eq_nil_iff]
    unfold ni
    omega
  show Q (.bl (decide ((((ns.map V.int).length : Nat) : Int) ≤ ni i))) H
  rw [e]
  exact k
theorem fn_is_done (T : Txt K mg A) : FnOk P w K mg base CX0 1 A.f_Reader_is_done A.d_Reader_is_done ["self"] (sp_is_done A K) :=
  ok_Reader_is_done T (fun vs H Q E h => by obtain ⟨r, c, t, F, rfl, _⟩ := h; rfl) (pure_is_done T)
theorem pure_number (T : Txt K mg A) : ∀ vs H Q E, sp_number A K vs H Q E → t_Reader_number K A { nx := fun _ H' => Q .non H', rt := Q } (start ["self", "found"] vs) H := by
  rintro _ H Q E ⟨r, c, z, t, F, rfl, ⟨⟨dx, ns, i, h1, h2, h3, h4⟩⟩, k⟩
  obtain ⟨g1, g2, g3⟩ := drop_cons h3
  refine ⟨_, rfl, r, _, dx, _, _, rfl, h1, T.cl_Reader, T.a_Reader_numbers, lk_Reader_numbers, _, rfl, r, _, dx, _, _, rfl, h1, T.cl_Reader, T.a_Reader_place, lk_Reader_place, c, _, _, _, rfl, rfl, h2.sq, atI_nat (by rw [List.getElem?_map, g1]; rfl), ?_⟩
  refine ⟨_, rfl, r, _, dx, _, _, rfl, h1, T.cl_Reader, T.a_Reader_place, lk_Reader_place, _, _, rfl, rfl, _, rfl, r, _, dx, _, rfl, h1, T.cl_Reader, T.a_Reader_place, (by show 2 < 1000; decide), ?_⟩
  refine ⟨_, rfl, ?_⟩
  refine k _ ⟨⟨dx, ns, i + 1, by rw [upd_same, put_Reader_place]; rfl, h2.on fun o _ no e => by rw [upd_ne (ne_of e h1 (no _ _ _))]; exact e, g2, g3⟩⟩ fun b o hb e => by rw [upd_ne hb]; exact e
theorem fn_number (T : Txt K mg A) : FnOk P w K mg base CX0 1 A.f_Reader_number A.d_Reader_number ["self"] (sp_number A K) :=
  ok_Reader_number T (fun vs H Q E h => by obtain ⟨r, c, z, t, F, rfl, _⟩ := h; rfl) (pure_number T)
theorem cut_mid {ns : List Int} {i : Nat} {d : List Nat} {t : List Int} (h : ns.drop i = nis d ++ t) (hi : i ≤ ns.length) :
    cutV (ns.map V.int) (some (ni i)) (some (ni i + ni d.length)) = vis d ∧ ns.drop (i + d.length) = t ∧ i + d.length ≤ ns.length := by
  have hl : (ns.drop i).length = d.length + t.length := by rw [h]; simp [nis]
  rw [List.length_drop] at hl
  have e : ni i + ni d.length = ((i + d.length : Nat) : Int) := by unfold ni; omega
  refine ⟨?_, ?_, by omega⟩
  · unfold cutV
    rw [e, HT.sIx_nat, List.length_map, HT.sIx_nat, Nat.min_eq_left (by omega), Nat.min_eq_left (by omega)]
    rw [← List.map_drop, ← List.map_take, h]
    have e2 : i + d.length - i = (nis d).length := by rw [nis_len]; omega
    rw [e2, List.take_left']
    rfl
  · rw [← List.drop_drop, h]
    have e2 : d.length = (nis d).length := (nis_len d).symm
    rw [e2, List.drop_left']
    rfl
theorem pure_row (T : Txt K mg A) : ∀ vs H Q E, sp_row A K vs H Q E → t_Reader_row K A (sp_number A K) { nx := fun _ H' => Q .non H', rt := Q } (start ["self", "size", "found"] vs) H := by
  rintro _ H Q E ⟨r, c, d, t, F, rfl, R, k⟩
  have R' := R
  obtain ⟨⟨dx, ns, i, h1, h2, h3, h4⟩⟩ := R
  refine ⟨_, rfl, r, dx, _, rfl, h1, no_Reader_number, r, c, _, _, _, rfl, R', fun H1 R1 B1 => ?_⟩
  obtain ⟨⟨dx1, ns1, i1, j1, j2, j3, j4⟩⟩ := R1
  obtain ⟨m1, m2, m3⟩ := cut_mid j3 j4
  refine ⟨_, rfl, r, _, dx1, _, _, rfl, j1, T.cl_Reader, T.a_Reader_numbers, lk_Reader_numbers, _, rfl, r, _, dx1, _, _, rfl, j1, T.cl_Reader, T.a_Reader_place, lk_Reader_place, _, rfl, _, rfl, r, _, dx1, _, _, rfl, j1, T.cl_Reader, T.a_Reader_place, lk_Reader_place, _, rfl, _, _, rfl, rfl, _, rfl, c, _, rfl, j2.sq, fun q hq => ?_⟩
  have nq : r ≠ q := ne_of_none j1 hq
  have j1' : (upd H1 q (.lst (cutV (ns1.map V.int) (some (ni i1)) (some (ni i1 + ni d.length))))) r = some (.ins A.c_Reader dx1 (fs_Reader (.ref c) (.int (ni i1)))) := upd_some hq j1
  refine ⟨_, rfl, r, _, dx1, _, _, rfl, j1', T.cl_Reader, T.a_Reader_place, lk_Reader_place, _, rfl, _, _, rfl, rfl, _, rfl, r, _, dx1, _, rfl, j1', T.cl_Reader, T.a_Reader_place, (by show 2 < 1000; decide), ?_⟩
  refine ⟨_, rfl, ?_⟩
  have hq0 : H q = none := by
    cases e : H q with
    | none => rfl
    | some o => rw [B1 q o nq.symm e] at hq; cases hq
  refine k _ q hq0 ?_ ⟨⟨dx1, ns1, i1 + d.length, ?_, ?_, m2, m3⟩⟩ ?_
  · rw [upd_ne nq.symm, upd_same, m1]
  · rw [upd_same, put_Reader_place]
    have e : ni i1 + ni d.length = ni (i1 + d.length) := by unfold ni; omega
    show some (HO.ins A.c_Reader dx1 (fs_Reader (V.ref c) (V.int (ni i1 + ni d.length)))) = _
    rw [e]
  · refine j2.on fun o _ no e => ?_
    rw [upd_ne (ne_of e j1 (no _ _ _)), upd_some hq e]
  · intro b o hb e
    rw [upd_ne hb]
    exact upd_some hq (B1 b o hb e)
theorem fn_row (T : Txt K mg A) : FnOk P w K mg base CX0 2 A.f_Reader_row A.d_Reader_row ["self"] (sp_row A K) :=
  ok_Reader_row T (fn_number T) (fun vs H Q E h => by obtain ⟨r, c, z, t, F, rfl, _⟩ := h; rfl) (pure_row T)
end
end RC
/-! ### The play's calls that change it -/
namespace RC
open PySem PySem.Spec PyProof.Rows L2
/-- renew: new empty lists; all but the play itself is as it was -/
def sp_renew (A : Ad) : Sp := fun vs H Q _ => ∃ (a dx : Addr) (fs : List (Str × V)) (v : V), vs = [.ref a, v] ∧ H a = some (.ins A.c_Play dx fs) ∧ (fs = [] ∨ ∃ p, fs = fP p) ∧
  ∀ H' ls lp lc la, H ls = none → H lp = none → H lc = none → H la = none → ls ≠ lp → ls ≠ lc → ls ≠ la → lp ≠ lc → lp ≠ la → lc ≠ la →
    H' a = some (.ins A.c_Play dx (fs_Play v (.ref ls) (.ref lp) (.ref lc) (.ref la))) → H' ls = some (.lst []) → H' lp = some (.lst []) → H' lc = some (.lst []) → H' la = some (.lst []) → But a H H' → Q .non H'
def sp_rising (A : Ad) : Sp := fun vs H Q _ => ∃ (a q : Addr) (F : Addr → Prop) (h : Uw07.House) (p : Pl) (r : List Nat), vs = [.ref a, .ref q] ∧ PlayAt A F H a h p ∧ H q = some (.lst (vis r)) ∧ Q (.bl (roleOk h r)) H
def sp_fees (A : Ad) : Sp := fun vs H Q _ => ∃ (a q : Addr) (F : Addr → Prop) (h : Uw07.House) (p : Pl) (r : List Nat), vs = [.ref a, .ref q] ∧ PlayAt A F H a h p ∧ H q = some (.lst (vis r)) ∧ Q (.bl (feesOk h r)) H
/-- a call that changes the play: its answer, the play behind it; F's things stand -/
def Done (A : Ad) (F : Addr → Prop) (H : Hp) (a : Addr) (h : Uw07.House) (x : Uw07.Call) (Q : VK) : Prop :=
  ∀ H' p', PlayAt A F H' a (Uw07.step h x).1 p' → Agr F H H' → Q (.int (Uw07.step h x).2.v) H'
def sp_begins (A : Ad) : Sp := fun vs H Q _ => ∃ (a q : Addr) (F : Addr → Prop) (h : Uw07.House) (p : Pl) (d : List Nat), vs = [.ref a, .ref q] ∧ PlayAt A (Pq F q) H a h p ∧ H q = some (.lst (vis d)) ∧ ¬ F q ∧ Tr F H ∧ Done A F H a h (.begins d) Q
def sp_scene (A : Ad) : Sp := fun vs H Q _ => ∃ (a q : Addr) (F : Addr → Prop) (h : Uw07.House) (p : Pl) (n : Nat) (r : List Nat), vs = [.ref a, .int (ni n), .ref q] ∧ PlayAt A (Pq F q) H a h p ∧ H q = some (.lst (vis r)) ∧ ¬ F q ∧ Tr F H ∧ Done A F H a h (.scene n r) Q
def sp_player (A : Ad) : Sp := fun vs H Q _ => ∃ (a q : Addr) (F : Addr → Prop) (h : Uw07.House) (p : Pl) (w r s t : Nat) (f : List Nat), vs = [.ref a, .int (ni w), .int (ni r), .int (ni s), .int (ni t), .ref q] ∧ PlayAt A (Pq F q) H a h p ∧ H q = some (.lst (vis f)) ∧ ¬ F q ∧ Tr F H ∧ Done A F H a h (.player w r s t f) Q
def sp_piece (A : Ad) : Sp := fun vs H Q _ => ∃ (a q : Addr) (F : Addr → Prop) (h : Uw07.House) (p : Pl) (n : Nat) (r : List Nat), vs = [.ref a, .int (ni n), .ref q] ∧ PlayAt A (Pq F q) H a h p ∧ H q = some (.lst (vis r)) ∧ ¬ F q ∧ Tr F H ∧ Done A F H a h (.piece n r) Q
def sp_ahead (A : Ad) : Sp := fun vs H Q _ => ∃ (a : Addr) (F : Addr → Prop) (h : Uw07.House) (p : Pl) (i j : Nat), vs = [.ref a, .int (ni i), .int (ni j)] ∧ PlayAt A F H a h p ∧ h.ahead.length < 1000 ∧ Tr F H ∧ Done A F H a h (.ahead i j) Q
section
variable {P : Program} {w : World} {K : PySem.W.Frag} {mg : Str → Option Value} {base : Heap} {A : Ad}
theorem renewed {fs : List (Str × V)} (h : fs = [] ∨ ∃ p, fs = fP p) (v0 v1 v2 v3 v4 : V) : putF "pairs" v4 (putF "pieces" v3 (putF "players" v2 (putF "scenes" v1 (putF "dressing" v0 fs)))) = fs_Play v0 v1 v2 v3 v4 := by
  rcases h with rfl | ⟨p, rfl⟩
  · rw [new_Play_dressing, new_Play_scenes, new_Play_players, new_Play_pieces, new_Play_pairs]
  · rw [put_Play_dressing, put_Play_scenes, put_Play_players, put_Play_pieces, put_Play_pairs]
theorem pure_renew (T : Txt K mg A) : ∀ vs H Q E, sp_renew A vs H Q E → t_Play_renew K A { nx := fun _ H' => Q .non H', rt := Q } (start ["self", "dressing"] vs) H := by
  rintro _ H Q E ⟨a, dx, fs, v, rfl, h1, hf, k⟩
  have l0 : fs.length ≤ 5 := by
    rcases hf with rfl | ⟨p, rfl⟩
    · exact Nat.zero_le _
    · exact Nat.le_refl _
  have l1 := putF_len "dressing" v fs
  have z : ∀ o : HO, (0 : Nat) ≤ sizeLine := fun _ => Nat.zero_le _
  refine ⟨_, rfl, _, rfl, a, _, dx, _, rfl, h1, T.cl_Play, T.a_Play_dressing, by omega, ?_⟩
  refine ⟨Nat.zero_le _, fun ls n1 => ⟨_, rfl, a, _, dx, _, rfl, upd_some n1 upd_same, T.cl_Play, T.a_Play_scenes, by omega, ?_⟩⟩
  have l2 := putF_len "scenes" (.ref ls) (putF "dressing" v fs)
  refine ⟨Nat.zero_le _, fun lp n2 => ⟨_, rfl, a, _, dx, _, rfl, upd_some n2 upd_same, T.cl_Play, T.a_Play_players, by omega, ?_⟩⟩
  have l3 := putF_len "players" (.ref lp) (putF "scenes" (.ref ls) (putF "dressing" v fs))
  refine ⟨Nat.zero_le _, fun lc n3 => ⟨_, rfl, a, _, dx, _, rfl, upd_some n3 upd_same, T.cl_Play, T.a_Play_pieces, by omega, ?_⟩⟩
  have l4 := putF_len "pieces" (.ref lc) (putF "players" (.ref lp) (putF "scenes" (.ref ls) (putF "dressing" v fs)))
  refine ⟨Nat.zero_le _, fun la n4 => ⟨_, rfl, a, _, dx, _, rfl, upd_some n4 upd_same, T.cl_Play, T.a_Play_pairs, by omega, ?_⟩⟩
  have a1 : a ≠ ls := ne_of_none upd_same n1
  have a2 : a ≠ lp := ne_of_none upd_same n2
  have a3 : a ≠ lc := ne_of_none upd_same n3
  have a4 : a ≠ la := ne_of_none upd_same n4
  rw [upd_ne a1.symm] at n1
  rw [upd_ne a2.symm] at n2
  have e12 : ls ≠ lp := ne_of_none upd_same n2
  rw [upd_ne e12.symm, upd_ne a2.symm] at n2
  rw [upd_ne a3.symm] at n3
  have e23 : lp ≠ lc := ne_of_none upd_same n3
  rw [upd_ne e23.symm, upd_ne a3.symm] at n3
  have e13 : ls ≠ lc := ne_of_none upd_same n3
  rw [upd_ne e13.symm, upd_ne a3.symm] at n3
  rw [upd_ne a4.symm] at n4
  have e34 : lc ≠ la := ne_of_none upd_same n4
  rw [upd_ne e34.symm, upd_ne a4.symm] at n4
  have e24 : lp ≠ la := ne_of_none upd_same n4
  rw [upd_ne e24.symm, upd_ne a4.symm] at n4
  have e14 : ls ≠ la := ne_of_none upd_same n4
  rw [upd_ne e14.symm, upd_ne a4.symm] at n4
  refine k _ ls lp lc la n1 n2 n3 n4 e12 e13 e14 e23 e24 e34 ?_ ?_ ?_ ?_ ?_ ?_
  · rw [upd_same, renewed hf]
  · rw [upd_ne a1.symm, upd_ne e14, upd_ne a1.symm, upd_ne e13, upd_ne a1.symm, upd_ne e12, upd_ne a1.symm, upd_same]
  · rw [upd_ne a2.symm, upd_ne e24, upd_ne a2.symm, upd_ne e23, upd_ne a2.symm, upd_same]
  · rw [upd_ne a3.symm, upd_ne e34, upd_ne a3.symm, upd_same]
  · rw [upd_ne a4.symm, upd_same]
  · intro b o hb e
    rw [upd_ne hb, upd_ne (ne_of_none e n4), upd_ne hb, upd_ne (ne_of_none e n3), upd_ne hb, upd_ne (ne_of_none e n2), upd_ne hb, upd_ne (ne_of_none e n1), upd_ne hb]
    exact e
theorem fn_renew (T : Txt K mg A) : FnOk P w K mg base CX0 1 A.f_Play_renew A.d_Play_renew ["self", "dressing"] (sp_renew A) :=
  ok_Play_renew T (fun vs H Q E h => by obtain ⟨a, dx, fs, v, rfl, _⟩ := h; rfl) (pure_renew T)
theorem pure_rising (T : Txt K mg A) : ∀ vs H Q E, sp_rising A vs H Q E → t_Play_are_rising_roles K A { nx := fun _ H' => Q .non H', rt := Q } (start ["self", "roles", "before", "role"] vs) H := by
  rintro _ H Q E ⟨a, q, F, h, p, r, rfl, k, hq, kQ⟩
  have e0 : roleOk h r = risesFrom h.play.dress.length (-1) r := (rises_eq _ _).symm
  refine ⟨_, rfl, _, rfl, q, rfl, ⟨_, SqL.of hq⟩, for_list (K := K) (a := q) (xs := vis r)
    (fun i σ H' => ∃ (b : Int) (v : Option V), σ = [some (.ref a), some (.ref q), some (.int b), v] ∧ H' = H ∧ roleOk h r = risesFrom h.play.dress.length b (r.drop i))
    ⟨-1, none, rfl, rfl, e0⟩ (fun i σ H' _ ⟨_, _, _, e, _⟩ => by rw [e]; exact SqL.of hq) ?_ ?_⟩
  · rintro i y σ H' hi ⟨b, v, rfl, rfl, e⟩
    obtain ⟨n, hn, rfl⟩ := vis_get hi
    have hd : r.drop i = n :: r.drop (i + 1) := by
      obtain ⟨h1, h2⟩ := List.getElem?_eq_some_iff.mp hn
      rw [List.drop_eq_getElem_cons h1, h2]
    rw [hd] at e
    unfold risesFrom at e
    refine ⟨_, rfl, _, rfl, _, _, rfl, rfl, _, rfl, ?_⟩
    by_cases c1 : ni n ≤ b
    · refine ifT (decide_eq_true c1) (iteT ?_)
      rw [if_pos (.inl c1)] at e
      rw [e] at kQ
      exact kQ
    · refine ifF (decide_eq_false c1) ⟨_, rfl, _, rfl, a, _, _, _, _, rfl, k.ob, T.cl_Play, T.a_Play_dressing, lk_Play_dressing, p.ld, _, rfl, .inl (SqL.of k.dr), _, _, rfl, rfl, _, rfl, ?_⟩
      rw [vis_len]
      by_cases c2 : ni h.play.dress.length ≤ ni n
      · refine ifT (decide_eq_true c2) ?_
        have c2' : h.play.dress.length ≤ n := by unfold ni at c2; omega
        rw [if_pos (.inr c2')] at e
        rw [e] at kQ
        exact kQ
      · refine ifF (decide_eq_false c2) ⟨_, rfl, ?_⟩
        have c2' : ¬ h.play.dress.length ≤ n := by unfold ni at c2; omega
        rw [if_neg (by rintro (z | z); exact c1 z; exact c2' z)] at e
        exact ⟨ni n, some (.int (ni n)), rfl, rfl, e⟩
  · rintro σ H' ⟨b, v, rfl, rfl, e⟩
    rw [vis_len, List.drop_length] at e
    have e' : roleOk h r = true := e
    rw [e'] at kQ
    exact kQ
theorem fn_rising (T : Txt K mg A) : FnOk P w K mg base CX0 1 A.f_Play_are_rising_roles A.d_Play_are_rising_roles ["self", "roles"] (sp_rising A) :=
  ok_Play_are_rising_roles T (fun vs H Q E h => by obtain ⟨a, q, F, h, p, r, rfl, _⟩ := h; rfl) (pure_rising T)
theorem pure_fees (T : Txt K mg A) : ∀ vs H Q E, sp_fees A vs H Q E → t_Play_are_fees K A { nx := fun _ H' => Q .non H', rt := Q } (start ["self", "fees", "told"] vs) H := by
  rintro _ H Q E ⟨a, q, F, h, p, r, rfl, k, hq, kQ⟩
  refine ⟨_, rfl, q, _, rfl, .inl (SqL.of hq), _, rfl, a, _, _, _, _, rfl, k.ob, T.cl_Play, T.a_Play_dressing, lk_Play_dressing, p.ld, _, rfl, .inl (SqL.of k.dr), rfl, _, rfl, ?_⟩
  rw [vis_len, vis_len]
  by_cases c : r.length = h.play.dress.length
  · have e1 : (!decide (V.int (ni r.length) = V.int (ni h.play.dress.length))) = false := by rw [c]; simp
    refine ifF e1 ?_
    have e2 : feesOk h r = r.all fun x => decide (x ≤ 100001) := by unfold feesOk; rw [decide_eq_true c, Bool.true_and]
    refine ⟨_, rfl, q, rfl, ⟨_, SqL.of hq⟩, for_list (K := K) (a := q) (xs := vis r)
      (fun i σ H' => ∃ (v : Option V), σ = [some (.ref a), some (.ref q), v] ∧ H' = H ∧ feesOk h r = (r.drop i).all fun x => decide (x ≤ 100001))
      ⟨none, rfl, rfl, e2⟩ (fun i σ H' _ ⟨_, _, e, _⟩ => by rw [e]; exact SqL.of hq) ?_ ?_⟩
    · rintro i y σ H' hi ⟨v, rfl, rfl, e⟩
      obtain ⟨n, hn, rfl⟩ := vis_get hi
      have hd : r.drop i = n :: r.drop (i + 1) := by
        obtain ⟨h1, h2⟩ := List.getElem?_eq_some_iff.mp hn
        rw [List.drop_eq_getElem_cons h1, h2]
      rw [hd, List.all_cons] at e
      refine ⟨_, rfl, _, _, rfl, rfl, _, _, rfl, rfl, _, rfl, ?_⟩
      by_cases c1 : (100000 + 1 : Int) < ni n
      · refine ifT (decide_eq_true c1) ?_
        have c1' : ¬ n ≤ 100001 := by unfold ni at c1; omega
        rw [decide_eq_false c1', Bool.false_and] at e
        rw [e] at kQ
        exact kQ
      · refine ifF (decide_eq_false c1) ?_
        have c1' : n ≤ 100001 := by unfold ni at c1; omega
        rw [decide_eq_true c1', Bool.true_and] at e
        exact ⟨some (.int (ni n)), rfl, rfl, e⟩
    · rintro σ H' ⟨v, rfl, rfl, e⟩
      rw [vis_len, List.drop_length] at e
      have e' : feesOk h r = true := e
      rw [e'] at kQ
      exact kQ
  · have e1 : (!decide (V.int (ni r.length) = V.int (ni h.play.dress.length))) = true := by
      have : ¬ V.int (ni r.length) = V.int (ni h.play.dress.length) := fun z => c (by injection z with z; unfold ni at z; omega)
      rw [decide_eq_false this]; rfl
    refine ifT e1 ?_
    have e2 : feesOk h r = false := by unfold feesOk; rw [decide_eq_false c, Bool.false_and]
    rw [e2] at kQ
    exact kQ
theorem fn_fees (T : Txt K mg A) : FnOk P w K mg base CX0 1 A.f_Play_are_fees A.d_Play_are_fees ["self", "fees"] (sp_fees A) :=
  ok_Play_are_fees T (fun vs H Q E h => by obtain ⟨a, q, F, h, p, r, rfl, _⟩ := h; rfl) (pure_fees T)
end
end RC
namespace RC
open PySem PySem.Spec PyProof.Rows L2
section
variable {P : Program} {w : World} {K : PySem.W.Frag} {mg : Str → Option Value} {base : Heap} {A : Ad}
theorem But.less {r : Addr} {H H' : Hp} (b : But r H H') {F : Addr → Prop} (n : ¬ F r) : Agr F H H' := fun c o f e => b c o (fun z => n (z ▸ f)) e
/-- one list of the play is changed, new things come: all else of it stands -/
structure Grew (F F' : Addr → Prop) (H H' : Hp) (a l : Addr) (p p' : Pl) : Prop where
  g : But l H H'
  sub : ∀ b, Wr F' p' b → Wr F p b
  ne : a ≠ l
theorem Grew.kw {F F' : Addr → Prop} {H H' : Hp} {a l : Addr} {p p' : Pl} (G : Grew F F' H H' a l p p') (hl : Wr F p l) : ∀ b o, ¬ Wr F p b → H b = some o → H' b = some o := fun b o n e => G.g b o (fun z => n (z ▸ hl)) e
theorem Grew.mw {F F' : Addr → Prop} {H H' : Hp} {a l : Addr} {p p' : Pl} (G : Grew F F' H H' a l p p') : ∀ b, ¬ Wr F p b → H b ≠ none → ¬ Wr F' p' b := fun b n _ z => n (G.sub b z)
theorem PlayAt.ne {F : Addr → Prop} {H : Hp} {a : Addr} {h : Uw07.House} {p : Pl} (k : PlayAt A F H a h p) : a ≠ p.ls ∧ a ≠ p.lp ∧ a ≠ p.lc ∧ a ≠ p.la :=
  ⟨ne_of k.ob k.sc (by intro z; cases z), ne_of k.ob k.pl (by intro z; cases z), ne_of k.ob k.pc (by intro z; cases z), ne_of k.ob k.pa (by intro z; cases z)⟩
theorem new_wr {F : Addr → Prop} {H : Hp} {a : Addr} {h : Uw07.House} {p : Pl} {F0 : Addr → Prop} (k : PlayAt A F0 H a h p) (t : Tr F H) {x : Addr} (n : H x = none) : ¬ Wr F p x := by
  rintro (z | z | z | z | z)
  · exact t x z n
  · exact ne_of_none k.sc n z.symm
  · exact ne_of_none k.pl n z.symm
  · exact ne_of_none k.pc n z.symm
  · exact ne_of_none k.pa n z.symm
theorem arg_wr {F : Addr → Prop} {H : Hp} {a q : Addr} {h : Uw07.House} {p : Pl} (k : PlayAt A (Pq F q) H a h p) (n : ¬ F q) : ¬ Wr F p q := by
  rintro (z | z | z | z | z)
  · exact n z
  · exact k.nS (.inr z.symm)
  · exact k.nP (.inr z.symm)
  · exact k.nC (.inr z.symm)
  · exact k.nR (.inr z.symm)
theorem pq_sub {F : Addr → Prop} {q : Addr} {p : Pl} : ∀ b, Wr F p b → Wr (Pq F q) p b := fun b z => z.elim (fun z => .inl (.inl z)) .inr
theorem nPq {F : Addr → Prop} {q b : Addr} (h : ¬ Pq F q b) : ¬ F b := fun z => h (.inl z)
theorem PlayAt.addScene {F : Addr → Prop} {H H' : Hp} {a q x dx : Addr} {h : Uw07.House} {p : Pl} {n : Nat} {r : List Nat} (k : PlayAt A (Pq F q) H a h p) (nq : ¬ F q) (t : Tr F H) (hq : H q = some (.lst (vis r))) (nx : H x = none)
    (g : But p.ls H H') (hx : H' x = some (.ins A.c_Scene dx (fs_Scene (.int (ni n)) (.ref q)))) (hl : H' p.ls = some (.lst (p.xs ++ [.ref x])))
    (ok : HOK { h with play := { h.play with scenes := h.play.scenes ++ [⟨n, r⟩] } }) :
    PlayAt A F H' a { h with play := { h.play with scenes := h.play.scenes ++ [⟨n, r⟩] } } { p with xs := p.xs ++ [.ref x] } := by
  have G : Grew (Pq F q) F H H' a p.ls p { p with xs := p.xs ++ [.ref x] } := ⟨g, pq_sub, k.ne.1⟩
  have kw := G.kw (.inr (.inl rfl))
  have aw : ¬ Wr F p q := arg_wr k nq
  have nw : ¬ Wr F p x := new_wr k t nx
  have lq : q ≠ p.ls := fun z => k.nS (.inr z.symm)
  have nd : p.ld ≠ p.ls := fun z => k.nD (.inr (.inl z))
  exact { ob := g _ _ k.ne.1 k.ob, dr := g _ _ nd k.dr, sc := hl, pl := g _ _ k.d1.symm k.pl, pc := g _ _ k.d2.symm k.pc, pa := g _ _ k.d3.symm k.pa
          scs := Paired.snoc (Paired.mapP k.scs fun v s z => z.keep kw G.mw) ⟨x, dx, q, rfl, nw, aw, hx, g _ _ lq hq⟩
          pls := Paired.mapP k.pls fun v s z => z.keep kw G.mw, pcs := Paired.mapP k.pcs fun v s z => z.keep kw G.mw, pas := Paired.mapP k.pas fun v s z => z.keep kw G.mw
          nA := nPq k.nA, nS := nPq k.nS, nP := nPq k.nP, nC := nPq k.nC, nR := nPq k.nR, nD := G.mw _ k.nD (by rw [k.dr]; simp)
          d1 := k.d1, d2 := k.d2, d3 := k.d3, d4 := k.d4, d5 := k.d5, d6 := k.d6, ok := ok }
theorem PlayAt.addPiece {F : Addr → Prop} {H H' : Hp} {a q x dx : Addr} {h : Uw07.House} {p : Pl} {n : Nat} {r : List Nat} (k : PlayAt A (Pq F q) H a h p) (nq : ¬ F q) (t : Tr F H) (hq : H q = some (.lst (vis r))) (nx : H x = none)
    (g : But p.lc H H') (hx : H' x = some (.ins A.c_Piece dx (fs_Piece (.int (ni n)) (.ref q)))) (hl : H' p.lc = some (.lst (p.cs ++ [.ref x])))
    (ok : HOK { h with pieces := h.pieces ++ [(n, r)] }) :
    PlayAt A F H' a { h with pieces := h.pieces ++ [(n, r)] } { p with cs := p.cs ++ [.ref x] } := by
  have G : Grew (Pq F q) F H H' a p.lc p { p with cs := p.cs ++ [.ref x] } := ⟨g, pq_sub, k.ne.2.2.1⟩
  have kw := G.kw (.inr (.inr (.inr (.inl rfl))))
  have aw : ¬ Wr F p q := arg_wr k nq
  have nw : ¬ Wr F p x := new_wr k t nx
  have lq : q ≠ p.lc := fun z => k.nC (.inr z.symm)
  have nd : p.ld ≠ p.lc := fun z => k.nD (.inr (.inr (.inr (.inl z))))
  exact { ob := g _ _ k.ne.2.2.1 k.ob, dr := g _ _ nd k.dr, sc := g _ _ k.d2 k.sc, pl := g _ _ k.d4 k.pl, pc := hl, pa := g _ _ k.d6.symm k.pa
          pcs := Paired.snoc (Paired.mapP k.pcs fun v s z => z.keep kw G.mw) ⟨x, dx, q, rfl, nw, aw, hx, g _ _ lq hq⟩
          pls := Paired.mapP k.pls fun v s z => z.keep kw G.mw, scs := Paired.mapP k.scs fun v s z => z.keep kw G.mw, pas := Paired.mapP k.pas fun v s z => z.keep kw G.mw
          nA := nPq k.nA, nS := nPq k.nS, nP := nPq k.nP, nC := nPq k.nC, nR := nPq k.nR, nD := G.mw _ k.nD (by rw [k.dr]; simp)
          d1 := k.d1, d2 := k.d2, d3 := k.d3, d4 := k.d4, d5 := k.d5, d6 := k.d6, ok := ok }
theorem zip_snoc {α β : Type} {x : α} {y : β} : ∀ {l : List α} {m : List β}, l.length = m.length → (l ++ [x]).zip (m ++ [y]) = l.zip m ++ [(x, y)]
  | [], [], _ => rfl
  | [], _ :: _, h => by cases h
  | _ :: _, [], h => by cases h
  | a :: l, b :: m, h => by
    show (a, b) :: (l ++ [x]).zip (m ++ [y]) = (a, b) :: (l.zip m ++ [(x, y)])
    rw [zip_snoc (Nat.succ.inj h)]
theorem PlayAt.addPlayer {F : Addr → Prop} {H H' : Hp} {a q x dx : Addr} {h : Uw07.House} {p : Pl} {wg r s t' : Nat} {f : List Nat} (k : PlayAt A (Pq F q) H a h p) (nq : ¬ F q) (t : Tr F H) (hq : H q = some (.lst (vis f))) (nx : H x = none)
    (g : But p.lp H H') (hx : H' x = some (.ins A.c_Player dx (fs_Player (.int (ni wg)) (.int (ni r)) (.int (ni s)) (.int (ni t')) (.ref q)))) (hl : H' p.lp = some (.lst (p.ps ++ [.ref x])))
    (ok : HOK { h with play := { h.play with players := h.play.players ++ [⟨wg, f.map feeOf⟩] }, hours := h.hours ++ [(r, s, t')] }) :
    PlayAt A F H' a { h with play := { h.play with players := h.play.players ++ [⟨wg, f.map feeOf⟩] }, hours := h.hours ++ [(r, s, t')] } { p with ps := p.ps ++ [.ref x] } := by
  have G : Grew (Pq F q) F H H' a p.lp p { p with ps := p.ps ++ [.ref x] } := ⟨g, pq_sub, k.ne.2.1⟩
  have kw := G.kw (.inr (.inr (.inl rfl)))
  have aw : ¬ Wr F p q := arg_wr k nq
  have nw : ¬ Wr F p x := new_wr k t nx
  have lq : q ≠ p.lp := fun z => k.nP (.inr z.symm)
  have nd : p.ld ≠ p.lp := fun z => k.nD (.inr (.inr (.inl z)))
  exact { ob := g _ _ k.ne.2.1 k.ob, dr := g _ _ nd k.dr, sc := g _ _ k.d1 k.sc, pl := hl, pc := g _ _ k.d4.symm k.pc, pa := g _ _ k.d5.symm k.pa
          pls := by
            show Paired _ (p.ps ++ [.ref x]) ((h.play.players ++ [(⟨wg, f.map feeOf⟩ : Uw02.Player)]).zip (h.hours ++ [(r, s, t')]))
            rw [zip_snoc k.ok.same]
            have last : PlayerAt A (Wr F { p with ps := p.ps ++ [.ref x] }) H' (.ref x) (⟨wg, f.map feeOf⟩, (r, s, t')) := ⟨x, dx, q, rfl, nw, aw, hx, by
              show H' q = some (.lst (vis ((f.map feeOf).map feeN)))
              rw [fees_back]
              exact g _ _ lq hq⟩
            exact Paired.snoc (Paired.mapP k.pls fun v s z => z.keep kw G.mw) last
          pcs := Paired.mapP k.pcs fun v s z => z.keep kw G.mw, scs := Paired.mapP k.scs fun v s z => z.keep kw G.mw, pas := Paired.mapP k.pas fun v s z => z.keep kw G.mw
          nA := nPq k.nA, nS := nPq k.nS, nP := nPq k.nP, nC := nPq k.nC, nR := nPq k.nR, nD := G.mw _ k.nD (by rw [k.dr]; simp)
          d1 := k.d1, d2 := k.d2, d3 := k.d3, d4 := k.d4, d5 := k.d5, d6 := k.d6, ok := ok }
theorem PlayAt.addPair {F : Addr → Prop} {H H' : Hp} {a x : Addr} {h : Uw07.House} {p : Pl} {i j : Nat} (k : PlayAt A F H a h p) (t : Tr F H) (nx : H x = none)
    (g : But p.la H H') (hx : H' x = some (.tup [.int (ni i), .int (ni j)])) (hl : H' p.la = some (.lst (p.as ++ [.ref x])))
    (ok : HOK { h with ahead := h.ahead ++ [(i, j)] }) : PlayAt A F H' a { h with ahead := h.ahead ++ [(i, j)] } { p with as := p.as ++ [.ref x] } := by
  have G : Grew F F H H' a p.la p { p with as := p.as ++ [.ref x] } := ⟨g, fun _ z => z, k.ne.2.2.2⟩
  have kw := G.kw (.inr (.inr (.inr (.inr rfl))))
  have nd : p.ld ≠ p.la := fun z => k.nD (.inr (.inr (.inr (.inr z))))
  exact { ob := g _ _ k.ne.2.2.2 k.ob, dr := g _ _ nd k.dr, sc := g _ _ k.d3 k.sc, pl := g _ _ k.d5 k.pl, pc := g _ _ k.d6 k.pc, pa := hl
          pas := Paired.snoc (Paired.mapP k.pas fun v s z => z.keep kw G.mw) ⟨x, rfl, new_wr k t nx, hx⟩
          pcs := Paired.mapP k.pcs fun v s z => z.keep kw G.mw, scs := Paired.mapP k.scs fun v s z => z.keep kw G.mw, pls := Paired.mapP k.pls fun v s z => z.keep kw G.mw
          nA := k.nA, nS := k.nS, nP := k.nP, nC := k.nC, nR := k.nR, nD := G.mw _ k.nD (by rw [k.dr]; simp)
          d1 := k.d1, d2 := k.d2, d3 := k.d3, d4 := k.d4, d5 := k.d5, d6 := k.d6, ok := ok }
/-- nothing is changed -/
theorem Done.no {F : Addr → Prop} {H : Hp} {a q : Addr} {h : Uw07.House} {p : Pl} {x : Uw07.Call} {Q : VK} {z : Int} (D : Done A F H a h x Q) (k : PlayAt A (Pq F q) H a h p) (e : Uw07.step h x = (h, Uw07.ok z)) : Q (.int z) H := by
  have k' : PlayAt A F H a h p := k.less fun b f _ => .inl f
  have := D H p (by rw [e]; exact k') (fun _ _ _ e => e)
  rw [e] at this
  exact this
theorem Done.no' {F : Addr → Prop} {H : Hp} {a : Addr} {h : Uw07.House} {p : Pl} {x : Uw07.Call} {Q : VK} {z : Int} (D : Done A F H a h x Q) (k : PlayAt A F H a h p) (e : Uw07.step h x = (h, Uw07.ok z)) : Q (.int z) H := by
  have := D H p (by rw [e]; exact k) (fun _ _ _ e => e)
  rw [e] at this
  exact this
theorem Done.yes {F : Addr → Prop} {H H' : Hp} {a : Addr} {h h' : Uw07.House} {p' : Pl} {x : Uw07.Call} {Q : VK} {z : Int} (D : Done A F H a h x Q) (e : Uw07.step h x = (h', Uw07.ok z)) (k : PlayAt A F H' a h' p') (g : Agr F H H') : Q (.int z) H' := by
  have := D H' p' (by rw [e]; exact k) g
  rw [e] at this
  exact this
theorem pure_begins (T : Txt K mg A) : ∀ vs H Q E, sp_begins A vs H Q E → t_Play_begins K A (sp_renew A) { nx := fun _ H' => Q .non H', rt := Q } (start ["self", "dressing"] vs) H := by
  rintro _ H Q E ⟨a, q, F, h, p, d, rfl, k, hq, nq, t, D⟩
  refine ⟨_, rfl, q, _, rfl, .inl (SqL.of hq), _, _, rfl, rfl, _, rfl, ?_⟩
  rw [vis_len]
  by_cases c1 : ni d.length < 1
  · refine ifT (decide_eq_true c1) (iteT ⟨_, rfl, ?_⟩)
    exact D.no k (begins_bad (.inl (by unfold ni at c1; omega)))
  refine ifF (decide_eq_false c1) ⟨_, rfl, q, _, rfl, .inl (SqL.of hq), _, _, rfl, rfl, _, rfl, ?_⟩
  rw [vis_len]
  by_cases c2 : (5 : Int) < ni d.length
  · refine ifT (decide_eq_true c2) ⟨_, rfl, ?_⟩
    exact D.no k (begins_bad (.inr (by unfold ni at c2; omega)))
  refine ifF (decide_eq_false c2) ?_
  refine ⟨_, rfl, q, nis d, rfl, SqL.of hq, (by rw [nis_len]; unfold ni at c1; omega), fun m hm hle => ⟨_, _, rfl, rfl, _, rfl, ?_⟩⟩
  obtain ⟨y, hy, rfl⟩ := List.mem_map.mp hm
  by_cases c3 : (1000 : Int) < ni y
  · refine ifT (decide_eq_true c3) ⟨_, rfl, ?_⟩
    exact D.no k (begins_far ⟨y, hy, by unfold ni at c3; omega⟩)
  refine ifF (decide_eq_false c3) ?_
  have c4 : ∀ x ∈ d, x ≤ 1000 := fun x hx => by
    have := hle (ni x) (List.mem_map.mpr ⟨x, hx, rfl⟩)
    unfold ni at this c3
    omega
  refine ⟨_, rfl, a, _, _, rfl, k.ob, no_Play_renew, _, rfl, a, _, _, _, rfl, k.ob, .inr ⟨p, rfl⟩, ?_⟩
  intro H' ls lp lc la n1 n2 n3 n4 e12 e13 e14 e23 e24 e34 ha h1 h2 h3 h4 B
  have qa : q ≠ a := fun z => k.nA (.inr z.symm)
  have hq' := B q _ qa hq
  refine ⟨_, rfl, q, _, rfl, .inl (SqL.of hq'), ?_⟩
  rw [vis_len]
  have fr : ∀ l, H l = none → ¬ F l := fun l n z => t l z n
  refine D.yes (p' := ⟨p.dx, q, ls, lp, lc, la, [], [], [], []⟩) (begins_ok (by unfold ni at c1; omega) (by unfold ni at c2; omega) c4) ?_ (But.less B (nPq k.nA))
  exact { ob := ha, dr := hq', sc := h1, pl := h2, pc := h3, pa := h4, scs := .nil, pls := .nil, pcs := .nil, pas := .nil
          nA := nPq k.nA, nS := fr _ n1, nP := fr _ n2, nC := fr _ n3, nR := fr _ n4
          nD := by
            rintro (z | z | z | z | z)
            · exact nq z
            · exact ne_of_none hq n1 z
            · exact ne_of_none hq n2 z
            · exact ne_of_none hq n3 z
            · exact ne_of_none hq n4 z
          d1 := e12, d2 := e13, d3 := e14, d4 := e23, d5 := e24, d6 := e34
          ok := HOK.begins (by unfold ni at c2; omega) c4 }
theorem fn_begins (T : Txt K mg A) : FnOk P w K mg base CX0 2 A.f_Play_begins A.d_Play_begins ["self", "dressing"] (sp_begins A) :=
  ok_Play_begins T (fn_renew T) (fun vs H Q E h => by obtain ⟨a, q, F, h, p, d, rfl, _⟩ := h; rfl) (pure_begins T)
theorem pure_scene (T : Txt K mg A) : ∀ vs H Q E, sp_scene A vs H Q E → t_Play_scene K A (sp_rising A) (sp_Scene_init A) { nx := fun _ H' => Q .non H', rt := Q } (start ["self", "minutes", "roles"] vs) H := by
  rintro _ H Q E ⟨a, q, F, h, p, n, r, rfl, k, hq, nq, t, D⟩
  refine ⟨_, rfl, _, _, rfl, rfl, _, rfl, ?_⟩
  by_cases c1 : (1000 : Int) < ni n
  · refine ifT (decide_eq_true c1) (iteT ⟨_, rfl, ?_⟩)
    exact D.no k (scene_bad (.inl (by unfold ni at c1; omega)))
  refine ifF (decide_eq_false c1) ⟨_, rfl, a, _, _, rfl, k.ob, no_Play_are_rising_roles, _, rfl, a, q, _, h, p, r, rfl, k, hq, _, rfl, ?_⟩
  have c1' : n ≤ 1000 := by unfold ni at c1; omega
  by_cases c2 : roleOk h r = true
  case neg =>
    have c2' : roleOk h r = false := by simpa using c2
    refine ifT (by rw [c2']; rfl) ⟨_, rfl, ?_⟩
    exact D.no k (scene_bad (.inr c2'))
  refine ifF (by rw [c2]; rfl) ?_
  refine ⟨_, rfl, a, _, _, _, _, rfl, k.ob, T.cl_Play, T.a_Play_scenes, lk_Play_scenes, p.ls, _, rfl, .inl (SqL.of k.sc), _, _, rfl, rfl, _, rfl, ?_⟩
  have le : p.xs.length = h.play.scenes.length := Paired.length k.scs
  rw [le]
  by_cases c3 : (10 : Int) ≤ ni h.play.scenes.length
  · refine ifT (decide_eq_true c3) ⟨_, rfl, ?_⟩
    exact D.no k (scene_full c1' c2 (by unfold ni at c3; omega))
  refine ifF (decide_eq_false c3) ?_
  have c3' : h.play.scenes.length < 10 := by unfold ni at c3; omega
  refine ⟨_, rfl, a, _, _, _, _, rfl, k.ob, T.cl_Play, T.a_Play_scenes, lk_Play_scenes, .inl ⟨rfl, _, SqL.of k.sc⟩, _, rfl, _, rfl, ?_⟩
  intro x dx nx ndx nex
  refine ⟨x, dx, _, _, rfl, upd_same, rfl, ?_⟩
  rw [upd_upd]
  have S : Same H (upd (upd H dx (.own x)) x (.ins A.c_Scene dx (fs_Scene (.int (ni n)) (.ref q)))) := Same.rec nx ndx
  refine ⟨p.ls, p.xs, _, rfl, rfl, S _ _ k.sc, (by rw [le]; exact Nat.lt_trans c3' (by decide)), ?_⟩
  have nxl : x ≠ p.ls := (ne_of_none k.sc nx).symm
  refine ⟨_, rfl, a, _, _, _, _, rfl, (by rw [upd_ne k.ne.1]; exact S _ _ k.ob), T.cl_Play, T.a_Play_scenes, lk_Play_scenes, p.ls, _, rfl, .inl (SqL.of upd_same), _, _, rfl, rfl, ?_⟩
  have ev : (((p.xs ++ [V.ref x]).length : Nat) : Int) - 1 = ((h.play.scenes.length : Nat) : Int) := by
    rw [List.length_append, le]
    show ((h.play.scenes.length + 1 : Nat) : Int) - 1 = _
    omega
  show Q (.int ((((p.xs ++ [V.ref x]).length : Nat) : Int) - 1)) _
  rw [ev]
  refine D.yes (scene_ok c1' c2 c3') (PlayAt.addScene k nq t hq nx (dx := dx) (fun b o hb e => by rw [upd_ne hb]; exact S b o e) (by rw [upd_ne nxl, upd_same]) upd_same (k.ok.scene c1' c2 c3')) ?_
  intro b o f e
  have nb : b ≠ p.ls := fun z => k.nS (.inl (z ▸ f))
  rw [upd_ne nb]
  exact S b o e
theorem fn_scene (T : Txt K mg A) : FnOk P w K mg base CX0 3 A.f_Play_scene A.d_Play_scene ["self", "minutes", "roles"] (sp_scene A) :=
  ok_Play_scene T (fn_rising T) (fn_Scene_init T) (fun vs H Q E h => by obtain ⟨a, q, F, h, p, n, r, rfl, _⟩ := h; rfl) (pure_scene T)
theorem pure_player (T : Txt K mg A) : ∀ vs H Q E, sp_player A vs H Q E → t_Play_player K A (sp_fees A) (sp_Player_init A) { nx := fun _ H' => Q .non H', rt := Q } (start ["self", "wage", "rate", "since", "till", "fees"] vs) H := by
  rintro _ H Q E ⟨a, q, F, h, p, wg, r, s, u, f, rfl, k, hq, nq, t, D⟩
  refine ⟨_, rfl, _, _, rfl, rfl, _, rfl, ?_⟩
  by_cases c1 : (1000 : Int) < ni r
  · refine ifT (decide_eq_true c1) (iteT ⟨_, rfl, ?_⟩)
    exact D.no k (player_bad (.inl (by unfold ni at c1; omega)))
  refine ifF (decide_eq_false c1) ⟨_, rfl, _, rfl, _, _, rfl, rfl, _, rfl, ?_⟩
  by_cases c2 : ni u < ni s
  · refine ifT (decide_eq_true c2) (iteT ⟨_, rfl, ?_⟩)
    exact D.no k (player_bad (.inr (.inl (by unfold ni at c2; omega))))
  refine ifF (decide_eq_false c2) ⟨_, rfl, _, _, rfl, rfl, _, rfl, ?_⟩
  by_cases c3 : (3600 : Int) < ni u
  · refine ifT (decide_eq_true c3) ⟨_, rfl, ?_⟩
    exact D.no k (player_bad (.inr (.inr (by unfold ni at c3; omega))))
  refine ifF (decide_eq_false c3) ?_
  have c : ¬ (1000 < r ∨ u < s ∨ 3600 < u) := by unfold ni at c1 c2 c3; omega
  refine ⟨_, rfl, a, _, _, _, _, rfl, k.ob, T.cl_Play, T.a_Play_players, lk_Play_players, p.lp, _, rfl, .inl (SqL.of k.pl), _, _, rfl, rfl, _, rfl, ?_⟩
  have le : p.ps.length = h.hours.length := by
    have := Paired.length k.pls
    rw [List.length_zip, k.ok.same, Nat.min_self] at this
    exact this
  rw [le]
  by_cases c4 : (4 : Int) ≤ ni h.hours.length
  · refine ifT (decide_eq_true c4) ⟨_, rfl, ?_⟩
    exact D.no k (player_full c (by unfold ni at c4; omega))
  refine ifF (decide_eq_false c4) ?_
  have c4' : h.hours.length < 4 := by unfold ni at c4; omega
  refine ⟨_, rfl, _, _, rfl, rfl, _, rfl, ?_⟩
  by_cases c5 : (100000 : Int) < ni wg
  · refine ifT (decide_eq_true c5) (iteT ⟨_, rfl, ?_⟩)
    exact D.no k (player_wrong c c4' (.inl (by unfold ni at c5; omega)))
  have c5' : wg ≤ 100000 := by unfold ni at c5; omega
  refine ifF (decide_eq_false c5) ⟨_, rfl, a, _, _, rfl, k.ob, no_Play_are_fees, _, rfl, a, q, _, h, p, f, rfl, k, hq, _, rfl, ?_⟩
  by_cases c6 : feesOk h f = true
  case neg =>
    have c6' : feesOk h f = false := by simpa using c6
    refine ifT (by rw [c6']; rfl) ⟨_, rfl, ?_⟩
    exact D.no k (player_wrong c c4' (.inr c6'))
  refine ifF (by rw [c6]; rfl) ?_
  refine ⟨_, rfl, a, _, _, _, _, rfl, k.ob, T.cl_Play, T.a_Play_players, lk_Play_players, .inl ⟨rfl, _, SqL.of k.pl⟩, _, rfl, _, rfl, _, rfl, _, rfl, _, rfl, ?_⟩
  intro x dx nx ndx nex
  refine ⟨x, dx, _, _, _, _, _, rfl, upd_same, rfl, ?_⟩
  rw [upd_upd]
  have S : Same H (upd (upd H dx (.own x)) x (.ins A.c_Player dx (fs_Player (.int (ni wg)) (.int (ni r)) (.int (ni s)) (.int (ni u)) (.ref q)))) := Same.rec nx ndx
  refine ⟨p.lp, p.ps, _, rfl, rfl, S _ _ k.pl, (by rw [le]; exact Nat.lt_trans c4' (by decide)), ?_⟩
  have nxl : x ≠ p.lp := (ne_of_none k.pl nx).symm
  refine ⟨_, rfl, a, _, _, _, _, rfl, (by rw [upd_ne k.ne.2.1]; exact S _ _ k.ob), T.cl_Play, T.a_Play_players, lk_Play_players, p.lp, _, rfl, .inl (SqL.of upd_same), _, _, rfl, rfl, ?_⟩
  have ev : (((p.ps ++ [V.ref x]).length : Nat) : Int) - 1 = ((h.hours.length : Nat) : Int) := by
    rw [List.length_append, le]
    show ((h.hours.length + 1 : Nat) : Int) - 1 = _
    omega
  show Q (.int ((((p.ps ++ [V.ref x]).length : Nat) : Int) - 1)) _
  rw [ev]
  refine D.yes (player_ok c c4' c5' c6 k.ok.same) (PlayAt.addPlayer k nq t hq nx (dx := dx) (fun b o hb e => by rw [upd_ne hb]; exact S b o e) (by rw [upd_ne nxl, upd_same]) upd_same (k.ok.player c c4' c5' c6)) ?_
  intro b o f e
  have nb : b ≠ p.lp := fun z => k.nP (.inl (z ▸ f))
  rw [upd_ne nb]
  exact S b o e
theorem fn_player (T : Txt K mg A) : FnOk P w K mg base CX0 3 A.f_Play_player A.d_Play_player ["self", "wage", "rate", "since", "till", "fees"] (sp_player A) :=
  ok_Play_player T (fn_fees T) (fn_Player_init T) (fun vs H Q E h => by obtain ⟨a, q, F, h, p, wg, r, s, u, f, rfl, _⟩ := h; rfl) (pure_player T)
theorem pure_piece (T : Txt K mg A) : ∀ vs H Q E, sp_piece A vs H Q E → t_Play_piece K A (sp_rising A) (sp_Piece_init A) { nx := fun _ H' => Q .non H', rt := Q } (start ["self", "minutes", "roles"] vs) H := by
  rintro _ H Q E ⟨a, q, F, h, p, n, r, rfl, k, hq, nq, t, D⟩
  refine ⟨_, rfl, _, _, rfl, rfl, _, rfl, ?_⟩
  by_cases c0 : ni n < 1
  · refine ifT (decide_eq_true c0) (iteT ⟨_, rfl, ?_⟩)
    exact D.no k (piece_bad (.inl (by unfold ni at c0; omega)))
  refine ifF (decide_eq_false c0) ⟨_, rfl, _, _, rfl, rfl, _, rfl, ?_⟩
  by_cases c1 : (600 : Int) < ni n
  · refine ifT (decide_eq_true c1) (iteT ⟨_, rfl, ?_⟩)
    exact D.no k (piece_bad (.inr (.inl (by unfold ni at c1; omega))))
  refine ifF (decide_eq_false c1) ⟨_, rfl, a, _, _, rfl, k.ob, no_Play_are_rising_roles, _, rfl, a, q, _, h, p, r, rfl, k, hq, _, rfl, ?_⟩
  have c0' : 1 ≤ n := by unfold ni at c0; omega
  have c1' : n ≤ 600 := by unfold ni at c1; omega
  by_cases c2 : roleOk h r = true
  case neg =>
    have c2' : roleOk h r = false := by simpa using c2
    refine ifT (by rw [c2']; rfl) ⟨_, rfl, ?_⟩
    exact D.no k (piece_bad (.inr (.inr c2')))
  refine ifF (by rw [c2]; rfl) ?_
  refine ⟨_, rfl, a, _, _, _, _, rfl, k.ob, T.cl_Play, T.a_Play_pieces, lk_Play_pieces, p.lc, _, rfl, .inl (SqL.of k.pc), _, _, rfl, rfl, _, rfl, ?_⟩
  have le : p.cs.length = h.pieces.length := Paired.length k.pcs
  rw [le]
  by_cases c3 : (4 : Int) ≤ ni h.pieces.length
  · refine ifT (decide_eq_true c3) ⟨_, rfl, ?_⟩
    exact D.no k (piece_full c0' c1' c2 (by unfold ni at c3; omega))
  refine ifF (decide_eq_false c3) ?_
  have c3' : h.pieces.length < 4 := by unfold ni at c3; omega
  refine ⟨_, rfl, a, _, _, _, _, rfl, k.ob, T.cl_Play, T.a_Play_pieces, lk_Play_pieces, .inl ⟨rfl, _, SqL.of k.pc⟩, _, rfl, _, rfl, ?_⟩
  intro x dx nx ndx nex
  refine ⟨x, dx, _, _, rfl, upd_same, rfl, ?_⟩
  rw [upd_upd]
  have S : Same H (upd (upd H dx (.own x)) x (.ins A.c_Piece dx (fs_Piece (.int (ni n)) (.ref q)))) := Same.rec nx ndx
  refine ⟨p.lc, p.cs, _, rfl, rfl, S _ _ k.pc, (by rw [le]; exact Nat.lt_trans c3' (by decide)), ?_⟩
  have nxl : x ≠ p.lc := (ne_of_none k.pc nx).symm
  refine ⟨_, rfl, a, _, _, _, _, rfl, (by rw [upd_ne k.ne.2.2.1]; exact S _ _ k.ob), T.cl_Play, T.a_Play_pieces, lk_Play_pieces, p.lc, _, rfl, .inl (SqL.of upd_same), _, _, rfl, rfl, ?_⟩
  have ev : (((p.cs ++ [V.ref x]).length : Nat) : Int) - 1 = ((h.pieces.length : Nat) : Int) := by
    rw [List.length_append, le]
    show ((h.pieces.length + 1 : Nat) : Int) - 1 = _
    omega
  show Q (.int ((((p.cs ++ [V.ref x]).length : Nat) : Int) - 1)) _
  rw [ev]
  refine D.yes (piece_ok c0' c1' c2 c3') (PlayAt.addPiece k nq t hq nx (dx := dx) (fun b o hb e => by rw [upd_ne hb]; exact S b o e) (by rw [upd_ne nxl, upd_same]) upd_same (k.ok.piece c0' c1' c2 c3')) ?_
  intro b o f e
  have nb : b ≠ p.lc := fun z => k.nC (.inl (z ▸ f))
  rw [upd_ne nb]
  exact S b o e
theorem fn_piece (T : Txt K mg A) : FnOk P w K mg base CX0 3 A.f_Play_piece A.d_Play_piece ["self", "minutes", "roles"] (sp_piece A) :=
  ok_Play_piece T (fn_rising T) (fn_Piece_init T) (fun vs H Q E h => by obtain ⟨a, q, F, h, p, n, r, rfl, _⟩ := h; rfl) (pure_piece T)
/-- pairs of whole numbers as data -/
def pd (x : Nat × Nat) : PyData := .tuple [.int (ni x.1), .int (ni x.2)]
theorem pairs_dp {G : Addr → Prop} {H : Hp} : ∀ {vs : List V} {l : List (Nat × Nat)}, Paired (PairAt G H) vs l → DpAll K H vs (l.map pd)
  | _, _, .nil => .nil
  | _, _, .cons ⟨p, e, _, h⟩ r => by
    subst e
    exact .cons (.tup (SqT.of h) (.cons (.int _) (.cons (.int _) .nil))) (pairs_dp r)
theorem pd_eqv (x y : Nat × Nat) : PyData.eqv (pd x) (pd y) = (x == y) := by
  obtain ⟨a, b⟩ := x
  obtain ⟨c, d⟩ := y
  show ((ni a == ni c) && ((ni b == ni d) && true)) = ((a == c) && (b == d))
  have e : ∀ m n : Nat, (ni m == ni n) = (m == n) := fun m n => by
    rw [Bool.eq_iff_iff, beq_iff_eq, beq_iff_eq]
    unfold ni
    omega
  rw [e, e, Bool.and_true]
theorem pd_any (l : List (Nat × Nat)) (x : Nat × Nat) : ((l.map pd).any fun z => PyData.eqv z (pd x)) = l.contains x := by
  rw [List.any_map, List.contains_eq_any_beq]
  congr 1
  funext y
  show PyData.eqv (pd y) (pd x) = (x == y)
  rw [pd_eqv, Bool.eq_iff_iff, beq_iff_eq, beq_iff_eq]
  exact ⟨Eq.symm, Eq.symm⟩
theorem pd_shaped (x : Nat × Nat) : SeqAt.shaped (pd x) = true := rfl
theorem pds_lay : ∀ l : List (Nat × Nat), PyData.canLayAll0 (l.map pd) = true
  | [] => rfl
  | x :: l => by
    show (PyData.canLay0 (pd x) && PyData.canLayAll0 (l.map pd)) = true
    rw [pds_lay l]
    rfl
theorem pds_depth : ∀ l : List (Nat × Nat), PyData.depthAll (l.map pd) ≤ 3
  | [] => Nat.zero_le _
  | x :: l => by
    have := pds_depth l
    show max (PyData.depth (pd x)) (PyData.depthAll (l.map pd)) ≤ 3
    exact Nat.max_le.mpr ⟨by show PyData.depth (.tuple [.int (ni x.1), .int (ni x.2)]) ≤ 3; exact Nat.le_of_ble_eq_true rfl, this⟩
theorem pds_shaped {l : List (Nat × Nat)} : SeqAt.shaped (.list (l.map pd)) = true := by
  unfold SeqAt.shaped
  rw [Bool.and_eq_true]
  refine ⟨pds_lay l, decide_eq_true ?_⟩
  have := pds_depth l
  show PyData.depthAll (l.map pd) + 1 ≤ 64
  omega
theorem pure_ahead (T : Txt K mg A) : ∀ vs H Q E, sp_ahead A vs H Q E → t_Play_ahead K A { nx := fun _ H' => Q .non H', rt := Q } (start ["self", "i", "j"] vs) H := by
  rintro _ H Q E ⟨a, F, h, p, i, j, rfl, k, hn, t, D⟩
  have le : p.cs.length = h.pieces.length := Paired.length k.pcs
  refine ⟨_, rfl, _, rfl, a, _, _, _, _, rfl, k.ob, T.cl_Play, T.a_Play_pieces, lk_Play_pieces, p.lc, _, rfl, .inl (SqL.of k.pc), _, _, rfl, rfl, _, rfl, ?_⟩
  rw [le]
  by_cases c1 : ni h.pieces.length ≤ ni i
  · refine ifT (decide_eq_true c1) (iteT ⟨_, rfl, ?_⟩)
    exact D.no' k (ahead_no (.inl (by unfold ni at c1; omega)))
  refine ifF (decide_eq_false c1) ⟨_, rfl, _, rfl, a, _, _, _, _, rfl, k.ob, T.cl_Play, T.a_Play_pieces, lk_Play_pieces, p.lc, _, rfl, .inl (SqL.of k.pc), _, _, rfl, rfl, _, rfl, ?_⟩
  rw [le]
  by_cases c2 : ni h.pieces.length ≤ ni j
  · refine ifT (decide_eq_true c2) ⟨_, rfl, ?_⟩
    exact D.no' k (ahead_no (.inr (by unfold ni at c2; omega)))
  refine ifF (decide_eq_false c2) ?_
  have c : ¬ (h.pieces.length ≤ i ∨ h.pieces.length ≤ j) := by unfold ni at c1 c2; omega
  refine ⟨_, rfl, _, rfl, rfl, _, rfl, ?_⟩
  by_cases c3 : V.int (ni i) = V.int (ni j)
  · refine ifT (decide_eq_true c3) (iteT ⟨_, rfl, ?_⟩)
    exact D.no' k (ahead_told c (.inl (by injection c3 with z; unfold ni at z; omega)))
  have c3' : i ≠ j := fun z => c3 (by rw [z])
  refine ifF (decide_eq_false c3) ⟨_, rfl, _, rfl, (by show 2 ≤ sizeLine; decide), fun x0 n0 => ?_⟩
  have S0 : Same H (upd H x0 (.tup [.int (ni i), .int (ni j)])) := Same.new n0
  refine ⟨_, rfl, a, _, _, _, _, rfl, S0 _ _ k.ob, T.cl_Play, T.a_Play_pairs, lk_Play_pairs, pd (i, j), h.ahead.map pd, .tup (SqT.of upd_same) (.cons (.int _) (.cons (.int _) .nil)), .lst (SqL.of (S0 _ _ k.pa)) (pairs_dp (k.same S0).pas), pd_shaped _, pds_shaped, _, rfl, ?_⟩
  rw [pd_any]
  by_cases c4 : h.ahead.contains (i, j) = true
  · refine ifT c4 ⟨_, rfl, ?_⟩
    have := D.yes (z := -3) (ahead_told c (.inr c4)) (k.same S0) (fun b o _ e => S0 b o e)
    exact this
  refine ifF (by simpa using c4) ?_
  refine ⟨_, rfl, a, _, _, _, _, rfl, S0 _ _ k.ob, T.cl_Play, T.a_Play_pairs, lk_Play_pairs, .inl ⟨rfl, _, SqL.of (S0 _ _ k.pa)⟩, _, rfl, _, rfl, (by show 2 ≤ sizeLine; decide), fun x n1 => ?_⟩
  have S1 : Same H (upd (upd H x0 (.tup [.int (ni i), .int (ni j)])) x (.tup [.int (ni i), .int (ni j)])) := S0.trans (Same.new n1)
  have la : p.as.length = h.ahead.length := Paired.length k.pas
  refine ⟨p.la, p.as, _, rfl, rfl, S1 _ _ k.pa, (by rw [la]; exact Nat.lt_trans hn (by decide)), ?_⟩
  have nx : H x = none := S0.free n1
  have nxl : x ≠ p.la := (ne_of_none k.pa nx).symm
  refine ⟨_, rfl, a, _, _, _, _, rfl, (by rw [upd_ne k.ne.2.2.2]; exact S1 _ _ k.ob), T.cl_Play, T.a_Play_pairs, lk_Play_pairs, p.la, _, rfl, .inl (SqL.of upd_same), ?_⟩
  have ev : (((p.as ++ [V.ref x]).length : Nat) : Int) = ((h.ahead.length + 1 : Nat) : Int) := by
    rw [List.length_append, la]
    rfl
  rw [ev]
  refine D.yes (ahead_ok c (by rintro (z | z); exact c3' z; exact c4 z)) (PlayAt.addPair k t nx (fun b o hb e => by rw [upd_ne hb]; exact S1 b o e) (by rw [upd_ne nxl, upd_same]) upd_same (k.ok.ahead' c c3')) ?_
  intro b o f e
  have nb : b ≠ p.la := fun z => k.nR (z ▸ f)
  rw [upd_ne nb]
  exact S1 b o e
theorem fn_ahead (T : Txt K mg A) : FnOk P w K mg base CX0 1 A.f_Play_ahead A.d_Play_ahead ["self", "i", "j"] (sp_ahead A) :=
  ok_Play_ahead T (fun vs H Q E h => by obtain ⟨a, F, h, p, i, j, rfl, _⟩ := h; rfl) (pure_ahead T)
end
end RC
/-! ### The answers to the calls that change the play -/
namespace RC
open PySem PySem.Spec PyProof.Rows L2
/-- play and reader, and what is not theirs -/
structure Both (A : Ad) (K : PySem.W.Frag) (F R : Addr → Prop) (H : Hp) (a r c : Addr) (h : Uw07.House) (p : Pl) (l : List Int) : Prop where
  pl : PlayAt A F H a h p
  rd : ReaderAt A K R H r c l
  sub : ∀ b, R b → F b
  fr : F r
  tr : Tr F H
/-- behind a call: a new list with what is answered, the play, the reader; what is not theirs stands -/
def Aft (A : Ad) (K : PySem.W.Frag) (F R : Addr → Prop) (H : Hp) (a r c : Addr) (h : Uw07.House) (x : Uw07.Call) (t : List Int) (Q : VK) : Prop :=
  ∀ H' q p', ¬ F q → H' q = some (.lst ((Uw07Neutral.out (Uw07.step h x).2).map V.int)) → Both A K F R H' a r c (Uw07.step h x).1 p' t → (∀ b o, F b → b ≠ r → H b = some o → H' b = some o) → Q (.ref q) H'
section
variable {P : Program} {w : World} {K : PySem.W.Frag} {mg : Str → Option Value} {base : Heap} {A : Ad} {F R : Addr → Prop} {H H1 : Hp} {a r c : Addr} {h : Uw07.House} {p : Pl} {l t : List Int}
/-- the reader went on -/
theorem Both.read (B : Both A K F R H a r c h p l) (RR : ReaderAt A K R H1 r c t) (k : But r H H1) : Both A K F R H1 a r c h p t :=
  ⟨B.pl.keep (fun b o n e => k b o (fun z => n (z ▸ B.fr)) e) (fun _ z _ => z), RR, B.sub, B.fr, fun b f => by
    by_cases z : b = r
    · obtain ⟨dx, v, e⟩ := RR.obj
      rw [z, e]; simp
    · cases e : H b with
      | none => exact absurd e (B.tr b f)
      | some o => rw [k b o z e]; simp⟩
theorem Both.arg {q : Addr} (B : Both A K F R H a r c h p l) (RR : ReaderAt A K R H1 r c t) (k : But r H H1) (n : H q = none) : PlayAt A (Pq F q) H1 a h p ∧ ¬ F q :=
  ⟨B.pl.keep (fun b o n e => k b o (fun z => n (z ▸ B.fr)) e) (fun b z e => z.elim id fun y => absurd (y ▸ n) e), fun z => B.tr q z n⟩
/-- behind a call of the play that answers one number -/
theorem Aft.one {H2 H3 : Hp} {x : Uw07.Call} {Q : VK} {p' : Pl} {q : Addr} (D : Aft A K F R H a r c h x t Q) (B : Both A K F R H a r c h p l) (RR : ReaderAt A K R H2 r c t) (k : ∀ b o, F b → b ≠ r → H b = some o → H2 b = some o)
    (one : (Uw07.step h x).2.l = []) (k3 : PlayAt A F H3 a (Uw07.step h x).1 p') (g : Agr F H2 H3) (n : H3 q = none) : Q (.ref q) (upd H3 q (.lst [.int (Uw07.step h x).2.v])) := by
  have fr : ∀ b, F b → b ≠ r → H2 b ≠ none := fun b f z => by
    cases e : H b with
    | none => exact absurd e (B.tr b f)
    | some o => rw [k b o f z e]; simp
  have tr3 : Tr F H3 := fun b f => by
    by_cases z : b = r
    · obtain ⟨dx, v, e⟩ := RR.obj
      rw [z, g r _ B.fr e]; simp
    · cases e : H2 b with
      | none => exact absurd e (fr b f z)
      | some o => rw [g b o f e]; simp
  have nq : ¬ F q := fun z => tr3 q z n
  have S : Same H3 (upd H3 q (.lst [.int (Uw07.step h x).2.v])) := Same.new n
  refine D _ q p' nq ?_ ⟨k3.same S, (RR.keep (fun o e => g r o B.fr e) (fun b o z e => g b o (B.sub b z) e)).keep (fun o e => S r o e) (fun b o _ e => S b o e), B.sub, B.fr, fun b f => ?_⟩ fun b o f z e => S b o (g b o f (k b o f z e))
  · rw [upd_same]
    unfold Uw07Neutral.out
    rw [one]
    rfl
  · cases e : H3 b with
    | none => exact absurd e (tr3 b f)
    | some o => rw [S b o e]; simp
theorem one_begins {d : List Nat} : (Uw07.step h (.begins d)).2.l = [] := by
  simp only [Uw07.step]
  split
  · rfl
  · split <;> rfl
theorem one_scene {n : Nat} {d : List Nat} : (Uw07.step h (.scene n d)).2.l = [] := by
  simp only [Uw07.step]
  split <;> rfl
theorem one_player {wg x y z : Nat} {d : List Nat} : (Uw07.step h (.player wg x y z d)).2.l = [] := by
  simp only [Uw07.step]
  split
  · rfl
  · split
    · rfl
    · split <;> rfl
theorem one_piece {n : Nat} {d : List Nat} : (Uw07.step h (.piece n d)).2.l = [] := by
  simp only [Uw07.step]
  split
  · rfl
  · split <;> rfl
theorem one_ahead {i j : Nat} : (Uw07.step h (.ahead i j)).2.l = [] := by
  simp only [Uw07.step]
  split
  · rfl
  · split <;> rfl
end
def sp_abegins (A : Ad) (K : PySem.W.Frag) : Sp := fun vs H Q _ => ∃ a r c F R h p d t, vs = [.ref a, .ref r] ∧ Both A K F R H a r c h p (ni d.length :: (nis d ++ t)) ∧ Aft A K F R H a r c h (.begins d) t Q
def sp_ascene (A : Ad) (K : PySem.W.Frag) : Sp := fun vs H Q _ => ∃ a r c F R h p n d t, vs = [.ref a, .ref r] ∧ Both A K F R H a r c h p (ni n :: ni d.length :: (nis d ++ t)) ∧ Aft A K F R H a r c h (.scene n d) t Q
def sp_aplayer (A : Ad) (K : PySem.W.Frag) : Sp := fun vs H Q _ => ∃ a r c F R h p wg x y z d t, vs = [.ref a, .ref r] ∧ Both A K F R H a r c h p (ni wg :: ni x :: ni y :: ni z :: ni d.length :: (nis d ++ t)) ∧ Aft A K F R H a r c h (.player wg x y z d) t Q
def sp_apiece (A : Ad) (K : PySem.W.Frag) : Sp := fun vs H Q _ => ∃ a r c F R h p n d t, vs = [.ref a, .ref r] ∧ Both A K F R H a r c h p (ni n :: ni d.length :: (nis d ++ t)) ∧ Aft A K F R H a r c h (.piece n d) t Q
def sp_aahead (A : Ad) (K : PySem.W.Frag) : Sp := fun vs H Q _ => ∃ a r c F R h p i j t, vs = [.ref a, .ref r] ∧ Both A K F R H a r c h p (ni i :: ni j :: t) ∧ h.ahead.length < 1000 ∧ Aft A K F R H a r c h (.ahead i j) t Q
section
variable {P : Program} {w : World} {K : PySem.W.Frag} {mg : Str → Option Value} {base : Heap} {A : Ad}
theorem pure_abegins : ∀ vs H Q E, sp_abegins A K vs H Q E → t_answer_begins K A (sp_row A K) (sp_begins A) { nx := fun _ H' => Q .non H', rt := Q } (start ["play", "reader", "dressing"] vs) H := by
  rintro _ H Q E ⟨a, r, c, F, R, h, p, d, t, rfl, B, D⟩
  obtain ⟨dx, v, ob⟩ := B.rd.obj
  refine ⟨_, rfl, r, dx, _, rfl, ob, no_Reader_row, r, c, d, t, R, rfl, B.rd, fun H1 q n1 hq R1 k1 => ?_⟩
  obtain ⟨kq, nq⟩ := B.arg R1 k1 n1
  refine ⟨_, rfl, a, _, _, rfl, kq.ob, no_Play_begins, _, rfl, a, q, F, h, p, d, rfl, kq, hq, nq, (B.read R1 k1).tr, fun H3 p' k3 g => ⟨(by show 1 ≤ sizeLine; decide), fun q3 n3 => ?_⟩⟩
  exact D.one B R1 (fun b o _ z e => k1 b o z e) one_begins k3 g n3
theorem fn_abegins (T : Txt K mg A) : FnOk P w K mg base CX0 3 A.f_answer_begins A.d_answer_begins ["play", "reader"] (sp_abegins A K) :=
  ok_answer_begins T (fn_row T) (fn_begins T) (fun vs H Q E h => by obtain ⟨a, r, c, F, R, h, p, d, t, rfl, _⟩ := h; rfl) pure_abegins
theorem pure_ascene : ∀ vs H Q E, sp_ascene A K vs H Q E → t_answer_scene K A (sp_number A K) (sp_row A K) (sp_scene A) { nx := fun _ H' => Q .non H', rt := Q } (start ["play", "reader", "minutes", "roles"] vs) H := by
  rintro _ H Q E ⟨a, r, c, F, R, h, p, n, d, t, rfl, B, D⟩
  obtain ⟨dx, v, ob⟩ := B.rd.obj
  refine ⟨_, rfl, r, dx, _, rfl, ob, no_Reader_number, r, c, _, _, R, rfl, B.rd, fun H1 R1 k1 => ?_⟩
  have B1 := B.read R1 k1
  obtain ⟨dx1, v1, ob1⟩ := R1.obj
  refine ⟨_, rfl, r, dx1, _, rfl, ob1, no_Reader_row, r, c, d, t, R, rfl, R1, fun H2 q n2 hq R2 k2 => ?_⟩
  obtain ⟨kq, nq⟩ := B1.arg R2 k2 n2
  refine ⟨_, rfl, a, _, _, rfl, kq.ob, no_Play_scene, _, rfl, _, rfl, a, q, F, h, p, n, d, rfl, kq, hq, nq, (B1.read R2 k2).tr, fun H3 p' k3 g => ⟨(by show 1 ≤ sizeLine; decide), fun q3 n3 => ?_⟩⟩
  exact D.one B R2 (fun b o _ z e => k2 b o z (k1 b o z e)) one_scene k3 g n3
theorem fn_ascene (T : Txt K mg A) : FnOk P w K mg base CX0 4 A.f_answer_scene A.d_answer_scene ["play", "reader"] (sp_ascene A K) :=
  ok_answer_scene T (fn_number T) (fn_row T) (fn_scene T) (fun vs H Q E h => by obtain ⟨a, r, c, F, R, h, p, n, d, t, rfl, _⟩ := h; rfl) pure_ascene
theorem pure_apiece : ∀ vs H Q E, sp_apiece A K vs H Q E → t_answer_piece K A (sp_number A K) (sp_row A K) (sp_piece A) { nx := fun _ H' => Q .non H', rt := Q } (start ["play", "reader", "minutes", "roles"] vs) H := by
  rintro _ H Q E ⟨a, r, c, F, R, h, p, n, d, t, rfl, B, D⟩
  obtain ⟨dx, v, ob⟩ := B.rd.obj
  refine ⟨_, rfl, r, dx, _, rfl, ob, no_Reader_number, r, c, _, _, R, rfl, B.rd, fun H1 R1 k1 => ?_⟩
  have B1 := B.read R1 k1
  obtain ⟨dx1, v1, ob1⟩ := R1.obj
  refine ⟨_, rfl, r, dx1, _, rfl, ob1, no_Reader_row, r, c, d, t, R, rfl, R1, fun H2 q n2 hq R2 k2 => ?_⟩
  obtain ⟨kq, nq⟩ := B1.arg R2 k2 n2
  refine ⟨_, rfl, a, _, _, rfl, kq.ob, no_Play_piece, _, rfl, _, rfl, a, q, F, h, p, n, d, rfl, kq, hq, nq, (B1.read R2 k2).tr, fun H3 p' k3 g => ⟨(by show 1 ≤ sizeLine; decide), fun q3 n3 => ?_⟩⟩
  exact D.one B R2 (fun b o _ z e => k2 b o z (k1 b o z e)) one_piece k3 g n3
theorem fn_apiece (T : Txt K mg A) : FnOk P w K mg base CX0 4 A.f_answer_piece A.d_answer_piece ["play", "reader"] (sp_apiece A K) :=
  ok_answer_piece T (fn_number T) (fn_row T) (fn_piece T) (fun vs H Q E h => by obtain ⟨a, r, c, F, R, h, p, n, d, t, rfl, _⟩ := h; rfl) pure_apiece
theorem pure_aplayer : ∀ vs H Q E, sp_aplayer A K vs H Q E → t_answer_player K A (sp_number A K) (sp_row A K) (sp_player A) { nx := fun _ H' => Q .non H', rt := Q } (start ["play", "reader", "wage", "rate", "since", "till", "fees"] vs) H := by
  rintro _ H Q E ⟨a, r, c, F, R, h, p, wg, x, y, z, d, t, rfl, B, D⟩
  obtain ⟨dx, v, ob⟩ := B.rd.obj
  refine ⟨_, rfl, r, dx, _, rfl, ob, no_Reader_number, r, c, _, _, R, rfl, B.rd, fun H1 R1 k1 => ?_⟩
  have B1 := B.read R1 k1
  obtain ⟨dx1, v1, ob1⟩ := R1.obj
  refine ⟨_, rfl, r, dx1, _, rfl, ob1, no_Reader_number, r, c, _, _, R, rfl, R1, fun H2 R2 k2 => ?_⟩
  have B2 := B1.read R2 k2
  obtain ⟨dx2, v2, ob2⟩ := R2.obj
  refine ⟨_, rfl, r, dx2, _, rfl, ob2, no_Reader_number, r, c, _, _, R, rfl, R2, fun H3 R3 k3 => ?_⟩
  have B3 := B2.read R3 k3
  obtain ⟨dx3, v3, ob3⟩ := R3.obj
  refine ⟨_, rfl, r, dx3, _, rfl, ob3, no_Reader_number, r, c, _, _, R, rfl, R3, fun H4 R4 k4 => ?_⟩
  have B4 := B3.read R4 k4
  obtain ⟨dx4, v4, ob4⟩ := R4.obj
  refine ⟨_, rfl, r, dx4, _, rfl, ob4, no_Reader_row, r, c, d, t, R, rfl, R4, fun H5 q n5 hq R5 k5 => ?_⟩
  obtain ⟨kq, nq⟩ := B4.arg R5 k5 n5
  refine ⟨_, rfl, a, _, _, rfl, kq.ob, no_Play_player, _, rfl, _, rfl, _, rfl, _, rfl, _, rfl, a, q, F, h, p, wg, x, y, z, d, rfl, kq, hq, nq, (B4.read R5 k5).tr, fun H6 p' k6 g => ⟨(by show 1 ≤ sizeLine; decide), fun q3 n3 => ?_⟩⟩
  exact D.one B R5 (fun b o _ z e => k5 b o z (k4 b o z (k3 b o z (k2 b o z (k1 b o z e))))) one_player k6 g n3
theorem fn_aplayer (T : Txt K mg A) : FnOk P w K mg base CX0 4 A.f_answer_player A.d_answer_player ["play", "reader"] (sp_aplayer A K) :=
  ok_answer_player T (fn_number T) (fn_row T) (fn_player T) (fun vs H Q E h => by obtain ⟨a, r, c, F, R, h, p, wg, x, y, z, d, t, rfl, _⟩ := h; rfl) pure_aplayer
theorem pure_aahead : ∀ vs H Q E, sp_aahead A K vs H Q E → t_answer_ahead K A (sp_number A K) (sp_ahead A) { nx := fun _ H' => Q .non H', rt := Q } (start ["play", "reader", "i", "j"] vs) H := by
  rintro _ H Q E ⟨a, r, c, F, R, h, p, i, j, t, rfl, B, hn, D⟩
  obtain ⟨dx, v, ob⟩ := B.rd.obj
  refine ⟨_, rfl, r, dx, _, rfl, ob, no_Reader_number, r, c, _, _, R, rfl, B.rd, fun H1 R1 k1 => ?_⟩
  have B1 := B.read R1 k1
  obtain ⟨dx1, v1, ob1⟩ := R1.obj
  refine ⟨_, rfl, r, dx1, _, rfl, ob1, no_Reader_number, r, c, _, _, R, rfl, R1, fun H2 R2 k2 => ?_⟩
  have B2 := B1.read R2 k2
  refine ⟨_, rfl, a, _, _, rfl, B2.pl.ob, no_Play_ahead, _, rfl, _, rfl, a, F, h, p, i, j, rfl, B2.pl, hn, B2.tr, fun H3 p' k3 g => ⟨(by show 1 ≤ sizeLine; decide), fun q3 n3 => ?_⟩⟩
  exact D.one B R2 (fun b o _ z e => k2 b o z (k1 b o z e)) one_ahead k3 g n3
theorem fn_aahead (T : Txt K mg A) : FnOk P w K mg base CX0 2 A.f_answer_ahead A.d_answer_ahead ["play", "reader"] (sp_aahead A K) :=
  ok_answer_ahead T (fn_number T) (fn_ahead T) (fun vs H Q E h => by obtain ⟨a, r, c, F, R, h, p, i, j, t, rfl, _⟩ := h; rfl) pure_aahead
end
end RC
/-! ### Reading without changing: lists of things, comprehensions -/
namespace RC
open PySem PySem.Spec PyProof.Rows L2
abbrev N0 : Addr → Prop := fun _ => False
/-- something is handed back, all else as it was -/
def Gives (H : Hp) (Q : VK) (R : Hp → V → Prop) : Prop := ∀ H' v, Same H H' → R H' v → Q v H'
theorem Gives.after {H H1 : Hp} {Q : VK} {R : Hp → V → Prop} (g : Gives H Q R) (s : Same H H1) : Gives H1 Q R := fun H' v s' r => g H' v (s.trans s') r
theorem Gives.it {H : Hp} {Q : VK} {R : Hp → V → Prop} {v : V} (g : Gives H Q R) (r : R H v) : Q v H := g H v (Same.refl H) r
/-- what stays while all but G's things stays -/
def Kp {α : Type} (R : (Addr → Prop) → Hp → V → α → Prop) : Prop := ∀ (G G' : Addr → Prop) (H H' : Hp) (v : V) (a : α), R G H v a → (∀ b o, ¬ G b → H b = some o → H' b = some o) → (∀ b, ¬ G b → H b ≠ none → ¬ G' b) → R G' H' v a
/-- a list of numbers, as an item -/
def RowAt (G : Addr → Prop) (H : Hp) (v : V) (c : List Nat) : Prop := ∃ q, v = .ref q ∧ ¬ G q ∧ H q = some (.lst (vis c))
def RowI (G : Addr → Prop) (H : Hp) (v : V) (c : List Int) : Prop := ∃ q, v = .ref q ∧ ¬ G q ∧ H q = some (.lst (c.map V.int))
theorem kp_row : Kp RowAt := fun G G' H H' v a ⟨q, e, n, h⟩ k g => ⟨q, e, g q n (by rw [h]; simp), k q _ n h⟩
theorem kp_rowI : Kp RowI := fun G G' H H' v a ⟨q, e, n, h⟩ k g => ⟨q, e, g q n (by rw [h]; simp), k q _ n h⟩
theorem kp_scene {A : Ad} : Kp (SceneAt A) := fun _ _ _ _ _ _ h k g => h.keep k g
theorem kp_piece {A : Ad} : Kp (PieceAt A) := fun _ _ _ _ _ _ h k g => h.keep k g
theorem kp_player {A : Ad} : Kp (PlayerAt A) := fun _ _ _ _ _ _ h k g => h.keep k g
theorem kp_pair : Kp PairAt := fun _ _ _ _ _ _ h k g => h.keep k g
/-- at l a list of such things -/
def Lof {α : Type} (R : (Addr → Prop) → Hp → V → α → Prop) (G : Addr → Prop) (H : Hp) (l : Addr) (as : List α) : Prop := ∃ xs, H l = some (.lst xs) ∧ ¬ G l ∧ Paired (R G H) xs as
section
variable {α : Type} {R : (Addr → Prop) → Hp → V → α → Prop} {G G' : Addr → Prop} {H H' : Hp} {l : Addr} {as : List α}
theorem Lof.keep (h : Lof R G H l as) (kp : Kp R) (k : ∀ b o, ¬ G b → H b = some o → H' b = some o) (g : ∀ b, ¬ G b → H b ≠ none → ¬ G' b) : Lof R G' H' l as := by
  obtain ⟨xs, h1, n, h2⟩ := h
  exact ⟨xs, k _ _ n h1, g l n (by rw [h1]; simp), Paired.mapP h2 fun v a z => kp _ _ _ _ _ _ z k g⟩
theorem Lof.same (h : Lof R G H l as) (kp : Kp R) (s : Same H H') : Lof R G H' l as := h.keep kp (fun b o _ e => s b o e) fun _ n _ => n
theorem Lof.less (h : Lof R G H l as) (kp : Kp R) : Lof R N0 H l as := h.keep kp (fun _ _ _ e => e) fun _ _ _ z => z
end
theorem Paired.at {α β : Type} {F : α → β → Prop} : ∀ {l : List α} {m : List β} {i : Nat} {x : α}, Paired F l m → l[i]? = some x → ∃ y, m[i]? = some y ∧ F x y
  | _, _, _, _, .nil, e => by simp at e
  | _, _, 0, _, .cons r _, e => by simp at e; subst e; exact ⟨_, rfl, r⟩
  | _, _, i + 1, x, .cons _ t, e => by
    obtain ⟨y, h1, h2⟩ := Paired.at (i := i) (x := x) t (by simpa using e)
    exact ⟨y, by simpa using h1, h2⟩
theorem Paired.ta {α β : Type} {F : α → β → Prop} : ∀ {l : List α} {m : List β} {i : Nat} {y : β}, Paired F l m → m[i]? = some y → ∃ x, l[i]? = some x ∧ F x y
  | _, _, _, _, .nil, e => by simp at e
  | _, _, 0, _, .cons r _, e => by simp at e; subst e; exact ⟨_, rfl, r⟩
  | _, _, i + 1, y, .cons _ t, e => by
    obtain ⟨x, h1, h2⟩ := Paired.ta (i := i) (y := y) t (by simpa using e)
    exact ⟨x, by simpa using h1, h2⟩
theorem Paired.drop {α β : Type} {F : α → β → Prop} : ∀ {l : List α} {m : List β} (i : Nat), Paired F l m → Paired F (l.drop i) (m.drop i)
  | _, _, 0, h => h
  | _, _, _ + 1, .nil => .nil
  | _, _, i + 1, .cons _ t => Paired.drop i t
theorem Paired.app {α β : Type} {F : α → β → Prop} : ∀ {l l' : List α} {m m' : List β}, Paired F l m → Paired F l' m' → Paired F (l ++ l') (m ++ m')
  | _, _, _, _, .nil, h => h
  | _, _, _, _, .cons r t, h => .cons r (Paired.app t h)
theorem paired_eq {α : Type} {f : α → V} : ∀ {l : List V} {m : List α}, Paired (fun v a => v = f a) l m → l = m.map f
  | _, _, .nil => rfl
  | _, _, .cons r t => by rw [r, paired_eq t]; rfl
theorem paired_map {α : Type} (f : α → V) : ∀ m : List α, Paired (fun v a => v = f a) (m.map f) m
  | [] => .nil
  | _ :: m => .cons rfl (paired_map f m)
theorem drop_at {α : Type} {l : List α} {i : Nat} {x : α} (h : l[i]? = some x) : l.drop i = x :: l.drop (i + 1) := by
  obtain ⟨h1, h2⟩ := List.getElem?_eq_some_iff.mp h
  rw [List.drop_eq_getElem_cons h1, h2]
theorem take_at {α : Type} {l : List α} {i : Nat} {x : α} (h : l[i]? = some x) : l.take (i + 1) = l.take i ++ [x] := by
  rw [List.take_add_one, h]; rfl
/-- x in a list of numbers -/
theorem in_vis (x : Nat) (l : List Nat) : inV (.int (ni x)) (vis l) = l.contains x := by
  unfold inV
  induction l with
  | nil => rfl
  | cons y l ih =>
    simp only [vis, nis, List.map_cons, List.any_cons, List.contains_cons] at ih ⊢
    rw [ih]
    congr 1
    show (ni y == ni x) = (x == y)
    by_cases h : x = y
    · subst h; simp
    · have : ¬ ni y = ni x := fun z => h (by unfold ni at z; omega)
      rw [beq_eq_false_iff_ne.mpr this, beq_eq_false_iff_ne.mpr h]
theorem flat_vis (l : List Nat) : (vis l).all flatV = true := by
  rw [List.all_eq_true]
  intro v hv
  obtain ⟨z, _, rfl⟩ := List.mem_map.mp hv
  rfl
theorem at_vis {l : List Nat} {i n : Nat} (h : l[i]? = some n) : atI (vis l) (ni i) = some (.int (ni n)) := atI_nat (get_vis h)
theorem walk_up {n : Nat} : Walk (Itr 0 n) n (fun _ => True) (YFn fun i => .int (ni i)) := walk_range.mono (fun _ z => z) fun i H x H' _ _ ⟨a, b⟩ => ⟨a, by
  rw [b]
  show V.int (0 + ((i : Nat) : Int)) = _
  rw [Int.zero_add]⟩
theorem walk_from {k n : Nat} : Walk (Itr (ni k + 1) n) n (fun _ => True) (YFn fun i => .int (ni (k + 1 + i))) := walk_range.mono (fun _ z => z) fun i H x H' _ _ ⟨a, b⟩ => ⟨a, by
  rw [b]
  show V.int (ni k + 1 + ((i : Nat) : Int)) = _
  have : ni k + 1 + ((i : Nat) : Int) = ni (k + 1 + i) := by unfold ni; omega
  rw [this]⟩
/-- a comprehension over a walk: acc i is what i turns have gathered; a turn ends by yes or by no -/
theorem lc_gen {α : Type} {J : It} {n : Nat} {G0 : Hp → Prop} {Y : Nat → Hp → V → Hp → Prop} (w : Walk J n G0 Y) {g : TG} {tt : TT} {te : TE} {vs : List Nat} {σ : L2.St} {H1 : Hp} {D : Addr} {Qd : Hp → Prop}
    (R : Hp → V → α → Prop) (acc : Nat → List α) (hD : H1 D = none) (hn : n ≤ sizeLine) (hG : ∀ H, Same H1 H → G0 H) (hR : ∀ H H' v a, R H v a → But D H H' → R H' v a) (h0 : acc 0 = [])
    (hs : ∀ i x H H', i < n → Same H1 H → H D ≠ none → Y i H x H' → ∀ Nx : Hp → Prop,
      (∀ H4 y a, Same H H4 → acc (i + 1) = acc i ++ [a] → R H4 y a → ∃ l, H4 D = some (.lst l) ∧ l.length < sizeLine ∧ Nx (upd H4 D (.lst (l ++ [y])))) → (∀ H3, Same H H3 → acc (i + 1) = acc i → Nx H3) →
      g x (wipe σ vs) H' fun σ2 H2 => wipe σ2 vs = wipe σ vs ∧ tt σ2 H2 fun b H3 => if b = true then te σ2 H3 fun y H4 => ∃ l, H4 D = some (.lst l) ∧ l.length < sizeLine ∧ Nx (upd H4 D (.lst (l ++ [y]))) else Nx H3)
    (hd : ∀ H ys, Same H1 H → H D = some (.lst ys) → Paired (R H) ys (acc n) → Qd H) :
    ∃ W : Nat → Nat → Hp → Prop, (∃ m, W 0 m (upd H1 D (.lst []))) ∧ ∀ i m H, W i m H →
      (J.stop i H ∧ Qd H) ∨ (J.go i H ∧ ∃ Nx : Hp → Prop, (∀ H', Nx H' → ∃ m', m' < m ∧ W (i + 1) m' H') ∧ ∀ x H', J.yld i H x H' → g x (wipe σ vs) H' fun σ2 H2 => wipe σ2 vs = wipe σ vs ∧ tt σ2 H2 fun b H3 =>
        if b = true then te σ2 H3 fun y H4 => ∃ acc, H4 D = some (.lst acc) ∧ acc.length < sizeLine ∧ Nx (upd H4 D (.lst (acc ++ [y]))) else Nx H3) := by
  refine lc_it w (fun i H => Same H1 H ∧ ∃ ys, H D = some (.lst ys) ∧ Paired (R H) ys (acc i) ∧ ys.length ≤ i) ⟨Same.new hD, [], upd_same, by rw [h0]; exact .nil, Nat.le_refl _⟩ (fun i H _ p => hG H p.1) ?_ (fun H ⟨s, ys, e, p, _⟩ => hd H ys s e p)
  rintro i x H H' hi ⟨s, ys, e, p, l⟩ y
  refine hs i x H H' hi s (by rw [e]; simp) y _ ?_ ?_
  · intro H4 v a s4 ea ra
    refine ⟨ys, s4 _ _ e, Nat.lt_of_le_of_lt l (Nat.lt_of_lt_of_le hi hn), fun b o eb => ?_, ys ++ [v], upd_same, ?_, by rw [List.length_append]; exact Nat.succ_le_succ l⟩
    · rw [upd_ne (ne_of_none eb hD)]
      exact s4 b o (s b o eb)
    · have bt : But D H4 (upd H4 D (.lst (ys ++ [v]))) := fun b o n q => by rw [upd_ne n]; exact q
      rw [ea]
      exact Paired.snoc (Paired.mapP p fun v a q => hR _ _ _ _ (hR _ _ _ _ q fun b o _ e => s4 b o e) bt) (hR _ _ _ _ ra bt)
  · intro H3 s3 ea
    exact ⟨s.trans s3, ys, s3 _ _ e, by rw [ea]; exact Paired.mapP p fun v a q => hR _ _ _ _ q fun b o _ e => s3 b o e, Nat.le_succ_of_le l⟩
end RC
/-! ### Castings: which roles clash -/
namespace RC
open PySem PySem.Spec PyProof.Rows L2
theorem in_yes {x : Nat} {l : List Nat} (h : l.contains x = true) : (if false = true then !inV (.int (ni x)) (vis l) else inV (.int (ni x)) (vis l)) = true := by
  show inV (.int (ni x)) (vis l) = true
  rw [in_vis]; exact h
theorem in_no {x : Nat} {l : List Nat} (h : ¬ l.contains x = true) : (if false = true then !inV (.int (ni x)) (vis l) else inV (.int (ni x)) (vis l)) = false := by
  show inV (.int (ni x)) (vis l) = false
  rw [in_vis]; simpa using h
theorem out_yes {x : Nat} {l : List Nat} (h : ¬ l.contains x = true) : (if true = true then !inV (.int (ni x)) (vis l) else inV (.int (ni x)) (vis l)) = true := by
  show (!inV (.int (ni x)) (vis l)) = true
  rw [in_vis]; simpa using h
theorem out_no {x : Nat} {l : List Nat} (h : l.contains x = true) : (if true = true then !inV (.int (ni x)) (vis l) else inV (.int (ni x)) (vis l)) = false := by
  show (!inV (.int (ni x)) (vis l)) = false
  rw [in_vis, h]; rfl
abbrev ScL (A : Ad) := Lof (SceneAt A)
abbrev PlL (A : Ad) := Lof (PlayerAt A)
abbrev PcL (A : Ad) := Lof (PieceAt A)
abbrev PrL := Lof PairAt
abbrev CsL := Lof RowAt
def sp_soon (A : Ad) : Sp := fun vs H Q _ => ∃ (role m : Nat) (l : Addr) (scs : List Uw02.Scene), vs = [.int (ni role), .int (ni m), .ref l] ∧ ScL A N0 H l scs ∧ Q (.bl (tooSoon role m 0 scs)) H
def sp_meets (A : Ad) : Sp := fun vs H Q _ => ∃ (r s : Nat) (l : Addr) (scs : List Uw02.Scene), vs = [.int (ni r), .int (ni s), .ref l] ∧ ScL A N0 H l scs ∧ Q (.bl (meets r s scs)) H
def sp_lacks (A : Ad) : Sp := fun vs H Q _ => ∃ (e l m : Nat) (d q : Addr) (dress : List Nat) (scs : List Uw02.Scene), vs = [.int (ni e), .int (ni l), .ref d, .ref q] ∧ H d = some (.lst (vis dress)) ∧ dress[l]? = some m ∧ ScL A N0 H q scs ∧ Gives H Q fun _ v => v = .bl (lacks e l m scs)
def sp_clash (A : Ad) : Sp := fun vs H Q _ => ∃ (r s : Nat) (d q : Addr) (p : Uw02.Play), vs = [.int (ni r), .int (ni s), .ref d, .ref q] ∧ H d = some (.lst (vis p.dress)) ∧ r < p.dress.length ∧ s < p.dress.length ∧ ScL A N0 H q p.scenes ∧ Gives H Q fun _ v => v = .bl (clashB p r s)
def sp_pairs (A : Ad) : Sp := fun vs H Q _ => ∃ (d q : Addr) (p : Uw02.Play), vs = [.ref d, .ref q] ∧ H d = some (.lst (vis p.dress)) ∧ p.dress.length ≤ 5 ∧ ScL A N0 H q p.scenes ∧ Gives H Q fun H' v => ∃ l, v = .ref l ∧ PrL N0 H' l (clashes p)
section
variable {P : Program} {w : World} {K : PySem.W.Frag} {mg : Str → Option Value} {base : Heap} {A : Ad}
theorem pure_soon (T : Txt K mg A) : ∀ vs H Q E, sp_soon A vs H Q E → t_comes_too_soon K A { nx := fun _ H' => Q .non H', rt := Q } (start ["role", "minutes", "scenes", "between", "scene"] vs) H := by
  rintro _ H Q E ⟨role, m, l, scs, rfl, ⟨xs, hl, _, ps⟩, k⟩
  refine ⟨_, rfl, l, rfl, ⟨_, SqL.of hl⟩, for_it (walk_list (xs := xs)) (fun i σ H' => ∃ (b : Nat) (v : Option V), σ = [some (.int (ni role)), some (.int (ni m)), some (.ref l), some (.int (ni b)), v] ∧ H' = H ∧ tooSoon role m 0 scs = tooSoon role m b (scs.drop i))
    ⟨0, none, rfl, rfl, rfl⟩ (fun i σ H' _ ⟨_, _, _, e, _⟩ => by rw [e]; exact SqL.of hl) ?_ ?_⟩
  · rintro i x σ H' H2 hi ⟨b, v, rfl, rfl, e⟩ ⟨rfl, hx⟩
    obtain ⟨s, hs, p, dx, q, rfl, _, _, h1, h2⟩ := Paired.at ps hx
    rw [drop_at hs, soon_cons] at e
    refine ⟨_, rfl, _, rfl, p, _, dx, _, _, rfl, h1, T.cl_Scene, T.a_Scene_roles, lk_Scene_roles, q, _, rfl, .inl (SqL.of h2), rfl, flat_vis _, _, rfl, ?_⟩
    have go : ¬ (s.roles.contains role && decide (b < m)) = true → tooSoon role m 0 scs = tooSoon role m (b + s.long) (scs.drop (i + 1)) := fun c => by
      rw [if_neg c] at e
      exact e
    have e3 : V.int (ni (b + s.long)) = V.int (ni b + ni s.long) := by unfold ni; simp
    by_cases c1 : s.roles.contains role = true
    · refine ifT (in_yes c1) ⟨_, rfl, _, rfl, _, _, rfl, rfl, _, rfl, ?_⟩
      by_cases c2 : ni b < ni m
      · refine ifT (decide_eq_true c2) ?_
        have c2' : b < m := by unfold ni at c2; omega
        rw [if_pos (by rw [c1, decide_eq_true c2']; rfl)] at e
        rw [e] at k
        exact k
      · refine ifF (decide_eq_false c2) ⟨_, rfl, _, rfl, p, _, dx, _, _, rfl, h1, T.cl_Scene, T.a_Scene_minutes, lk_Scene_minutes, _, _, rfl, rfl, b + s.long, some (.ref p), by rw [e3]; rfl, rfl, ?_⟩
        exact go (by rw [Bool.and_eq_true, decide_eq_true_iff]; rintro ⟨_, z⟩; unfold ni at c2; omega)
    · refine ifF (in_no c1) (iteF ⟨_, rfl, _, rfl, p, _, dx, _, _, rfl, h1, T.cl_Scene, T.a_Scene_minutes, lk_Scene_minutes, _, _, rfl, rfl, b + s.long, some (.ref p), by rw [e3]; rfl, rfl, ?_⟩)
      exact go (by rw [Bool.and_eq_true]; rintro ⟨z, _⟩; exact c1 z)
  · rintro σ H' ⟨b, v, rfl, rfl, e⟩
    rw [Paired.length ps, List.drop_length] at e
    have e' : tooSoon role m 0 scs = false := e
    rw [e'] at k
    exact k
theorem fn_soon (T : Txt K mg A) : FnOk P w K mg base CX0 1 A.f_comes_too_soon A.d_comes_too_soon ["role", "minutes", "scenes"] (sp_soon A) :=
  ok_comes_too_soon T (fun vs H Q E h => by obtain ⟨role, m, l, scs, rfl, _⟩ := h; rfl) (pure_soon T)
theorem pure_meets (T : Txt K mg A) : ∀ vs H Q E, sp_meets A vs H Q E → t_are_in_one_scene K A { nx := fun _ H' => Q .non H', rt := Q } (start ["one", "other", "scenes", "scene"] vs) H := by
  rintro _ H Q E ⟨r, s, l, scs, rfl, ⟨xs, hl, _, ps⟩, k⟩
  refine ⟨_, rfl, l, rfl, ⟨_, SqL.of hl⟩, for_it (walk_list (xs := xs)) (fun i σ H' => ∃ (v : Option V), σ = [some (.int (ni r)), some (.int (ni s)), some (.ref l), v] ∧ H' = H ∧ meets r s scs = meets r s (scs.drop i))
    ⟨none, rfl, rfl, rfl⟩ (fun i σ H' _ ⟨_, _, e, _⟩ => by rw [e]; exact SqL.of hl) ?_ ?_⟩
  · rintro i x σ H' H2 hi ⟨v, rfl, rfl, e⟩ ⟨rfl, hx⟩
    obtain ⟨sc, hs, p, dx, q, rfl, _, _, h1, h2⟩ := Paired.at ps hx
    have e2 : ∀ l, meets r s (sc :: l) = ((sc.roles.contains r && sc.roles.contains s) || meets r s l) := fun _ => rfl
    rw [drop_at hs, e2] at e
    refine ⟨_, rfl, _, rfl, p, _, dx, _, _, rfl, h1, T.cl_Scene, T.a_Scene_roles, lk_Scene_roles, q, _, rfl, .inl (SqL.of h2), rfl, flat_vis _, _, rfl, ?_⟩
    by_cases c1 : sc.roles.contains r = true
    · refine ifT (in_yes c1) ⟨_, rfl, _, rfl, p, _, dx, _, _, rfl, h1, T.cl_Scene, T.a_Scene_roles, lk_Scene_roles, q, _, rfl, .inl (SqL.of h2), rfl, flat_vis _, _, rfl, ?_⟩
      by_cases c2 : sc.roles.contains s = true
      · refine ifT (in_yes c2) ?_
        have e' : meets r s scs = true := by rw [c1, c2] at e; exact e
        rw [e'] at k
        exact k
      · refine ifF (in_no c2) ⟨some (.ref p), rfl, rfl, ?_⟩
        have c2' : sc.roles.contains s = false := by simpa using c2
        rw [c2', Bool.and_false, Bool.false_or] at e
        exact e
    · refine ifF (in_no c1) (iteF ⟨some (.ref p), rfl, rfl, ?_⟩)
      have c1' : sc.roles.contains r = false := by simpa using c1
      rw [c1', Bool.false_and, Bool.false_or] at e
      exact e
  · rintro σ H' ⟨v, rfl, rfl, e⟩
    rw [Paired.length ps, List.drop_length] at e
    have e' : meets r s scs = false := e
    rw [e'] at k
    exact k
theorem fn_meets (T : Txt K mg A) : FnOk P w K mg base CX0 1 A.f_are_in_one_scene A.d_are_in_one_scene ["one", "other", "scenes"] (sp_meets A) :=
  ok_are_in_one_scene T (fun vs H Q E h => by obtain ⟨role, m, l, scs, rfl, _⟩ := h; rfl) (pure_meets T)
theorem cut_tail {xs : List V} {i : Nat} (h : i ≤ xs.length) : cutV xs (some (ni i)) none = xs.drop i := by
  unfold cutV
  rw [HT.sIx_nat, Nat.min_eq_left h]
  apply List.take_of_length_le
  rw [List.length_drop]
  exact Nat.le_refl _
theorem pure_lacks (T : Txt K mg A) : ∀ vs H Q E, sp_lacks A vs H Q E → t_lacks_time K A (sp_soon A) { nx := fun _ H' => Q .non H', rt := Q } (start ["earlier", "later", "dressing", "scenes", "place", "scene"] vs) H := by
  rintro _ H Q E ⟨e, l, m, d, q, dress, scs, rfl, hd, hm, ⟨xs, hq, _, ps⟩, k⟩
  refine ⟨_, rfl, q, xs, rfl, SqL.of hq, for_it (walk_enum (xs := xs)) (fun i σ H' => Same H H' ∧ ∃ v4 v5 : Option V, σ = [some (.int (ni e)), some (.int (ni l)), some (.ref d), some (.ref q), v4, v5] ∧ lacks e l m scs = lacks e l m (scs.drop i))
    ⟨Same.refl H, none, none, rfl, rfl⟩ (fun i σ H' _ z => SqL.of (z.1 _ _ hq)) ?_ ?_⟩
  · rintro i x σ H1 H2 hi ⟨S, v4, v5, rfl, eq⟩ ⟨t, y, z, rfl, nt, rfl, ey, hz⟩
    cases ey
    have S2 : Same H (upd H1 t (.tup [.int (i : Nat), z])) := S.trans (Same.new nt)
    obtain ⟨s, hs, p, dx, r, rfl, _, _, h1, h2⟩ := Paired.at ps hz
    rw [drop_at hs, lacks_cons] at eq
    refine ⟨t, _, rfl, SqT.of upd_same, rfl, _, _, rfl, _, _, rfl, rfl, _, rfl, _, rfl, p, _, dx, _, _, rfl, S2 _ _ h1, T.cl_Scene, T.a_Scene_roles, lk_Scene_roles, r, _, rfl, .inl (SqL.of (S2 _ _ h2)), rfl, flat_vis _, _, rfl, ?_⟩
    by_cases c1 : s.roles.contains e = true
    · refine ifT (in_yes c1) ⟨_, rfl, _, rfl, _, rfl, d, _, _, _, rfl, rfl, SqL.of (S2 _ _ hd), at_vis hm, _, rfl, _, rfl, _, _, rfl, rfl, _, rfl, q, xs, rfl, SqL.of (S2 _ _ hq), fun u nu => ?_⟩
      have S3 : Same H (upd (upd H1 t (.tup [.int (i : Nat), .ref p])) u (.lst (cutV xs (some ((i : Nat) + 1)) none))) := S2.trans (Same.new nu)
      refine ⟨l, m, u, scs.drop (i + 1), rfl, ⟨xs.drop (i + 1), ?_, id, ?_⟩, _, rfl, ?_⟩
      · rw [upd_same]
        have e4 : ((i : Nat) : Int) + 1 = ni (i + 1) := by unfold ni; omega
        rw [e4, cut_tail (by omega)]
      · exact Paired.mapP (Paired.drop (i + 1) ps) fun v a z => z.keep (fun b o _ e => S3 b o e) fun _ n _ => n
      · by_cases c2 : tooSoon l m 0 (scs.drop (i + 1)) = true
        · refine ifT c2 ?_
          rw [if_pos (by rw [c1, c2]; rfl)] at eq
          exact k _ _ S3 (by rw [eq])
        · have c2' : tooSoon l m 0 (scs.drop (i + 1)) = false := by simpa using c2
          refine ifF c2' ?_
          rw [if_neg (by rw [c2', Bool.and_false]; simp)] at eq
          exact ⟨S3, _, _, rfl, eq⟩
    · refine ifF (in_no c1) (iteF ?_)
      have c1' : s.roles.contains e = false := by simpa using c1
      rw [if_neg (by rw [c1', Bool.false_and]; simp)] at eq
      exact ⟨S2, _, _, rfl, eq⟩
  · rintro σ H1 ⟨S, v4, v5, rfl, eq⟩
    rw [Paired.length ps, List.drop_length] at eq
    exact k _ _ S (by rw [eq]; rfl)
theorem fn_lacks (T : Txt K mg A) : FnOk P w K mg base CX0 2 A.f_lacks_time A.d_lacks_time ["earlier", "later", "dressing", "scenes"] (sp_lacks A) :=
  ok_lacks_time T (fn_soon T) (fun vs H Q E h => by obtain ⟨e, l, m, d, q, dress, scs, rfl, _⟩ := h; rfl) (pure_lacks T)
theorem get_D {l : List Nat} {i : Nat} (h : i < l.length) : l[i]? = some (l.getD i 0) := by
  rw [List.getD_eq_getElem?_getD, List.getElem?_eq_getElem h]; rfl
theorem pure_clash : ∀ vs H Q E, sp_clash A vs H Q E → t_do_clash K A (sp_meets A) (sp_lacks A) { nx := fun _ H' => Q .non H', rt := Q } (start ["one", "other", "dressing", "scenes"] vs) H := by
  rintro _ H Q E ⟨r, s, d, q, p, rfl, hd, hr, hs, L, k⟩
  refine ⟨_, rfl, _, rfl, _, rfl, r, s, q, p.scenes, rfl, L, _, rfl, ?_⟩
  by_cases c1 : meets r s p.scenes = true
  · exact ifT c1 (k _ _ (Same.refl H) (by unfold clashB; rw [c1]; rfl))
  have c1' : meets r s p.scenes = false := by simpa using c1
  refine ifF c1' ⟨_, rfl, _, rfl, _, rfl, _, rfl, r, s, _, d, q, p.dress, p.scenes, rfl, hd, get_D hs, L, fun H1 v S1 ev => ?_⟩
  subst ev
  refine ⟨_, rfl, ?_⟩
  by_cases c2 : lacks r s (p.dress.getD s 0) p.scenes = true
  · exact ifT c2 (k _ _ S1 (by unfold clashB; rw [c1', c2]; rfl))
  have c2' : lacks r s (p.dress.getD s 0) p.scenes = false := by simpa using c2
  refine ifF c2' ⟨_, rfl, _, rfl, _, rfl, _, rfl, s, r, _, d, q, p.dress, p.scenes, rfl, S1 _ _ hd, get_D hr, L.same kp_scene S1, fun H2 v S2 ev => ?_⟩
  subst ev
  exact k _ _ (S1.trans S2) (by unfold clashB; rw [c1', c2']; rfl)
theorem fn_clash (T : Txt K mg A) : FnOk P w K mg base CX0 3 A.f_do_clash A.d_do_clash ["one", "other", "dressing", "scenes"] (sp_clash A) :=
  ok_do_clash T (fn_meets T) (fn_lacks T) (fun vs H Q E h => by obtain ⟨r, s, d, q, p, rfl, _⟩ := h; rfl) pure_clash
theorem pure_pairs : ∀ vs H Q E, sp_pairs A vs H Q E → t_clashing_pairs K A (sp_clash A) { nx := fun _ H' => Q .non H', rt := Q } (start ["dressing", "scenes", "found", "low", "high"] vs) H := by
  rintro _ H Q E ⟨d, q, p, rfl, hd, h5, L, k⟩
  refine ⟨Nat.zero_le _, fun f nf => ?_⟩
  have S0 : Same H (upd H f (.lst [])) := Same.new nf
  refine ⟨_, rfl, d, _, rfl, .inl (SqL.of (S0 _ _ hd)), _, rfl, (by rw [vis_len]; omega), (by rw [vis_len]; omega), for_it walk_up (fun i σ H' => Same H H' ∧ ∃ (v3 v4 : Option V) (xs : List V), σ = [some (.ref d), some (.ref q), some (.ref f), v3, v4] ∧ H' f = some (.lst xs) ∧
    Paired (PairAt (· = f) H') xs ((List.range i).flatMap fun a => rowP p a (p.dress.length - (a + 1))) ∧ xs.length ≤ 5 * i) ⟨S0, none, none, [], rfl, upd_same, .nil, Nat.zero_le _⟩ (fun _ _ _ _ _ => True.intro) ?_ ?_⟩
  · rintro i x σ H1 H2 hi ⟨S, v3, v4, xs, rfl, hf, ps, hl⟩ ⟨eH, ex⟩
    subst eH
    subst ex
    have hi' : i < p.dress.length := by rw [vis_len] at hi; simpa using hi
    have ei : ni i = ((i : Nat) : Int) := rfl
    refine ⟨_, rfl, _, _, rfl, rfl, _, rfl, d, _, rfl, .inl (SqL.of (S _ _ hd)), _, _, rfl, ?_, for_it walk_from (fun j σ H' => Same H H' ∧ ∃ (v4 : Option V) (xs : List V), σ = [some (.ref d), some (.ref q), some (.ref f), some (.int (ni i)), v4] ∧ H' f = some (.lst xs) ∧
      Paired (PairAt (· = f) H') xs (((List.range i).flatMap fun a => rowP p a (p.dress.length - (a + 1))) ++ rowP p i j) ∧ xs.length ≤ 5 * i + j) ⟨S, v4, xs, rfl, hf, by simpa [rowP] using ps, hl⟩ (fun _ _ _ _ _ => True.intro) ?_ ?_⟩
    · rw [vis_len]; refine ⟨by omega, by omega, by omega, by omega⟩
    · rintro j x σ H3 H4 hj ⟨S3, v4, xs, rfl, hf, ps, hl⟩ ⟨eH, ex⟩
      subst eH
      subst ex
      rw [vis_len] at hj
      refine ⟨_, rfl, _, rfl, _, rfl, _, rfl, i, i + 1 + j, d, q, p, rfl, S3 _ _ hd, hi', by omega, L.same kp_scene S3, fun H5 v S5 ev => ?_⟩
      subst ev
      refine ⟨_, rfl, ?_⟩
      have S35 := S3.trans S5
      have ps5 : Paired (PairAt (· = f) H5) xs (((List.range i).flatMap fun a => rowP p a (p.dress.length - (a + 1))) ++ rowP p i j) := Paired.mapP ps fun v a z => z.keep (fun b o _ e => S5 b o e) fun _ n _ => n
      by_cases c : clashB p i (i + 1 + j) = true
      · refine ifT c ⟨_, rfl, .inl ⟨rfl, _, SqL.of (S5 _ _ hf)⟩, _, rfl, _, rfl, (by show 2 ≤ sizeLine; decide), fun t nt => ?_⟩
        have hf6 : upd H5 t (.tup [.int (ni i), .int (ni (i + 1 + j))]) f = some (.lst xs) := upd_some nt (S5 _ _ hf)
        refine ⟨f, xs, _, rfl, rfl, hf6, (by show xs.length < 2 ^ 24; omega), ?_⟩
        have tf : t ≠ f := (ne_of_none (S5 _ _ hf) nt).symm
        refine ⟨fun b o e => ?_, _, xs ++ [.ref t], rfl, upd_same, ?_, by rw [List.length_append]; simp; omega⟩
        · rw [upd_ne (ne_of_none e nf), upd_some nt (S35 _ _ e)]
        · rw [rowP_succ, if_pos c, ← List.append_assoc]
          refine Paired.snoc (Paired.mapP ps5 fun v a z => z.keep (fun b o n e => ?_) fun _ n _ => n) ⟨t, rfl, tf, by rw [upd_ne tf, upd_same]⟩
          rw [upd_ne n, upd_some nt e]
      · refine ifF (by simpa using c) ⟨S35, _, xs, rfl, S5 _ _ hf, ?_, by omega⟩
        rw [rowP_succ, if_neg c, List.append_nil]
        exact ps5
    · rintro σ H3 ⟨S3, v4, xs, rfl, hf, ps, hl⟩
      refine ⟨S3, _, v4, xs, rfl, hf, ?_, ?_⟩
      · rw [List.range_succ, List.flatMap_append]
        have e5 : ((((vis p.dress).length : Nat) : Int) - ((i : Nat) + 1)).toNat = p.dress.length - (i + 1) := by rw [vis_len]; omega
        rw [e5] at ps
        simpa using ps
      · rw [vis_len] at hl; omega
  · rintro σ H1 ⟨S, v3, v4, xs, rfl, hf, ps, hl⟩
    refine ⟨_, rfl, k _ _ S ⟨f, rfl, xs, hf, id, ?_⟩⟩
    rw [vis_len, Int.toNat_natCast] at ps
    exact Paired.mapP ps fun v a z => z.keep (fun _ _ _ e => e) fun _ _ _ z => z
theorem fn_pairs (T : Txt K mg A) : FnOk P w K mg base CX0 4 A.f_clashing_pairs A.d_clashing_pairs ["dressing", "scenes"] (sp_pairs A) :=
  ok_clashing_pairs T (fn_clash T) (fun vs H Q E h => by obtain ⟨d, q, p, rfl, _⟩ := h; rfl) pure_pairs
end
end RC
/-! ### Castings: what is wrong with one, all of them, what one costs -/
namespace RC
open PySem PySem.Spec PyProof.Rows L2
/-- a player for each role -/
def CO (h : Uw07.House) (c : List Nat) : Prop := c.length = h.play.dress.length ∧ ∀ a ∈ c, a < h.hours.length
abbrev plz (h : Uw07.House) : List (Uw02.Player × (Nat × Nat × Nat)) := h.play.players.zip h.hours
def sp_can (A : Ad) : Sp := fun vs H Q _ => ∃ (v : V) (pl : Uw02.Player × (Nat × Nat × Nat)) (r : Nat) (f : Option Nat), vs = [v, .int (ni r)] ∧ PlayerAt A N0 H v pl ∧ pl.1.fees[r]? = some f ∧ Q (.bl f.isSome) H
def sp_wrongC (A : Ad) : Sp := fun vs H Q _ => ∃ (q lp lc : Addr) (c : List Nat) (h : Uw07.House), vs = [.ref q, .ref lp, .ref lc] ∧ H q = some (.lst (vis c)) ∧ PlL A N0 H lp (plz h) ∧ PrL N0 H lc (clashes h.play) ∧ HOK h ∧ CO h c ∧
  Gives H Q fun H' v => ∃ l, v = .ref l ∧ H' l = some (.lst (vis (nums3 (h.play.wrong c))))
/-- what stood ahead -/
abbrev Od (H : Hp) : Addr → Prop := fun b => H b ≠ none
def sp_allC : Sp := fun vs H Q _ => ∃ k n : Nat, vs = [.int (ni k), .int (ni n)] ∧ k ≤ 5 ∧ n ≤ 4 ∧ Gives H Q fun H' v => ∃ l, v = .ref l ∧ CsL (Od H) H' l (Uw02.rows n k)
def sp_rightC (A : Ad) : Sp := fun vs H Q _ => ∃ (a : Addr) (F : Addr → Prop) (h : Uw07.House) (p : Pl), vs = [.ref a] ∧ PlayAt A F H a h p ∧ Gives H Q fun H' v => ∃ l, v = .ref l ∧ CsL (Od H) H' l h.play.casts
/-- each role has a fee -/
def FeesOk (h : Uw07.House) (c : List Nat) : Prop := ∀ r a, c[r]? = some a → (h.play.fee r a).isSome = true
def sp_costC (A : Ad) : Sp := fun vs H Q _ => ∃ (q lp : Addr) (c : List Nat) (h : Uw07.House), vs = [.ref q, .ref lp] ∧ H q = some (.lst (vis c)) ∧ PlL A N0 H lp (plz h) ∧ HOK h ∧ CO h c ∧ FeesOk h c ∧ Gives H Q fun _ v => v = .int (ni (h.play.cost c))
theorem plz_at {h : Uw07.House} (ok : HOK h) {a : Nat} (ha : a < h.hours.length) : ∃ x y, h.play.players[a]? = some x ∧ h.hours[a]? = some y ∧ (plz h)[a]? = some (x, y) := by
  have ha' : a < h.play.players.length := by rw [ok.same]; exact ha
  refine ⟨_, _, List.getElem?_eq_getElem ha', List.getElem?_eq_getElem ha, ?_⟩
  rw [List.getElem?_zip_eq_some]
  exact ⟨List.getElem?_eq_getElem ha', List.getElem?_eq_getElem ha⟩
theorem plz_len {h : Uw07.House} (ok : HOK h) : (plz h).length = h.hours.length := by
  rw [List.length_zip, ok.same, Nat.min_self]
theorem fee_at {h : Uw07.House} (ok : HOK h) {r a : Nat} {x : Uw02.Player} (hx : h.play.players[a]? = some x) (hr : r < h.play.dress.length) : x.fees[r]? = some (h.play.fee r a) := by
  have hl := ok.fees x (List.mem_of_getElem? hx)
  unfold Uw02.Play.fee
  rw [hx]
  show x.fees[r]? = some (x.fees.getD r none)
  rw [List.getD_eq_getElem?_getD, List.getElem?_eq_getElem (by omega)]
  rfl
theorem CO.at {h : Uw07.House} {c : List Nat} (k : CO h c) {r a : Nat} (e : c[r]? = some a) : r < h.play.dress.length ∧ a < h.hours.length :=
  ⟨by rw [← k.1]; exact (List.getElem?_eq_some_iff.mp e).1, k.2 a (List.mem_of_getElem? e)⟩
theorem eqNT {m n : Nat} (h : m = n) : decide (V.int (ni m) = V.int (ni n)) = true := by rw [h]; simp
theorem eqNF {m n : Nat} (h : m ≠ n) : decide (V.int (ni m) = V.int (ni n)) = false := decide_eq_false fun z => h (by injection z with z; unfold ni at z; omega)
section
variable {P : Program} {w : World} {K : PySem.W.Frag} {mg : Str → Option Value} {base : Heap} {A : Ad}
theorem pure_can (T : Txt K mg A) : ∀ vs H Q E, sp_can A vs H Q E → t_can_play K A { nx := fun _ H' => Q .non H', rt := Q } (start ["player", "role"] vs) H := by
  rintro _ H Q E ⟨v, pl, r, f, rfl, ⟨p, dx, q, rfl, _, _, h1, h2⟩, hf, k⟩
  have e : (pl.1.fees.map feeN)[r]? = some (feeN f) := by rw [List.getElem?_map, hf]; rfl
  refine ⟨_, rfl, p, _, dx, _, _, rfl, h1, T.cl_Player, T.a_Player_fees, lk_Player_fees, _, rfl, q, _, _, _, rfl, rfl, SqL.of h2, at_vis e, _, _, rfl, rfl, ?_⟩
  have e2 : decide ((0 : Int) < ni (feeN f)) = f.isSome := by
    cases f with
    | none => rfl
    | some x => exact decide_eq_true (by show (0 : Int) < ni (x + 1); unfold ni; omega)
  show Q (.bl (decide ((0 : Int) < ni (feeN f)))) H
  rw [e2]
  exact k
theorem fn_can (T : Txt K mg A) : FnOk P w K mg base CX0 1 A.f_can_play A.d_can_play ["player", "role"] (sp_can A) :=
  ok_can_play T (fun vs H Q E h => by obtain ⟨v, pl, r, f, rfl, _⟩ := h; rfl) (pure_can T)
theorem pure_wrongC : ∀ vs H Q E, sp_wrongC A vs H Q E → t_wrong_with_casting K A (sp_can A) { nx := fun _ H' => Q .non H', rt := Q } (start ["casting", "players", "clashes", "role", "who", "low", "high"] vs) H := by
  rintro _ H Q E ⟨q, lp, lc, c, h, rfl, hq, ⟨ps, hp, _, pp⟩, ⟨cs, hc, _, pc⟩, ok, co, k⟩
  have ws := wrong_split h.play c co.1
  have fin : ∀ {H1 : Hp} {o : Option (Nat × Nat × Nat)} {l : Addr}, Same H H1 → h.play.wrong c = o → H1 l = none → Q (.ref l) (upd H1 l (.lst (vis (nums3 o)))) := fun S e n => k _ _ (S.trans (Same.new n)) ⟨_, rfl, by rw [upd_same, e]⟩
  refine ⟨_, rfl, q, _, rfl, SqL.of hq, for_it (walk_enum (xs := vis c)) (fun i σ H' => Same H H' ∧ ∃ v3 v4 : Option V, σ = [some (.ref q), some (.ref lp), some (.ref lc), v3, v4, none, none] ∧ ∀ r, r < i → (h.play.fee r (c.getD r 0)).isNone = false)
    ⟨Same.refl H, none, none, rfl, fun r z => absurd z (Nat.not_lt_zero r)⟩ (fun i σ H' _ z => SqL.of (z.1 _ _ hq)) ?_ ?_⟩
  · rintro i x σ H1 H2 hi ⟨S, v3, v4, rfl, all⟩ ⟨t, y, z, rfl, nt, rfl, ey, hz⟩
    cases ey
    obtain ⟨a, ha, rfl⟩ := vis_get hz
    obtain ⟨b1, b2⟩ := co.at ha
    obtain ⟨x, y, hx, hy, hxy⟩ := plz_at ok b2
    obtain ⟨v, hv, pv⟩ := Paired.ta pp hxy
    have S2 : Same H (upd H1 t (.tup [.int (i : Nat), .int (ni a)])) := S.trans (Same.new nt)
    refine ⟨t, _, rfl, SqT.of upd_same, rfl, _, _, rfl, _, _, rfl, rfl, _, rfl, _, rfl, lp, _, _, _, rfl, rfl, SqL.of (S2 _ _ hp), atI_nat hv, _, rfl, v, (x, y), i, _, rfl, pv.keep (fun b o _ e => S2 b o e) (fun _ n _ => n), fee_at ok hx b1, _, rfl, ?_⟩
    have eD : c.getD i 0 = a := by rw [List.getD_eq_getElem?_getD, ha]; rfl
    by_cases cc : (h.play.fee i a).isSome = true
    · refine ifF (by rw [cc]; rfl) ⟨S2, _, _, rfl, fun r hr => ?_⟩
      by_cases e : r = i
      · subst e
        rw [eD]
        cases ef : h.play.fee r a with
        | none => rw [ef] at cc; cases cc
        | some z => rfl
      · exact all r (by omega)
    · have cc' : (h.play.fee i a).isSome = false := by simpa using cc
      refine ifT (by rw [cc']; rfl) ⟨_, rfl, _, rfl, (by show 3 ≤ sizeLine; decide), fun l nl => ?_⟩
      have hb : (h.play.fee i (c.getD i 0)).isNone = true := by
        rw [eD]
        cases ef : h.play.fee i a with
        | none => rfl
        | some z => rw [ef] at cc'; cases cc'
      have e1 : h.play.wrong c = some (1, i, a) := by
        rw [ws, find_first (by rw [vis_len] at hi; exact hi) all hb]
        simp only [eD]
      exact fin S2 e1 nl
  · rintro σ H1 ⟨S, v3, v4, rfl, all⟩
    rw [vis_len] at all
    rw [find_none all] at ws
    simp only at ws
    refine ⟨_, rfl, lc, rfl, ⟨_, SqL.of (S _ _ hc)⟩, for_it (walk_list (xs := cs)) (fun i σ H' => Same H H' ∧ ∃ v5 v6 : Option V, σ = [some (.ref q), some (.ref lp), some (.ref lc), v3, v4, v5, v6] ∧ (clashes h.play).find? (fun x => c.getD x.1 0 == c.getD x.2 0) = ((clashes h.play).drop i).find? (fun x => c.getD x.1 0 == c.getD x.2 0))
      ⟨S, none, none, rfl, rfl⟩ (fun i σ H' _ z => SqL.of (z.1 _ _ hc)) ?_ ?_⟩
    · rintro i x σ H2 H3 hi ⟨S2, v5, v6, rfl, e⟩ ⟨rfl, hx⟩
      obtain ⟨s, hs, t, rfl, _, ht⟩ := Paired.at pc hx
      obtain ⟨l1, l2⟩ := clash_lt (List.mem_of_getElem? hs)
      rw [drop_at hs, List.find?_cons] at e
      rw [← co.1] at l1 l2
      refine ⟨t, _, rfl, SqT.of (S2 _ _ ht), rfl, _, _, rfl, _, _, rfl, rfl, _, rfl, _, rfl, q, _, _, _, rfl, rfl, SqL.of (S2 _ _ hq), at_vis (get_D l1), _, rfl, _, rfl, q, _, _, _, rfl, rfl, SqL.of (S2 _ _ hq), at_vis (get_D l2), rfl, _, rfl, ?_⟩
      by_cases cc : c.getD s.1 0 = c.getD s.2 0
      · refine ifT (eqNT cc) ⟨_, rfl, _, rfl, (by show 3 ≤ sizeLine; decide), fun l nl => ?_⟩
        rw [beq_iff_eq.mpr cc] at e
        simp only at e
        rw [e] at ws
        exact fin S2 ws nl
      · refine ifF (eqNF cc) ⟨S2, _, _, rfl, ?_⟩
        rw [beq_eq_false_iff_ne.mpr cc] at e
        exact e
    · rintro σ H2 ⟨S2, v5, v6, rfl, e⟩
      rw [Paired.length pc, List.drop_length] at e
      rw [e] at ws
      refine ⟨Nat.zero_le _, fun l nl => ?_⟩
      exact fin (o := none) S2 ws nl
theorem fn_wrongC (T : Txt K mg A) : FnOk P w K mg base CX0 2 A.f_wrong_with_casting A.d_wrong_with_casting ["casting", "players", "clashes"] (sp_wrongC A) :=
  ok_wrong_with_casting T (fn_can T) (fun vs H Q E h => by obtain ⟨q, lp, lc, c, h, rfl, _⟩ := h; rfl) pure_wrongC
end
end RC
/-! ### All castings; the right ones; what one costs -/
namespace RC
open PySem PySem.Spec PyProof.Rows L2
def extC (n : Nat) (r : List Nat) : List (List Nat) := (List.range n).map fun a => r ++ [a]
theorem ext_le (n : Nat) (l : List (List Nat)) : (l.flatMap (extC n)).length = l.length * n := by
  rw [List.length_flatMap]
  simp only [extC, List.length_map, List.length_range]
  rw [List.map_const', List.sum_replicate_nat]
section
variable {P : Program} {w : World} {K : PySem.W.Frag} {mg : Str → Option Value} {base : Heap} {A : Ad}
theorem row_but {D : Addr} {H H' : Hp} {v : V} {a : List Nat} (r : RowAt (· = D) H v a) (b : But D H H') : RowAt (· = D) H' v a := kp_row _ _ _ _ _ _ r (fun c o n e => b c o n e) fun _ n _ => n
theorem pure_allC : ∀ vs H Q E, sp_allC vs H Q E → t_all_castings K A { nx := fun _ H' => Q .non H', rt := Q } (start ["roles", "players", "found", "role", "longer", "casting", "who"] vs) H := by
  rintro _ H Q E ⟨k, n, rfl, hk, hn, kQ⟩
  have ek : ni k = ((k : Nat) : Int) := rfl
  have en : ni n = ((n : Nat) : Int) := rfl
  refine ⟨Nat.zero_le _, fun r0 n0 => ⟨(by show 1 ≤ sizeLine; decide), fun f0 nf0 => ?_⟩⟩
  have S0 : Same H (upd (upd H r0 (.lst [])) f0 (.lst [.ref r0])) := (Same.new n0).trans (Same.new nf0)
  refine ⟨_, rfl, _, rfl, (by omega), (by omega), for_it walk_up (fun i σ H' => Same H H' ∧ ∃ (f : Addr) (v3 v4 v5 v6 : Option V), σ = [some (.int (ni k)), some (.int (ni n)), some (.ref f), v3, v4, v5, v6] ∧ CsL (Od H) H' f (Uw02.rows n i))
    ⟨S0, f0, none, none, none, none, rfl, _, upd_same, fun z => z ((Same.new n0).free nf0), .cons ⟨r0, rfl, fun z => z n0, upd_some nf0 upd_same⟩ .nil⟩ (fun _ _ _ _ _ => True.intro) ?_ ?_⟩
  · rintro i x σ H1 H2 hi ⟨S, f, v3, v4, v5, v6, rfl, ⟨xs, hf, _, px⟩⟩ ⟨eH, ex⟩
    subst eH
    subst ex
    refine ⟨Nat.zero_le _, fun lo nlo => ?_⟩
    have S2 : Same H2 (upd H2 lo (.lst [])) := Same.new nlo
    have big := rows_small hn (show i ≤ 5 by omega)
    have lx := Paired.length px
    refine ⟨_, rfl, f, rfl, ⟨_, SqL.of (S2 _ _ hf)⟩, for_it (walk_list (xs := xs)) (fun j σ H' => Same H2 H' ∧ ∃ (v5 v6 : Option V) (ys : List V), σ = [some (.int (ni k)), some (.int (ni n)), some (.ref f), some (.int (ni i)), some (.ref lo), v5, v6] ∧ H' lo = some (.lst ys) ∧
      Paired (RowAt (fun b => b = lo ∨ Od H b) H') ys (((Uw02.rows n i).take j).flatMap (extC n))) ⟨S2, v5, v6, [], rfl, upd_same, .nil⟩ (fun j σ H' _ z => SqL.of (z.1 _ _ hf)) ?_ ?_⟩
    · rintro j x σ H3 H4 hj ⟨S3, v5, v6, ys, rfl, hlo, py⟩ ⟨rfl, hx⟩
      obtain ⟨c, hc, q, rfl, _, hq⟩ := Paired.at px hx
      refine ⟨_, rfl, .inl ⟨rfl, _, SqL.of hlo⟩, _, rfl, _, rfl, (by omega), (by omega), fun D nD => ?_⟩
      have hD : D ≠ lo := (ne_of_none hlo nD).symm
      refine lc_gen walk_up (fun H' v a => RowAt (fun b => b = D ∨ b = lo ∨ Od H b) H' v a) (fun t => extC t c) nD (by rw [en, Int.toNat_natCast]; exact Nat.le_trans hn (by decide)) (fun _ _ => True.intro) (fun H H' v a r b => kp_row _ _ _ _ _ _ r (fun z o n e => b z o (fun y => n (.inl y)) e) fun _ n _ => n) rfl ?_ ?_
      · rintro t x H5 H6 ht S5 nn ⟨eH, ex⟩ Nx yes no
        subst eH
        subst ex
        refine ⟨rfl, _, rfl, _, rfl, (by show 1 ≤ sizeLine; decide), fun u nu => ?_⟩
        have hq6 := S5 _ _ (S3 _ _ hq)
        have lc : c.length ≤ 5 := by have := (rows_len _ _ c (List.mem_of_getElem? hc)).1; omega
        refine ⟨q, u, _, _, rfl, rfl, upd_some nu hq6, upd_same, (by rw [vis_len]; show c.length + 1 ≤ 2 ^ 24; omega), fun p np => ?_⟩
        have Sn : Same H6 (upd (upd H6 u (.lst [.int (ni t)])) p (.lst (vis c ++ [.int (ni t)]))) := (Same.new nu).trans (Same.new np)
        refine yes _ _ (c ++ [t]) Sn ?_ ⟨p, rfl, ?_, ?_⟩
        · unfold extC; rw [List.range_succ, List.map_append]; rfl
        · have hp6 : H6 p = none := (Same.new nu).free np
          rintro (z | z | z)
          · exact nn (z ▸ hp6)
          · have := S5 _ _ hlo
            rw [← z, hp6] at this
            cases this
          · exact z ((S.trans (S3.trans S5)).free hp6)
        · rw [upd_same, vis_app]; rfl
      · intro H5 zs S5 hzs pz
        have e : (ni n).toNat = n := Int.toNat_natCast n
        rw [e] at pz
        have lz := Paired.length pz
        have ly := Paired.length py
        have lt := ext_le n ((Uw02.rows n i).take j)
        rw [List.length_take] at lt
        refine ⟨lo, D, ys, zs, rfl, rfl, S5 _ _ hlo, hzs, ?_, ?_⟩
        · have l2 : zs.length = n := by rw [lz]; simp [extC]
          rw [l2, ly, lt]
          have : min j (Uw02.rows n i).length * n ≤ 1024 * 4 := Nat.mul_le_mul (by omega) hn
          show _ ≤ 2 ^ 24
          omega
        · refine ⟨fun b o eb => ?_, some (.ref q), v6, ys ++ zs, rfl, upd_same, ?_⟩
          · rw [upd_ne (ne_of_none eb nlo)]
            exact S5 _ _ (S3 _ _ eb)
          · rw [take_at hc, List.flatMap_append]
            have up : ∀ b o, ¬ b = lo → H5 b = some o → upd H5 lo (.lst (ys ++ zs)) b = some o := fun b o nb eb => by rw [upd_ne nb]; exact eb
            refine Paired.app (Paired.mapP py fun v a r => kp_row _ _ _ _ _ _ r (fun b o nb eb => up b o (fun z => nb (.inl z)) (S5 _ _ eb)) fun _ n _ => n) ?_
            simp only [List.flatMap_cons, List.flatMap_nil, List.append_nil]
            exact Paired.mapP pz fun v a r => kp_row _ _ _ _ _ _ r (fun b o nb eb => up b o (fun z => nb (.inr (.inl z))) eb) fun b nb _ z => nb (.inr z)
    · rintro σ H3 ⟨S3, v5, v6, ys, rfl, hlo, py⟩
      refine ⟨_, rfl, S.trans S3, lo, _, _, v5, v6, rfl, ys, hlo, fun z => z (S.free nlo), ?_⟩
      rw [lx, List.take_length] at py
      rw [rows_snoc]
      exact Paired.mapP py fun v a r => kp_row _ _ _ _ _ _ r (fun _ _ _ e => e) fun _ nb _ z => nb (.inr z)
  · rintro σ H1 ⟨S, f, v3, v4, v5, v6, rfl, L⟩
    rw [ek, Int.toNat_natCast] at L
    exact ⟨_, rfl, kQ _ _ S ⟨f, rfl, L⟩⟩
theorem fn_allC (T : Txt K mg A) : FnOk P w K mg base CX0 1 A.f_all_castings A.d_all_castings ["roles", "players"] sp_allC :=
  ok_all_castings T (fun vs H Q E h => by obtain ⟨k, n, rfl, _⟩ := h; rfl) pure_allC
/-- what the play shows to those who read it -/
theorem PlayAt.scl {F : Addr → Prop} {H : Hp} {a : Addr} {h : Uw07.House} {p : Pl} (k : PlayAt A F H a h p) : ScL A N0 H p.ls h.play.scenes := ⟨p.xs, k.sc, id, Paired.mapP k.scs fun _ _ z => z.keep (fun _ _ _ e => e) fun _ _ _ z => z⟩
theorem PlayAt.pll {F : Addr → Prop} {H : Hp} {a : Addr} {h : Uw07.House} {p : Pl} (k : PlayAt A F H a h p) : PlL A N0 H p.lp (plz h) := ⟨p.ps, k.pl, id, Paired.mapP k.pls fun _ _ z => z.keep (fun _ _ _ e => e) fun _ _ _ z => z⟩
theorem PlayAt.pcl {F : Addr → Prop} {H : Hp} {a : Addr} {h : Uw07.House} {p : Pl} (k : PlayAt A F H a h p) : PcL A N0 H p.lc h.pieces := ⟨p.cs, k.pc, id, Paired.mapP k.pcs fun _ _ z => z.keep (fun _ _ _ e => e) fun _ _ _ z => z⟩
theorem PlayAt.prl {F : Addr → Prop} {H : Hp} {a : Addr} {h : Uw07.House} {p : Pl} (k : PlayAt A F H a h p) : PrL N0 H p.la h.ahead := ⟨p.as, k.pa, id, Paired.mapP k.pas fun _ _ z => z.keep (fun _ _ _ e => e) fun _ _ _ z => z⟩
theorem PlayAt.np {F : Addr → Prop} {H : Hp} {a : Addr} {h : Uw07.House} {p : Pl} (k : PlayAt A F H a h p) : p.ps.length = h.hours.length := by
  rw [Paired.length k.pls, plz_len k.ok]
theorem empty3 (o : Option (Nat × Nat × Nat)) : (vis (nums3 o)).isEmpty = o.isNone := by cases o <;> rfl
theorem pure_rightC (T : Txt K mg A) : ∀ vs H Q E, sp_rightC A vs H Q E → t_right_castings K A (sp_pairs A) sp_allC (sp_wrongC A) { nx := fun _ H' => Q .non H', rt := Q } (start ["play", "clashes", "castings", "casting"] vs) H := by
  rintro _ H Q E ⟨a, F, h, p, rfl, k, kQ⟩
  refine ⟨_, rfl, a, _, _, _, _, rfl, k.ob, T.cl_Play, T.a_Play_dressing, lk_Play_dressing, _, rfl, a, _, _, _, _, rfl, k.ob, T.cl_Play, T.a_Play_scenes, lk_Play_scenes, p.ld, p.ls, h.play, rfl, k.dr, k.ok.dress, k.scl, fun H1 v S1 z => ?_⟩
  obtain ⟨lc, rfl, Lc⟩ := z
  have k1 := k.same S1
  refine ⟨_, rfl, a, _, _, _, _, rfl, k1.ob, T.cl_Play, T.a_Play_dressing, lk_Play_dressing, p.ld, _, rfl, .inl (SqL.of k1.dr), _, rfl, a, _, _, _, _, rfl, k1.ob, T.cl_Play, T.a_Play_players, lk_Play_players, p.lp, _, rfl, .inl (SqL.of k1.pl), h.play.dress.length, h.hours.length, ?_, k.ok.dress, k.ok.hours, fun H2 v S2 z => ?_⟩
  · rw [vis_len, k.np]; rfl
  obtain ⟨l, rfl, ⟨xs, hl, _, px⟩⟩ := z
  have k2 := k1.same S2
  have lx := Paired.length px
  have big := rows_small k.ok.hours k.ok.dress
  refine ⟨_, rfl, l, rfl, ⟨_, SqL.of hl⟩, fun D nD => ?_⟩
  refine lc_gen (walk_list (xs := xs)) (fun H' v a => RowAt (fun b => b = D ∨ Od H b) H' v a) (fun t => ((Uw02.rows h.hours.length h.play.dress.length).take t).filter fun c => (h.play.wrong c).isNone) nD (by rw [lx]; exact Nat.le_trans big (by decide)) (fun H S => SqL.of (S _ _ hl)) (fun H H' v a r b => kp_row _ _ _ _ _ _ r (fun c o n e => b c o (fun z => n (.inl z)) e) fun _ n _ => n) rfl ?_ ?_
  · rintro t x H5 H6 ht S5 nn ⟨rfl, hx⟩ Nx yes no
    obtain ⟨c, hc, q, rfl, oq, hq⟩ := Paired.at px hx
    have k5 := k2.same S5
    have rl := rows_len _ _ c (List.mem_of_getElem? hc)
    refine ⟨rfl, _, rfl, _, rfl, a, _, _, _, _, rfl, k5.ob, T.cl_Play, T.a_Play_players, lk_Play_players, _, rfl, q, p.lp, lc, c, h, rfl, S5 _ _ hq, k5.pll, (Lc.same kp_pair S2).same kp_pair S5, k.ok, ⟨rl.1, rl.2⟩, fun H7 v S7 z => ?_⟩
    obtain ⟨u, rfl, hu⟩ := z
    refine ⟨Nat.zero_le _, fun e ne => ⟨u, e, _, rfl, rfl, SqL.of (upd_some ne hu), SqL.of upd_same, _, rfl, ?_⟩⟩
    have S8 := S7.trans (Same.new (o := .lst []) ne)
    rw [empty3]
    by_cases cc : (h.play.wrong c).isNone = true
    · refine ifT cc ⟨_, rfl, yes _ _ c S8 ?_ ⟨q, rfl, ?_, S8 _ _ (S5 _ _ hq)⟩⟩
      · rw [take_at hc, List.filter_append, List.filter_cons, if_pos cc, List.filter_nil]
      · rintro (z | z)
        · exact ne_of_none hq nD z
        · refine oq fun y => z (S1.free y)
    · refine ifF (by cases e : (h.play.wrong c).isNone with | true => exact absurd e cc | false => rfl) (no _ S8 ?_)
      rw [take_at hc, List.filter_append, List.filter_cons, if_neg cc, List.filter_nil, List.append_nil]
  · intro H5 zs S5 hzs pz
    refine kQ _ _ (S1.trans (S2.trans S5)) ⟨D, rfl, zs, hzs, fun z => z ((S1.trans S2).free nD), ?_⟩
    rw [lx, List.take_length, ← k.ok.same, ← casts_eq] at pz
    exact Paired.mapP pz fun v a r => kp_row _ _ _ _ _ _ r (fun _ _ _ e => e) fun _ nb _ z => nb (.inr z)
theorem fn_rightC (T : Txt K mg A) : FnOk P w K mg base CX0 5 A.f_right_castings A.d_right_castings ["play"] (sp_rightC A) :=
  ok_right_castings T (fn_pairs T) (fn_allC T) (fn_wrongC T) (fun vs H Q E h => by obtain ⟨a, F, h, p, rfl, _⟩ := h; rfl) (pure_rightC T)
theorem pure_costC (T : Txt K mg A) : ∀ vs H Q E, sp_costC A vs H Q E → t_casting_cost K A { nx := fun _ H' => Q .non H', rt := Q } (start ["casting", "players", "cost", "who", "player", "role"] vs) H := by
  rintro _ H Q E ⟨q, lp, c, h, rfl, hq, ⟨ps, hp, _, pp⟩, ok, co, fo, k⟩
  refine ⟨_, rfl, lp, ps, rfl, SqL.of hp, for_it (walk_enum (xs := ps)) (fun i σ H' => Same H H' ∧ ∃ v3 v4 : Option V, σ = [some (.ref q), some (.ref lp), some (.int (ni (wagesTo h.play c i))), v3, v4, none])
    ⟨Same.refl H, none, none, rfl⟩ (fun i σ H' _ z => SqL.of (z.1 _ _ hp)) ?_ ?_⟩
  · rintro i x σ H1 H2 hi ⟨S, v3, v4, rfl⟩ ⟨t, y, z, rfl, nt, rfl, ey, hz⟩
    cases ey
    obtain ⟨pl, hpl, p, dx, u, rfl, _, _, h1, h2⟩ := Paired.at pp hz
    have S2 : Same H (upd H1 t (.tup [.int (i : Nat), .ref p])) := S.trans (Same.new nt)
    have ew : wageOf h.play i = pl.1.wage := by
      unfold wageOf
      rw [List.getElem?_zip_eq_some] at hpl
      rw [hpl.1]; rfl
    refine ⟨t, _, rfl, SqT.of upd_same, rfl, _, _, rfl, _, _, rfl, rfl, _, rfl, _, rfl, q, _, rfl, .inl (SqL.of (S2 _ _ hq)), rfl, flat_vis _, _, rfl, ?_⟩
    by_cases cc : c.contains i = true
    · refine ifT (in_yes cc) ⟨_, rfl, _, rfl, p, _, dx, _, _, rfl, S2 _ _ h1, T.cl_Player, T.a_Player_wage, lk_Player_wage, _, _, rfl, rfl, S2, some (.int (ni i)), some (.ref p), ?_⟩
      rw [wagesTo_succ, if_pos cc, ew]
      have : ni (wagesTo h.play c i + pl.1.wage) = ni (wagesTo h.play c i) + ni pl.1.wage := by unfold ni; omega
      rw [this]; rfl
    · refine ifF (in_no cc) ⟨S2, some (.int (ni i)), some (.ref p), ?_⟩
      rw [wagesTo_succ, if_neg cc]; rfl
  · rintro σ H1 ⟨S, v3, v4, rfl⟩
    rw [Paired.length pp, plz_len ok]
    refine ⟨_, rfl, q, _, rfl, SqL.of (S _ _ hq), for_it (walk_enum (xs := vis c)) (fun i σ H' => Same H H' ∧ ∃ v3 v5 : Option V, σ = [some (.ref q), some (.ref lp), some (.int (ni (wagesTo h.play c h.hours.length + feesTo h.play c i))), v3, v4, v5])
      ⟨S, v3, none, rfl⟩ (fun i σ H' _ z => SqL.of (z.1 _ _ hq)) ?_ ?_⟩
    · rintro i x σ H1 H2 hi ⟨S, v3, v5, rfl⟩ ⟨t, y, z, rfl, nt, rfl, ey, hz⟩
      cases ey
      obtain ⟨a, ha, rfl⟩ := vis_get hz
      obtain ⟨b1, b2⟩ := co.at ha
      obtain ⟨x, y, hx, hy, hxy⟩ := plz_at ok b2
      obtain ⟨v, hv, p, dx, u, rfl, _, _, h1, h2⟩ := Paired.ta pp hxy
      have S2 : Same H (upd H1 t (.tup [.int (i : Nat), .int (ni a)])) := S.trans (Same.new nt)
      have e : (x.fees.map feeN)[i]? = some (feeN (h.play.fee i a)) := by rw [List.getElem?_map, fee_at ok hx b1]; rfl
      refine ⟨t, _, rfl, SqT.of upd_same, rfl, _, _, rfl, _, _, rfl, rfl, _, rfl, _, rfl, _, rfl, lp, _, _, _, rfl, rfl, SqL.of (S2 _ _ hp), atI_nat hv, p, _, dx, _, _, rfl, S2 _ _ h1, T.cl_Player, T.a_Player_fees, lk_Player_fees, _, rfl, u, _, _, _, rfl, rfl, SqL.of (S2 _ _ h2), at_vis e, _, _, rfl, rfl, _, _, rfl, rfl, S2, some (.int (ni a)), some (.int (ni i)), ?_⟩
      rw [feesTo_succ _ _ _ _ ha]
      cases ef : h.play.fee i a with
      | none => have := fo i a ha; rw [ef] at this; cases this
      | some z =>
        have : ni (wagesTo h.play c h.hours.length + (feesTo h.play c i + z)) = ni (wagesTo h.play c h.hours.length + feesTo h.play c i) + ni (z + 1) - 1 := by unfold ni; omega
        have e2 : ni (wagesTo h.play c h.hours.length + (feesTo h.play c i + (some z).getD 0)) = ni (wagesTo h.play c h.hours.length + feesTo h.play c i) + ni (z + 1) - 1 := this
        rw [e2]; rfl
    · rintro σ H2 ⟨S2, v3, v5, rfl⟩
      refine ⟨_, rfl, k _ _ S2 ?_⟩
      rw [vis_len, cost_eq, ok.same]
theorem fn_costC (T : Txt K mg A) : FnOk P w K mg base CX0 1 A.f_casting_cost A.d_casting_cost ["casting", "players"] (sp_costC A) :=
  ok_casting_cost T (fun vs H Q E h => by obtain ⟨q, lp, c, h, rfl, _⟩ := h; rfl) (pure_costC T)
end
end RC
/-! ### Orders: all of them, when pieces begin, who is there when -/
namespace RC
open PySem PySem.Spec PyProof.Rows L2
def sp_allO : Sp := fun vs H Q _ => ∃ n : Nat, vs = [.int (ni n)] ∧ n ≤ 4 ∧ Gives H Q fun H' v => ∃ l, v = .ref l ∧ CsL N0 H' l (ordS n n)
def sp_begun (A : Ad) : Sp := fun vs H Q _ => ∃ (q lc : Addr) (o : List Nat) (pcs : Pcs), vs = [.ref q, .ref lc] ∧ H q = some (.lst (vis o)) ∧ PcL A N0 H lc pcs ∧ pcs.length ≤ 4 ∧ o.Nodup ∧ (∀ k ∈ o, k < pcs.length) ∧ Gives H Q fun H' v => ∃ l, v = .ref l ∧ H l = none ∧ H' l = some (.lst (vis (begunL pcs o)))
def sp_isin (A : Ad) : Sp := fun vs H Q _ => ∃ (a : Nat) (q : Addr) (v : V) (c : List Nat) (pc : Nat × List Nat), vs = [.int (ni a), .ref q, v] ∧ H q = some (.lst (vis c)) ∧ PieceAt A N0 H v pc ∧ (∀ r ∈ pc.2, r < c.length) ∧ pc.2.length ≤ sizeLine ∧ Gives H Q fun _ v => v = .bl (pc.2.any fun r => c[r]? == some a)
/-- a casting that tells of each role in the pieces -/
def Fits (c : List Nat) (pcs : Pcs) : Prop := pcs.length ≤ 4 ∧ ∀ p ∈ pcs, p.2.length ≤ sizeLine ∧ ∀ r ∈ p.2, r < c.length
def sp_own (A : Ad) : Sp := fun vs H Q _ => ∃ (a : Nat) (q lc : Addr) (c : List Nat) (pcs : Pcs), vs = [.int (ni a), .ref q, .ref lc] ∧ H q = some (.lst (vis c)) ∧ PcL A N0 H lc pcs ∧ Fits c pcs ∧ Gives H Q fun H' v => ∃ t, v = .ref t ∧ H' t = some (.tup (vis (ownL c pcs a)))
def sp_stay (A : Ad) : Sp := fun vs H Q _ => ∃ (t b lc : Addr) (own bl : List Nat) (pcs : Pcs), vs = [.ref t, .ref b, .ref lc] ∧ H t = some (.tup (vis own)) ∧ H b = some (.lst (vis bl)) ∧ PcL A N0 H lc pcs ∧ own.length ≤ 4 ∧ bl.length = pcs.length ∧ (∀ k ∈ own, k < pcs.length) ∧
  Gives H Q fun H' v => ∃ l, v = .ref l ∧ H l = none ∧ H' l = some (.lst ((stayN pcs bl own).map V.int))
theorem Kp.to0 {α : Type} {R : (Addr → Prop) → Hp → V → α → Prop} (kp : Kp R) {G : Addr → Prop} {H : Hp} {v : V} {a : α} (r : R G H v a) : R N0 H v a := kp _ _ _ _ _ _ r (fun _ _ _ e => e) fun _ _ _ z => z
theorem Kp.sm {α : Type} {R : (Addr → Prop) → Hp → V → α → Prop} (kp : Kp R) {G : Addr → Prop} {H H' : Hp} {v : V} {a : α} (r : R G H v a) (s : Same H H') : R G H' v a := kp _ _ _ _ _ _ r (fun b o _ e => s b o e) fun _ n _ => n
section
variable {P : Program} {w : World} {K : PySem.W.Frag} {mg : Str → Option Value} {base : Heap} {A : Ad}
theorem pure_allO : ∀ vs H Q E, sp_allO vs H Q E → t_all_orders K A { nx := fun _ H' => Q .non H', rt := Q } (start ["pieces", "found", "place", "longer", "order", "piece"] vs) H := by
  rintro _ H Q E ⟨n, rfl, hn, kQ⟩
  have en : ni n = ((n : Nat) : Int) := rfl
  refine ⟨Nat.zero_le _, fun r0 n0 => ⟨(by show 1 ≤ sizeLine; decide), fun f0 nf0 => ?_⟩⟩
  have S0 : Same H (upd (upd H r0 (.lst [])) f0 (.lst [.ref r0])) := (Same.new n0).trans (Same.new nf0)
  refine ⟨_, rfl, _, rfl, (by omega), (by omega), for_it walk_up (fun i σ H' => Same H H' ∧ ∃ (f : Addr) (v2 v3 v4 v5 : Option V), σ = [some (.int (ni n)), some (.ref f), v2, v3, v4, v5] ∧ CsL N0 H' f (ordS n i))
    ⟨S0, f0, none, none, none, none, rfl, _, upd_same, id, .cons ⟨r0, rfl, id, upd_some nf0 upd_same⟩ .nil⟩ (fun _ _ _ _ _ => True.intro) ?_ ?_⟩
  · rintro i x σ H1 H2 hi ⟨S, f, v2, v3, v4, v5, rfl, ⟨xs, hf, _, px⟩⟩ ⟨eH, ex⟩
    subst eH
    subst ex
    refine ⟨Nat.zero_le _, fun lo nlo => ?_⟩
    have S2 : Same H2 (upd H2 lo (.lst [])) := Same.new nlo
    have big := ordS_small hn (show i ≤ 4 by omega)
    have lx := Paired.length px
    refine ⟨_, rfl, f, rfl, ⟨_, SqL.of (S2 _ _ hf)⟩, for_it (walk_list (xs := xs)) (fun j σ H' => Same H2 H' ∧ ∃ (v4 v5 : Option V) (ys : List V), σ = [some (.int (ni n)), some (.ref f), some (.int (ni i)), some (.ref lo), v4, v5] ∧ H' lo = some (.lst ys) ∧
      Paired (RowAt (· = lo) H') ys (((ordS n i).take j).flatMap (extO n))) ⟨S2, v4, v5, [], rfl, upd_same, .nil⟩ (fun j σ H' _ z => SqL.of (z.1 _ _ hf)) ?_ ?_⟩
    · rintro j x σ H3 H4 hj ⟨S3, v4, v5, ys, rfl, hlo, py⟩ ⟨rfl, hx⟩
      obtain ⟨c, hc, q, rfl, _, hq⟩ := Paired.at px hx
      refine ⟨_, rfl, .inl ⟨rfl, _, SqL.of hlo⟩, _, rfl, _, rfl, (by omega), (by omega), fun D nD => ?_⟩
      refine lc_gen walk_up (fun H v a => RowAt (fun b => b = D ∨ b = lo) H v a) (fun t => ((List.range t).filter fun p => !c.contains p).map fun p => c ++ [p]) nD (by rw [en, Int.toNat_natCast]; exact Nat.le_trans hn (by decide)) (fun _ _ => True.intro) (fun H H' v a r b => kp_row _ _ _ _ _ _ r (fun z o n e => b z o (fun y => n (.inl y)) e) fun _ n _ => n) rfl ?_ ?_
      · rintro t x H5 H6 ht S5 nn ⟨eH, ex⟩ Nx yes no
        subst eH
        subst ex
        have hq6 := S5 _ _ (S3 _ _ hq)
        refine ⟨rfl, _, rfl, _, rfl, q, _, rfl, .inl (SqL.of hq6), rfl, flat_vis _, _, rfl, ?_⟩
        have lc : c.length ≤ 4 := by have := (ordS_ok _ _ c (List.mem_of_getElem? hc)).1; omega
        by_cases cc : c.contains t = true
        · refine ifF (out_no cc) (no _ (Same.refl _) ?_)
          rw [List.range_succ, List.filter_append, List.filter_cons, if_neg (by rw [cc]; simp), List.filter_nil, List.append_nil]
        · refine ifT (out_yes cc) ⟨_, rfl, _, rfl, (by show 1 ≤ sizeLine; decide), fun u nu => ?_⟩
          refine ⟨q, u, _, _, rfl, rfl, upd_some nu hq6, upd_same, (by rw [vis_len]; show c.length + 1 ≤ 2 ^ 24; omega), fun p np => ?_⟩
          have Sn : Same H6 (upd (upd H6 u (.lst [.int (ni t)])) p (.lst (vis c ++ [.int (ni t)]))) := (Same.new nu).trans (Same.new np)
          refine yes _ _ (c ++ [t]) Sn ?_ ⟨p, rfl, ?_, ?_⟩
          · rw [List.range_succ, List.filter_append, List.filter_cons, if_pos (by simpa using cc), List.filter_nil, List.map_append]; rfl
          · have hp6 : H6 p = none := (Same.new nu).free np
            rintro (z | z)
            · exact nn (z ▸ hp6)
            · have := S5 _ _ hlo
              rw [← z, hp6] at this
              cases this
          · rw [upd_same, vis_app]; rfl
      · intro H5 zs S5 hzs pz
        have e : (ni n).toNat = n := Int.toNat_natCast n
        rw [e] at pz
        have pz' : Paired (fun v a => RowAt (fun b => b = D ∨ b = lo) H5 v a) zs (extO n c) := pz
        have lz := Paired.length pz'
        have ly := Paired.length py
        have lt := flatO_len n ((ordS n i).take j)
        rw [List.length_take] at lt
        have l1 := extO_len n c
        refine ⟨lo, D, ys, zs, rfl, rfl, S5 _ _ hlo, hzs, ?_, ?_⟩
        · rw [lz, ly]
          have : min j (ordS n i).length * n ≤ 256 * 4 := Nat.mul_le_mul (by omega) hn
          show _ ≤ 2 ^ 24
          omega
        · refine ⟨fun b o eb => ?_, some (.ref q), v5, ys ++ zs, rfl, upd_same, ?_⟩
          · rw [upd_ne (ne_of_none eb nlo)]
            exact S5 _ _ (S3 _ _ eb)
          · rw [take_at hc, List.flatMap_append]
            have up : ∀ b o, ¬ b = lo → H5 b = some o → upd H5 lo (.lst (ys ++ zs)) b = some o := fun b o nb eb => by rw [upd_ne nb]; exact eb
            refine Paired.app (Paired.mapP py fun v a r => kp_row _ _ _ _ _ _ r (fun b o nb eb => up b o nb (S5 _ _ eb)) fun _ n _ => n) ?_
            simp only [List.flatMap_cons, List.flatMap_nil, List.append_nil]
            exact Paired.mapP pz' fun v a r => kp_row _ _ _ _ _ _ r (fun b o nb eb => up b o (fun z => nb (.inr z)) eb) fun b nb _ z => nb (.inr z)
    · rintro σ H3 ⟨S3, v4, v5, ys, rfl, hlo, py⟩
      refine ⟨_, rfl, S.trans S3, lo, _, _, v4, v5, rfl, ys, hlo, id, ?_⟩
      rw [lx, List.take_length] at py
      exact Paired.mapP py fun v a r => kp_row.to0 r
  · rintro σ H1 ⟨S, f, v2, v3, v4, v5, rfl, L⟩
    rw [en, Int.toNat_natCast] at L
    exact ⟨_, rfl, kQ _ _ S ⟨f, rfl, L⟩⟩
theorem fn_allO (T : Txt K mg A) : FnOk P w K mg base CX0 1 A.f_all_orders A.d_all_orders ["pieces"] sp_allO :=
  ok_all_orders T (fun vs H Q E h => by obtain ⟨n, rfl, _⟩ := h; rfl) pure_allO
theorem longP_at {pcs : Pcs} {k : Nat} {p : Nat × List Nat} (h : pcs[k]? = some p) : longP pcs k = p.1 := by unfold longP; rw [h]; rfl
theorem set_vis (l : List Nat) (k n : Nat) : (vis l).set k (.int (ni n)) = vis (l.set k n) := by
  show ((l.map ni).map V.int).set k (.int (ni n)) = ((l.set k n).map ni).map V.int
  rw [List.map_set, List.map_set]
theorem ixN_nat {n k : Nat} (h : k < n) : ixN n (ni k) = some k := by
  unfold ixN
  have h1 : (0 : Int) ≤ ni k := by unfold ni; omega
  have h2 : (ni k).toNat = k := Int.toNat_natCast k
  have h3 : ni k < (n : Int) := by unfold ni; omega
  rw [if_pos h1, if_pos h3, h2]
theorem pure_begun (T : Txt K mg A) : ∀ vs H Q E, sp_begun A vs H Q E → t_beginnings K A { nx := fun _ H' => Q .non H', rt := Q } (start ["order", "pieces", "begun", "minute", "number"] vs) H := by
  rintro _ H Q E ⟨q, lc, o, pcs, rfl, hq, ⟨ps, hp, _, pp⟩, h4, nd, lt, k⟩
  have lp := Paired.length pp
  refine ⟨(by show 1 ≤ sizeLine; decide), fun z nz => ?_⟩
  have Sz : Same H (upd H z (.lst [.int 0])) := Same.new nz
  refine ⟨_, rfl, lc, _, rfl, .inl (SqL.of (Sz _ _ hp)), z, _, _, rfl, rfl, upd_same, (by rw [lp]; omega), (by rw [lp]; omega), (by rw [lp, Int.toNat_natCast]; show 1 * pcs.length ≤ 2 ^ 24; omega), fun b nb => ?_⟩
  have hb0 : H b = none := Sz.free nb
  have e0 : (List.replicate ((ps.length : Nat) : Int).toNat ([.int 0] : List V)).flatten = vis (begunL pcs (o.take 0)) := by
    rw [List.take_zero, begunL_nil, Int.toNat_natCast, lp]
    unfold vis nis
    rw [List.map_replicate, List.map_replicate, List.flatten_replicate_singleton]
    rfl
  refine ⟨_, rfl, q, rfl, ⟨_, SqL.of (upd_some nb (Sz _ _ hq))⟩, for_it (walk_list (xs := vis o)) (fun i σ H' => Same H H' ∧ ∃ v4 : Option V, σ = [some (.ref q), some (.ref lc), some (.ref b), some (.int (ni (lenP pcs (o.take i)))), v4] ∧ H' b = some (.lst (vis (begunL pcs (o.take i)))))
    ⟨Sz.trans (Same.new nb), none, rfl, by rw [upd_same, ← e0]⟩ (fun i σ H' _ z => SqL.of (z.1 _ _ hq)) ?_ ?_⟩
  · rintro i x σ H1 H2 hi ⟨S, v4, rfl, hb⟩ ⟨rfl, hx⟩
    obtain ⟨n, hn, rfl⟩ := vis_get hx
    have ln := lt n (List.mem_of_getElem? hn)
    have hpn := List.getElem?_eq_getElem ln
    obtain ⟨v, hv, p, dx, u, rfl, _, _, h1, h2⟩ := Paired.ta pp hpn
    have nn : n ∉ o.take i := by
      intro z
      obtain ⟨j, hj, ej⟩ := List.mem_take_iff_getElem.mp z
      obtain ⟨l1, l2⟩ := List.getElem?_eq_some_iff.mp hn
      have lj : j < i := by omega
      exact List.pairwise_iff_getElem.mp nd j i (by omega) l1 lj (ej.trans l2.symm)
    have S2 : Same H (upd H2 b (.lst ((vis (begunL pcs (o.take i))).set n (.int (ni (lenP pcs (o.take i))))))) := fun c o e => by rw [upd_ne (ne_of_none e hb0)]; exact S c o e
    refine ⟨_, rfl, _, rfl, _, rfl, b, _, _, n, rfl, rfl, hb, ixN_nat (by rw [vis_len, begunL_len]; exact ln), _, rfl, _, rfl, _, rfl, lc, _, _, _, rfl, rfl, SqL.of (S2 _ _ hp), atI_nat hv, p, _, dx, _, _, rfl, S2 _ _ h1, T.cl_Piece, T.a_Piece_minutes, lk_Piece_minutes, _, _, rfl, rfl, S2, some (.int (ni n)), ?_, ?_⟩
    · rw [take_at hn, lenP_snoc, longP_at hpn]
      have : ni (lenP pcs (o.take i) + pcs[n].1) = ni (lenP pcs (o.take i)) + ni pcs[n].1 := by unfold ni; omega
      rw [this]; rfl
    · rw [upd_same, set_vis, take_at hn, begunL_snoc pcs nn]
  · rintro σ H1 ⟨S, v4, rfl, hb⟩
    refine ⟨_, rfl, k _ _ S ⟨b, rfl, hb0, ?_⟩⟩
    rw [vis_len, List.take_length] at hb
    exact hb
theorem fn_begun (T : Txt K mg A) : FnOk P w K mg base CX0 1 A.f_beginnings A.d_beginnings ["order", "pieces"] (sp_begun A) :=
  ok_beginnings T (fun vs H Q E h => by obtain ⟨q, lc, o, pcs, rfl, _⟩ := h; rfl) (pure_begun T)
end
end RC
/-! ### Who is in what; stays -/
namespace RC
open PySem PySem.Spec PyProof.Rows L2
abbrev IsI (_ : Hp) (v : V) (a : Nat) : Prop := v = .int (ni a)
theorem isI_vis {l : List V} {m : List Nat} (h : Paired (fun v a => v = V.int (ni a)) l m) : l = vis m := by
  rw [paired_eq h]
  unfold vis nis
  rw [List.map_map]
  rfl
theorem in_roles (c : List Nat) (a : Nat) : ∀ l : List Nat, (∀ r ∈ l, r < c.length) → (l.map fun r => c.getD r 0).contains a = l.any fun r => c[r]? == some a
  | [], _ => rfl
  | r :: l, h => by
    rw [List.map_cons, List.contains_cons, List.any_cons, in_roles c a l fun r hr => h r (List.mem_cons_of_mem _ hr), get_D (h r List.mem_cons_self)]
    congr 1
    by_cases e : a = c.getD r 0
    · rw [e]; simp
    · rw [beq_eq_false_iff_ne.mpr e]
      symm
      exact beq_eq_false_iff_ne.mpr fun z => e (Option.some.inj z).symm
section
variable {P : Program} {w : World} {K : PySem.W.Frag} {mg : Str → Option Value} {base : Heap} {A : Ad}
theorem pure_isin (T : Txt K mg A) : ∀ vs H Q E, sp_isin A vs H Q E → t_is_in K A { nx := fun _ H' => Q .non H', rt := Q } (start ["who", "casting", "piece", "role"] vs) H := by
  rintro _ H Q E ⟨a, q, v, c, pc, rfl, hq, ⟨p, dx, u, rfl, _, _, h1, h2⟩, lt, hz, k⟩
  refine ⟨_, rfl, _, rfl, p, _, dx, _, _, rfl, h1, T.cl_Piece, T.a_Piece_roles, lk_Piece_roles, u, rfl, ⟨_, SqL.of h2⟩, fun D nD => ?_⟩
  refine lc_gen (walk_list (xs := vis pc.2)) IsI (fun t => (pc.2.take t).map fun r => c.getD r 0) nD (by rw [vis_len]; exact hz) (fun H S => SqL.of (S _ _ h2)) (fun _ _ _ _ r _ => r) rfl ?_ ?_
  · rintro t x H5 H6 ht S5 nn ⟨rfl, hx⟩ Nx yes no
    obtain ⟨r, hr, rfl⟩ := vis_get hx
    refine ⟨rfl, _, rfl, _, rfl, q, _, _, _, rfl, rfl, SqL.of (S5 _ _ hq), at_vis (get_D (lt r (List.mem_of_getElem? hr))), yes _ _ (c.getD r 0) (Same.refl _) ?_ rfl⟩
    rw [take_at hr, List.map_append]; rfl
  · intro H5 zs S5 hzs pz
    have ez := isI_vis pz
    rw [vis_len, List.take_length] at ez
    subst ez
    refine ⟨D, _, rfl, .inl (SqL.of hzs), rfl, flat_vis _, k _ _ S5 ?_⟩
    show V.bl (inV _ _) = _
    rw [in_vis, in_roles c a pc.2 lt]
theorem fn_isin (T : Txt K mg A) : FnOk P w K mg base CX0 1 A.f_is_in A.d_is_in ["who", "casting", "piece"] (sp_isin A) :=
  ok_is_in T (fun vs H Q E h => by obtain ⟨a, q, v, c, pc, rfl, _⟩ := h; rfl) (pure_isin T)
theorem pure_own : ∀ vs H Q E, sp_own A vs H Q E → t_own_pieces K A (sp_isin A) { nx := fun _ H' => Q .non H', rt := Q } (start ["who", "casting", "pieces", "number", "piece"] vs) H := by
  rintro _ H Q E ⟨a, q, lc, c, pcs, rfl, hq, ⟨ps, hp, _, pp⟩, fits, k⟩
  have lp := Paired.length pp
  refine ⟨_, rfl, lc, ps, rfl, SqL.of hp, fun D nD => ?_⟩
  refine lc_gen (walk_enum (xs := ps)) IsI (fun t => (List.range t).filter (inP c pcs a)) nD (by rw [lp]; exact Nat.le_trans fits.1 (by decide)) (fun H S => SqL.of (S _ _ hp)) (fun _ _ _ _ r _ => r) rfl ?_ ?_
  · rintro t x H5 H6 ht S5 nn ⟨u, y, z, rfl, nu, rfl, ey, hz⟩ Nx yes no
    cases ey
    obtain ⟨pc, hpc, pz⟩ := Paired.at pp hz
    have S6 : Same H5 (upd H5 u (.tup [.int (t : Nat), z])) := Same.new nu
    have fp := fits.2 pc (List.mem_of_getElem? hpc)
    refine ⟨u, _, rfl, SqT.of upd_same, rfl, _, _, rfl, _, _, rfl, rfl, rfl, _, rfl, _, rfl, _, rfl, a, q, z, c, pc, rfl, S6 _ _ (S5 _ _ hq), kp_piece.sm (kp_piece.sm pz S5) S6, fp.2, fp.1, fun H7 v S7 ev => ?_⟩
    subst ev
    have ei : inP c pcs a t = pc.2.any fun r => c[r]? == some a := by unfold inP; rw [hpc]; rfl
    refine ⟨_, rfl, ?_⟩
    by_cases cc : inP c pcs a t = true
    · refine ifT (by rw [← ei]; exact cc) ⟨_, rfl, yes _ _ t (S6.trans S7) ?_ rfl⟩
      rw [List.range_succ, List.filter_append, List.filter_cons, if_pos cc, List.filter_nil]
    · refine ifF (by rw [← ei]; simpa using cc) (no _ (S6.trans S7) ?_)
      rw [List.range_succ, List.filter_append, List.filter_cons, if_neg cc, List.filter_nil, List.append_nil]
  · intro H5 zs S5 hzs pz
    have ez := isI_vis pz
    rw [lp] at ez
    subst ez
    refine ⟨D, _, rfl, .inl ⟨SqL.of hzs, fun t nt => k _ _ (S5.trans (Same.new nt)) ⟨t, rfl, upd_same⟩⟩⟩
theorem fn_own (T : Txt K mg A) : FnOk P w K mg base CX0 2 A.f_own_pieces A.d_own_pieces ["who", "casting", "pieces"] (sp_own A) :=
  ok_own_pieces T (fn_isin T) (fun vs H Q E h => by obtain ⟨a, q, lc, c, pcs, rfl, _⟩ := h; rfl) pure_own
theorem vis_ne {l : List Nat} (h : l ≠ []) : 0 < (nis l).length := by
  rw [nis_len]
  exact List.length_pos_iff.mpr h
theorem pure_stay (T : Txt K mg A) : ∀ vs H Q E, sp_stay A vs H Q E → t_stay_for K A { nx := fun _ H' => Q .non H', rt := Q } (start ["own", "begun", "pieces", "comes", "number", "goes", "busy"] vs) H := by
  rintro _ H Q E ⟨t, b, lc, own, bl, pcs, rfl, ht, hb, ⟨ps, hp, _, pp⟩, h4, hbl, lt, k⟩
  refine ⟨_, rfl, t, _, rfl, .inr (SqT.of ht), rfl, _, rfl, ?_⟩
  rw [vis_len]
  by_cases c0 : own.length = 0
  · have e0 : own = [] := List.length_eq_zero_iff.mp c0
    refine ifT (eqNT c0) ⟨Nat.zero_le _, fun l nl => k _ _ (Same.new nl) ⟨l, rfl, nl, ?_⟩⟩
    rw [upd_same]
    unfold stayN
    rw [if_pos e0]
    rfl
  have n0 : own ≠ [] := fun z => c0 (by rw [z]; rfl)
  refine ifF (eqNF c0) ?_
  have lz : ∀ z : List Nat, own.length ≤ sizeLine := fun _ => Nat.le_trans h4 (by decide)
  -- comes
  refine ⟨_, rfl, t, rfl, ⟨_, SqT.of ht⟩, fun D nD => ?_⟩
  refine lc_gen (walk_tup (xs := vis own)) IsI (fun i => (own.take i).map fun k => bl.getD k 0) nD (by rw [vis_len]; exact lz []) (fun H S => SqT.of (S _ _ ht)) (fun _ _ _ _ r _ => r) rfl ?_ ?_
  · rintro i x H5 H6 hi S5 nn ⟨rfl, hx⟩ Nx yes no
    obtain ⟨n, hn, rfl⟩ := vis_get hx
    have ln := lt n (List.mem_of_getElem? hn)
    refine ⟨rfl, _, rfl, _, rfl, b, _, _, _, rfl, rfl, SqL.of (S5 _ _ hb), at_vis (get_D (by omega)), yes _ _ (bl.getD n 0) (Same.refl _) ?_ rfl⟩
    rw [take_at hn, List.map_append]; rfl
  intro H1 z1 S1 hz1 pz1
  have ez := isI_vis pz1
  rw [vis_len, List.take_length] at ez
  subst ez
  refine ⟨D, nis (own.map fun k => bl.getD k 0), rfl, SqL.of hz1, vis_ne (by simpa using n0), fun m hm hle => ?_⟩
  obtain ⟨mc, hmc, rfl⟩ := List.mem_map.mp hm
  have em : mn (own.map fun k => bl.getD k 0) = mc := mn_eq hmc fun y hy => by
    have := hle (ni y) (List.mem_map.mpr ⟨y, hy, rfl⟩)
    unfold ni at this
    omega
  -- goes
  refine ⟨_, rfl, t, rfl, ⟨_, SqT.of (S1 _ _ ht)⟩, fun D2 nD2 => ?_⟩
  refine lc_gen (walk_tup (xs := vis own)) IsI (fun i => (own.take i).map fun k => bl.getD k 0 + longP pcs k) nD2 (by rw [vis_len]; exact lz []) (fun H S => SqT.of (S _ _ (S1 _ _ ht))) (fun _ _ _ _ r _ => r) rfl ?_ ?_
  · rintro i x H5 H6 hi S5 nn ⟨rfl, hx⟩ Nx yes no
    obtain ⟨n, hn, rfl⟩ := vis_get hx
    have ln := lt n (List.mem_of_getElem? hn)
    have hpn := List.getElem?_eq_getElem ln
    obtain ⟨v, hv, p, dx, u, rfl, _, _, g1, g2⟩ := Paired.ta pp hpn
    have S15 := S1.trans S5
    refine ⟨rfl, _, rfl, _, rfl, b, _, _, _, rfl, rfl, SqL.of (S15 _ _ hb), at_vis (get_D (by omega)), _, rfl, _, rfl, lc, _, _, _, rfl, rfl, SqL.of (S15 _ _ hp), atI_nat hv, p, _, dx, _, _, rfl, S15 _ _ g1, T.cl_Piece, T.a_Piece_minutes, lk_Piece_minutes, _, _, rfl, rfl, yes _ _ (bl.getD n 0 + longP pcs n) (Same.refl _) ?_ ?_⟩
    · rw [take_at hn, List.map_append]; rfl
    · rw [longP_at hpn]
      show V.int (ni (bl.getD n 0) + ni pcs[n].1) = V.int (ni (bl.getD n 0 + pcs[n].1))
      congr 1
  intro H2 z2 S2 hz2 pz2
  have ez := isI_vis pz2
  rw [vis_len, List.take_length] at ez
  subst ez
  refine ⟨D2, nis (own.map fun k => bl.getD k 0 + longP pcs k), rfl, SqL.of hz2, vis_ne (by simpa using n0), fun m2 hm2 hle2 => ?_⟩
  obtain ⟨mg2, hmg, rfl⟩ := List.mem_map.mp hm2
  have eg : mx (own.map fun k => bl.getD k 0 + longP pcs k) = mg2 := mx_eq hmg fun y hy => by
    have := hle2 (ni y) (List.mem_map.mpr ⟨y, hy, rfl⟩)
    unfold ni at this
    omega
  -- busy
  have S12 := S1.trans S2
  refine ⟨_, rfl, t, rfl, ⟨_, SqT.of (S12 _ _ ht)⟩, fun D3 nD3 => ?_⟩
  refine lc_gen (walk_tup (xs := vis own)) IsI (fun i => (own.take i).map (longP pcs)) nD3 (by rw [vis_len]; exact lz []) (fun H S => SqT.of (S _ _ (S12 _ _ ht))) (fun _ _ _ _ r _ => r) rfl ?_ ?_
  · rintro i x H5 H6 hi S5 nn ⟨rfl, hx⟩ Nx yes no
    obtain ⟨n, hn, rfl⟩ := vis_get hx
    have ln := lt n (List.mem_of_getElem? hn)
    have hpn := List.getElem?_eq_getElem ln
    obtain ⟨v, hv, p, dx, u, rfl, _, _, g1, g2⟩ := Paired.ta pp hpn
    have S15 := S12.trans S5
    refine ⟨rfl, _, rfl, _, rfl, lc, _, _, _, rfl, rfl, SqL.of (S15 _ _ hp), atI_nat hv, p, _, dx, _, _, rfl, S15 _ _ g1, T.cl_Piece, T.a_Piece_minutes, lk_Piece_minutes, yes _ _ (longP pcs n) (Same.refl _) ?_ ?_⟩
    · rw [take_at hn, List.map_append]; rfl
    · rw [longP_at hpn]
  intro H3 z3 S3 hz3 pz3
  have ez := isI_vis pz3
  rw [vis_len, List.take_length] at ez
  subst ez
  refine ⟨D3, nis (own.map (longP pcs)), rfl, SqL.of hz3, ?_⟩
  refine ⟨_, rfl, _, rfl, _, rfl, _, rfl, _, _, rfl, rfl, _, rfl, _, _, rfl, rfl, (by show 3 ≤ sizeLine; decide), fun l nl => ?_⟩
  have S13 := S12.trans S3
  refine k _ _ (S13.trans (Same.new nl)) ⟨l, rfl, S13.free nl, ?_⟩
  rw [upd_same]
  unfold stayN
  rw [if_neg n0, em, eg, sum_ni]
  rfl
theorem fn_stay (T : Txt K mg A) : FnOk P w K mg base CX0 1 A.f_stay_for A.d_stay_for ["own", "begun", "pieces"] (sp_stay A) :=
  ok_stay_for T (fun vs H Q E h => by obtain ⟨t, b, lc, own, bl, pcs, rfl, _⟩ := h; rfl) (pure_stay T)
end
end RC
/-! ### What a stay costs, what is wrong with it; what is wrong with an order -/
namespace RC
open PySem PySem.Spec PyProof.Rows L2
abbrev ZsL := Lof RowI
def sp_scost (A : Ad) : Sp := fun vs H Q _ => ∃ (q : Addr) (v : V) (z : List Int) (pl : Uw02.Player × (Nat × Nat × Nat)), vs = [.ref q, v] ∧ H q = some (.lst (z.map V.int)) ∧ PlayerAt A N0 H v pl ∧ Stay z ∧ pl.2.1 ≤ 1000 ∧ Gives H Q fun _ v => v = .int (costS z pl.2)
def sp_wstay (A : Ad) : Sp := fun vs H Q _ => ∃ (q : Addr) (v : V) (z : List Int) (pl : Uw02.Player × (Nat × Nat × Nat)), vs = [.ref q, v] ∧ H q = some (.lst (z.map V.int)) ∧ PlayerAt A N0 H v pl ∧ Stay z ∧ Gives H Q fun _ v => v = .int (ni (wrongS z pl.2))
def staysL (h : Uw07.House) (c o : List Nat) : List (List Int) := (List.range h.hours.length).map (stayS (h.day c) o)
def sp_stays (A : Ad) : Sp := fun vs H Q _ => ∃ (q qo lp lc : Addr) (c o : List Nat) (h : Uw07.House), vs = [.ref q, .ref qo, .ref lp, .ref lc] ∧ H q = some (.lst (vis c)) ∧ H qo = some (.lst (vis o)) ∧ PlL A N0 H lp (plz h) ∧ PcL A N0 H lc h.pieces ∧ HOK h ∧ CO h c ∧ IsO h.pieces.length o ∧
  Gives H Q fun H' v => ∃ l, v = .ref l ∧ ZsL N0 H' l (staysL h c o)
def sp_ocost (A : Ad) : Sp := fun vs H Q _ => ∃ (ls lp : Addr) (c o : List Nat) (h : Uw07.House), vs = [.ref ls, .ref lp] ∧ ZsL N0 H ls (staysL h c o) ∧ PlL A N0 H lp (plz h) ∧ HOK h ∧ Gives H Q fun _ v => v = .int (ni ((h.day c).cost o))
def optV : Option Nat → V
  | none => .non
  | some i => .int (ni i)
def sp_broken : Sp := fun vs H Q _ => ∃ (q la : Addr) (o : List Nat) (prs : List (Nat × Nat)), vs = [.ref q, .ref la] ∧ H q = some (.lst (vis o)) ∧ PrL N0 H la prs ∧ (∀ x ∈ prs, x.1 ∈ o ∧ x.2 ∈ o) ∧ Gives H Q fun _ v => v = optV (bp o prs)
def nums2 : Option (Nat × Nat) → List Nat
  | none => []
  | some x => [x.1, x.2]
def sp_wrongO (A : Ad) : Sp := fun vs H Q _ => ∃ (q la ls lp : Addr) (c o : List Nat) (h : Uw07.House), vs = [.ref q, .ref la, .ref ls, .ref lp] ∧ H q = some (.lst (vis o)) ∧ PrL N0 H la h.ahead ∧ ZsL N0 H ls (staysL h c o) ∧ PlL A N0 H lp (plz h) ∧ HOK h ∧ IsO h.pieces.length o ∧
  Gives H Q fun H' v => ∃ l, v = .ref l ∧ H' l = some (.lst (vis (nums2 ((h.day c).wrong o))))
theorem rise_len : ∀ (l : List Nat) (a m : Nat), Uw02.rising (a :: l) = true → (∀ r ∈ a :: l, r < m) → a + l.length < m
  | [], a, m, _, h => by simpa using h
  | b :: l, a, m, hr, h => by
    have hr2 : (decide (a < b) && Uw02.rising (b :: l)) = true := hr
    rw [Bool.and_eq_true, decide_eq_true_iff] at hr2
    have := rise_len l b m hr2.2 fun r hr => h r (List.mem_cons_of_mem _ hr)
    simp
    omega
theorem Fits.of {h : Uw07.House} {c : List Nat} (ok : HOK h) (co : CO h c) : Fits c h.pieces := by
  refine ⟨ok.pieces, fun p hp => ?_⟩
  have hr := (ok_roles (ok.pieceR p hp))
  have all : ∀ r ∈ p.2, r < c.length := fun r hr' => by
    rw [co.1]
    exact of_decide_eq_true (List.all_eq_true.mp hr.2 r hr')
  refine ⟨?_, all⟩
  have h5 : c.length ≤ 5 := by rw [co.1]; exact ok.dress
  show _ ≤ 2 ^ 24
  cases e : p.2 with
  | nil => exact Nat.zero_le _
  | cons a l =>
    rw [e] at hr all
    have := rise_len l a c.length hr.1 all
    simp
    omega
theorem own_ok (c : List Nat) (pcs : Pcs) (a : Nat) (h4 : pcs.length ≤ 4) : (ownL c pcs a).length ≤ 4 ∧ ∀ k ∈ ownL c pcs a, k < pcs.length := by
  refine ⟨?_, fun k hk => List.mem_range.mp (List.mem_filter.mp hk).1⟩
  unfold ownL
  exact Nat.le_trans (List.length_filter_le _ _) (by simpa using h4)
theorem idx_ok {o : List Nat} {k : Nat} (h : k ∈ o) : (vis o)[o.idxOf k]? = some (.int (ni k)) ∧ ∀ (m : Nat) (z : V), m < o.idxOf k → (vis o)[m]? = some z → eqV z (.int (ni k)) = false := by
  have hl := List.idxOf_lt_length_of_mem h
  refine ⟨get_vis (by rw [List.getElem?_eq_getElem hl, List.getElem_idxOf]), fun m z hm hz => ?_⟩
  obtain ⟨n, hn, rfl⟩ := vis_get hz
  obtain ⟨l1, l2⟩ := List.getElem?_eq_some_iff.mp hn
  show (ni n == ni k) = false
  refine beq_eq_false_iff_ne.mpr fun e => ?_
  have e2 : n = k := by unfold ni at e; omega
  have := List.not_of_lt_findIdx (p := (· == k)) (xs := o) (i := m) hm
  rw [l2, e2] at this
  simp at this
section
variable {P : Program} {w : World} {K : PySem.W.Frag} {mg : Str → Option Value} {base : Heap} {A : Ad}
theorem pure_scost (T : Txt K mg A) : ∀ vs H Q E, sp_scost A vs H Q E → t_stay_cost K A { nx := fun _ H' => Q .non H', rt := Q } (start ["stay", "player"] vs) H := by
  rintro _ H Q E ⟨q, v, z, pl, rfl, hq, ⟨p, dx, u, rfl, _, _, h1, h2⟩, st, hr, k⟩
  refine ⟨_, rfl, Nat.zero_le _, fun e ne => ⟨q, e, _, rfl, rfl, SqL.of (upd_some ne hq), SqL.of upd_same, _, rfl, ?_⟩⟩
  have S : Same H (upd H e (.lst [])) := Same.new ne
  rcases st with rfl | ⟨a, b, r, rfl⟩
  · exact ifT rfl (k _ _ S rfl)
  · refine ifF rfl ⟨_, rfl, p, _, dx, _, _, rfl, S _ _ h1, T.cl_Player, T.a_Player_rate, lk_Player_rate, _, rfl, q, _, _, _, rfl, rfl, SqL.of (S _ _ hq), atI_nat (j := 1) rfl, _, rfl, q, _, _, _, rfl, rfl, SqL.of (S _ _ hq), atI_nat (j := 0) rfl, _, _, rfl, rfl, _, _, rfl, rfl, .inl ?_, k _ _ S rfl⟩
    unfold ni
    constructor <;> omega
theorem fn_scost (T : Txt K mg A) : FnOk P w K mg base CX0 1 A.f_stay_cost A.d_stay_cost ["stay", "player"] (sp_scost A) :=
  ok_stay_cost T (fun vs H Q E h => by obtain ⟨q, v, z, pl, rfl, _⟩ := h; rfl) (pure_scost T)
theorem pure_wstay (T : Txt K mg A) : ∀ vs H Q E, sp_wstay A vs H Q E → t_wrong_with_stay K A { nx := fun _ H' => Q .non H', rt := Q } (start ["stay", "player"] vs) H := by
  rintro _ H Q E ⟨q, v, z, pl, rfl, hq, ⟨p, dx, u, rfl, _, _, h1, h2⟩, st, k⟩
  refine ⟨_, rfl, Nat.zero_le _, fun e ne => ⟨q, e, _, rfl, rfl, SqL.of (upd_some ne hq), SqL.of upd_same, _, rfl, ?_⟩⟩
  have S : Same H (upd H e (.lst [])) := Same.new ne
  rcases st with rfl | ⟨a, b, r, rfl⟩
  · exact ifT rfl (k _ _ S rfl)
  · refine ifF rfl ⟨_, rfl, q, _, _, _, rfl, rfl, SqL.of (S _ _ hq), atI_nat (j := 0) rfl, _, rfl, p, _, dx, _, _, rfl, S _ _ h1, T.cl_Player, T.a_Player_since, lk_Player_since, _, _, rfl, rfl, _, rfl, ?_⟩
    have ew : wrongS (a :: b :: r) pl.2 = if a < ni pl.2.2.1 then 2 else if ni pl.2.2.2 < b then 3 else 0 := rfl
    rw [ew] at k
    by_cases c1 : a < ni pl.2.2.1
    · exact ifT (decide_eq_true c1) (k _ _ S (by rw [if_pos c1]; rfl))
    · refine ifF (decide_eq_false c1) ⟨_, rfl, q, _, _, _, rfl, rfl, SqL.of (S _ _ hq), atI_nat (j := 1) rfl, _, rfl, p, _, dx, _, _, rfl, S _ _ h1, T.cl_Player, T.a_Player_till, lk_Player_till, _, _, rfl, rfl, _, rfl, ?_⟩
      by_cases c2 : ni pl.2.2.2 < b
      · exact ifT (decide_eq_true c2) (k _ _ S (by rw [if_neg c1, if_pos c2]; rfl))
      · exact ifF (decide_eq_false c2) (k _ _ S (by rw [if_neg c1, if_neg c2]; rfl))
theorem fn_wstay (T : Txt K mg A) : FnOk P w K mg base CX0 1 A.f_wrong_with_stay A.d_wrong_with_stay ["stay", "player"] (sp_wstay A) :=
  ok_wrong_with_stay T (fun vs H Q E h => by obtain ⟨q, v, z, pl, rfl, _⟩ := h; rfl) (pure_wstay T)
theorem pure_stays : ∀ vs H Q E, sp_stays A vs H Q E → t_stays_of_all K A (sp_begun A) (sp_stay A) (sp_own A) { nx := fun _ H' => Q .non H', rt := Q } (start ["casting", "order", "players", "pieces", "begun", "who"] vs) H := by
  rintro _ H Q E ⟨q, qo, lp, lc, c, o, h, rfl, hq, ho, ⟨ps, hp, _, pp⟩, L, ok, co, io, k⟩
  refine ⟨_, rfl, _, rfl, qo, lc, o, h.pieces, rfl, ho, L, ok.pieces, io.1, io.2.1, fun H1 v S1 z => ?_⟩
  obtain ⟨b, rfl, nb, hb⟩ := z
  have np : ps.length = h.hours.length := by rw [Paired.length pp, plz_len ok]
  have h4 := ok.hours
  refine ⟨_, rfl, lp, _, rfl, .inl (SqL.of (S1 _ _ hp)), _, rfl, (by omega), (by omega), fun D nD => ?_⟩
  refine lc_gen walk_up (fun H v a => RowI (· = D) H v a) (fun t => (List.range t).map (stayS (h.day c) o)) nD (by rw [Int.toNat_natCast, np]; exact Nat.le_trans h4 (by decide)) (fun _ _ => True.intro) (fun H H' v a r bt => kp_rowI _ _ _ _ _ _ r (fun c o n e => bt c o n e) fun _ n _ => n) rfl ?_ ?_
  · rintro t x H5 H6 ht S5 nn ⟨eH, ex⟩ Nx yes no
    subst eH
    subst ex
    have lt : t < h.hours.length := by rw [Int.toNat_natCast, np] at ht; exact ht
    have S15 := S1.trans S5
    refine ⟨rfl, _, rfl, _, rfl, _, rfl, t, q, lc, c, h.pieces, rfl, S15 _ _ hq, L.same kp_piece S15, Fits.of ok co, fun H7 v S7 z => ?_⟩
    obtain ⟨u, rfl, hu⟩ := z
    have S17 := S15.trans S7
    have oo := own_ok c h.pieces t ok.pieces
    refine ⟨_, rfl, _, rfl, u, b, lc, _, _, h.pieces, rfl, hu, S7 _ _ (S5 _ _ hb), L.same kp_piece S17, oo.1, begunL_len _ _, oo.2, fun H8 v S8 z => ?_⟩
    obtain ⟨l, rfl, nl, hl⟩ := z
    rw [stayN_eq h c lt io] at hl
    refine yes _ _ _ (S7.trans S8) ?_ ⟨l, rfl, ?_, hl⟩
    · rw [List.range_succ, List.map_append]; rfl
    · intro z
      have n6 : H6 l = none := S7.free nl
      rw [z] at n6
      exact nn n6
  · intro H5 zs S5 hzs pz
    rw [Int.toNat_natCast, np] at pz
    exact k _ _ (S1.trans S5) ⟨D, rfl, zs, hzs, id, Paired.mapP pz fun v a r => kp_rowI.to0 r⟩
theorem fn_stays (T : Txt K mg A) : FnOk P w K mg base CX0 3 A.f_stays_of_all A.d_stays_of_all ["casting", "order", "players", "pieces"] (sp_stays A) :=
  ok_stays_of_all T (fn_begun T) (fn_stay T) (fn_own T) (fun vs H Q E h => by obtain ⟨q, qo, lp, lc, c, o, h, rfl, _⟩ := h; rfl) pure_stays
theorem hr_at {h : Uw07.House} {i : Nat} {pl : Uw02.Player × (Nat × Nat × Nat)} (e : (plz h)[i]? = some pl) : pl.2 = hrA h i := by
  rw [List.getElem?_zip_eq_some] at e
  unfold hrA
  rw [e.2]; rfl
theorem stays_at {h : Uw07.House} {c o : List Nat} {i : Nat} {z : List Int} (e : (staysL h c o)[i]? = some z) : z = stayS (h.day c) o i := by
  unfold staysL at e
  rw [List.getElem?_map] at e
  cases q : (List.range h.hours.length)[i]? with
  | none => rw [q] at e; cases e
  | some j =>
    rw [q] at e
    have l1 := (List.getElem?_eq_some_iff.mp q).1
    rw [List.getElem?_range (by simpa using l1)] at q
    cases q
    exact (Option.some.inj e).symm
theorem stays_len (h : Uw07.House) (c o : List Nat) : (staysL h c o).length = h.hours.length := by simp [staysL]
theorem pure_ocost : ∀ vs H Q E, sp_ocost A vs H Q E → t_order_cost K A (sp_scost A) { nx := fun _ H' => Q .non H', rt := Q } (start ["stays", "players", "stay", "player"] vs) H := by
  rintro _ H Q E ⟨ls, lp, c, o, h, rfl, ⟨zs, hz, _, pz⟩, ⟨ps, hp, _, pp⟩, ok, k⟩
  have l1 := Paired.length pz
  have l2 := Paired.length pp
  rw [stays_len] at l1
  rw [plz_len ok] at l2
  have h4 := ok.hours
  refine ⟨_, rfl, _, rfl, ls, lp, zs, ps, rfl, SqL.of hz, SqL.of hp, fun D nD => ?_⟩
  refine lc_gen (walk_zip (xs := zs) (ys := ps) (n := h.hours.length) (by omega)) (fun _ v (a : Int) => v = .int a) (fun t => (List.range t).map (csA h c o)) nD (Nat.le_trans h4 (by decide)) (fun H S => ⟨SqL.of (S _ _ hz), SqL.of (S _ _ hp)⟩) (fun _ _ _ _ r _ => r) rfl ?_ ?_
  · rintro t x H5 H6 ht S5 nn ⟨u, y, z, rfl, nu, rfl, hy, hx⟩ Nx yes no
    obtain ⟨st, hst, q, rfl, _, hq⟩ := Paired.at pz hy
    obtain ⟨pl, hpl, pv⟩ := Paired.at pp hx
    have S6 : Same H5 (upd H5 u (.tup [.ref q, z])) := Same.new nu
    have est := stays_at hst
    have epl := hr_at hpl
    have hrt : pl.2.1 ≤ 1000 := by
      rw [List.getElem?_zip_eq_some] at hpl
      exact (ok.rate _ (List.mem_of_getElem? hpl.2)).1
    refine ⟨u, _, rfl, SqT.of upd_same, rfl, _, _, rfl, _, _, rfl, rfl, rfl, _, rfl, _, rfl, q, z, st, pl, rfl, S6 _ _ (S5 _ _ hq), kp_player.sm (kp_player.sm pv S5) S6, by rw [est]; exact stay_S _ _ _, hrt, fun H7 v S7 ev => ?_⟩
    refine yes _ _ (costS st pl.2) (S6.trans S7) ?_ ev
    rw [List.range_succ, List.map_append, est, epl]; rfl
  · intro H5 ys S5 hys py
    have ey := paired_eq py
    subst ey
    refine ⟨D, _, rfl, SqL.of hys, k _ _ S5 ?_⟩
    rw [dcost_eq]
theorem fn_ocost (T : Txt K mg A) : FnOk P w K mg base CX0 2 A.f_order_cost A.d_order_cost ["stays", "players"] (sp_ocost A) :=
  ok_order_cost T (fn_scost T) (fun vs H Q E h => by obtain ⟨ls, lp, c, o, h, rfl, _⟩ := h; rfl) pure_ocost
theorem bp_first {o : List Nat} {prs : List (Nat × Nat)} {i : Nat} {x : Nat × Nat} (hx : prs[i]? = some x) (all : ∀ j y, j < i → prs[j]? = some y → ¬ o.idxOf y.2 < o.idxOf y.1) (q : o.idxOf x.2 < o.idxOf x.1) : bp o prs = some i := by
  unfold bp
  obtain ⟨l1, l2⟩ := List.getElem?_eq_some_iff.mp hx
  rw [List.findIdx?_eq_some_iff_getElem]
  refine ⟨l1, by rw [l2]; exact decide_eq_true q, fun j hj => ?_⟩
  have := all j _ hj (List.getElem?_eq_getElem (by omega))
  simpa using this
theorem bp_none {o : List Nat} {prs : List (Nat × Nat)} (all : ∀ j y, j < prs.length → prs[j]? = some y → ¬ o.idxOf y.2 < o.idxOf y.1) : bp o prs = none := by
  unfold bp
  rw [List.findIdx?_eq_none_iff]
  intro x hx
  obtain ⟨i, hi⟩ := List.mem_iff_getElem?.mp hx
  exact decide_eq_false (all i x (List.getElem?_eq_some_iff.mp hi).1 hi)
theorem pure_broken : ∀ vs H Q E, sp_broken vs H Q E → t_broken_pair K A { nx := fun _ H' => Q .non H', rt := Q } (start ["order", "pairs", "told", "pair"] vs) H := by
  rintro _ H Q E ⟨q, la, o, prs, rfl, hq, ⟨as, ha, _, pa⟩, hin, k⟩
  refine ⟨_, rfl, la, as, rfl, SqL.of ha, for_it (walk_enum (xs := as)) (fun i σ H' => Same H H' ∧ ∃ v2 v3 : Option V, σ = [some (.ref q), some (.ref la), v2, v3] ∧ ∀ j y, j < i → prs[j]? = some y → ¬ o.idxOf y.2 < o.idxOf y.1)
    ⟨Same.refl H, none, none, rfl, fun j _ z => absurd z (Nat.not_lt_zero j)⟩ (fun i σ H' _ z => SqL.of (z.1 _ _ ha)) ?_ ?_⟩
  · rintro i x σ H1 H2 hi ⟨S, v2, v3, rfl, all⟩ ⟨t, y, z, rfl, nt, rfl, ey, hz⟩
    cases ey
    obtain ⟨pr, hpr, u, rfl, _, hu⟩ := Paired.at pa hz
    have S2 : Same H (upd H1 t (.tup [.int (i : Nat), .ref u])) := S.trans (Same.new nt)
    obtain ⟨m1, m2⟩ := hin pr (List.mem_of_getElem? hpr)
    obtain ⟨a1, a2⟩ := idx_ok m1
    obtain ⟨b1, b2⟩ := idx_ok m2
    have hq2 := S2 _ _ hq
    have hu2 := S2 _ _ hu
    refine ⟨t, _, rfl, SqT.of upd_same, rfl, _, _, rfl, _, _, rfl, rfl, _, rfl, .inl ⟨rfl, _, SqL.of hq2⟩, _, rfl, u, _, _, _, rfl, rfl, SqT.of hu2, atI_nat (j := 0) rfl, q, _, _, o.idxOf pr.1, _, rfl, rfl, SqL.of hq2, rfl, flat_vis _, a1, (by simp [eqV]), a2, ?_⟩
    refine ⟨_, rfl, .inl ⟨rfl, _, SqL.of hq2⟩, _, rfl, u, _, _, _, rfl, rfl, SqT.of hu2, atI_nat (j := 1) rfl, q, _, _, o.idxOf pr.2, _, rfl, rfl, SqL.of hq2, rfl, flat_vis _, b1, (by simp [eqV]), b2, _, _, rfl, rfl, _, rfl, ?_⟩
    by_cases cc : o.idxOf pr.2 < o.idxOf pr.1
    · refine ifT (decide_eq_true (by omega)) ⟨_, rfl, k _ _ S2 ?_⟩
      rw [bp_first hpr all cc]; rfl
    · refine ifF (decide_eq_false (by omega)) ⟨S2, _, _, rfl, fun j y hj hy => ?_⟩
      by_cases e : j = i
      · subst e
        rw [hpr] at hy
        cases hy
        exact cc
      · exact all j y (by omega) hy
  · rintro σ H1 ⟨S, v2, v3, rfl, all⟩
    rw [Paired.length pa] at all
    exact k _ _ S (by rw [bp_none all]; rfl)
theorem fn_broken (T : Txt K mg A) : FnOk P w K mg base CX0 1 A.f_broken_pair A.d_broken_pair ["order", "pairs"] sp_broken :=
  ok_broken_pair T (fun vs H Q E h => by obtain ⟨q, la, o, prs, rfl, _⟩ := h; rfl) pure_broken
theorem ahead_in {h : Uw07.House} (ok : HOK h) {o : List Nat} (io : IsO h.pieces.length o) : ∀ x ∈ h.ahead, x.1 ∈ o ∧ x.2 ∈ o := fun x hx => ⟨io.2.2 _ (ok.ahead x hx).1, io.2.2 _ (ok.ahead x hx).2.1⟩
theorem first_wr {h : Uw07.House} {c o : List Nat} {i : Nat} (hi : i < h.hours.length) (all : ∀ j, j < i → wsA h c o j = 0) (q : wsA h c o i ≠ 0) : (List.range h.hours.length).findSome? (wrA h c o) = some (wsA h c o i, i) := by
  have e : List.range h.hours.length = List.range i ++ i :: (List.range h.hours.length).drop (i + 1) := by
    rw [← drop_at (List.getElem?_range hi)]
    conv => lhs; rw [← List.take_append_drop i (List.range h.hours.length)]
    rw [List.take_range, Nat.min_eq_left (by omega)]
  rw [e, List.findSome?_append]
  have n : (List.range i).findSome? (wrA h c o) = none := by
    rw [List.findSome?_eq_none_iff]
    intro j hj
    unfold wrA
    rw [if_pos (all j (List.mem_range.mp hj))]
  rw [n, Option.none_or, List.findSome?_cons]
  have : wrA h c o i = some (wsA h c o i, i) := by unfold wrA; rw [if_neg q]
  rw [this]
theorem none_wr {h : Uw07.House} {c o : List Nat} (all : ∀ j, j < h.hours.length → wsA h c o j = 0) : (List.range h.hours.length).findSome? (wrA h c o) = none := by
  rw [List.findSome?_eq_none_iff]
  intro j hj
  unfold wrA
  rw [if_pos (all j (List.mem_range.mp hj))]
theorem pure_wrongO : ∀ vs H Q E, sp_wrongO A vs H Q E → t_wrong_with_order K A sp_broken (sp_wstay A) { nx := fun _ H' => Q .non H', rt := Q } (start ["order", "pairs", "stays", "players", "told", "who", "player", "wrong"] vs) H := by
  rintro _ H Q E ⟨q, la, ls, lp, c, o, h, rfl, hq, Lr, ⟨zs, hz, _, pz⟩, ⟨ps, hp, _, pp⟩, ok, io, k⟩
  have we := wrong_eq h c o
  have l1 := Paired.length pz
  have l2 := Paired.length pp
  rw [stays_len] at l1
  rw [plz_len ok] at l2
  refine ⟨_, rfl, _, rfl, q, la, o, h.ahead, rfl, hq, Lr, ahead_in ok io, fun H1 v S1 ev => ?_⟩
  subst ev
  have fin : ∀ {H2 : Hp} {x : Option (Nat × Nat)} {l : Addr}, Same H H2 → (h.day c).wrong o = x → H2 l = none → Q (.ref l) (upd H2 l (.lst (vis (nums2 x)))) := fun S e n => k _ _ (S.trans (Same.new n)) ⟨_, rfl, by rw [upd_same, e]⟩
  refine ⟨_, rfl, rfl, _, rfl, ?_⟩
  cases eb : bp o h.ahead with
  | some i =>
    rw [eb] at we
    refine ifT rfl ⟨_, rfl, (by show 2 ≤ sizeLine; decide), fun l nl => ?_⟩
    exact fin S1 we nl
  | none =>
    rw [eb] at we
    simp only at we
    refine ifF rfl ?_
    refine ⟨_, rfl, lp, ps, rfl, SqL.of (S1 _ _ hp), for_it (walk_enum (xs := ps)) (fun i σ H' => Same H H' ∧ ∃ v5 v6 v7 : Option V, σ = [some (.ref q), some (.ref la), some (.ref ls), some (.ref lp), some .non, v5, v6, v7] ∧ ∀ j, j < i → wsA h c o j = 0)
      ⟨S1, none, none, none, rfl, fun j z => absurd z (Nat.not_lt_zero j)⟩ (fun i σ H' _ z => SqL.of (z.1 _ _ hp)) ?_ ?_⟩
    · rintro i x σ H3 H4 hi ⟨S, v5, v6, v7, rfl, all⟩ ⟨t, y, z, rfl, nt, rfl, ey, hx⟩
      cases ey
      obtain ⟨pl, hpl, pv⟩ := Paired.at pp hx
      have hsz : (staysL h c o)[i]? = some (stayS (h.day c) o i) := by
        unfold staysL
        rw [List.getElem?_map, List.getElem?_range (by omega)]
        rfl
      obtain ⟨vz, hvz, u, rfl, _, hu⟩ := Paired.ta pz hsz
      have S2 : Same H (upd H3 t (.tup [.int (i : Nat), z])) := S.trans (Same.new nt)
      refine ⟨t, _, rfl, SqT.of upd_same, rfl, _, _, rfl, _, _, rfl, rfl, _, rfl, _, rfl, ls, _, _, _, rfl, rfl, SqL.of (S2 _ _ hz), atI_nat hvz, _, rfl, u, z, _, pl, rfl, S2 _ _ hu, kp_player.sm pv S2, stay_S _ _ _, fun H5 v S5 ev => ?_⟩
      rw [hr_at hpl] at ev
      have ev2 : v = .int (ni (wsA h c o i)) := ev
      subst ev2
      refine ⟨_, rfl, rfl, _, rfl, ?_⟩
      have S25 := S2.trans S5
      by_cases cc : wsA h c o i = 0
      · refine ifF (by rw [cc]; rfl) ⟨S25, _, _, _, rfl, fun j hj => ?_⟩
        by_cases e : j = i
        · rw [e]; exact cc
        · exact all j (by omega)
      · refine ifT (by have := eqNF (m := wsA h c o i) (n := 0) cc; show (!decide (V.int (ni (wsA h c o i)) = V.int (ni 0))) = true; rw [this]; rfl) ⟨_, rfl, _, rfl, (by show 2 ≤ sizeLine; decide), fun l nl => ?_⟩
        rw [first_wr (by omega) all cc] at we
        exact fin S25 we nl
    · rintro σ H3 ⟨S, v5, v6, v7, rfl, all⟩
      rw [l2] at all
      rw [none_wr all] at we
      refine ⟨Nat.zero_le _, fun l nl => ?_⟩
      exact fin (x := none) S we nl
theorem fn_wrongO (T : Txt K mg A) : FnOk P w K mg base CX0 2 A.f_wrong_with_order A.d_wrong_with_order ["order", "pairs", "stays", "players"] (sp_wrongO A) :=
  ok_wrong_with_order T (fn_broken T) (fn_wstay T) (fun vs H Q E h => by obtain ⟨q, la, ls, lp, c, o, h, rfl, _⟩ := h; rfl) pure_wrongO
end
end RC
/-! ### Rehearsals: costs of players by their pieces, kept -/
namespace RC
open PySem PySem.Spec PyProof.Rows L2
def cV : Option Int → V
  | none => .non
  | some z => .int z
def pcost (y : Nat × Nat × Nat) (z : List Int) : Option Int := if wrongS z y = 0 then some (costS z y) else none
def costsK (h : Uw07.House) (a : Nat) (own : List Nat) : List (Option Int) := (ordK h).map fun o => pcost (hrA h a) (stayN h.pieces (begunL h.pieces o) own)
def EntAt (h : Uw07.House) (G : Addr → Prop) (H : Hp) (e : NestedKey × Addr × V) : Prop := ∃ a own q, e.1 = nkey (ni a) (nis own) ∧ e.2.2 = .ref q ∧ ¬ G q ∧ H q = some (.lst ((costsK h a own).map cV))
/-- the rehearsals at r, what is known at d: no more than B of it; G's things are others', d's among them -/
def RehAt (P : Program) (w : World) (A : Ad) (G : Addr → Prop) (H : Hp) (r d : Addr) (h : Uw07.House) (B : Nat) : Prop :=
  (G d ∧ Tr G H ∧ ¬ G r) ∧ ∃ (dx lp lc lo lt : Addr) (kvs : Ents), H r = some (.ins A.c_Rehearsals dx (fs_Rehearsals (.ref lp) (.ref lc) (.ref lo) (.ref lt) (.ref d))) ∧ PlL A G H lp (plz h) ∧ PcL A G H lc h.pieces ∧ CsL G H lo (ordK h) ∧
    CsL G H lt ((ordK h).map (begunL h.pieces)) ∧ DN P w H d kvs ∧ kvs.length ≤ B ∧ ∀ e ∈ kvs, EntAt h G H e
theorem Same.at {H0 H : Hp} {r : Addr} {o : HO} (S : Same H0 H) (n : H0 r = none) : Same H0 (upd H r o) := fun b u e => by
  rw [upd_ne (ne_of_none e n)]
  exact S b u e
theorem nkey_inj {a b : Nat} {l m : List Nat} (e : nkey (ni a) (nis l) = nkey (ni b) (nis m)) : a = b ∧ l = m := by
  unfold nkey at e
  injection e with e
  injection e with e1 e2
  injection e2 with e2 _
  injection e1 with e1
  injection e2 with e2
  refine ⟨by unfold ni at e1; omega, ?_⟩
  have inj : ∀ (l m : List Nat), (nis l).map NestedKey.num = (nis m).map NestedKey.num → l = m := by
    intro l
    induction l with
    | nil => intro m z; cases m with
      | nil => rfl
      | cons b m => cases z
    | cons a l ih => intro m z; cases m with
      | nil => cases z
      | cons b m =>
        simp only [nis, List.map_cons, List.cons.injEq] at z
        obtain ⟨z1, z2⟩ := z
        injection z1 with z1
        rw [ih m z2]
        congr 1
        unfold ni at z1
        omega
  exact inj l m e2
section
variable {P : Program} {w : World} {A : Ad} {G G' : Addr → Prop} {H H' : Hp} {r d : Addr} {h : Uw07.House} {B B' : Nat}
theorem RehAt.ne (R : RehAt P w A G H r d h B) : r ≠ d := by
  obtain ⟨_, dx, lp, lc, lo, lt, kvs, h1, _, _, _, _, h2, _⟩ := R
  exact ne_of h1 h2.1 (by intro z; cases z)
theorem EntAt.keep {e : NestedKey × Addr × V} (x : EntAt h G H e) (b : ∀ c o, ¬ G c → H c = some o → H' c = some o) (g : ∀ b, ¬ G b → H b ≠ none → ¬ G' b) : EntAt h G' H' e := by
  obtain ⟨a, own, q, e1, e2, n, h1⟩ := x
  exact ⟨a, own, q, e1, e2, g q n (by rw [h1]; simp), b _ _ n h1⟩
/-- all but G's things stays; d holds kvs' -/
theorem RehAt.put {dx lp lc lo lt : Addr} {kvs' : Ents} (h0 : ¬ G r) (h1 : H r = some (.ins A.c_Rehearsals dx (fs_Rehearsals (.ref lp) (.ref lc) (.ref lo) (.ref lt) (.ref d)))) (h2 : PlL A G H lp (plz h)) (h3 : PcL A G H lc h.pieces)
    (h4 : CsL G H lo (ordK h)) (h5 : CsL G H lt ((ordK h).map (begunL h.pieces))) (b : ∀ c o, ¬ G c → H c = some o → H' c = some o) (g : ∀ b, ¬ G b → H b ≠ none → ¬ G' b) (gd : G' d) (t : Tr G' H') (n6 : DN P w H' d kvs') (n7 : kvs'.length ≤ B) (n8 : ∀ e ∈ kvs', EntAt h G' H' e) : RehAt P w A G' H' r d h B :=
  ⟨⟨gd, t, g r h0 (by rw [h1]; simp)⟩, dx, lp, lc, lo, lt, kvs', b _ _ h0 h1, h2.keep kp_player b g, h3.keep kp_piece b g, h4.keep kp_row b g, h5.keep kp_row b g, n6, n7, n8⟩
/-- others change what is theirs, but not d; G' is more -/
theorem RehAt.keep (R : RehAt P w A G H r d h B) (b : ∀ c o, ¬ G c → H c = some o → H' c = some o) (g : ∀ b, ¬ G b → H b ≠ none → ¬ G' b) (gd : G' d) (t : Tr G' H') (hd : ∀ o, H d = some o → H' d = some o) (tp : ∀ c ys, H c = some (.tup ys) → H' c = some (.tup ys)) : RehAt P w A G' H' r d h B := by
  obtain ⟨⟨_, _, h0⟩, dx, lp, lc, lo, lt, kvs, h1, h2, h3, h4, h5, h6, h7, h8⟩ := R
  exact RehAt.put h0 h1 h2 h3 h4 h5 b g gd t ⟨hd _ h6.1, fun e he => (h6.2 e he).keep tp⟩ h7 fun e he => (h8 e he).keep b g
theorem RehAt.same (R : RehAt P w A G H r d h B) (S : Same H H') : RehAt P w A G H' r d h B :=
  R.keep (fun c o _ e => S c o e) (fun _ n _ => n) R.1.1 (fun b gb => by
    cases e : H b with
    | none => exact absurd e (R.1.2.1 b gb)
    | some o => rw [S b o e]; simp) (fun o e => S d o e) fun c ys e => S c _ e
theorem RehAt.more (R : RehAt P w A G H r d h B) (l : B ≤ B') : RehAt P w A G H r d h B' := by
  obtain ⟨h0, dx, lp, lc, lo, lt, kvs, h1, h2, h3, h4, h5, h6, h7, h8⟩ := R
  exact ⟨h0, dx, lp, lc, lo, lt, kvs, h1, h2, h3, h4, h5, h6, Nat.le_trans h7 l, h8⟩
/-- a new thing is none of G's -/
theorem RehAt.fresh (R : RehAt P w A G H r d h B) {x : Addr} (n : H x = none) : ¬ G x := fun z => R.1.2.1 x z n
end
def OwnOk (h : Uw07.House) (own : List Nat) : Prop := own.length ≤ 4 ∧ ∀ k ∈ own, k < h.pieces.length
def sp_pcost (P : Program) (w : World) (A : Ad) : Sp := fun vs H Q _ => ∃ (G : Addr → Prop) (r d t b : Addr) (h : Uw07.House) (B a : Nat) (own o : List Nat), vs = [.ref r, .int (ni a), .ref t, .ref b] ∧ RehAt P w A G H r d h B ∧ HOK h ∧ a < h.hours.length ∧ H t = some (.tup (vis own)) ∧ OwnOk h own ∧ H b = some (.lst (vis (begunL h.pieces o))) ∧
  Gives H Q fun _ v => v = cV (pcost (hrA h a) (stayN h.pieces (begunL h.pieces o) own))
def sp_pcosts (P : Program) (w : World) (A : Ad) : Sp := fun vs H Q _ => ∃ (G : Addr → Prop) (r d t : Addr) (h : Uw07.House) (B a : Nat) (own : List Nat), vs = [.ref r, .int (ni a), .ref t] ∧ RehAt P w A G H r d h B ∧ HOK h ∧ a < h.hours.length ∧ H t = some (.tup (vis own)) ∧ OwnOk h own ∧ B < sizeLine ∧
  ∀ H' q, But d H H' → RehAt P w A G H' r d h (B + 1) → q ≠ d → H' q = some (.lst ((costsK h a own).map cV)) → Q (.ref q) H'
def sp_costs (P : Program) (w : World) (A : Ad) : Sp := fun vs H Q _ => ∃ (G : Addr → Prop) (r d q : Addr) (h : Uw07.House) (B : Nat) (c : List Nat), vs = [.ref r, .ref q] ∧ RehAt P w A G H r d h B ∧ HOK h ∧ CO h c ∧ H q = some (.lst (vis c)) ∧ B + 4 < sizeLine ∧
  ∀ H' t, But d H H' → RehAt P w A G H' r d h (B + 4) → t ≠ d → H' t = some (.lst ((tots h c).map cV)) → Q (.ref t) H'
/-- the cheapest order, as an object -/
def CheapAt (A : Ad) (G : Addr → Prop) (H : Hp) (v : V) (b : Option Uw03.Best) : Prop := match b with
  | none => v = .non
  | some b => ∃ x dx q, v = .ref x ∧ ¬ G x ∧ ¬ G q ∧ H x = some (.ins A.c_Cheapest dx (fs_Cheapest (.int (ni b.cost)) (.int (ni b.many)) (.ref q))) ∧ H q = some (.lst (vis b.order))
theorem kp_cheap {A : Ad} : Kp (CheapAt A) := fun G G' H H' v b h k g => by
  cases b with
  | none => exact h
  | some b =>
    obtain ⟨x, dx, q, e, n1, n2, h1, h2⟩ := h
    exact ⟨x, dx, q, e, g x n1 (by rw [h1]; simp), g q n2 (by rw [h2]; simp), k _ _ n1 h1, k _ _ n2 h2⟩
def sp_cheap (P : Program) (w : World) (A : Ad) : Sp := fun vs H Q _ => ∃ (G : Addr → Prop) (r d q : Addr) (h : Uw07.House) (B : Nat) (c : List Nat), vs = [.ref r, .ref q] ∧ RehAt P w A G H r d h B ∧ HOK h ∧ CO h c ∧ H q = some (.lst (vis c)) ∧ B + 4 < sizeLine ∧
  ∀ H' v, But d H H' → RehAt P w A G H' r d h (B + 4) → CheapAt A G H' v (h.day c).best → Q v H'
def sp_rinit (P : Program) (w : World) (A : Ad) : Sp := fun vs H Q _ => ∃ (r dx lp lc la : Addr) (h : Uw07.House) (H0 : Hp), vs = [.ref r, .ref lp, .ref lc, .ref la] ∧ H0 r = none ∧ Same H0 H ∧ H r = some (.ins A.c_Rehearsals dx []) ∧ PlL A N0 H0 lp (plz h) ∧ PcL A N0 H0 lc h.pieces ∧ PrL N0 H0 la h.ahead ∧ HOK h ∧
  ∀ H' d, Same H0 H' → H0 d = none → RehAt P w A (· = d) H' r d h 0 → Q .non H'
section
variable {P : Program} {w : World} {K : PySem.W.Frag} {mg : Str → Option Value} {base : Heap} {A : Ad}
theorem pure_rinit (T : Txt K mg A) : ∀ vs H Q E, sp_rinit P w A vs H Q E → t_Rehearsals_init P w K A sp_allO sp_broken (sp_begun A) { nx := fun _ H' => Q .non H', rt := Q } (start ["self", "players", "pieces", "pairs", "order"] vs) H := by
  rintro _ H Q E ⟨r, dx, lp, lc, la, h, H0, rfl, n0, S0, h0, Lp, Lc, La, ok, k⟩
  refine ⟨_, rfl, _, rfl, r, _, dx, _, rfl, h0, T.cl_Rehearsals, T.a_Rehearsals_players, (by show 0 < 1000; decide), ?_⟩
  rw [new_Rehearsals_players]
  refine ⟨_, rfl, _, rfl, r, _, dx, _, rfl, upd_same, T.cl_Rehearsals, T.a_Rehearsals_pieces, (by show 1 < 1000; decide), ?_⟩
  rw [new_Rehearsals_pieces, upd_upd]
  have S1 := Same.at (o := .ins A.c_Rehearsals dx [("players", .ref lp), ("pieces", .ref lc)]) S0 n0
  generalize hH1 : upd H r (.ins A.c_Rehearsals dx [("players", .ref lp), ("pieces", .ref lc)]) = H1 at S1 ⊢
  have o1 : H1 r = some (.ins A.c_Rehearsals dx [("players", .ref lp), ("pieces", .ref lc)]) := by rw [← hH1, upd_same]
  have Lc' := Lc
  obtain ⟨cs, hcs, _, pcs⟩ := Lc'
  have h4 := ok.pieces
  refine ⟨_, rfl, lc, _, rfl, .inl (SqL.of (S1 _ _ hcs)), h.pieces.length, ?_, h4, fun H2 v S2 z => ?_⟩
  · rw [Paired.length pcs]; rfl
  obtain ⟨l, rfl, ⟨xs, hl, _, px⟩⟩ := z
  have lx := Paired.length px
  have big := ordS_small h4 h4
  refine ⟨l, rfl, ⟨_, SqL.of hl⟩, fun D nD => ?_⟩
  refine lc_gen (walk_list (xs := xs)) (fun H v a => RowAt (· = D) H v a) (fun t => ((ordS h.pieces.length h.pieces.length).take t).filter fun o => (bp o h.ahead).isNone) nD (by rw [lx]; exact Nat.le_trans big (by decide)) (fun H S => SqL.of (S _ _ hl)) (fun H H' v a r b => row_but r b) rfl ?_ ?_
  · rintro t x H5 H6 ht S5 nn ⟨rfl, hx⟩ Nx yes no
    obtain ⟨o, ho, q, rfl, _, hq⟩ := Paired.at px hx
    have S05 := S1.trans (S2.trans S5)
    have io := ordS_isO (List.mem_of_getElem? ho)
    refine ⟨rfl, _, rfl, _, rfl, q, la, o, h.ahead, rfl, S5 _ _ hq, La.same kp_pair S05, ahead_in ok io, fun H7 v S7 ev => ?_⟩
    subst ev
    refine ⟨rfl, _, rfl, ?_⟩
    cases eb : bp o h.ahead with
    | none =>
      refine ifT rfl ⟨_, rfl, yes _ _ o S7 ?_ ⟨q, rfl, ne_of_none hq nD, S7 _ _ (S5 _ _ hq)⟩⟩
      rw [take_at ho, List.filter_append, List.filter_cons, if_pos (by rw [eb]; rfl), List.filter_nil]
    | some i =>
      refine ifF rfl (no _ S7 ?_)
      rw [take_at ho, List.filter_append, List.filter_cons, if_neg (by rw [eb]; simp), List.filter_nil, List.append_nil]
  intro H3 ys S3 hys py
  rw [lx, List.take_length] at py
  have py' : Paired (RowAt (· = D) H3) ys (ordK h) := py
  have S03 := S1.trans (S2.trans S3)
  have o3 := S3 _ _ (S2 _ _ o1)
  have nD0 : H0 D = none := (S1.trans S2).free nD
  refine ⟨_, rfl, r, _, dx, _, rfl, o3, T.cl_Rehearsals, T.a_Rehearsals_orders, (by show 2 < 1000; decide), ?_⟩
  rw [new_Rehearsals_orders]
  have S4 := Same.at (o := .ins A.c_Rehearsals dx [("players", .ref lp), ("pieces", .ref lc), ("orders", .ref D)]) S03 n0
  have B4 : But r H3 (upd H3 r (.ins A.c_Rehearsals dx [("players", .ref lp), ("pieces", .ref lc), ("orders", .ref D)])) := fun b o n e => by rw [upd_ne n]; exact e
  generalize hH4 : upd H3 r (.ins A.c_Rehearsals dx [("players", .ref lp), ("pieces", .ref lc), ("orders", .ref D)]) = H4 at S4 B4 ⊢
  have o4 : H4 r = some (.ins A.c_Rehearsals dx [("players", .ref lp), ("pieces", .ref lc), ("orders", .ref D)]) := by rw [← hH4, upd_same]
  have rD : D ≠ r := ne_of hys o3 (by intro z; cases z)
  have hD4 : H4 D = some (.lst ys) := B4 _ _ rD hys
  have py4 : Paired (RowAt N0 H4) ys (ordK h) := Paired.mapP py' fun v a z => by
    obtain ⟨q, e, _, hq⟩ := z
    exact ⟨q, e, id, B4 _ _ (ne_of hq o3 (by intro z; cases z)) hq⟩
  -- tables
  refine ⟨_, rfl, r, _, dx, _, _, rfl, o4, T.cl_Rehearsals, T.a_Rehearsals_orders, (lk_miss (by decide +kernel) (lk_miss (by decide +kernel) lk_hit)), D, rfl, ⟨_, SqL.of hD4⟩, fun D2 nD2 => ?_⟩
  have ly := Paired.length py4
  have lk : (ordK h).length ≤ 256 := Nat.le_trans (List.length_filter_le _ _) big
  refine lc_gen (walk_list (xs := ys)) (fun H v a => RowAt (· = D2) H v a) (fun t => ((ordK h).take t).map (begunL h.pieces)) nD2 (by rw [ly]; exact Nat.le_trans lk (by decide)) (fun H S => SqL.of (S _ _ hD4)) (fun H H' v a r b => row_but r b) rfl ?_ ?_
  · rintro t x H5 H6 ht S5 nn ⟨rfl, hx⟩ Nx yes no
    obtain ⟨o, ho, q, rfl, _, hq⟩ := Paired.at py4 hx
    have io := ordS_isO (List.mem_filter.mp (List.mem_of_getElem? ho)).1
    refine ⟨rfl, _, rfl, _, rfl, q, lc, o, h.pieces, rfl, S5 _ _ hq, Lc.same kp_piece (S4.trans S5), h4, io.1, io.2.1, fun H7 v S7 z => ?_⟩
    obtain ⟨u, rfl, nu, hu⟩ := z
    refine yes _ _ _ S7 ?_ ⟨u, rfl, fun z => nn (z ▸ nu), hu⟩
    rw [take_at ho, List.map_append]; rfl
  intro H5 ts S5 hts pt
  rw [ly, List.take_length] at pt
  have S05 := S4.trans S5
  have o5 := S5 _ _ o4
  refine ⟨_, rfl, r, _, dx, _, rfl, o5, T.cl_Rehearsals, T.a_Rehearsals_tables, (by show 3 < 1000; decide), ?_⟩
  rw [new_Rehearsals_tables]
  have S6 := Same.at (o := .ins A.c_Rehearsals dx [("players", .ref lp), ("pieces", .ref lc), ("orders", .ref D), ("tables", .ref D2)]) S05 n0
  have B6 : But r H5 (upd H5 r (.ins A.c_Rehearsals dx [("players", .ref lp), ("pieces", .ref lc), ("orders", .ref D), ("tables", .ref D2)])) := fun b o n e => by rw [upd_ne n]; exact e
  generalize hH6 : upd H5 r (.ins A.c_Rehearsals dx [("players", .ref lp), ("pieces", .ref lc), ("orders", .ref D), ("tables", .ref D2)]) = H6 at S6 B6 ⊢
  have o6 : H6 r = some (.ins A.c_Rehearsals dx [("players", .ref lp), ("pieces", .ref lc), ("orders", .ref D), ("tables", .ref D2)]) := by rw [← hH6, upd_same]
  -- known
  intro d nd
  have rd : r ≠ d := ne_of_none o6 nd
  refine ⟨_, rfl, r, _, dx, _, rfl, upd_some nd o6, T.cl_Rehearsals, T.a_Rehearsals_known, (by show 4 < 1000; decide), ?_⟩
  rw [new_Rehearsals_known]
  have S7 : Same H0 (upd (upd H6 d (dnO P w d [])) r (.ins A.c_Rehearsals dx (fs_Rehearsals (.ref lp) (.ref lc) (.ref D) (.ref D2) (.ref d)))) := Same.at (S6.trans (Same.new nd)) n0
  have B7 : But r H5 (upd (upd H6 d (dnO P w d [])) r (.ins A.c_Rehearsals dx (fs_Rehearsals (.ref lp) (.ref lc) (.ref D) (.ref D2) (.ref d)))) := fun b o n e => by
    rw [upd_ne n]
    exact upd_some nd (B6 b o n e)
  have d5 : ∀ b o, b ≠ r → H5 b = some o → b ≠ d := fun b o n e => ne_of_none (B6 b o n e) nd
  have d0 : H0 d = none := S6.free nd
  refine k _ d S7 d0 ⟨⟨rfl, fun b z => by rw [z, upd_ne rd.symm, upd_same]; simp, rd⟩, dx, lp, lc, D, D2, [], upd_same, ?_, ?_, ?_, ?_, ⟨?_, fun e he => by cases he⟩, Nat.le_refl _, fun e he => by cases he⟩
  · exact Lp.keep kp_player (fun b o _ e => S7 b o e) fun b _ e z => e (by rw [z]; exact d0)
  · exact Lc.keep kp_piece (fun b o _ e => S7 b o e) fun b _ e z => e (by rw [z]; exact d0)
  · have hD5 := S5 _ _ hD4
    refine ⟨ys, B7 _ _ rD hD5, d5 _ _ rD hD5, Paired.mapP py4 fun v a z => ?_⟩
    obtain ⟨q, e, _, hq⟩ := z
    have hq5 := S5 _ _ hq
    have nq : q ≠ r := ne_of hq5 o5 (by intro z; cases z)
    exact ⟨q, e, d5 _ _ nq hq5, B7 _ _ nq hq5⟩
  · have r2 : D2 ≠ r := ne_of hts o5 (by intro z; cases z)
    refine ⟨ts, B7 _ _ r2 hts, d5 _ _ r2 hts, Paired.mapP pt fun v a z => ?_⟩
    obtain ⟨q, e, _, hq⟩ := z
    have nq : q ≠ r := ne_of hq o5 (by intro z; cases z)
    exact ⟨q, e, d5 _ _ nq hq, B7 _ _ nq hq⟩
  · rw [upd_ne rd.symm, upd_same]
theorem fn_rinit (T : Txt K mg A) : FnOk P w K mg base CX0 2 A.f_Rehearsals_init A.d_Rehearsals_init ["self", "players", "pieces", "pairs"] (sp_rinit P w A) :=
  ok_Rehearsals_init T (fn_allO T) (fn_broken T) (fn_begun T) (fun vs H Q E h => by obtain ⟨r, dx, lp, lc, la, h, H0, rfl, _⟩ := h; rfl) (pure_rinit T)
theorem pure_pcost (T : Txt K mg A) : ∀ vs H Q E, sp_pcost P w A vs H Q E → t_Rehearsals_player_cost K A (sp_stay A) (sp_wstay A) (sp_scost A) { nx := fun _ H' => Q .non H', rt := Q } (start ["self", "who", "own", "begun", "stay"] vs) H := by
  rintro _ H Q E ⟨G, r, d, t, b, h, B, a, own, o, rfl, R, ok, ha, ht, oo, hb, k⟩
  obtain ⟨_, dx, lp, lc, lo, lt, kvs, h1, h2, h3, h4, h5, h6, h7, h8⟩ := R
  refine ⟨_, rfl, _, rfl, _, rfl, r, _, dx, _, _, rfl, h1, T.cl_Rehearsals, T.a_Rehearsals_pieces, lk_Rehearsals_pieces, t, b, lc, own, _, h.pieces, rfl, ht, hb, h3.less kp_piece, oo.1, begunL_len _ _, oo.2, fun H1 v S1 z => ?_⟩
  obtain ⟨l, rfl, nl, hl⟩ := z
  obtain ⟨x, y, hx, hy, hxy⟩ := plz_at ok ha
  obtain ⟨ps, hp, _, pp⟩ := (h2.less kp_player).same kp_player S1
  obtain ⟨v, hv, pv⟩ := Paired.ta pp hxy
  have ey : y = hrA h a := hr_at hxy
  refine ⟨_, rfl, _, rfl, r, _, dx, _, _, rfl, S1 _ _ h1, T.cl_Rehearsals, T.a_Rehearsals_players, lk_Rehearsals_players, _, rfl, lp, _, _, _, rfl, rfl, SqL.of hp, atI_nat hv, l, v, _, (x, y), rfl, hl, pv, stay_N _ _ _, fun H2 u S2 eu => ?_⟩
  rw [ey] at eu
  subst eu
  refine ⟨rfl, _, rfl, ?_⟩
  by_cases cc : wrongS (stayN h.pieces (begunL h.pieces o) own) (hrA h a) = 0
  · refine ifF (by rw [cc]; rfl) ⟨_, rfl, _, rfl, r, _, dx, _, _, rfl, S2 _ _ (S1 _ _ h1), T.cl_Rehearsals, T.a_Rehearsals_players, lk_Rehearsals_players, _, rfl, lp, _, _, _, rfl, rfl, SqL.of (S2 _ _ hp), atI_nat hv, l, v, _, (x, y), rfl, S2 _ _ hl, kp_player.sm pv S2, stay_N _ _ _, (ok.rate y (List.mem_of_getElem? hy)).1, fun H3 u S3 eu => ?_⟩
    rw [ey] at eu
    refine k _ _ (S1.trans (S2.trans S3)) ?_
    rw [eu]
    unfold pcost
    rw [if_pos cc]
    rfl
  · refine ifT (by have := eqNF (m := wrongS (stayN h.pieces (begunL h.pieces o) own) (hrA h a)) (n := 0) cc; show (!decide (V.int (ni _) = V.int (ni 0))) = true; rw [this]; rfl) (k _ _ (S1.trans S2) ?_)
    unfold pcost
    rw [if_neg cc]
    rfl
theorem fn_pcost (T : Txt K mg A) : FnOk P w K mg base CX0 2 A.f_Rehearsals_player_cost A.d_Rehearsals_player_cost ["self", "who", "own", "begun"] (sp_pcost P w A) :=
  ok_Rehearsals_player_cost T (fn_stay T) (fn_wstay T) (fn_scost T) (fun vs H Q E h => by obtain ⟨G, r, d, t, b, h, B, a, own, o, rfl, _⟩ := h; rfl) (pure_pcost T)
end
end RC
/-! ### Rehearsals: the costs of a casting's orders, the cheapest -/
namespace RC
open PySem PySem.Spec PyProof.Rows L2
theorem valN_mem {kvs : Ents} {k : NestedKey} {v : V} (e : valN kvs k = some v) : ∃ x ∈ kvs, x.1 = k ∧ x.2.2 = v := by
  unfold valN at e
  cases q : kvs.find? fun e => decide (e.1 = k) with
  | none => rw [q] at e; cases e
  | some x =>
    rw [q] at e
    exact ⟨x, List.mem_of_find?_eq_some q, by simpa using List.find?_some q, Option.some.inj e⟩
theorem valN_new {kvs : Ents} {k : NestedKey} {b : Addr} {v : V} (e : valN kvs k = none) : valN (kvs ++ [(k, b, v)]) k = some v := by
  unfold valN at e ⊢
  rw [List.find?_append]
  rw [Option.map_eq_none_iff.mp e]
  simp
theorem flat_cV (l : List (Option Int)) : (l.map cV).all flatV = true := by
  rw [List.all_eq_true]
  intro v hv
  obtain ⟨z, _, rfl⟩ := List.mem_map.mp hv
  cases z <;> rfl
theorem ordK_len {h : Uw07.House} (ok : HOK h) : (ordK h).length ≤ 256 := Nat.le_trans (List.length_filter_le _ _) (ordS_small ok.pieces ok.pieces)
theorem ordK_isO {h : Uw07.House} {o : List Nat} (ho : o ∈ ordK h) : IsO h.pieces.length o := ordS_isO (List.mem_filter.mp ho).1
section
variable {P : Program} {w : World} {K : PySem.W.Frag} {mg : Str → Option Value} {base : Heap} {A : Ad}
theorem pure_pcosts (T : Txt K mg A) : ∀ vs H Q E, sp_pcosts P w A vs H Q E → t_Rehearsals_player_costs P w K A (sp_pcost P w A) { nx := fun _ H' => Q .non H', rt := Q } (start ["self", "who", "own", "begun"] vs) H := by
  rintro _ H Q E ⟨G, r, d, t, h, B, a, own, rfl, R, ok, ha, ht, oo, hB, k⟩
  have R0 := R
  obtain ⟨⟨gd, tG, nGr⟩, dx, lp, lc, lo, lt, kvs, h1, h2, h3, h4, h5, h6, h7, h8⟩ := R
  refine ⟨_, rfl, _, rfl, (by show 2 ≤ sizeLine; decide), fun u nu => ?_⟩
  have S1 : Same H (upd H u (.tup [.int (ni a), .ref t])) := Same.new nu
  generalize hH1 : upd H u (.tup [.int (ni a), .ref t]) = H1 at S1 ⊢
  have o1 : H1 u = some (.tup [.int (ni a), .ref t]) := by rw [← hH1, upd_same]
  have D1 : DN P w H1 d kvs := ⟨S1 _ _ h6.1, fun e he => (h6.2 e he).keep fun c ys z => S1 c _ z⟩
  refine ⟨_, rfl, r, _, dx, _, _, rfl, S1 _ _ h1, T.cl_Rehearsals, T.a_Rehearsals_known, lk_Rehearsals_known, u, d, kvs, nkey (ni a) (nis own), rfl, rfl, D1, ⟨ni a, nis own, t, rfl, o1, S1 _ _ ht⟩, _, rfl, ?_⟩
  -- what is handed back in the end
  have fin : ∀ {H2 : Hp} {ks : Ents} {q : Addr}, Same H1 H2 ∨ But d H1 H2 → RehAt P w A G H2 r d h (B + 1) → H2 r = some (.ins A.c_Rehearsals dx (fs_Rehearsals (.ref lp) (.ref lc) (.ref lo) (.ref lt) (.ref d))) → H2 t = some (.tup (vis own)) → DN P w H2 d ks → valN ks (nkey (ni a) (nis own)) = some (.ref q) → q ≠ d →
      H2 q = some (.lst ((costsK h a own).map cV)) → tRet (tGetN P w (tFld K (tVar 0) "known") (tTup (tCons (tVar 1) (tCons (tVar 2) tNil)))) { nx := fun _ H' => Q .non H', rt := Q } [some (.ref r), some (.int (ni a)), some (.ref t), none] H2 := by
    intro H2 ks q S R2 g1 gt D2 ev nq hq
    refine ⟨_, rfl, r, _, dx, _, _, rfl, g1, T.cl_Rehearsals, T.a_Rehearsals_known, lk_Rehearsals_known, _, rfl, _, rfl, (by show 2 ≤ sizeLine; decide), fun u2 n2 => ?_⟩
    have S2 : Same H2 (upd H2 u2 (.tup [.int (ni a), .ref t])) := Same.new n2
    refine ⟨d, u2, ks, nkey (ni a) (nis own), .ref q, rfl, rfl, ⟨S2 _ _ D2.1, fun e he => (D2.2 e he).keep fun c ys z => S2 c _ z⟩, ⟨ni a, nis own, t, rfl, upd_same, S2 _ _ gt⟩, ev, ?_⟩
    refine k _ q (fun b o n e => S2 _ _ ?_) (R2.same S2) nq (S2 _ _ hq)
    rcases S with S | S
    · exact S _ _ (S1 _ _ e)
    · exact S _ _ n (S1 _ _ e)
  cases ev : valN kvs (nkey (ni a) (nis own)) with
  | some v =>
    refine ifF rfl ?_
    obtain ⟨e, he, e1, e2⟩ := valN_mem ev
    obtain ⟨a', own', q, e3, e4, nq, hq⟩ := h8 e he
    obtain ⟨rfl, rfl⟩ := nkey_inj (e1.symm.trans e3)
    rw [e2] at e4
    subst e4
    exact fin (.inl (Same.refl _)) ((R0.same S1).more (Nat.le_succ B)) (S1 _ _ h1) (S1 _ _ ht) D1 ev (fun z => nq (z ▸ gd)) (S1 _ _ hq)
  | none =>
    refine ifT rfl ?_
    obtain ⟨ts, hts, ntd, pt⟩ := h5.same kp_row S1
    have lt' := Paired.length pt
    rw [List.length_map] at lt'
    refine ⟨_, rfl, r, _, dx, _, _, rfl, S1 _ _ h1, T.cl_Rehearsals, T.a_Rehearsals_tables, lk_Rehearsals_tables, lt, rfl, ⟨_, SqL.of hts⟩, fun D nD => ?_⟩
    refine lc_gen (walk_list (xs := ts)) (fun _ v (z : Option Int) => v = cV z) (fun i => ((ordK h).take i).map fun o => pcost (hrA h a) (stayN h.pieces (begunL h.pieces o) own)) nD (by rw [lt']; exact Nat.le_trans (ordK_len ok) (by decide)) (fun H S => SqL.of (S _ _ hts)) (fun _ _ _ _ r _ => r) rfl ?_ ?_
    · rintro i x H5 H6 hi S5 nn ⟨rfl, hx⟩ Nx yes no
      obtain ⟨bl, hbl, q, rfl, _, hq⟩ := Paired.at pt hx
      rw [List.getElem?_map] at hbl
      cases ho : (ordK h)[i]? with
      | none => rw [ho] at hbl; cases hbl
      | some o =>
        rw [ho] at hbl
        cases hbl
        have S16 := S1.trans S5
        refine ⟨rfl, _, rfl, r, dx, _, rfl, S16 _ _ h1, no_Rehearsals_player_cost, _, rfl, _, rfl, _, rfl, G, r, d, t, q, h, B, a, own, o, rfl, R0.same S16, ok, ha, S16 _ _ ht, oo, S5 _ _ hq, fun H7 v S7 ev => ?_⟩
        refine yes _ _ _ S7 ?_ ev
        rw [take_at ho, List.map_append]; rfl
    · intro H5 zs S5 hzs pz
      have ez := paired_eq pz
      rw [lt', List.take_length] at ez
      have ez' : zs = (costsK h a own).map cV := ez
      subst ez'
      have S15 := S1.trans S5
      refine ⟨_, rfl, r, _, dx, _, _, rfl, S15 _ _ h1, T.cl_Rehearsals, T.a_Rehearsals_known, lk_Rehearsals_known, _, rfl, _, rfl, (by show 2 ≤ sizeLine; decide), fun u2 n2 => ?_⟩
      have S6 : Same H5 (upd H5 u2 (.tup [.int (ni a), .ref t])) := Same.new n2
      generalize hH6 : upd H5 u2 (.tup [.int (ni a), .ref t]) = H6 at S6 ⊢
      have o6 : H6 u2 = some (.tup [.int (ni a), .ref t]) := by rw [← hH6, upd_same]
      have S16 := S15.trans S6
      have D6 : DN P w H6 d kvs := ⟨S16 _ _ h6.1, fun e he => (h6.2 e he).keep fun c ys z => S16 c _ z⟩
      refine ⟨d, u2, kvs, nkey (ni a) (nis own), rfl, rfl, D6, ⟨ni a, nis own, t, rfl, o6, S16 _ _ ht⟩, ev, Nat.lt_of_le_of_lt h7 hB, ?_⟩
      have Dd : D ≠ d := ne_of hzs (S15 _ _ h6.1) (by intro z; cases z)
      have bt : ∀ X, But d H6 (upd H6 d X) := fun X b o n e => by rw [upd_ne n]; exact e
      have tup : ∀ c ys X, H6 c = some (.tup ys) → upd H6 d X c = some (.tup ys) := fun c ys X e => bt X _ _ (ne_of e D6.1 (by intro z; cases z)) e
      have D7 : DN P w (upd H6 d (dnO P w d (kvs ++ [(nkey (ni a) (nis own), u2, .ref D)]))) d (kvs ++ [(nkey (ni a) (nis own), u2, .ref D)]) := by
        refine ⟨upd_same, fun e he => ?_⟩
        rcases List.mem_append.mp he with he | he
        · exact (D6.2 e he).keep fun c ys z => tup c ys _ z
        · rw [List.mem_singleton.mp he]
          exact ⟨ni a, nis own, t, rfl, tup _ _ _ o6, tup _ _ _ (S16 _ _ ht)⟩
      have rd : r ≠ d := R0.ne
      have td : t ≠ d := ne_of ht h6.1 (by intro z; cases z)
      refine fin (.inr fun b o n e => bt _ _ _ n (S6 _ _ (S5 _ _ e))) ?_ (bt _ _ _ rd (S16 _ _ h1)) (bt _ _ _ td (S16 _ _ ht)) D7 (valN_new ev) Dd (bt _ _ _ Dd (S6 _ _ hzs))
      have bG : ∀ c o, ¬ G c → H c = some o → upd H6 d (dnO P w d (kvs ++ [(nkey (ni a) (nis own), u2, .ref D)])) c = some o := fun c o n e => bt _ _ _ (fun z => n (z ▸ gd)) (S16 _ _ e)
      have gD : ¬ G D := fun z => tG D z (S1.free nD)
      refine RehAt.put nGr h1 h2 h3 h4 h5 bG (fun _ n _ => n) gd (fun b gb => ?_) D7 (by rw [List.length_append]; exact Nat.succ_le_succ h7) fun e he => ?_
      · by_cases z : b = d
        · rw [z, upd_same]; simp
        · cases e : H b with
          | none => exact absurd e (tG b gb)
          | some o => rw [bt _ _ _ z (S16 _ _ e)]; simp
      rcases List.mem_append.mp he with he | he
      · exact (h8 e he).keep bG fun _ n _ => n
      · rw [List.mem_singleton.mp he]
        exact ⟨a, own, D, rfl, rfl, gD, bt _ _ _ Dd (S6 _ _ hzs)⟩
theorem fn_pcosts (T : Txt K mg A) : FnOk P w K mg base CX0 3 A.f_Rehearsals_player_costs A.d_Rehearsals_player_costs ["self", "who", "own"] (sp_pcosts P w A) :=
  ok_Rehearsals_player_costs T (fn_pcost T) (fun vs H Q E h => by obtain ⟨G, r, d, t, h, B, a, own, rfl, _⟩ := h; rfl) (pure_pcosts T)
theorem But.trans {d : Addr} {H H1 H2 : Hp} (a : But d H H1) (b : But d H1 H2) : But d H H2 := fun c o n e => b c o n (a c o n e)
theorem But.same {d : Addr} {H H1 H2 : Hp} (a : But d H H1) (b : Same H1 H2) : But d H H2 := fun c o n e => b c o (a c o n e)
theorem pure_costs (T : Txt K mg A) : ∀ vs H Q E, sp_costs P w A vs H Q E → t_Rehearsals_costs K A (sp_pcosts P w A) (sp_own A) { nx := fun _ H' => Q .non H', rt := Q } (start ["self", "casting", "totals", "who", "added", "total", "cost"] vs) H := by
  rintro _ H Q E ⟨G, r, d, q, h, B, c, rfl, R, ok, co, hq, hB, k⟩
  have R0 := R
  obtain ⟨g0, dx, lp, lc, lo, lt, kvs, h1, h2, h3, h4, h5, h6, h7, h8⟩ := R
  have qd : q ≠ d := ne_of hq h6.1 (by intro z; cases z)
  obtain ⟨os, hos, _, pos⟩ := h4
  have lo' := Paired.length pos
  have l256 := ordK_len ok
  have h44 := ok.hours
  refine ⟨(by show 1 ≤ sizeLine; decide), fun z0 nz => ?_⟩
  have Sz : Same H (upd H z0 (.lst [.int 0])) := Same.new nz
  refine ⟨_, rfl, r, _, dx, _, _, rfl, Sz _ _ h1, T.cl_Rehearsals, T.a_Rehearsals_orders, lk_Rehearsals_orders, lo, _, rfl, .inl (SqL.of (Sz _ _ hos)), z0, _, _, rfl, rfl, upd_same, (by rw [lo']; omega), (by rw [lo']; omega), (by rw [lo', Int.toNat_natCast]; show 1 * (ordK h).length ≤ 2 ^ 24; omega), fun t0 nt0 => ?_⟩
  have S1 := Sz.trans (Same.new (o := .lst (List.replicate ((os.length : Nat) : Int).toNat ([.int 0] : List V)).flatten) nt0)
  have e0 : (List.replicate ((os.length : Nat) : Int).toNat ([.int 0] : List V)).flatten = ((ordK h).map fun o => totO h c o 0).map cV := by
    rw [Int.toNat_natCast, lo', List.flatten_replicate_singleton]
    show _ = ((ordK h).map fun _ => (some 0 : Option Int)).map cV
    rw [List.map_const', List.map_replicate]
    rfl
  obtain ⟨ps, hp, _, pp⟩ := h2
  have np : ps.length = h.hours.length := by rw [Paired.length pp, plz_len ok]
  have t0d : t0 ≠ d := (ne_of_none (Sz _ _ h6.1) nt0).symm
  refine ⟨_, rfl, r, _, dx, _, _, rfl, S1 _ _ h1, T.cl_Rehearsals, T.a_Rehearsals_players, lk_Rehearsals_players, lp, _, rfl, .inl (SqL.of (S1 _ _ hp)), _, rfl, (by omega), (by omega), for_it walk_up (fun i σ H' => But d H H' ∧ RehAt P w A G H' r d h (B + i) ∧ ∃ (tt : Addr) (v3 v4 : Option V), σ = [some (.ref r), some (.ref q), some (.ref tt), v3, v4, none, none] ∧ tt ≠ d ∧
    H' tt = some (.lst (((ordK h).map fun o => totO h c o i).map cV))) ⟨fun b o _ e => S1 b o e, R0.same S1, t0, none, none, rfl, t0d, by rw [upd_same, e0]⟩ (fun _ _ _ _ _ => True.intro) ?_ ?_⟩
  · rintro i x σ H1 H2 hi ⟨b1, R1, tt, v3, v4, rfl, ntt, htt⟩ ⟨eH, ex⟩
    subst eH
    subst ex
    have li : i < h.hours.length := by rw [Int.toNat_natCast, np] at hi; exact hi
    have R1' := R1
    obtain ⟨_, dx1, lp1, lc1, lo1, lt1, kvs1, g1, g2, g3, g4, g5, g6, g7, g8⟩ := R1'
    refine ⟨_, rfl, r, dx1, _, rfl, g1, no_Rehearsals_player_costs, _, rfl, _, rfl, _, rfl, _, rfl, r, _, dx1, _, _, rfl, g1, T.cl_Rehearsals, T.a_Rehearsals_pieces, lk_Rehearsals_pieces, i, q, lc1, c, h.pieces, rfl, b1 _ _ qd hq, g3.less kp_piece, Fits.of ok co, fun H3 v S3 z => ?_⟩
    obtain ⟨u, rfl, hu⟩ := z
    refine ⟨G, r, d, u, h, B + i, i, ownL c h.pieces i, rfl, R1.same S3, ok, li, hu, own_ok _ _ _ ok.pieces, (by omega), fun H4 ad b4 R4 nad had => ?_⟩
    have b24 : But d H2 H4 := fun b o n e => b4 b o n (S3 b o e)
    have htt4 := b24 _ _ ntt htt
    refine ⟨_, rfl, _, rfl, tt, ad, _, _, rfl, SqL.of htt4, SqL.of had, fun D nD => ?_⟩
    refine lc_gen (walk_zip (n := (ordK h).length) (by simp [costsK])) (fun _ v (z : Option Int) => v = cV z) (fun j => ((ordK h).take j).map fun o => totO h c o (i + 1)) nD (Nat.le_trans l256 (by decide)) (fun H S => ⟨SqL.of (S _ _ htt4), SqL.of (S _ _ had)⟩) (fun _ _ _ _ r _ => r) rfl ?_ ?_
    · rintro j x H5 H6 hj S5 nn ⟨u2, y, z, rfl, nu2, rfl, hy, hz⟩ Nx yes no
      simp only at hy hz
      have ho := List.getElem?_eq_getElem hj
      generalize (ordK h)[j] = o at ho
      have io := ordK_isO (List.mem_of_getElem? ho)
      have ey : y = cV (totO h c o i) := by
        rw [List.getElem?_map, List.getElem?_map, ho] at hy
        exact (Option.some.inj hy).symm
      have ez : z = cV (if wsA h c o i = 0 then some (csA h c o i) else none) := by
        unfold costsK at hz
        rw [List.getElem?_map, List.getElem?_map, ho] at hz
        have hz2 := (Option.some.inj hz).symm
        rw [hz2]
        show cV (pcost (hrA h i) (stayN h.pieces (begunL h.pieces o) (ownL c h.pieces i))) = _
        rw [stayN_eq h c li io]
        rfl
      subst ey ez
      have S6 : Same H5 (upd H5 u2 (.tup [cV (totO h c o i), cV (if wsA h c o i = 0 then some (csA h c o i) else none)])) := Same.new nu2
      have ac : ∀ z, totO h c o (i + 1) = z → ((ordK h).take (j + 1)).map (fun o => totO h c o (i + 1)) = ((ordK h).take j).map (fun o => totO h c o (i + 1)) ++ [z] := fun z e => by
        rw [take_at ho, List.map_append, ← e]; rfl
      refine ⟨u2, _, rfl, SqT.of upd_same, rfl, _, _, rfl, _, _, rfl, rfl, rfl, ?_⟩
      cases et : totO h c o i with
      | none =>
        rw [et] at S6
        exact ⟨_, rfl, rfl, _, rfl, ifT rfl (iteT (yes _ _ none S6 (ac none (by rw [totO, et])) rfl))⟩
      | some tv =>
        by_cases cc : wsA h c o i = 0
        · have e3 : (if wsA h c o i = 0 then some (csA h c o i) else none) = some (csA h c o i) := if_pos cc
          rw [et, e3] at S6
          rw [e3]
          refine ⟨_, rfl, rfl, _, rfl, ifF rfl ⟨_, rfl, rfl, _, rfl, ifF rfl ⟨_, rfl, _, rfl, _, _, rfl, rfl, yes _ _ (some (tv + csA h c o i)) S6 (ac _ ?_) rfl⟩⟩⟩
          rw [totO, et]
          simp only
          rw [if_pos cc]
        · have e3 : (if wsA h c o i = 0 then some (csA h c o i) else none) = none := if_neg cc
          rw [et, e3] at S6
          rw [e3]
          refine ⟨_, rfl, rfl, _, rfl, ifF rfl ⟨_, rfl, rfl, _, rfl, ifT rfl (yes _ _ none S6 (ac _ ?_) rfl)⟩⟩
          rw [totO, et]
          simp only
          rw [if_neg cc]
    · intro H5 zs S5 hzs pz
      have ez := paired_eq pz
      rw [List.take_length] at ez
      subst ez
      have Dd : D ≠ d := by
        obtain ⟨_, _, _, _, _, _, kv, _, _, _, _, _, f6, _⟩ := R4
        exact (ne_of_none f6.1 nD).symm
      exact ⟨(b1.trans b24).same S5, R4.same S5, D, some (.int (ni i)), some (.ref ad), rfl, Dd, hzs⟩
  · rintro σ H1 ⟨b1, R1, tt, v3, v4, rfl, ntt, htt⟩
    rw [Int.toNat_natCast, np] at htt R1
    exact ⟨_, rfl, k _ tt b1 (R1.more (by omega)) ntt htt⟩
theorem fn_costs (T : Txt K mg A) : FnOk P w K mg base CX0 4 A.f_Rehearsals_costs A.d_Rehearsals_costs ["self", "casting"] (sp_costs P w A) :=
  ok_Rehearsals_costs T (fn_pcosts T) (fn_own T) (fun vs H Q E h => by obtain ⟨G, r, d, q, h, B, c, rfl, _⟩ := h; rfl) (pure_costs T)
theorem pure_cheap (T : Txt K mg A) : ∀ vs H Q E, sp_cheap P w A vs H Q E → t_Rehearsals_cheapest K A (sp_costs P w A) (sp_Cheapest_init A) { nx := fun _ H' => Q .non H', rt := Q } (start ["self", "casting", "totals", "right", "total", "least"] vs) H := by
  rintro _ H Q E ⟨G, r, d, q, h, B, c, rfl, R, ok, co, hq, hB, k⟩
  have R0 := R
  obtain ⟨g0, dx, lp, lc, lo, lt, kvs, h1, h2, h3, h4, h5, h6, h7, h8⟩ := R
  refine ⟨_, rfl, r, dx, _, rfl, h1, no_Rehearsals_costs, _, rfl, G, r, d, q, h, B, c, rfl, R0, ok, co, hq, hB, fun H1 tt b1 R1 ntt htt => ?_⟩
  have lT : (tots h c).length ≤ 256 := by unfold tots; rw [List.length_map]; exact ordK_len ok
  refine ⟨_, rfl, tt, rfl, ⟨_, SqL.of htt⟩, fun D nD => ?_⟩
  refine lc_gen (walk_list (xs := (tots h c).map cV)) (fun _ v (z : Int) => v = .int z) (fun j => ((tots h c).take j).filterMap id) nD (by rw [List.length_map]; exact Nat.le_trans lT (by decide)) (fun H S => SqL.of (S _ _ htt)) (fun _ _ _ _ r _ => r) rfl ?_ ?_
  · rintro j x H5 H6 hj S5 nn ⟨rfl, hx⟩ Nx yes no
    rw [List.getElem?_map] at hx
    cases ho : (tots h c)[j]? with
    | none => rw [ho] at hx; cases hx
    | some z =>
      rw [ho] at hx
      cases hx
      refine ⟨rfl, _, rfl, rfl, _, rfl, ?_⟩
      cases z with
      | none =>
        refine ifF rfl (no _ (Same.refl _) ?_)
        rw [take_at ho, List.filterMap_append]
        simp
      | some z =>
        refine ifT rfl ⟨_, rfl, yes _ _ z (Same.refl _) ?_ rfl⟩
        rw [take_at ho, List.filterMap_append]
        simp
  intro H2 zs S2 hzs pz
  have ez := paired_eq pz
  rw [List.length_map, List.take_length] at ez
  subst ez
  have b2 := b1.same S2
  have R2 := R1.same S2
  refine ⟨_, rfl, Nat.zero_le _, fun e ne => ⟨D, e, _, rfl, rfl, SqL.of (upd_some ne hzs), SqL.of upd_same, _, rfl, ?_⟩⟩
  have S3 : Same H2 (upd H2 e (.lst [])) := Same.new ne
  generalize hH3 : upd H2 e (.lst []) = H3 at S3 ⊢
  have fm := tots_fm h c
  by_cases c0 : (tots h c).filterMap id = []
  · refine ifT (by rw [c0]; rfl) (k _ _ (b2.same S3) (R2.same S3) ?_)
    have : (h.day c).all = [] := by rw [c0] at fm; exact List.map_eq_nil_iff.mp fm.symm
    rw [best_none this]
    rfl
  have n0 : 0 < ((tots h c).filterMap id).length := List.length_pos_iff.mpr c0
  refine ifF (by cases q : (tots h c).filterMap id with | nil => exact absurd q c0 | cons a l => rfl) ?_
  refine ⟨_, rfl, D, (tots h c).filterMap id, rfl, SqL.of (S3 _ _ hzs), n0, fun m hm hle => ?_⟩
  obtain ⟨m, rfl⟩ : ∃ n : Nat, m = ni n := by
    rw [fm] at hm
    obtain ⟨o, _, e⟩ := List.mem_map.mp hm
    exact ⟨_, e.symm⟩
  have mem : some (ni m) ∈ tots h c := by
    obtain ⟨x, hx, ex⟩ := List.mem_filterMap.mp hm
    have : x = some (ni m) := ex
    rw [← this]; exact hx
  have jl := List.idxOf_lt_length_of_mem mem
  have j3 : (tots h c)[(tots h c).idxOf (some (ni m))]? = some (some (ni m)) := by rw [List.getElem?_eq_getElem jl, List.getElem_idxOf]
  have j4 : ∀ i, i < (tots h c).idxOf (some (ni m)) → (tots h c)[i]? ≠ some (some (ni m)) := fun i hi z => by
    obtain ⟨l1, l2⟩ := List.getElem?_eq_some_iff.mp z
    have := List.not_of_lt_findIdx (p := (· == some (ni m))) (xs := tots h c) (i := i) hi
    rw [l2] at this
    simp at this
  obtain ⟨o, ho, eb⟩ := best_some hm hle j3 j4
  have R3 := R2.same S3
  have R3' := R3
  obtain ⟨_, dx3, lp3, lc3, lo3, lt3, kvs3, g1, g2, g3, g4, g5, g6, g7, g8⟩ := R3'
  obtain ⟨os, hos, _, pos⟩ := g4
  obtain ⟨vo, hvo, qo, rfl, nqo, hqo⟩ := Paired.ta pos ho
  have htt3 := S3 _ _ (S2 _ _ htt)
  refine ⟨_, rfl, _, rfl, .inl ⟨rfl, _, SqL.of (S3 _ _ hzs)⟩, _, rfl, D, _, _, rfl, rfl, SqL.of (S3 _ _ hzs), _, rfl, r, _, dx3, _, _, rfl, g1, T.cl_Rehearsals, T.a_Rehearsals_orders, lk_Rehearsals_orders, _, rfl, .inl ⟨rfl, _, SqL.of htt3⟩, _, rfl, tt, _, _, (tots h c).idxOf (some (ni m)), .int (ni m), rfl, rfl, SqL.of htt3, rfl, flat_cV _, ?_, (by simp [eqV]), ?_, ?_⟩
  · rw [List.getElem?_map, j3]; rfl
  · intro i z' hi hz'
    rw [List.getElem?_map] at hz'
    cases q : (tots h c)[i]? with
    | none => rw [q] at hz'; cases hz'
    | some y =>
      rw [q] at hz'
      cases hz'
      cases y with
      | none => rfl
      | some y =>
        show (y == ni m) = false
        refine beq_eq_false_iff_ne.mpr fun z => j4 i hi ?_
        rw [q, z]
  refine ⟨lo3, _, _, _, rfl, rfl, SqL.of hos, atI_nat hvo, ?_⟩
  intro x dx' nx ndx nex
  refine ⟨x, dx', _, _, _, rfl, upd_same, rfl, ?_⟩
  rw [upd_upd]
  have S4 : Same H3 (upd (upd H3 dx' (.own x)) x (.ins A.c_Cheapest dx' (fs_Cheapest (.int (ni m)) (.int (((tots h c).filterMap id).count (ni m) : Nat)) (.ref qo)))) := Same.rec nx ndx
  refine k _ _ ((b2.same S3).same S4) (R3.same S4) ?_
  rw [eb]
  exact ⟨x, dx', qo, rfl, R3.fresh nx, nqo, upd_same, S4 _ _ hqo⟩
theorem fn_cheap (T : Txt K mg A) : FnOk P w K mg base CX0 5 A.f_Rehearsals_cheapest A.d_Rehearsals_cheapest ["self", "casting"] (sp_cheap P w A) :=
  ok_Rehearsals_cheapest T (fn_costs T) (fn_Cheapest_init T) (fun vs H Q E h => by obtain ⟨G, r, d, q, h, B, c, rfl, _⟩ := h; rfl) (pure_cheap T)
end
end RC
/-! ### Plans -/
namespace RC
open PySem PySem.Spec PyProof.Rows L2
abbrev pis (l : List Int) : List V := l.map V.int
def sp_rowF : Sp := fun vs H Q _ => ∃ (q : Addr) (z : List Int), vs = [.ref q] ∧ H q = some (.lst (pis z)) ∧ z.length ≤ 1000 ∧ Gives H Q fun H' v => ∃ l, v = .ref l ∧ H l = none ∧ H' l = some (.lst (pis (ni z.length :: z)))
def sp_iscast (A : Ad) : Sp := fun vs H Q _ => ∃ (q a : Addr) (F : Addr → Prop) (h : Uw07.House) (p : Pl) (c : List Nat), vs = [.ref q, .ref a] ∧ H q = some (.lst (vis c)) ∧ PlayAt A F H a h p ∧ c.length ≤ 20 ∧ Gives H Q fun _ v => v = .bl (Uw07.castOk h c)
def sp_isord (A : Ad) : Sp := fun vs H Q _ => ∃ (q a : Addr) (F : Addr → Prop) (h : Uw07.House) (p : Pl) (o : List Nat), vs = [.ref q, .ref a] ∧ H q = some (.lst (vis o)) ∧ PlayAt A F H a h p ∧ o.length ≤ 20 ∧ Gives H Q fun _ v => v = .bl (Uw07.orderOk h o)
def sp_planI (A : Ad) : Sp := fun vs H Q _ => ∃ (x dx qc y dy qo : Addr) (pr co mn : Nat), vs = [.ref x, .ref qc, .int (ni pr), .ref y] ∧ H x = some (.ins A.c_Plan dx []) ∧ y ≠ x ∧ H y = some (.ins A.c_Cheapest dy (fs_Cheapest (.int (ni co)) (.int (ni mn)) (.ref qo))) ∧
  Q .non (upd H x (.ins A.c_Plan dx (fs_Plan (.ref qc) (.int (ni pr)) (.ref qo) (.int (ni (pr + co))) (.int (ni mn)))))
/-- a plan, as an object -/
def PlanAt (A : Ad) (h : Uw07.House) (G : Addr → Prop) (H : Hp) (v : V) (x : List Nat × Uw03.Best) : Prop :=
  ∃ a dx qc qo, v = .ref a ∧ ¬ G a ∧ ¬ G qc ∧ ¬ G qo ∧ H a = some (.ins A.c_Plan dx (fs_Plan (.ref qc) (.int (ni (h.play.cost x.1))) (.ref qo) (.int (ni (trip h x).1)) (.int (ni x.2.many)))) ∧ H qc = some (.lst (vis x.1)) ∧ H qo = some (.lst (vis x.2.order))
theorem kp_plan {A : Ad} {h : Uw07.House} : Kp (PlanAt A h) := fun G G' H H' v x z k g => by
  obtain ⟨a, dx, qc, qo, e, n1, n2, n3, h1, h2, h3⟩ := z
  exact ⟨a, dx, qc, qo, e, g a n1 (by rw [h1]; simp), g qc n2 (by rw [h2]; simp), g qo n3 (by rw [h3]; simp), k _ _ n1 h1, k _ _ n2 h2, k _ _ n3 h3⟩
def sp_plans (A : Ad) : Sp := fun vs H Q _ => ∃ (a : Addr) (F : Addr → Prop) (h : Uw07.House) (p : Pl), vs = [.ref a] ∧ PlayAt A F H a h p ∧ Gives H Q fun H' v => ∃ l, v = .ref l ∧ Lof (PlanAt A h) N0 H' l (plansB h)
/-- what is due to a call that changes nothing -/
def dueOf (h : Uw07.House) (x : Uw07.Call) : List Int := Uw07Neutral.out (Uw07.step h x).2
def Ans (_ : Ad) (H : Hp) (Q : VK) (h : Uw07.House) (x : Uw07.Call) : Prop := Gives H Q fun H' v => ∃ l, v = .ref l ∧ H l = none ∧ H' l = some (.lst (pis (dueOf h x)))
def sp_best (A : Ad) : Sp := fun vs H Q _ => ∃ (a : Addr) (F : Addr → Prop) (h : Uw07.House) (p : Pl), vs = [.ref a] ∧ PlayAt A F H a h p ∧ Ans A H Q h .best
def sp_apart (A : Ad) : Sp := fun vs H Q _ => ∃ (a : Addr) (F : Addr → Prop) (h : Uw07.House) (p : Pl), vs = [.ref a] ∧ PlayAt A F H a h p ∧ Ans A H Q h .apart
def sp_checked (A : Ad) : Sp := fun vs H Q _ => ∃ (a q qo : Addr) (F : Addr → Prop) (h : Uw07.House) (p : Pl) (c o : List Nat), vs = [.ref a, .ref q, .ref qo] ∧ PlayAt A F H a h p ∧ H q = some (.lst (vis c)) ∧ H qo = some (.lst (vis o)) ∧ c.length ≤ 20 ∧ o.length ≤ 20 ∧ Ans A H Q h (.check c o)
def sp_cheapO (A : Ad) : Sp := fun vs H Q _ => ∃ (a q : Addr) (F : Addr → Prop) (h : Uw07.House) (p : Pl) (c : List Nat), vs = [.ref a, .ref q] ∧ PlayAt A F H a h p ∧ H q = some (.lst (vis c)) ∧ c.length ≤ 20 ∧ Ans A H Q h (.order c)
theorem castOk_iff (h : Uw07.House) (c : List Nat) : Uw07.castOk h c = true ↔ CO h c := by
  unfold Uw07.castOk CO
  rw [Bool.and_eq_true, beq_iff_eq, List.all_eq_true]
  constructor
  · rintro ⟨h1, h2⟩
    exact ⟨h1, fun a ha => of_decide_eq_true (h2 a ha)⟩
  · rintro ⟨h1, h2⟩
    exact ⟨h1, fun a ha => decide_eq_true (h2 a ha)⟩
theorem fees_of {h : Uw07.House} {c : List Nat} (co : CO h c) (w : h.play.wrong c = none) : FeesOk h c := by
  intro r a hr
  rw [wrong_split h.play c co.1] at w
  cases e : (List.range c.length).find? fun r => (h.play.fee r (c.getD r 0)).isNone with
  | some r => rw [e] at w; cases w
  | none =>
    have := List.find?_eq_none.mp e r (List.mem_range.mpr (List.getElem?_eq_some_iff.mp hr).1)
    have eD : c.getD r 0 = a := by rw [List.getD_eq_getElem?_getD, hr]; rfl
    rw [eD] at this
    cases q : h.play.fee r a with
    | none => rw [q] at this; exact absurd rfl this
    | some z => rfl
theorem cast_ok {h : Uw07.House} (ok : HOK h) {c : List Nat} (hc : c ∈ h.play.casts) : CO h c ∧ FeesOk h c := by
  rw [casts_eq] at hc
  obtain ⟨h1, h2⟩ := List.mem_filter.mp hc
  have l := rows_len _ _ c h1
  have co : CO h c := ⟨l.1, fun a ha => by rw [← ok.same]; exact l.2 a ha⟩
  refine ⟨co, fees_of co ?_⟩
  cases e : h.play.wrong c with
  | none => rfl
  | some x => rw [e] at h2; cases h2
theorem casts_len {h : Uw07.House} (ok : HOK h) : h.play.casts.length ≤ 1024 := by
  rw [casts_eq]
  exact Nat.le_trans (List.length_filter_le _ _) (rows_small (by rw [ok.same]; exact ok.hours) ok.dress)
section
variable {P : Program} {w : World} {K : PySem.W.Frag} {mg : Str → Option Value} {base : Heap} {A : Ad}
theorem pure_rowF : ∀ vs H Q E, sp_rowF vs H Q E → t_row K A { nx := fun _ H' => Q .non H', rt := Q } (start ["numbers"] vs) H := by
  rintro _ H Q E ⟨q, z, rfl, hq, hz, k⟩
  refine ⟨_, rfl, q, _, rfl, .inl (SqL.of hq), (by show 1 ≤ sizeLine; decide), fun u nu => ⟨_, rfl, u, q, _, _, rfl, rfl, upd_same, upd_some nu hq, ?_, fun l nl => ?_⟩⟩
  · rw [List.length_map]; show 1 + z.length ≤ 2 ^ 24; omega
  have S := (Same.new (o := .lst [.int ((pis z).length : Nat)]) nu)
  refine k _ _ (S.trans (Same.new nl)) ⟨l, rfl, S.free nl, ?_⟩
  rw [upd_same, List.length_map]
  rfl
theorem fn_rowF (T : Txt K mg A) : FnOk P w K mg base CX0 1 A.f_row A.d_row ["numbers"] sp_rowF :=
  ok_row T (fun vs H Q E h => by obtain ⟨q, z, rfl, _⟩ := h; rfl) pure_rowF
theorem neNT {m n : Nat} (h : m ≠ n) : (!decide (V.int (ni m) = V.int (ni n))) = true := by rw [eqNF h]; rfl
theorem neNF {m n : Nat} (h : m = n) : (!decide (V.int (ni m) = V.int (ni n))) = false := by rw [eqNT h]; rfl
theorem pure_iscast (T : Txt K mg A) : ∀ vs H Q E, sp_iscast A vs H Q E → t_is_casting K A { nx := fun _ H' => Q .non H', rt := Q } (start ["casting", "play", "who"] vs) H := by
  rintro _ H Q E ⟨q, a, F, h, p, c, rfl, hq, k, hc, kQ⟩
  refine ⟨_, rfl, q, _, rfl, .inl (SqL.of hq), _, rfl, a, _, _, _, _, rfl, k.ob, T.cl_Play, T.a_Play_dressing, lk_Play_dressing, p.ld, _, rfl, .inl (SqL.of k.dr), rfl, _, rfl, ?_⟩
  rw [vis_len, vis_len]
  by_cases c1 : c.length = h.play.dress.length
  · refine ifF (neNF c1) ⟨_, rfl, q, rfl, ⟨_, SqL.of hq⟩, fun D nD => ?_⟩
    refine lc_gen (walk_list (xs := vis c)) (fun _ v (b : Bool) => v = .bl b) (fun t => (c.take t).map fun a => decide (a < h.hours.length)) nD (by rw [vis_len]; exact Nat.le_trans hc (by decide)) (fun H S => SqL.of (S _ _ hq)) (fun _ _ _ _ r _ => r) rfl ?_ ?_
    · rintro t x H5 H6 ht S5 nn ⟨rfl, hx⟩ Nx yes no
      obtain ⟨n, hn, rfl⟩ := vis_get hx
      have k5 := k.same S5
      refine ⟨rfl, _, rfl, _, rfl, a, _, _, _, _, rfl, k5.ob, T.cl_Play, T.a_Play_players, lk_Play_players, p.lp, _, rfl, .inl (SqL.of k5.pl), _, _, rfl, rfl, yes _ _ (decide (n < h.hours.length)) (Same.refl _) ?_ ?_⟩
      · rw [take_at hn, List.map_append]; rfl
      · rw [k.np]
        show V.bl (decide (ni n < ((h.hours.length : Nat) : Int))) = V.bl (decide (n < h.hours.length))
        congr 1
        apply decide_eq_decide.mpr
        unfold ni
        omega
    · intro H5 zs S5 hzs pz
      have ez := paired_eq pz
      rw [vis_len, List.take_length] at ez
      subst ez
      refine ⟨D, _, rfl, SqL.of hzs, kQ _ _ S5 ?_⟩
      unfold Uw07.castOk
      rw [c1]
      simp [List.all_map]
  · refine ifT (neNT c1) (kQ _ _ (Same.refl H) ?_)
    unfold Uw07.castOk
    rw [beq_eq_false_iff_ne.mpr c1]
    rfl
theorem fn_iscast (T : Txt K mg A) : FnOk P w K mg base CX0 1 A.f_is_casting A.d_is_casting ["casting", "play"] (sp_iscast A) :=
  ok_is_casting T (fun vs H Q E h => by obtain ⟨q, a, F, h, p, c, rfl, _⟩ := h; rfl) (pure_iscast T)
theorem ints_dp {H : Hp} : ∀ l : List Int, DpAll K H (pis l) (l.map PyData.int)
  | [] => .nil
  | x :: l => .cons (.int x) (ints_dp l)
theorem ints_eqv : ∀ l m : List Int, PyData.eqvAll (l.map PyData.int) (m.map PyData.int) = decide (l = m)
  | [], [] => rfl
  | [], b :: m => rfl
  | a :: l, [] => rfl
  | a :: l, b :: m => by
    show ((a == b) && PyData.eqvAll (l.map PyData.int) (m.map PyData.int)) = _
    rw [ints_eqv l m]
    by_cases e1 : a = b
    · by_cases e2 : l = m
      · subst e1 e2; simp
      · rw [decide_eq_false e2, Bool.and_false]
        exact (decide_eq_false fun z => e2 (List.cons.inj z).2).symm
    · rw [beq_eq_false_iff_ne.mpr e1, Bool.false_and]
      exact (decide_eq_false fun z => e1 (List.cons.inj z).1).symm
theorem ints_shaped (l : List Int) : SeqAt.shaped (.list (l.map PyData.int)) = true := by
  unfold SeqAt.shaped
  rw [Bool.and_eq_true]
  have lay : ∀ l : List Int, PyData.canLayAll0 (l.map PyData.int) = true := by
    intro l
    induction l with
    | nil => rfl
    | cons x l ih =>
      show (PyData.canLay0 (.int x) && PyData.canLayAll0 (l.map PyData.int)) = true
      rw [ih]; rfl
  have dep : ∀ l : List Int, PyData.depthAll (l.map PyData.int) ≤ 3 := by
    intro l
    induction l with
    | nil => exact Nat.zero_le _
    | cons x l ih =>
      show max (PyData.depth (.int x)) (PyData.depthAll (l.map PyData.int)) ≤ 3
      exact Nat.max_le.mpr ⟨Nat.le_of_ble_eq_true rfl, ih⟩
  refine ⟨lay l, decide_eq_true ?_⟩
  have := dep l
  show PyData.depthAll (l.map PyData.int) + 1 ≤ 64
  omega
theorem rg_vis (n : Nat) : rgV 0 ((n : Nat) : Int) = vis (List.range n) := by
  unfold rgV vis nis
  have : (((n : Nat) : Int) - 0).toNat = n := by omega
  rw [this, List.map_map]
  apply List.map_congr_left
  intro i _
  show V.int (0 + ((i : Nat) : Int)) = V.int (ni i)
  rw [Int.zero_add]
theorem pure_isord (T : Txt K mg A) : ∀ vs H Q E, sp_isord A vs H Q E → t_is_order K A { nx := fun _ H' => Q .non H', rt := Q } (start ["order", "play"] vs) H := by
  rintro _ H Q E ⟨q, a, F, h, p, o, rfl, hq, k, ho, kQ⟩
  refine ⟨_, rfl, q, nis o, rfl, SqL.of hq, (by rw [nis_len]; omega), fun l u pm so nu => ?_⟩
  have S1 : Same H (upd H u (.lst (l.map V.int))) := Same.new nu
  have k1 := k.same S1
  have np : p.cs.length = h.pieces.length := Paired.length k.pcs
  have h4 := k.ok.pieces
  refine ⟨_, rfl, a, _, _, _, _, rfl, k1.ob, T.cl_Play, T.a_Play_pieces, lk_Play_pieces, p.lc, _, rfl, .inl (SqL.of k1.pc), _, rfl, RgOk.of_le (by omega) (by omega) (by omega) (by omega), fun u2 n2 => ?_⟩
  have S2 := S1.trans (Same.new (o := .lst (rgV 0 ((p.cs.length : Nat) : Int))) n2)
  refine ⟨.list (l.map PyData.int), .list ((nis (List.range h.pieces.length)).map PyData.int), .lst (SqL.of (upd_some n2 upd_same)) (ints_dp l), .lst (SqL.of upd_same) ?_, ints_shaped _, ints_shaped _, kQ _ _ S2 ?_⟩
  · rw [np, rg_vis]
    exact ints_dp _
  · show V.bl (PyData.eqvAll _ _) = _
    rw [ints_eqv, order_dec pm so]
theorem fn_isord (T : Txt K mg A) : FnOk P w K mg base CX0 1 A.f_is_order A.d_is_order ["order", "play"] (sp_isord A) :=
  ok_is_order T (fun vs H Q E h => by obtain ⟨q, a, F, h, p, o, rfl, _⟩ := h; rfl) (pure_isord T)
theorem pure_planI (T : Txt K mg A) : ∀ vs H Q E, sp_planI A vs H Q E → t_Plan_init K A { nx := fun _ H' => Q .non H', rt := Q } (start ["self", "casting", "casting_price", "cheapest"] vs) H := by
  rintro _ H Q E ⟨x, dx, qc, y, dy, qo, pr, co, mn, rfl, hx, nxy, hy, k⟩
  have up : ∀ o, upd H x o y = some (.ins A.c_Cheapest dy (fs_Cheapest (.int (ni co)) (.int (ni mn)) (.ref qo))) := fun o => by rw [upd_ne nxy]; exact hy
  refine ⟨_, rfl, _, rfl, x, _, dx, _, rfl, hx, T.cl_Plan, T.a_Plan_casting, (by show 0 < 1000; decide), ?_⟩
  rw [new_Plan_casting]
  refine ⟨_, rfl, _, rfl, x, _, dx, _, rfl, upd_same, T.cl_Plan, T.a_Plan_casting_price, (by show 1 < 1000; decide), ?_⟩
  rw [new_Plan_casting_price, upd_upd]
  refine ⟨_, rfl, y, _, dy, _, _, rfl, up _, T.cl_Cheapest, T.a_Cheapest_order, lk_Cheapest_order, _, rfl, x, _, dx, _, rfl, upd_same, T.cl_Plan, T.a_Plan_order, (by show 2 < 1000; decide), ?_⟩
  rw [new_Plan_order, upd_upd]
  refine ⟨_, rfl, _, rfl, y, _, dy, _, _, rfl, up _, T.cl_Cheapest, T.a_Cheapest_cost, lk_Cheapest_cost, _, _, rfl, rfl, _, rfl, x, _, dx, _, rfl, upd_same, T.cl_Plan, T.a_Plan_cost, (by show 3 < 1000; decide), ?_⟩
  rw [new_Plan_cost, upd_upd]
  refine ⟨_, rfl, y, _, dy, _, _, rfl, up _, T.cl_Cheapest, T.a_Cheapest_many, lk_Cheapest_many, _, rfl, x, _, dx, _, rfl, upd_same, T.cl_Plan, T.a_Plan_many, (by show 4 < 1000; decide), ?_⟩
  rw [new_Plan_many, upd_upd]
  have e : V.int (ni (pr + co)) = V.int (ni pr + ni co) := by unfold ni; simp
  rw [e] at k
  exact k
theorem fn_planI (T : Txt K mg A) : FnOk P w K mg base CX0 1 A.f_Plan_init A.d_Plan_init ["self", "casting", "casting_price", "cheapest"] (sp_planI A) :=
  ok_Plan_init T (fun vs H Q E h => by obtain ⟨x, dx, qc, y, dy, qo, pr, co, mn, rfl, _⟩ := h; rfl) (pure_planI T)
end
end RC
/-! ### Plans by casting; best, apart, order -/
namespace RC
open PySem PySem.Spec PyProof.Rows L2
section
variable {P : Program} {w : World} {K : PySem.W.Frag} {mg : Str → Option Value} {base : Heap} {A : Ad}
theorem pure_plans (T : Txt K mg A) : ∀ vs H Q E, sp_plans A vs H Q E → t_plans_by_casting K A (sp_rinit P w A) (sp_rightC A) (sp_cheap P w A) (sp_planI A) (sp_costC A) { nx := fun _ H' => Q .non H', rt := Q } (start ["play", "rehearsals", "plans", "casting", "cheapest"] vs) H := by
  rintro _ H Q E ⟨a, F, h, p, rfl, k, kQ⟩
  refine ⟨_, rfl, a, _, _, _, _, rfl, k.ob, T.cl_Play, T.a_Play_players, lk_Play_players, _, rfl, a, _, _, _, _, rfl, k.ob, T.cl_Play, T.a_Play_pieces, lk_Play_pieces, _, rfl, a, _, _, _, _, rfl, k.ob, T.cl_Play, T.a_Play_pairs, lk_Play_pairs, ?_⟩
  intro x dx nx ndx nex
  refine ⟨x, dx, p.lp, p.lc, p.la, h, H, rfl, nx, Same.rec nx ndx, upd_same, k.pll, k.pcl, k.prl, k.ok, fun H1 d S1 nd R1 => ⟨rfl, ?_⟩⟩
  refine ⟨Nat.zero_le _, fun pl npl => ?_⟩
  have S2 : Same H1 (upd H1 pl (.lst [])) := Same.new npl
  generalize hH2 : upd H1 pl (.lst []) = H2 at S2 ⊢
  have o2 : H2 pl = some (.lst []) := by rw [← hH2, upd_same]
  have pd : pl ≠ d := fun z => by
    have := R1.1.2.1 d R1.1.1
    rw [← z] at this
    exact this npl
  have R2 : RehAt P w A (fun b => b = d ∨ b = pl) H2 x d h 0 := by
    refine R1.keep (fun c o _ e => S2 c o e) (fun b n e z => ?_) (.inl rfl) (fun b z => ?_) (fun o e => S2 d o e) fun c ys e => S2 c _ e
    · rcases z with z | z
      · exact n z
      · exact e (z ▸ npl)
    · rcases z with z | z
      · cases e : H1 d with
        | none => exact absurd e (R1.1.2.1 d rfl)
        | some o => rw [z, S2 d o e]; simp
      · rw [z, o2]; simp
  have k2 := (k.same S1).same S2
  refine ⟨_, rfl, a, F, h, p, rfl, k2, fun H3 v S3 z => ?_⟩
  obtain ⟨l, rfl, ⟨xs, hl, ol, px⟩⟩ := z
  have lx := Paired.length px
  have k3 := k2.same S3
  have gl : ∀ b, ¬ Od H2 b → ¬ (b = d ∨ b = pl) := fun b n z => by
    rcases z with z | z
    · apply n
      rw [z]
      exact R2.1.2.1 d (.inl rfl)
    · apply n
      show H2 b ≠ none
      rw [z, o2]; simp
  refine ⟨l, rfl, ⟨_, SqL.of hl⟩, for_it (walk_list (xs := xs)) (fun i σ H' => (∀ b o, ¬ (b = d ∨ b = pl) → H3 b = some o → H' b = some o) ∧ RehAt P w A (fun b => b = d ∨ b = pl) H' x d h (4 * i) ∧ ∃ (v3 v4 : Option V) (ys : List V), σ = [some (.ref a), some (.ref x), some (.ref pl), v3, v4] ∧ H' pl = some (.lst ys) ∧
    Paired (PlanAt A h (fun b => b = d ∨ b = pl) H') ys ((h.play.casts.take i).filterMap fun c => (h.day c).best.map fun b => (c, b)) ∧ ys.length ≤ i) ⟨fun _ _ _ e => e, R2.same S3, none, none, [], rfl, S3 _ _ o2, .nil, Nat.le_refl _⟩ (fun i σ H' _ z => SqL.of (z.1 _ _ (gl l ol) hl)) ?_ ?_⟩
  · rintro i v σ H4 H5 hi ⟨b4, R4, v3, v4, ys, rfl, hpl, py, ly⟩ ⟨rfl, hx⟩
    obtain ⟨c, hc, q, rfl, oq, hq⟩ := Paired.at px hx
    have gq := gl q oq
    have co := cast_ok k.ok (List.mem_of_getElem? hc)
    have big := casts_len k.ok
    have R4' := R4
    obtain ⟨_, dx4, lp4, lc4, lo4, lt4, kv4, g1, _⟩ := R4'
    refine ⟨_, rfl, x, dx4, _, rfl, g1, no_Rehearsals_cheapest, _, rfl, _, x, d, q, h, 4 * i, c, rfl, R4, k.ok, co.1, b4 _ _ gq hq, (by show 4 * i + 4 < 2 ^ 24; omega), fun H6 v6 b6 R6 ch => ?_⟩
    have hpl6 : H6 pl = some (.lst ys) := b6 _ _ pd hpl
    have b36 : ∀ b o, ¬ (b = d ∨ b = pl) → H3 b = some o → H6 b = some o := fun b o n e => b6 b o (fun z => n (.inl z)) (b4 b o n e)
    have py6 : Paired (PlanAt A h (fun b => b = d ∨ b = pl) H6) ys ((h.play.casts.take i).filterMap fun c => (h.day c).best.map fun b => (c, b)) := Paired.mapP py fun v a z => kp_plan _ _ _ _ _ _ z (fun b o n e => b6 b o (fun z => n (.inl z)) e) fun _ n _ => n
    have k6 : PlayAt A F H6 a h p := by
      have k0 : PlayAt A (fun b => F b ∨ b = d ∨ b = pl) H3 a h p := by
        refine PlayAt.keep k (F' := fun b => F b ∨ b = d ∨ b = pl) (fun b o _ e => S3 _ _ (S2 _ _ (S1 _ _ e))) fun b z e => ?_
        rcases z with z | z | z
        · exact z
        · exact absurd (z ▸ nd) e
        · exact absurd (z ▸ S1.free npl) e
      exact (k0.keep (F' := fun b => F b ∨ b = d ∨ b = pl) (fun b o n e => b36 b o (fun z => n (.inr z)) e) fun _ z _ => z).less fun b z _ => .inl z
    refine ⟨_, rfl, rfl, _, rfl, ?_⟩
    cases eb : (h.day c).best with
    | none =>
      rw [eb] at ch
      have ev : v6 = .non := ch
      subst ev
      refine ifF rfl ⟨b36, R6.more (by omega), _, _, ys, rfl, hpl6, ?_, by omega⟩
      rw [take_at hc, List.filterMap_append]
      simp only [List.filterMap_cons, List.filterMap_nil, eb, Option.map_none, List.append_nil]
      exact py6
    | some b =>
      rw [eb] at ch
      obtain ⟨y, dy, qo, rfl, ny, nqo, hy, hqo⟩ := ch
      refine ifT rfl ⟨_, rfl, .inl ⟨rfl, _, SqL.of hpl6⟩, _, rfl, _, rfl, _, rfl, a, _, _, _, _, rfl, k6.ob, T.cl_Play, T.a_Play_players, lk_Play_players, q, p.lp, c, h, rfl, b36 _ _ gq hq, k6.pll, k.ok, co.1, co.2, fun H7 v7 S7 ev => ?_⟩
      subst ev
      refine ⟨_, rfl, ?_⟩
      intro pn dpn npn ndpn nepn
      have S8 : Same H7 (upd (upd H7 dpn (.own pn)) pn (.ins A.c_Plan dpn [])) := Same.rec npn ndpn
      have hy7 := S7 _ _ hy
      refine ⟨pn, dpn, q, y, dy, qo, h.play.cost c, b.cost, b.many, rfl, upd_same, ne_of_none hy7 npn, S8 _ _ hy7, rfl, ?_⟩
      rw [upd_upd]
      have S9 : Same H7 (upd (upd H7 dpn (.own pn)) pn (.ins A.c_Plan dpn (fs_Plan (.ref q) (.int (ni (h.play.cost c))) (.ref qo) (.int (ni (h.play.cost c + b.cost))) (.int (ni b.many))))) := Same.rec npn ndpn
      generalize hH9 : upd (upd H7 dpn (.own pn)) pn (.ins A.c_Plan dpn (fs_Plan (.ref q) (.int (ni (h.play.cost c))) (.ref qo) (.int (ni (h.play.cost c + b.cost))) (.int (ni b.many)))) = H9 at S9 ⊢
      have o9 : H9 pn = some (.ins A.c_Plan dpn (fs_Plan (.ref q) (.int (ni (h.play.cost c))) (.ref qo) (.int (ni (h.play.cost c + b.cost))) (.int (ni b.many)))) := by rw [← hH9, upd_same]
      have S69 := S7.trans S9
      have hpl9 := S69 _ _ hpl6
      have R9 := R6.same S69
      refine ⟨pl, ys, _, rfl, rfl, hpl9, (by show ys.length < 2 ^ 24; omega), ?_⟩
      have bt : ∀ b o, b ≠ pl → H9 b = some o → upd H9 pl (.lst (ys ++ [.ref pn])) b = some o := fun b o n e => by rw [upd_ne n]; exact e
      have gpn : ¬ (pn = d ∨ pn = pl) := fun z => by
        rcases z with z | z
        · have := (R6.same S7).1.2.1 d (.inl rfl)
          rw [← z] at this
          exact this npn
        · have := S7 _ _ hpl6
          rw [← z, npn] at this
          cases this
      refine ⟨fun b o n e => bt _ _ (fun z => n (.inr z)) (S69 _ _ (b36 _ _ n e)), ?_, _, _, ys ++ [.ref pn], rfl, upd_same, ?_, by rw [List.length_append]; simp; omega⟩
      · refine (R9.keep (G' := fun b => b = d ∨ b = pl) (fun c o n e => bt _ _ (fun z => n (.inr z)) e) (fun _ n _ => n) (.inl rfl) (fun b z => ?_) (fun o e => bt _ _ pd.symm e) fun c ys e => bt _ _ (ne_of e hpl9 (by intro z; cases z)) e).more (by omega)
        by_cases zz : b = pl
        · rw [zz, upd_same]; simp
        · cases e : H9 b with
          | none => exact absurd e (R9.1.2.1 b z)
          | some o => rw [bt _ _ zz e]; simp
      · rw [take_at hc, List.filterMap_append]
        simp only [List.filterMap_cons, List.filterMap_nil, eb, Option.map_some]
        refine Paired.snoc (Paired.mapP py6 fun v a z => kp_plan _ _ _ _ _ _ z (fun b o n e => bt _ _ (fun z => n (.inr z)) (S69 _ _ e)) fun _ n _ => n) ?_
        refine ⟨pn, dpn, q, qo, rfl, gpn, gq, nqo, bt _ _ (fun z => gpn (.inr z)) o9, bt _ _ (fun z => gq (.inr z)) (S69 _ _ (b36 _ _ gq hq)), bt _ _ (fun z => nqo (.inr z)) (S69 _ _ hqo)⟩
  · rintro σ H4 ⟨b4, R4, v3, v4, ys, rfl, hpl, py, ly⟩
    rw [lx, List.take_length] at py
    refine ⟨_, rfl, kQ _ _ (fun b o e => b4 b o (fun z => ?_) (S3 _ _ (S2 _ _ (S1 _ _ e)))) ⟨pl, rfl, ys, hpl, id, Paired.mapP py fun v a z => kp_plan.to0 z⟩⟩
    rcases z with z | z
    · rw [z, nd] at e; cases e
    · rw [z, S1.free npl] at e; cases e
theorem fn_plans (T : Txt K mg A) : FnOk P w K mg base CX0 6 A.f_plans_by_casting A.d_plans_by_casting ["play"] (sp_plans A) :=
  ok_plans_by_casting T (fn_rinit T) (fn_rightC T) (fn_cheap T) (fn_planI T) (fn_costC T) (fun vs H Q E h => by obtain ⟨a, F, h, p, rfl, _⟩ := h; rfl) (pure_plans T)
theorem pure_cheapO (T : Txt K mg A) : ∀ vs H Q E, sp_cheapO A vs H Q E → t_cheapest_order K A (sp_iscast A) (sp_rinit P w A) (sp_cheap P w A) sp_rowF { nx := fun _ H' => Q .non H', rt := Q } (start ["play", "casting", "cheapest"] vs) H := by
  rintro _ H Q E ⟨a, q, F, h, p, c, rfl, k, hq, hc, kA⟩
  refine ⟨_, rfl, _, rfl, q, a, F, h, p, c, rfl, hq, k, hc, fun H1 v S1 ev => ?_⟩
  subst ev
  refine ⟨_, rfl, ?_⟩
  by_cases c1 : Uw07.castOk h c = true
  case neg =>
    have c1' : Uw07.castOk h c = false := by simpa using c1
    refine ifT (by rw [c1']; rfl) ⟨_, rfl, (by show 1 ≤ sizeLine; decide), fun l nl => kA _ _ (S1.trans (Same.new nl)) ⟨l, rfl, S1.free nl, ?_⟩⟩
    unfold dueOf
    rw [upd_same, due_order_bad c1']
    rfl
  refine ifF (by rw [c1]; rfl) ?_
  have co := (castOk_iff h c).mp c1
  have k1 := k.same S1
  refine ⟨_, rfl, a, _, _, _, _, rfl, k1.ob, T.cl_Play, T.a_Play_players, lk_Play_players, _, rfl, a, _, _, _, _, rfl, k1.ob, T.cl_Play, T.a_Play_pieces, lk_Play_pieces, _, rfl, a, _, _, _, _, rfl, k1.ob, T.cl_Play, T.a_Play_pairs, lk_Play_pairs, ?_⟩
  intro x dx nx ndx nex
  refine ⟨x, dx, p.lp, p.lc, p.la, h, H1, rfl, nx, Same.rec nx ndx, upd_same, k1.pll, k1.pcl, k1.prl, k.ok, fun H2 d S2 nd R2 => ⟨rfl, ?_⟩⟩
  have R2' := R2
  obtain ⟨_, dx2, lp2, lc2, lo2, lt2, kv2, g1, _⟩ := R2'
  refine ⟨x, dx2, _, rfl, g1, no_Rehearsals_cheapest, _, rfl, _, x, d, q, h, 0, c, rfl, R2, k.ok, co, S2 _ _ (S1 _ _ hq), (by show 0 + 4 < 2 ^ 24; decide), fun H3 v b3 R3 ch => ?_⟩
  have S13 : Same H1 H3 := fun b o e => b3 b o (ne_of_none e nd) (S2 _ _ e)
  have S03 := S1.trans S13
  refine ⟨_, rfl, rfl, _, rfl, ?_⟩
  cases eb : (h.day c).best with
  | none =>
    rw [eb] at ch
    have ev : v = .non := ch
    subst ev
    refine ifT rfl ⟨_, rfl, (by show 1 ≤ sizeLine; decide), fun l nl => kA _ _ (S03.trans (Same.new nl)) ⟨l, rfl, S03.free nl, ?_⟩⟩
    unfold dueOf
    rw [upd_same, due_order_none c1 eb]
    rfl
  | some b =>
    rw [eb] at ch
    obtain ⟨y, dy, qo, rfl, ny, nqo, hy, hqo⟩ := ch
    have bl := best_len eb
    have h4 := k.ok.pieces
    refine ifF rfl ⟨_, rfl, y, _, dy, _, _, rfl, hy, T.cl_Cheapest, T.a_Cheapest_cost, lk_Cheapest_cost, (by show 1 ≤ sizeLine; decide), fun l1 n1 => ?_⟩
    have Sa : Same H3 (upd H3 l1 (.lst [.int (ni b.cost)])) := Same.new n1
    generalize hHa : upd H3 l1 (.lst [.int (ni b.cost)]) = Ha at Sa ⊢
    have oa : Ha l1 = some (.lst [.int (ni b.cost)]) := by rw [← hHa, upd_same]
    refine ⟨_, rfl, y, _, dy, _, _, rfl, Sa _ _ hy, T.cl_Cheapest, T.a_Cheapest_many, lk_Cheapest_many, (by show 1 ≤ sizeLine; decide), fun l2 n2 => ?_⟩
    refine ⟨l2, [ni b.many], rfl, upd_same, (by show 1 ≤ 1000; decide), fun Hb vb Sb z => ?_⟩
    obtain ⟨l3, rfl, n3, h3⟩ := z
    have Sab := (Same.new n2).trans Sb
    refine ⟨l1, l3, _, _, rfl, rfl, Sab _ _ oa, h3, (by show 1 + 2 ≤ sizeLine; decide), fun l4 n4 => ?_⟩
    have S5 := Sa.trans (Sab.trans (Same.new (o := .lst ([.int (ni b.cost)] ++ pis (ni [ni b.many].length :: [ni b.many]))) n4))
    generalize hHc : upd Hb l4 (.lst ([.int (ni b.cost)] ++ pis (ni [ni b.many].length :: [ni b.many]))) = Hc at S5 ⊢
    have oc : Hc l4 = some (.lst ([.int (ni b.cost)] ++ pis (ni [ni b.many].length :: [ni b.many]))) := by rw [← hHc, upd_same]
    refine ⟨_, rfl, y, _, dy, _, _, rfl, S5 _ _ hy, T.cl_Cheapest, T.a_Cheapest_order, lk_Cheapest_order, qo, nis b.order, rfl, S5 _ _ hqo, (by rw [nis_len]; omega), fun Hd vd Sd z => ?_⟩
    obtain ⟨l5, rfl, n5, h5⟩ := z
    refine ⟨l4, l5, _, _, rfl, rfl, Sd _ _ oc, h5, ?_, fun l6 n6 => ?_⟩
    · simp only [pis, List.length_append, List.length_map, List.length_cons, List.length_nil, nis_len]; show _ ≤ 2 ^ 24; omega
    have S6 := S03.trans (S5.trans Sd)
    refine kA _ _ (S6.trans (Same.new n6)) ⟨l6, rfl, S6.free n6, ?_⟩
    unfold dueOf
    rw [upd_same, due_order c1 eb, nis_len]
    rfl
theorem fn_cheapO (T : Txt K mg A) : FnOk P w K mg base CX0 6 A.f_cheapest_order A.d_cheapest_order ["play", "casting"] (sp_cheapO A) :=
  ok_cheapest_order T (fn_iscast T) (fn_rinit T) (fn_cheap T) (fn_rowF T) (fun vs H Q E h => by obtain ⟨a, q, F, h, p, c, rfl, _⟩ := h; rfl) (pure_cheapO T)
theorem pure_apart (T : Txt K mg A) : ∀ vs H Q E, sp_apart A vs H Q E → t_plan_apart K A (sp_rightC A) (sp_costC A) (sp_rinit P w A) (sp_cheap P w A) sp_rowF { nx := fun _ H' => Q .non H', rt := Q } (start ["play", "castings", "prices", "casting", "price", "cheapest"] vs) H := by
  rintro _ H Q E ⟨a, F, h, p, rfl, k, kA⟩
  refine ⟨_, rfl, a, F, h, p, rfl, k, fun H1 v S1 z => ?_⟩
  obtain ⟨l, rfl, ⟨xs, hl, _, px⟩⟩ := z
  have lx := Paired.length px
  have big := casts_len k.ok
  have h4 := k.ok.pieces
  have h5 := k.ok.dress
  refine ⟨_, rfl, Nat.zero_le _, fun e ne => ⟨l, e, _, rfl, rfl, SqL.of (upd_some ne hl), SqL.of upd_same, _, rfl, ?_⟩⟩
  have Se : Same H1 (upd H1 e (.lst [])) := Same.new ne
  generalize hHe : upd H1 e (.lst []) = He at Se ⊢
  have S2 := S1.trans Se
  by_cases c0 : h.play.casts = []
  · have x0 : xs = [] := List.length_eq_zero_iff.mp (by rw [lx, c0]; rfl)
    refine ifT (by rw [x0]; rfl) ⟨_, rfl, (by show 1 ≤ sizeLine; decide), fun l2 n2 => kA _ _ (S2.trans (Same.new n2)) ⟨l2, rfl, S2.free n2, ?_⟩⟩
    unfold dueOf
    rw [upd_same, due_apart_none (cheap_none c0)]
    rfl
  refine ifF (by cases xs with | nil => exact absurd (List.length_eq_zero_iff.mp lx.symm) c0 | cons a l => rfl) ?_
  refine ⟨_, rfl, l, rfl, ⟨_, SqL.of (Se _ _ hl)⟩, fun D nD => ?_⟩
  refine lc_gen (walk_list (xs := xs)) IsI (fun t => (h.play.casts.take t).map h.play.cost) nD (by rw [lx]; exact Nat.le_trans big (by decide)) (fun H S => SqL.of (S _ _ (Se _ _ hl))) (fun _ _ _ _ r _ => r) rfl ?_ ?_
  · rintro t x H5 H6 ht S5 nn ⟨rfl, hx⟩ Nx yes no
    obtain ⟨c, hc, q, rfl, _, hq⟩ := Paired.at px hx
    have S6 := S2.trans S5
    have k5 := k.same S6
    have co := cast_ok k.ok (List.mem_of_getElem? hc)
    refine ⟨rfl, _, rfl, _, rfl, a, _, _, _, _, rfl, k5.ob, T.cl_Play, T.a_Play_players, lk_Play_players, q, p.lp, c, h, rfl, S5 _ _ (Se _ _ hq), k5.pll, k.ok, co.1, co.2, fun H7 v S7 ev => ?_⟩
    refine yes _ _ _ S7 ?_ ev
    rw [take_at hc, List.map_append]; rfl
  intro H3 zs S3 hzs pz
  have ez := isI_vis pz
  rw [lx, List.take_length] at ez
  subst ez
  refine ⟨_, rfl, D, nis (h.play.casts.map h.play.cost), rfl, SqL.of hzs, vis_ne (by simpa using c0), fun m hm hle => ?_⟩
  obtain ⟨m, hm', rfl⟩ := List.mem_map.mp hm
  have hle' : ∀ y ∈ h.play.casts.map h.play.cost, m ≤ y := fun y hy => by
    have := hle (ni y) (List.mem_map.mpr ⟨y, hy, rfl⟩)
    unfold ni at this
    omega
  obtain ⟨i1, i2⟩ := idx_ok hm'
  have jl := List.idxOf_lt_length_of_mem hm'
  have jc : (h.play.casts.map h.play.cost).idxOf m < h.play.casts.length := by simpa using jl
  have hj := List.getElem?_eq_getElem jc
  generalize h.play.casts[(h.play.casts.map h.play.cost).idxOf m] = c at hj
  have ec : h.play.cost c = m := by
    have := List.getElem?_eq_getElem jl
    rw [List.getElem_idxOf, List.getElem?_map, hj] at this
    exact Option.some.inj this
  have first : ∀ i, i < (h.play.casts.map h.play.cost).idxOf m → (h.play.casts.map h.play.cost)[i]? ≠ some m := fun i hi z => by
    obtain ⟨l1, l2⟩ := List.getElem?_eq_some_iff.mp z
    have := List.not_of_lt_findIdx (p := (· == m)) (xs := h.play.casts.map h.play.cost) (i := i) hi
    rw [l2] at this
    simp at this
  obtain ⟨kk, hch⟩ := cheap_some hm' hle' hj ec first
  obtain ⟨vq, hvq, q, rfl, _, hq⟩ := Paired.ta px hj
  have co := cast_ok k.ok (List.mem_of_getElem? hj)
  have Se3 := Se.trans S3
  refine ⟨_, rfl, _, rfl, .inl ⟨rfl, _, SqL.of hzs⟩, _, rfl, D, _, _, (h.play.casts.map h.play.cost).idxOf m, _, rfl, rfl, SqL.of hzs, rfl, flat_vis _, i1, (by simp [eqV]), i2, l, _, _, _, rfl, rfl, SqL.of (Se3 _ _ hl), atI_nat hvq, ?_⟩
  have S13 := S1.trans Se3
  have k3 := k.same S13
  refine ⟨_, rfl, a, _, _, _, _, rfl, k3.ob, T.cl_Play, T.a_Play_players, lk_Play_players, _, rfl, a, _, _, _, _, rfl, k3.ob, T.cl_Play, T.a_Play_pieces, lk_Play_pieces, _, rfl, a, _, _, _, _, rfl, k3.ob, T.cl_Play, T.a_Play_pairs, lk_Play_pairs, ?_⟩
  intro x dx nx ndx nex
  refine ⟨x, dx, p.lp, p.lc, p.la, h, H3, rfl, nx, Same.rec nx ndx, upd_same, k3.pll, k3.pcl, k3.prl, k.ok, fun H4 d S4 nd R4 => ⟨rfl, ?_⟩⟩
  have R4' := R4
  obtain ⟨_, dx4, lp4, lc4, lo4, lt4, kv4, g1, _⟩ := R4'
  have hq3 := Se3 _ _ hq
  refine ⟨x, dx4, _, rfl, g1, no_Rehearsals_cheapest, _, rfl, _, x, d, q, h, 0, c, rfl, R4, k.ok, co.1, S4 _ _ hq3, (by show 0 + 4 < 2 ^ 24; decide), fun H5 v b5 R5 ch => ?_⟩
  have S35 : Same H3 H5 := fun b o e => b5 b o (ne_of_none e nd) (S4 _ _ e)
  have S05 := S13.trans S35
  have hq5 := S35 _ _ hq3
  have lc5 : c.length ≤ 5 := by rw [co.1.1]; exact h5
  refine ⟨_, rfl, rfl, _, rfl, ?_⟩
  cases eb : (h.day c).best with
  | none =>
    rw [eb] at ch
    have ev : v = .non := ch
    subst ev
    refine ifT rfl ⟨_, rfl, (by show 1 ≤ sizeLine; decide), fun l2 n2 => kA _ _ (S05.trans (Same.new n2)) ⟨l2, rfl, S05.free n2, ?_⟩⟩
    unfold dueOf
    rw [upd_same, due_apart_no hch eb]
    rfl
  | some b =>
    rw [eb] at ch
    obtain ⟨y, dy, qo, rfl, ny, nqo, hy, hqo⟩ := ch
    have bl := best_len eb
    refine ifF rfl ⟨_, rfl, _, rfl, y, _, dy, _, _, rfl, hy, T.cl_Cheapest, T.a_Cheapest_cost, lk_Cheapest_cost, _, _, rfl, rfl, (by show 1 ≤ sizeLine; decide), fun l1 n1 => ?_⟩
    have Sa : Same H5 (upd H5 l1 (.lst [.int (ni m + ni b.cost)])) := Same.new n1
    refine ⟨_, rfl, q, nis c, rfl, Sa _ _ hq5, (by rw [nis_len]; omega), fun Hb vb Sb z => ?_⟩
    obtain ⟨l3, rfl, n3, h3⟩ := z
    refine ⟨l1, l3, _, _, rfl, rfl, Sb _ _ upd_same, h3, ?_, fun l4 n4 => ?_⟩
    · simp only [pis, List.length_append, List.length_map, List.length_cons, List.length_nil, nis_len]; show _ ≤ 2 ^ 24; omega
    have Sab := Sa.trans Sb
    have S5 := Sab.trans (Same.new (o := .lst ([.int (ni m + ni b.cost)] ++ pis (ni (nis c).length :: nis c))) n4)
    refine ⟨_, rfl, y, _, dy, _, _, rfl, S5 _ _ hy, T.cl_Cheapest, T.a_Cheapest_order, lk_Cheapest_order, qo, nis b.order, rfl, S5 _ _ hqo, (by rw [nis_len]; omega), fun Hd vd Sd z => ?_⟩
    obtain ⟨l5, rfl, n5, h5'⟩ := z
    refine ⟨l4, l5, _, _, rfl, rfl, Sd _ _ upd_same, h5', ?_, fun l6 n6 => ?_⟩
    · simp only [pis, List.length_append, List.length_map, List.length_cons, List.length_nil, nis_len]; show _ ≤ 2 ^ 24; omega
    have S6 := S05.trans (S5.trans Sd)
    refine kA _ _ (S6.trans (Same.new n6)) ⟨l6, rfl, S6.free n6, ?_⟩
    unfold dueOf
    rw [upd_same, due_apart hch eb, nis_len, nis_len]
    have e2 : ni (h.play.cost c + b.cost) = ni m + ni b.cost := by rw [ec]; unfold ni; omega
    show _ = some (HO.lst (pis (ni (h.play.cost c + b.cost) :: ((ni c.length :: nis c) ++ (ni b.order.length :: nis b.order)))))
    rw [e2]
    simp [pis]
theorem fn_apart (T : Txt K mg A) : FnOk P w K mg base CX0 6 A.f_plan_apart A.d_plan_apart ["play"] (sp_apart A) :=
  ok_plan_apart T (fn_rightC T) (fn_costC T) (fn_rinit T) (fn_cheap T) (fn_rowF T) (fun vs H Q E h => by obtain ⟨a, F, h, p, rfl, _⟩ := h; rfl) (pure_apart T)
end
end RC
/-! ### Best, check; the answers of the calls that change nothing -/
namespace RC
open PySem PySem.Spec PyProof.Rows L2
theorem dec_nil (l : List Int) : (!PyData.eqv (.list (l.map PyData.int)) (.list [])) = !l.isEmpty := by
  cases l <;> rfl
section
variable {P : Program} {w : World} {K : PySem.W.Frag} {mg : Str → Option Value} {base : Heap} {A : Ad}
theorem pure_best (T : Txt K mg A) : ∀ vs H Q E, sp_best A vs H Q E → t_best_plan K A (sp_plans A) sp_rowF { nx := fun _ H' => Q .non H', rt := Q } (start ["play", "plans", "least", "plan", "alike", "many", "first"] vs) H := by
  rintro _ H Q E ⟨a, F, h, p, rfl, k, kA⟩
  refine ⟨_, rfl, a, F, h, p, rfl, k, fun H1 v S1 z => ?_⟩
  obtain ⟨l, rfl, ⟨xs, hl, _, px⟩⟩ := z
  have lx := Paired.length px
  have big := Nat.le_trans (plansB_len h) (casts_len k.ok)
  have h4 := k.ok.pieces
  have h5 := k.ok.dress
  refine ⟨_, rfl, Nat.zero_le _, fun e ne => ⟨l, e, _, rfl, rfl, SqL.of (upd_some ne hl), SqL.of upd_same, _, rfl, ?_⟩⟩
  have Se : Same H1 (upd H1 e (.lst [])) := Same.new ne
  generalize hHe : upd H1 e (.lst []) = He at Se ⊢
  have S2 := S1.trans Se
  by_cases c0 : plansB h = []
  · have x0 : xs = [] := List.length_eq_zero_iff.mp (by rw [lx, c0]; rfl)
    refine ifT (by rw [x0]; rfl) ⟨_, rfl, (by show 1 ≤ sizeLine; decide), fun l2 n2 => kA _ _ (S2.trans (Same.new n2)) ⟨l2, rfl, S2.free n2, ?_⟩⟩
    unfold dueOf
    rw [upd_same, due_best_none (hbest_none c0)]
    rfl
  refine ifF (by cases xs with | nil => exact absurd (List.length_eq_zero_iff.mp lx.symm) c0 | cons a l => rfl) ?_
  -- least
  refine ⟨_, rfl, l, rfl, ⟨_, SqL.of (Se _ _ hl)⟩, fun D nD => ?_⟩
  refine lc_gen (walk_list (xs := xs)) IsI (fun t => ((plansB h).take t).map fun x => (trip h x).1) nD (by rw [lx]; exact Nat.le_trans big (by decide)) (fun H S => SqL.of (S _ _ (Se _ _ hl))) (fun _ _ _ _ r _ => r) rfl ?_ ?_
  · rintro t x H5 H6 ht S5 nn ⟨rfl, hx⟩ Nx yes no
    obtain ⟨pb, hpb, ap, dx, qc, qo, rfl, _, _, _, g1, _, _⟩ := Paired.at px hx
    refine ⟨rfl, _, rfl, ap, _, dx, _, _, rfl, S5 _ _ (Se _ _ g1), T.cl_Plan, T.a_Plan_cost, lk_Plan_cost, yes _ _ _ (Same.refl _) ?_ rfl⟩
    rw [take_at hpb, List.map_append]; rfl
  intro H3 zs S3 hzs pz
  have ez := isI_vis pz
  rw [lx, List.take_length] at ez
  subst ez
  refine ⟨D, nis ((plansB h).map fun x => (trip h x).1), rfl, SqL.of hzs, vis_ne (by simpa using c0), fun m hm hle => ?_⟩
  obtain ⟨m, hm', rfl⟩ := List.mem_map.mp hm
  have b1 : ∃ x ∈ plansB h, (trip h x).1 = m := by
    obtain ⟨x, hx, e⟩ := List.mem_map.mp hm'
    exact ⟨x, hx, e⟩
  have b2 : ∀ x ∈ plansB h, m ≤ (trip h x).1 := fun x hx => by
    have := hle (ni (trip h x).1) (List.mem_map.mpr ⟨_, List.mem_map.mpr ⟨x, hx, rfl⟩, rfl⟩)
    unfold ni at this
    omega
  obtain ⟨y, r, ef, eb⟩ := hbest_some b1 b2
  have Se3 := Se.trans S3
  -- alike
  refine ⟨_, rfl, l, rfl, ⟨_, SqL.of (Se3 _ _ hl)⟩, fun D2 nD2 => ?_⟩
  refine lc_gen (walk_list (xs := xs)) (fun H' v a => PlanAt A h (· = D2) H' v a) (fun t => ((plansB h).take t).filter fun x => decide ((trip h x).1 = m)) nD2 (by rw [lx]; exact Nat.le_trans big (by decide)) (fun H S => SqL.of (S _ _ (Se3 _ _ hl))) (fun H H' v a r b => kp_plan _ _ _ _ _ _ r (fun c o n e => b c o n e) fun _ n _ => n) rfl ?_ ?_
  · rintro t x H5 H6 ht S5 nn ⟨rfl, hx⟩ Nx yes no
    obtain ⟨pb, hpb, ap, dx, qc, qo, rfl, _, _, _, g1, g2, g3⟩ := Paired.at px hx
    have S15 := Se3.trans S5
    refine ⟨rfl, _, rfl, ap, _, dx, _, _, rfl, S15 _ _ g1, T.cl_Plan, T.a_Plan_cost, lk_Plan_cost, _, rfl, rfl, _, rfl, ?_⟩
    by_cases cc : (trip h pb).1 = m
    · refine ifT (eqNT cc) ⟨_, rfl, yes _ _ pb (Same.refl _) ?_ ⟨ap, dx, qc, qo, rfl, ne_of_none (Se3 _ _ g1) nD2, ne_of_none (Se3 _ _ g2) nD2, ne_of_none (Se3 _ _ g3) nD2, S15 _ _ g1, S15 _ _ g2, S15 _ _ g3⟩⟩
      rw [take_at hpb, List.filter_append, List.filter_cons, if_pos (decide_eq_true cc), List.filter_nil]
    · refine ifF (eqNF cc) (no _ (Same.refl _) ?_)
      rw [take_at hpb, List.filter_append, List.filter_cons, if_neg (by rw [decide_eq_false cc]; simp), List.filter_nil, List.append_nil]
  intro H4 as S4 has pa
  rw [lx, List.take_length, ef] at pa
  have la := Paired.length pa
  have lr : (y :: r).length ≤ 1024 := by rw [← ef]; exact Nat.le_trans (List.length_filter_le _ _) big
  have ym : y ∈ plansB h := (List.mem_filter.mp (by rw [ef]; exact List.mem_cons_self : y ∈ (plansB h).filter fun x => decide ((trip h x).1 = m))).1
  obtain ⟨yc, yb⟩ := plansB_mem ym
  have co := cast_ok k.ok yc
  have bl := best_len yb
  have lc5 : y.1.length ≤ 5 := by rw [co.1.1]; exact h5
  -- many
  refine ⟨_, rfl, D2, rfl, ⟨_, SqL.of has⟩, fun D3 nD3 => ?_⟩
  refine lc_gen (walk_list (xs := as)) IsI (fun t => ((y :: r).take t).map fun x => x.2.many) nD3 (by rw [la]; exact Nat.le_trans lr (by decide)) (fun H S => SqL.of (S _ _ has)) (fun _ _ _ _ r _ => r) rfl ?_ ?_
  · rintro t x H5 H6 ht S5 nn ⟨rfl, hx⟩ Nx yes no
    obtain ⟨pb, hpb, ap, dx, qc, qo, rfl, _, _, _, g1, _, _⟩ := Paired.at pa hx
    refine ⟨rfl, _, rfl, ap, _, dx, _, _, rfl, S5 _ _ g1, T.cl_Plan, T.a_Plan_many, lk_Plan_many, yes _ _ _ (Same.refl _) ?_ rfl⟩
    rw [take_at hpb, List.map_append]; rfl
  intro H5 ms S5 hms pm
  have em := isI_vis pm
  rw [la, List.take_length] at em
  subst em
  refine ⟨D3, nis ((y :: r).map fun x => x.2.many), rfl, SqL.of hms, ?_⟩
  rw [← sum_ni]
  obtain ⟨vy, hvy, ap, dx, qc, qo, rfl, _, _, _, g1, g2, g3⟩ := Paired.ta (i := 0) (y := y) pa rfl
  refine ⟨_, rfl, D2, _, _, _, rfl, rfl, SqL.of (S5 _ _ has), atI_nat (j := 0) hvy, ?_⟩
  have S05 := S2.trans (S3.trans (S4.trans S5))
  have f1 := S5 _ _ g1
  have f2 := S5 _ _ g2
  have f3 := S5 _ _ g3
  refine ⟨_, rfl, (by show 1 ≤ sizeLine; decide), fun l1 n1 => ?_⟩
  have Sa : Same H5 (upd H5 l1 (.lst [.int (ni m)])) := Same.new n1
  refine ⟨_, rfl, _, rfl, ap, _, dx, _, _, rfl, Sa _ _ f1, T.cl_Plan, T.a_Plan_casting_price, lk_Plan_casting_price, (by show 2 ≤ sizeLine; decide), fun l2 n2 => ?_⟩
  refine ⟨l2, [ni ((y :: r).map fun x => x.2.many).sum, ni (h.play.cost y.1)], rfl, upd_same, (by show 2 ≤ 1000; decide), fun Hb vb Sb z => ?_⟩
  obtain ⟨l3, rfl, n3, h3⟩ := z
  have Sab := (Same.new (o := .lst [.int (ni ((y :: r).map fun x => x.2.many).sum), .int (ni (h.play.cost y.1))]) n2).trans Sb
  refine ⟨l1, l3, _, _, rfl, rfl, Sab _ _ upd_same, h3, (by show 1 + 3 ≤ sizeLine; decide), fun l4 n4 => ?_⟩
  have Sc := (Sa.trans Sab).trans (Same.new (o := .lst ([.int (ni m)] ++ pis (ni [ni ((y :: r).map fun x => x.2.many).sum, ni (h.play.cost y.1)].length :: [ni ((y :: r).map fun x => x.2.many).sum, ni (h.play.cost y.1)]))) n4)
  refine ⟨_, rfl, ap, _, dx, _, _, rfl, Sc _ _ f1, T.cl_Plan, T.a_Plan_casting, lk_Plan_casting, qc, nis y.1, rfl, Sc _ _ f2, (by rw [nis_len]; omega), fun Hd vd Sd z => ?_⟩
  obtain ⟨l5, rfl, n5, h5'⟩ := z
  refine ⟨l4, l5, _, _, rfl, rfl, Sd _ _ upd_same, h5', ?_, fun l6 n6 => ?_⟩
  · simp only [pis, List.length_append, List.length_map, List.length_cons, List.length_nil]; show _ ≤ 2 ^ 24; omega
  have Sf := (Sc.trans Sd).trans (Same.new (o := .lst (([.int (ni m)] ++ pis (ni [ni ((y :: r).map fun x => x.2.many).sum, ni (h.play.cost y.1)].length :: [ni ((y :: r).map fun x => x.2.many).sum, ni (h.play.cost y.1)])) ++ pis (ni (nis y.1).length :: nis y.1))) n6)
  refine ⟨_, rfl, ap, _, dx, _, _, rfl, Sf _ _ f1, T.cl_Plan, T.a_Plan_order, lk_Plan_order, qo, nis y.2.order, rfl, Sf _ _ f3, (by rw [nis_len]; omega), fun Hg vg Sg z => ?_⟩
  obtain ⟨l7, rfl, n7, h7⟩ := z
  refine ⟨l6, l7, _, _, rfl, rfl, Sg _ _ upd_same, h7, ?_, fun l8 n8 => ?_⟩
  · simp only [pis, List.length_append, List.length_map, List.length_cons, List.length_nil]; show _ ≤ 2 ^ 24; omega
  have S6 := S05.trans (Sf.trans Sg)
  refine kA _ _ (S6.trans (Same.new n8)) ⟨l8, rfl, S6.free n8, ?_⟩
  unfold dueOf
  rw [upd_same, due_best eb, nis_len, nis_len]
  simp [pis]
theorem fn_best (T : Txt K mg A) : FnOk P w K mg base CX0 7 A.f_best_plan A.d_best_plan ["play"] (sp_best A) :=
  ok_best_plan T (fn_plans T) (fn_rowF T) (fun vs H Q E h => by obtain ⟨a, F, h, p, rfl, _⟩ := h; rfl) (pure_best T)
/-- [n] + row([m] + wrong) -/
theorem pure_checked (T : Txt K mg A) : ∀ vs H Q E, sp_checked A vs H Q E → t_checked_plan K A (sp_iscast A) (sp_isord A) (sp_wrongC A) (sp_pairs A) sp_rowF (sp_stays A) (sp_wrongO A) (sp_ocost A) (sp_costC A) { nx := fun _ H' => Q .non H', rt := Q } (start ["play", "casting", "order", "wrong", "stays", "given", "stay"] vs) H := by
  rintro _ H Q E ⟨a, q, qo, F, h, p, c, o, rfl, k, hq, ho, hc20, ho20, kA⟩
  have ret : ∀ {H' : Hp} {z : Int}, Same H H' → dueOf h (.check c o) = [-z] → ∀ l, H' l = none → Q (.ref l) (upd H' l (.lst [.int (-z)])) := fun S e l n => kA _ _ (S.trans (Same.new n)) ⟨l, rfl, S.free n, by rw [upd_same, e]; rfl⟩
  refine ⟨_, rfl, _, rfl, q, a, F, h, p, c, rfl, hq, k, hc20, fun H1 v S1 ev => ?_⟩
  subst ev
  refine ⟨_, rfl, ?_⟩
  by_cases c1 : Uw07.castOk h c = true
  case neg =>
    have c1' : Uw07.castOk h c = false := by simpa using c1
    refine ifT (by rw [c1']; rfl) (iteT ⟨_, rfl, (by show 1 ≤ sizeLine; decide), fun l nl => ?_⟩)
    exact ret S1 (due_check_bad (.inl c1')) l nl
  refine ifF (by rw [c1]; rfl) ⟨_, rfl, _, rfl, qo, a, F, h, p, o, rfl, S1 _ _ ho, k.same S1, ho20, fun H2 v S2 ev => ?_⟩
  subst ev
  refine ⟨_, rfl, ?_⟩
  have S02 := S1.trans S2
  by_cases c2 : Uw07.orderOk h o = true
  case neg =>
    have c2' : Uw07.orderOk h o = false := by simpa using c2
    refine ifT (by rw [c2']; rfl) ⟨_, rfl, (by show 1 ≤ sizeLine; decide), fun l nl => ?_⟩
    exact ret S02 (due_check_bad (.inr c2')) l nl
  refine ifF (by rw [c2]; rfl) ?_
  have co := (castOk_iff h c).mp c1
  have io := orderOk_isO c2
  have k2 := k.same S02
  have tail : ∀ {n m : Nat} {H' : Hp} {lw : Addr} {wn : List Nat} {σ : L2.St}, Same H H' → H' lw = some (.lst (vis wn)) → wn.length ≤ 3 → σ[3]? = some (some (.ref lw)) → dueOf h (.check c o) = ni n :: ni (wn.length + 1) :: ni m :: nis wn →
      tRet (tOp rCat (tLst (tCons (tC (.int (ni n))) tNil)) (tCall sp_rowF [] E0 (tCons (tOp rCat (tLst (tCons (tC (.int (ni m))) tNil)) (tVar 3)) tNil))) { nx := fun _ H' => Q .non H', rt := Q } σ H' := by
    intro n m H' lw wn σ S hw hl hs e
    refine ⟨(by show 1 ≤ sizeLine; decide), fun l1 n1 => ⟨(by show 1 ≤ sizeLine; decide), fun l2 n2 => ⟨_, hs, l2, lw, _, _, rfl, rfl, upd_same, upd_some n2 (upd_some n1 hw), ?_, fun l3 n3 => ?_⟩⟩⟩
    · rw [vis_len]; show 1 + wn.length ≤ 2 ^ 24; omega
    refine ⟨l3, ni m :: nis wn, rfl, upd_same, (by simp; omega), fun H4 v S4 z => ?_⟩
    obtain ⟨l4, rfl, n4, h4⟩ := z
    have S13 := (Same.new (o := .lst [.int (ni n)]) n1).trans ((Same.new (o := .lst [.int (ni m)]) n2).trans (Same.new (o := .lst ([.int (ni m)] ++ vis wn)) n3))
    have o1 : upd (upd (upd H' l1 (.lst [.int (ni n)])) l2 (.lst [.int (ni m)])) l3 (.lst ([.int (ni m)] ++ vis wn)) l1 = some (.lst [.int (ni n)]) := upd_some n3 (upd_some n2 upd_same)
    refine ⟨l1, l4, _, _, rfl, rfl, S4 _ _ o1, h4, ?_, fun l5 n5 => ?_⟩
    · simp only [pis, List.length_append, List.length_map, List.length_cons, List.length_nil]; show _ ≤ 2 ^ 24; omega
    have S5 := S.trans (S13.trans S4)
    refine kA _ _ (S5.trans (Same.new n5)) ⟨l5, rfl, S5.free n5, ?_⟩
    rw [upd_same, e]
    simp [pis]
  -- wrong with the casting
  refine ⟨_, rfl, _, rfl, a, _, _, _, _, rfl, k2.ob, T.cl_Play, T.a_Play_players, lk_Play_players, _, rfl, a, _, _, _, _, rfl, k2.ob, T.cl_Play, T.a_Play_dressing, lk_Play_dressing, _, rfl, a, _, _, _, _, rfl, k2.ob, T.cl_Play, T.a_Play_scenes, lk_Play_scenes, p.ld, p.ls, h.play, rfl, k2.dr, k.ok.dress, k2.scl, fun H3 v S3 z => ?_⟩
  obtain ⟨lcl, rfl, Lc⟩ := z
  have S03 := S02.trans S3
  have k3 := k.same S03
  refine ⟨q, p.lp, lcl, c, h, rfl, S03 _ _ hq, k3.pll, Lc, k.ok, co, fun H4 v S4 z => ?_⟩
  obtain ⟨lw, rfl, hw⟩ := z
  have S04 := S03.trans S4
  refine ⟨_, rfl, Nat.zero_le _, fun e ne => ⟨.list ((nis (nums3 (h.play.wrong c))).map PyData.int), .list [], .lst (SqL.of (upd_some ne hw)) (ints_dp _), .lst (SqL.of upd_same) .nil, ints_shaped _, rfl, _, rfl, ?_⟩⟩
  rw [dec_nil]
  have S05 := S04.trans (Same.new (o := .lst []) ne)
  have hw5 : upd H4 e (.lst []) lw = some (.lst (vis (nums3 (h.play.wrong c)))) := upd_some ne hw
  generalize hH5 : upd H4 e (.lst []) = H5 at S05 hw5 ⊢
  cases ew : h.play.wrong c with
  | some x =>
    refine ifT rfl ?_
    rw [ew] at hw5
    exact tail (n := 0) (m := 1) S05 hw5 (Nat.le_refl 3) rfl (due_check_c c1 c2 ew)
  | none =>
    refine ifF rfl ?_
    have k5 := k.same S05
    refine ⟨_, rfl, _, rfl, _, rfl, a, _, _, _, _, rfl, k5.ob, T.cl_Play, T.a_Play_players, lk_Play_players, _, rfl, a, _, _, _, _, rfl, k5.ob, T.cl_Play, T.a_Play_pieces, lk_Play_pieces, q, qo, p.lp, p.lc, c, o, h, rfl, S05 _ _ hq, S05 _ _ ho, k5.pll, k5.pcl, k.ok, co, io, fun H6 v S6 z => ?_⟩
    obtain ⟨ls, rfl, Ls⟩ := z
    have S06 := S05.trans S6
    have k6 := k.same S06
    refine ⟨_, rfl, _, rfl, a, _, _, _, _, rfl, k6.ob, T.cl_Play, T.a_Play_pairs, lk_Play_pairs, _, rfl, _, rfl, a, _, _, _, _, rfl, k6.ob, T.cl_Play, T.a_Play_players, lk_Play_players, qo, p.la, ls, p.lp, c, o, h, rfl, S06 _ _ ho, k6.prl, Ls, k6.pll, k.ok, io, fun H7 v S7 z => ?_⟩
    obtain ⟨lw2, rfl, hw2⟩ := z
    have S07 := S06.trans S7
    refine ⟨_, rfl, Nat.zero_le _, fun e2 ne2 => ⟨.list ((nis (nums2 ((h.day c).wrong o))).map PyData.int), .list [], .lst (SqL.of (upd_some ne2 hw2)) (ints_dp _), .lst (SqL.of upd_same) .nil, ints_shaped _, rfl, _, rfl, ?_⟩⟩
    rw [dec_nil]
    have S8 := Same.new (o := .lst []) ne2
    have S08 := S07.trans S8
    have hw8 : upd H7 e2 (.lst []) lw2 = some (.lst (vis (nums2 ((h.day c).wrong o)))) := upd_some ne2 hw2
    have Ls8 := (Ls.same kp_rowI S7).same kp_rowI S8
    generalize hH8 : upd H7 e2 (.lst []) = H8 at S08 hw8 Ls8 ⊢
    cases eo : (h.day c).wrong o with
    | some x =>
      refine ifT rfl ?_
      rw [eo] at hw8
      exact tail (n := 0) (m := 2) S08 hw8 (by show 2 ≤ 3; decide) rfl (due_check_o c1 c2 ew eo)
    | none =>
      refine ifF rfl ?_
      have k8 := k.same S08
      have h4 := k.ok.hours
      -- given
      refine ⟨(by show 1 ≤ sizeLine; decide), fun g1 n1 => ?_⟩
      have Sa : Same H8 (upd H8 g1 (.lst [.int 1])) := Same.new n1
      have ka := k8.same Sa
      refine ⟨_, rfl, _, rfl, a, _, _, _, _, rfl, ka.ob, T.cl_Play, T.a_Play_players, lk_Play_players, q, p.lp, c, h, rfl, Sa _ _ (S08 _ _ hq), ka.pll, k.ok, co, fees_of co ew, fun Hb vb Sb eb => ?_⟩
      subst eb
      have Sab := Sa.trans Sb
      have kb := k8.same Sab
      refine ⟨_, rfl, _, rfl, a, _, _, _, _, rfl, kb.ob, T.cl_Play, T.a_Play_players, lk_Play_players, ls, p.lp, c, o, h, rfl, Ls8.same kp_rowI Sab, kb.pll, k.ok, fun Hc vc Sc ec => ?_⟩
      subst ec
      refine ⟨(by show 2 ≤ sizeLine; decide), fun g2 n2 => ⟨g2, [ni (h.play.cost c), ni ((h.day c).cost o)], rfl, upd_same, (by show 2 ≤ 1000; decide), fun Hd vd Sd z => ?_⟩⟩
      obtain ⟨g3, rfl, n3, h3⟩ := z
      have Sbd := Sb.trans (Sc.trans ((Same.new (o := .lst [.int (ni (h.play.cost c)), .int (ni ((h.day c).cost o))]) n2).trans Sd))
      refine ⟨g1, g3, _, _, rfl, rfl, Sbd _ _ upd_same, h3, (by show 1 + 3 ≤ sizeLine; decide), fun g ng => ?_⟩
      have S8d := Sa.trans Sbd
      have Sg : Same Hd (upd Hd g (.lst ([.int 1] ++ pis (ni [ni (h.play.cost c), ni ((h.day c).cost o)].length :: [ni (h.play.cost c), ni ((h.day c).cost o)])))) := Same.new ng
      have og : upd Hd g (.lst ([.int 1] ++ pis (ni [ni (h.play.cost c), ni ((h.day c).cost o)].length :: [ni (h.play.cost c), ni ((h.day c).cost o)]))) g = some (.lst (pis (1 :: ([2, ni (h.play.cost c), ni ((h.day c).cost o)] ++ rowsZ ((staysL h c o).take 0))))) := by
        rw [upd_same]; rfl
      have gn0 : H g = none := (S08.trans S8d).free ng
      obtain ⟨zs, hz, _, pz⟩ := (Ls8.same kp_rowI S8d).keep (G' := (· = g)) kp_rowI (fun _ _ _ e => e) fun b _ e z => e (z ▸ ng)
      have lz := Paired.length pz
      rw [stays_len] at lz
      have zg : ls ≠ g := ne_of_none hz ng
      generalize hHg : upd Hd g (.lst ([.int 1] ++ pis (ni [ni (h.play.cost c), ni ((h.day c).cost o)].length :: [ni (h.play.cost c), ni ((h.day c).cost o)]))) = Hg at Sg og ⊢
      have zlen : ∀ i, (rowsZ ((staysL h c o).take i)).length ≤ 4 * i := by
        intro i
        induction i with
        | zero => exact Nat.zero_le _
        | succ i ih =>
          cases hi : (staysL h c o)[i]? with
          | none =>
            rw [List.take_of_length_le (by have := List.getElem?_eq_none_iff.mp hi; omega)]
            rw [List.take_of_length_le (by have := List.getElem?_eq_none_iff.mp hi; omega)] at ih
            omega
          | some z =>
            rw [take_at hi]
            unfold rowsZ at ih ⊢
            rw [List.flatMap_append, List.length_append]
            have := stays_at hi
            have l3 := stayS_len (h.day c) o i
            rw [← this] at l3
            simp
            simp at ih
            omega
      refine ⟨_, rfl, ls, rfl, ⟨_, SqL.of (Sg _ _ hz)⟩, for_it (walk_list (xs := zs)) (fun i σ H' => (∀ b o, b ≠ g → Hg b = some o → H' b = some o) ∧ ∃ v6 : Option V, σ = [some (.ref a), some (.ref q), some (.ref qo), some (.ref lw2), some (.ref ls), some (.ref g), v6] ∧
        H' g = some (.lst (pis (1 :: ([2, ni (h.play.cost c), ni ((h.day c).cost o)] ++ rowsZ ((staysL h c o).take i)))))) ⟨fun _ _ _ e => e, none, rfl, og⟩ (fun i σ H' _ z => SqL.of (z.1 _ _ zg (Sg _ _ hz))) ?_ ?_⟩
      · rintro i x σ Hi Hj hi ⟨bi, v6, rfl, hg⟩ ⟨rfl, hx⟩
        obtain ⟨st, hst, u, rfl, nu, hu⟩ := Paired.at pz hx
        have hu' := bi _ _ nu (Sg _ _ hu)
        have l3 : st.length ≤ 3 := by rw [stays_at hst]; exact stayS_len _ _ _
        refine ⟨_, rfl, .inl ⟨rfl, _, SqL.of hg⟩, _, rfl, u, st, rfl, hu', by omega, fun Hk vk Sk z => ?_⟩
        obtain ⟨rw', rfl, nrw, hrw⟩ := z
        have hgk := Sk _ _ hg
        refine ⟨g, rw', _, _, rfl, rfl, hgk, hrw, ?_, ?_⟩
        · have := zlen i
          simp only [pis, List.length_append, List.length_map, List.length_cons, List.length_nil]
          show _ ≤ 2 ^ 24
          omega
        · refine ⟨fun b o n e => by rw [upd_ne n]; exact Sk _ _ (bi _ _ n e), some (.ref u), rfl, ?_⟩
          rw [upd_same, take_at hst]
          unfold rowsZ
          rw [List.flatMap_append]
          simp [pis]
      · rintro σ Hi ⟨bi, v6, rfl, hg⟩
        rw [lz, List.take_of_length_le (by rw [stays_len]; exact Nat.le_refl _)] at hg
        refine ⟨_, rfl, kA _ _ (fun b o e => bi b o (ne_of_none e gn0) (Sg _ _ (S8d _ _ (S08 _ _ e)))) ⟨g, rfl, gn0, ?_⟩⟩
        unfold dueOf
        rw [hg, due_check c1 c2 ew eo]
        rfl
theorem fn_checked (T : Txt K mg A) : FnOk P w K mg base CX0 5 A.f_checked_plan A.d_checked_plan ["play", "casting", "order"] (sp_checked A) :=
  ok_checked_plan T (fn_iscast T) (fn_isord T) (fn_wrongC T) (fn_pairs T) (fn_rowF T) (fn_stays T) (fn_wrongO T) (fn_ocost T) (fn_costC T) (fun vs H Q E h => by obtain ⟨a, q, qo, F, h, p, c, o, rfl, _⟩ := h; rfl) (pure_checked T)
/-! #### behind a call that changes nothing -/
theorem step_best (h : Uw07.House) : (Uw07.step h .best).1 = h := rfl
theorem step_apart (h : Uw07.House) : (Uw07.step h .apart).1 = h := rfl
theorem step_check (h : Uw07.House) (c o : List Nat) : (Uw07.step h (.check c o)).1 = h := by simp only [Uw07.step]; split <;> rfl
theorem step_order (h : Uw07.House) (c : List Nat) : (Uw07.step h (.order c)).1 = h := by simp only [Uw07.step]; split <;> rfl
theorem Aft.same {F R : Addr → Prop} {H H2 : Hp} {a r c : Addr} {h : Uw07.House} {x : Uw07.Call} {t : List Int} {Q : VK} {p : Pl} (D : Aft A K F R H a r c h x t Q) (B : Both A K F R H2 a r c h p t) (kk : ∀ b o, F b → b ≠ r → H b = some o → H2 b = some o) (e : (Uw07.step h x).1 = h) : Ans A H2 Q h x := by
  rintro H3 v S ⟨l, rfl, n, hl⟩
  refine D H3 l p (fun z => B.tr l z n) hl ?_ fun b o f z q => S _ _ (kk b o f z q)
  rw [e]
  refine ⟨B.pl.same S, B.rd.keep (fun o q => S r o q) (fun b o _ q => S b o q), B.sub, B.fr, fun b f => ?_⟩
  cases q : H2 b with
  | none => exact absurd q (B.tr b f)
  | some o => rw [S b o q]; simp
def sp_acheck (A : Ad) (K : PySem.W.Frag) : Sp := fun vs H Q _ => ∃ a r c F R h p d o t, vs = [.ref a, .ref r] ∧ Both A K F R H a r c h p (ni d.length :: (nis d ++ ni o.length :: (nis o ++ t))) ∧ d.length ≤ 20 ∧ o.length ≤ 20 ∧ Aft A K F R H a r c h (.check d o) t Q
def sp_aorder (A : Ad) (K : PySem.W.Frag) : Sp := fun vs H Q _ => ∃ a r c F R h p d t, vs = [.ref a, .ref r] ∧ Both A K F R H a r c h p (ni d.length :: (nis d ++ t)) ∧ d.length ≤ 20 ∧ Aft A K F R H a r c h (.order d) t Q
theorem pure_acheck : ∀ vs H Q E, sp_acheck A K vs H Q E → t_answer_check K A (sp_row A K) (sp_checked A) { nx := fun _ H' => Q .non H', rt := Q } (start ["play", "reader", "casting", "order"] vs) H := by
  rintro _ H Q E ⟨a, r, c, F, R, h, p, d, o, t, rfl, B, l1, l2, D⟩
  obtain ⟨dx, v, ob⟩ := B.rd.obj
  refine ⟨_, rfl, r, dx, _, rfl, ob, no_Reader_row, r, c, d, _, R, rfl, B.rd, fun H1 q n1 hq R1 k1 => ?_⟩
  have B1 := B.read R1 k1
  obtain ⟨dx1, v1, ob1⟩ := R1.obj
  have qr : q ≠ r := fun z => by rw [z, ob] at n1; cases n1
  refine ⟨_, rfl, r, dx1, _, rfl, ob1, no_Reader_row, r, c, o, t, R, rfl, R1, fun H2 q2 n2 hq2 R2 k2 => ?_⟩
  have B2 := B1.read R2 k2
  exact ⟨_, rfl, _, rfl, _, rfl, a, q, q2, F, h, p, d, o, rfl, B2.pl, k2 _ _ qr hq, hq2, l1, l2, D.same B2 (fun b o _ z e => k2 b o z (k1 b o z e)) (step_check h d o)⟩
theorem fn_acheck (T : Txt K mg A) : FnOk P w K mg base CX0 6 A.f_answer_check A.d_answer_check ["play", "reader"] (sp_acheck A K) :=
  ok_answer_check T (fn_row T) (fn_checked T) (fun vs H Q E h => by obtain ⟨a, r, c, F, R, h, p, d, o, t, rfl, _⟩ := h; rfl) pure_acheck
theorem pure_aorder : ∀ vs H Q E, sp_aorder A K vs H Q E → t_answer_order K A (sp_row A K) (sp_cheapO A) { nx := fun _ H' => Q .non H', rt := Q } (start ["play", "reader", "casting"] vs) H := by
  rintro _ H Q E ⟨a, r, c, F, R, h, p, d, t, rfl, B, l1, D⟩
  obtain ⟨dx, v, ob⟩ := B.rd.obj
  refine ⟨_, rfl, r, dx, _, rfl, ob, no_Reader_row, r, c, d, t, R, rfl, B.rd, fun H1 q n1 hq R1 k1 => ?_⟩
  have B1 := B.read R1 k1
  exact ⟨_, rfl, _, rfl, a, q, F, h, p, d, rfl, B1.pl, hq, l1, D.same B1 (fun b o _ z e => k1 b o z e) (step_order h d)⟩
theorem fn_aorder (T : Txt K mg A) : FnOk P w K mg base CX0 7 A.f_answer_order A.d_answer_order ["play", "reader"] (sp_aorder A K) :=
  ok_answer_order T (fn_row T) (fn_cheapO T) (fun vs H Q E h => by obtain ⟨a, r, c, F, R, h, p, d, t, rfl, _⟩ := h; rfl) pure_aorder
end
end RC
/-! ### The whole line -/
namespace RC
open PySem PySem.Spec PyProof.Rows L2
def sp_pinit (A : Ad) : Sp := fun vs H Q _ => ∃ (a dx : Addr) (F : Addr → Prop), vs = [.ref a] ∧ H a = some (.ins A.c_Play dx []) ∧ ¬ F a ∧ Tr F H ∧ ∀ H' p, PlayAt A F H' a Uw07.init p → But a H H' → Q .non H'
def sp_call (A : Ad) (K : PySem.W.Frag) : Sp := fun vs H Q _ => ∃ a r c F R h p l x cs, vs = [.ref a, .ref r] ∧ Both A K F R H a r c h p l ∧ Line l (x :: cs) ∧ h.ahead.length < 1000 ∧ ∀ t, Line t cs → Aft A K F R H a r c h x t Q
def sp_answers (K : PySem.W.Frag) : Sp := fun vs H Q _ => ∃ c ns, vs = [.ref c] ∧ SqL K H c (ns.map V.int) ∧ PyUw07.answers_asked ns = true ∧
  ∀ H' g, H' g = some (.lst ((PyUw07.answers ns).map V.int)) → Q (.ref g) H'
section
variable {P : Program} {w : World} {K : PySem.W.Frag} {mg : Str → Option Value} {base : Heap} {A : Ad}
theorem pure_pinit : ∀ vs H Q E, sp_pinit A vs H Q E → t_Play_init K A (sp_renew A) { nx := fun _ H' => Q .non H', rt := Q } (start ["self"] vs) H := by
  rintro _ H Q E ⟨a, dx, F, rfl, h1, na, t, k⟩
  refine ⟨_, rfl, a, dx, _, rfl, h1, rfl, Nat.zero_le _, fun q nq => ?_⟩
  have S : Same H (upd H q (.lst [])) := Same.new nq
  refine ⟨a, dx, [], .ref q, rfl, S _ _ h1, .inl rfl, ?_⟩
  intro H' ls lp lc la n1 n2 n3 n4 e12 e13 e14 e23 e24 e34 ha g1 g2 g3 g4 B
  have qa : q ≠ a := (ne_of_none h1 nq).symm
  have hq : H' q = some (.lst []) := B q _ qa upd_same
  have fr : ∀ l, (upd H q (.lst [])) l = none → ¬ F l := fun l n z => by
    cases e : H l with
    | none => exact t l z e
    | some o => rw [S l o e] at n; cases n
  have ne : ∀ l, (upd H q (.lst [])) l = none → q ≠ l := fun l n z => by rw [← z, upd_same] at n; cases n
  refine k H' ⟨dx, q, ls, lp, lc, la, [], [], [], []⟩ ?_ (fun b o hb e => B b o hb (S b o e))
  exact { ob := ha, dr := hq, sc := g1, pl := g2, pc := g3, pa := g4, scs := .nil, pls := .nil, pcs := .nil, pas := .nil
          nA := na, nS := fr _ n1, nP := fr _ n2, nC := fr _ n3, nR := fr _ n4
          nD := by
            rintro (z | z | z | z | z)
            · exact t q z nq
            · exact ne _ n1 z
            · exact ne _ n2 z
            · exact ne _ n3 z
            · exact ne _ n4 z
          d1 := e12, d2 := e13, d3 := e14, d4 := e23, d5 := e24, d6 := e34, ok := HOK.init }
theorem fn_pinit (T : Txt K mg A) : FnOk P w K mg base CX0 2 A.f_Play_init A.d_Play_init ["self"] (sp_pinit A) :=
  ok_Play_init T (fn_renew T) (fun vs H Q E h => by obtain ⟨a, dx, F, rfl, _⟩ := h; rfl) pure_pinit
theorem eqT {m n : Int} (h : m = n) : (decide (V.int m = V.int n)) = true := by rw [h]; simp
theorem eqF {m n : Int} (h : m ≠ n) : (decide (V.int m = V.int n)) = false := decide_eq_false fun z => h (by injection z)
theorem Aft.after {F R : Addr → Prop} {H H1 : Hp} {a r c : Addr} {h : Uw07.House} {x : Uw07.Call} {t : List Int} {Q : VK} (D : Aft A K F R H a r c h x t Q) (k : But r H H1) : Aft A K F R H1 a r c h x t Q :=
  fun H' q p' n e B g => D H' q p' n e B fun b o f z e => g b o f z (k b o z e)
theorem pure_call : ∀ vs H Q E, sp_call A K vs H Q E → t_answer_call K A (sp_number A K) (sp_abegins A K) (sp_ascene A K) (sp_aplayer A K) (sp_apiece A K) (sp_aahead A K) (sp_best A) (sp_apart A) (sp_acheck A K) (sp_aorder A K) { nx := fun _ H' => Q .non H', rt := Q } (start ["play", "reader", "call"] vs) H := by
  rintro _ H Q E ⟨a, r, c, F, R, h, p, l, x, cs, rfl, B, L, hn, D⟩
  obtain ⟨dx, v, ob⟩ := B.rd.obj
  cases L with
  | @begins d t _ hl L =>
    refine ⟨_, rfl, r, dx, _, rfl, ob, no_Reader_number, r, c, _, _, R, rfl, B.rd, fun H1 R1 k1 => ?_⟩
    refine ⟨_, rfl, rfl, _, rfl, ifT (eqT rfl) ⟨_, rfl, _, rfl, a, r, c, F, R, h, p, d, t, rfl, B.read R1 k1, (D t L).after k1⟩⟩
  | @scene n d t _ hl L =>
    refine ⟨_, rfl, r, dx, _, rfl, ob, no_Reader_number, r, c, _, _, R, rfl, B.rd, fun H1 R1 k1 => ?_⟩
    refine ⟨_, rfl, rfl, _, rfl, ifF (eqF (by decide)) ⟨_, rfl, rfl, _, rfl, ifT (eqT rfl) ⟨_, rfl, _, rfl, a, r, c, F, R, h, p, n, d, t, rfl, B.read R1 k1, (D t L).after k1⟩⟩⟩
  | @player wg x y z d t _ hl L =>
    refine ⟨_, rfl, r, dx, _, rfl, ob, no_Reader_number, r, c, _, _, R, rfl, B.rd, fun H1 R1 k1 => ?_⟩
    refine ⟨_, rfl, rfl, _, rfl, ifF (eqF (by decide)) ⟨_, rfl, rfl, _, rfl, ifF (eqF (by decide)) ⟨_, rfl, rfl, _, rfl, ifT (eqT rfl) ⟨_, rfl, _, rfl, a, r, c, F, R, h, p, wg, x, y, z, d, t, rfl, B.read R1 k1, (D t L).after k1⟩⟩⟩⟩
  | @piece n d t _ hl L =>
    refine ⟨_, rfl, r, dx, _, rfl, ob, no_Reader_number, r, c, _, _, R, rfl, B.rd, fun H1 R1 k1 => ?_⟩
    refine ⟨_, rfl, rfl, _, rfl, ifF (eqF (by decide)) ⟨_, rfl, rfl, _, rfl, ifF (eqF (by decide)) ⟨_, rfl, rfl, _, rfl, ifF (eqF (by decide)) ⟨_, rfl, rfl, _, rfl, ifT (eqT rfl) ⟨_, rfl, _, rfl, a, r, c, F, R, h, p, n, d, t, rfl, B.read R1 k1, (D t L).after k1⟩⟩⟩⟩⟩
  | @ahead i j t _ L =>
    refine ⟨_, rfl, r, dx, _, rfl, ob, no_Reader_number, r, c, _, _, R, rfl, B.rd, fun H1 R1 k1 => ?_⟩
    refine ⟨_, rfl, rfl, _, rfl, ifF (eqF (by decide)) ⟨_, rfl, rfl, _, rfl, ifF (eqF (by decide)) ⟨_, rfl, rfl, _, rfl, ifF (eqF (by decide)) ⟨_, rfl, rfl, _, rfl, ifF (eqF (by decide)) ⟨_, rfl, rfl, _, rfl, ifT (eqT rfl) ⟨_, rfl, _, rfl, a, r, c, F, R, h, p, i, j, t, rfl, B.read R1 k1, hn, (D t L).after k1⟩⟩⟩⟩⟩⟩
  | @best t _ L =>
    refine ⟨_, rfl, r, dx, _, rfl, ob, no_Reader_number, r, c, _, _, R, rfl, B.rd, fun H1 R1 k1 => ?_⟩
    refine ⟨_, rfl, rfl, _, rfl, ifF (eqF (by decide)) ⟨_, rfl, rfl, _, rfl, ifF (eqF (by decide)) ⟨_, rfl, rfl, _, rfl, ifF (eqF (by decide)) ⟨_, rfl, rfl, _, rfl, ifF (eqF (by decide)) ⟨_, rfl, rfl, _, rfl, ifF (eqF (by decide)) ⟨_, rfl, rfl, _, rfl, ifT (eqT rfl) ⟨_, rfl, a, F, h, p, rfl, (B.read R1 k1).pl, (D t L).same (B.read R1 k1) (fun b o _ z e => k1 b o z e) (step_best h)⟩⟩⟩⟩⟩⟩⟩
  | @apart t _ L =>
    refine ⟨_, rfl, r, dx, _, rfl, ob, no_Reader_number, r, c, _, _, R, rfl, B.rd, fun H1 R1 k1 => ?_⟩
    refine ⟨_, rfl, rfl, _, rfl, ifF (eqF (by decide)) ⟨_, rfl, rfl, _, rfl, ifF (eqF (by decide)) ⟨_, rfl, rfl, _, rfl, ifF (eqF (by decide)) ⟨_, rfl, rfl, _, rfl, ifF (eqF (by decide)) ⟨_, rfl, rfl, _, rfl, ifF (eqF (by decide)) ⟨_, rfl, rfl, _, rfl, ifF (eqF (by decide)) ⟨_, rfl, rfl, _, rfl, ifT (eqT rfl) ⟨_, rfl, a, F, h, p, rfl, (B.read R1 k1).pl, (D t L).same (B.read R1 k1) (fun b o _ z e => k1 b o z e) (step_apart h)⟩⟩⟩⟩⟩⟩⟩⟩
  | @check d o t _ l1 l2 L =>
    refine ⟨_, rfl, r, dx, _, rfl, ob, no_Reader_number, r, c, _, _, R, rfl, B.rd, fun H1 R1 k1 => ?_⟩
    refine ⟨_, rfl, rfl, _, rfl, ifF (eqF (by decide)) ⟨_, rfl, rfl, _, rfl, ifF (eqF (by decide)) ⟨_, rfl, rfl, _, rfl, ifF (eqF (by decide)) ⟨_, rfl, rfl, _, rfl, ifF (eqF (by decide)) ⟨_, rfl, rfl, _, rfl, ifF (eqF (by decide)) ⟨_, rfl, rfl, _, rfl, ifF (eqF (by decide)) ⟨_, rfl, rfl, _, rfl, ifF (eqF (by decide)) ⟨_, rfl, rfl, _, rfl, ifT (eqT rfl) ⟨_, rfl, _, rfl, a, r, c, F, R, h, p, d, o, t, rfl, B.read R1 k1, l1, l2, (D t L).after k1⟩⟩⟩⟩⟩⟩⟩⟩⟩
  | @order d t _ l1 L =>
    refine ⟨_, rfl, r, dx, _, rfl, ob, no_Reader_number, r, c, _, _, R, rfl, B.rd, fun H1 R1 k1 => ?_⟩
    refine ⟨_, rfl, rfl, _, rfl, ifF (eqF (by decide)) ⟨_, rfl, rfl, _, rfl, ifF (eqF (by decide)) ⟨_, rfl, rfl, _, rfl, ifF (eqF (by decide)) ⟨_, rfl, rfl, _, rfl, ifF (eqF (by decide)) ⟨_, rfl, rfl, _, rfl, ifF (eqF (by decide)) ⟨_, rfl, rfl, _, rfl, ifF (eqF (by decide)) ⟨_, rfl, rfl, _, rfl, ifF (eqF (by decide)) ⟨_, rfl, rfl, _, rfl, ifF (eqF (by decide)) ⟨_, rfl, rfl, _, rfl, ifT (eqT rfl) ⟨_, rfl, _, rfl, a, r, c, F, R, h, p, d, t, rfl, B.read R1 k1, l1, (D t L).after k1⟩⟩⟩⟩⟩⟩⟩⟩⟩⟩
theorem fn_call (T : Txt K mg A) : FnOk P w K mg base CX0 8 A.f_answer_call A.d_answer_call ["play", "reader"] (sp_call A K) :=
  ok_answer_call T (fn_number T) (fn_abegins T) (fn_ascene T) (fn_aplayer T) (fn_apiece T) (fn_aahead T) (fn_best T) (fn_apart T) (fn_acheck T) (fn_aorder T) (fun vs H Q E h => by obtain ⟨a, r, c, F, R, h, p, l, x, cs, rfl, _⟩ := h; rfl) pure_call
theorem ahead_le (h : Uw07.House) (x : Uw07.Call) : (Uw07.step h x).1.ahead.length ≤ h.ahead.length + 1 := by
  cases x with
  | begins d =>
    simp only [Uw07.step]
    split
    · simp
    · split <;> simp
  | scene n d => simp only [Uw07.step]; split <;> simp
  | player wg x y z d =>
    simp only [Uw07.step]
    split
    · simp
    · split
      · simp
      · split <;> simp
  | piece n d => simp only [Uw07.step]; split; simp; split <;> simp
  | ahead i j => simp only [Uw07.step]; split; simp; split <;> simp
  | best => exact Nat.le_succ _
  | apart => exact Nat.le_succ _
  | check c o => simp only [Uw07.step]; split <;> simp
  | order c => simp only [Uw07.step]; split <;> simp
theorem line_nil {t : List Int} {cs : List Uw07.Call} (L : Line t cs) : t = [] ↔ cs = [] := by
  cases L <;> simp
theorem due_le : ∀ (h : Uw07.House) (x : Uw07.Call) (cs : List Uw07.Call), (due h (x :: cs)).length = 1 + (Uw07Neutral.out (Uw07.step h x).2).length + (due (Uw07.step h x).1 cs).length := fun h x cs => by
  rw [due]
  simp
  omega
theorem pure_answers (T : Txt K mg A) : ∀ vs H Q E, sp_answers K vs H Q E → t_answers K A (sp_pinit A) (sp_Reader_init A) (sp_is_done A K) (sp_call A K) { nx := fun _ H' => Q .non H', rt := Q } (start ["calls", "play", "reader", "given", "answer"] vs) H := by
  rintro _ H Q E ⟨c, ns, rfl, hS, asked, k⟩
  obtain ⟨cs0, L0, len0, eq0, big⟩ := asked_line asked
  -- play = Play()
  intro x dx nx ndx nex
  refine ⟨x, dx, fun b => H b ≠ none, rfl, upd_same, fun z => z nx, fun b z => ?_, fun H1 p k1 B1 => ⟨rfl, ?_⟩⟩
  · cases e : H b with
    | none => exact absurd e z
    | some o => rw [Same.rec nx ndx b o e]; simp
  have S1 : Same H H1 := fun b o e => B1 b o (ne_of_none e nx) (Same.rec nx ndx b o e)
  -- reader = Reader(calls)
  refine ⟨_, rfl, ?_⟩
  intro r dr nr ndr ner
  refine ⟨r, dr, _, rfl, upd_same, rfl, ?_⟩
  rw [upd_upd]
  have S2 : Same H1 (upd (upd H1 dr (.own r)) r (.ins A.c_Reader dr (fs_Reader (.ref c) (.int 0)))) := Same.rec nr ndr
  generalize hH2 : upd (upd H1 dr (.own r)) r (.ins A.c_Reader dr (fs_Reader (.ref c) (.int 0))) = H2 at S2 ⊢
  have o2 : H2 r = some (.ins A.c_Reader dr (fs_Reader (.ref c) (.int (ni 0)))) := by rw [← hH2, upd_same]; rfl
  -- given = []
  refine ⟨Nat.zero_le _, fun g ng => ?_⟩
  have S3 : Same H2 (upd H2 g (.lst [])) := Same.new ng
  generalize hH3 : upd H2 g (.lst []) = H3 at S3 ⊢
  have o3 : H3 g = some (.lst []) := by rw [← hH3, upd_same]
  have hrc : H r = none := by
    cases e : H r with
    | none => rfl
    | some o => rw [S1 r o e] at nr; cases nr
  have hgc : H g = none := by
    cases e : H g with
    | none => rfl
    | some o => rw [S2 g o (S1 g o e)] at ng; cases ng
  have gr : g ≠ r := (ne_of_none o2 ng).symm
  have rx : r ≠ x := fun z => by rw [z, k1.ob] at nr; cases nr
  let F : Addr → Prop := fun b => H b ≠ none ∨ b = r ∨ b = g
  let R : Addr → Prop := fun b => H b ≠ none
  have k3 : PlayAt A F H3 x Uw07.init p := k1.keep (fun b o _ e => S3 b o (S2 b o e)) fun b z e => by
    rcases z with z | z | z
    · exact z
    · rw [z, nr] at e; exact absurd rfl e
    · cases q : H1 g with
      | none => rw [z, q] at e; exact absurd rfl e
      | some o => rw [S2 g o q] at ng; cases ng
  have tr3 : Tr F H3 := fun b z => by
    rcases z with z | z | z
    · cases e : H b with
      | none => exact absurd e z
      | some o => rw [S3 b o (S2 b o (S1 b o e))]; simp
    · rw [z, S3 r _ o2]; simp
    · rw [z, o3]; simp
  have sq3 : SqF K R H3 c (ns.map V.int) := by
    have S13 : Same H H3 := fun b o e => S3 b o (S2 b o (S1 b o e))
    rcases hS with (e | ⟨o, e⟩) | e
    · exact .inl ⟨.inl (S13 _ _ e), (by show H c ≠ none; rw [e]; simp)⟩
    · exact .inl ⟨.inr ⟨o, S13 _ _ e⟩, (by show H c ≠ none; rw [e]; simp)⟩
    · exact .inr fun _ => .inr e
  have B3 : Both A K F R H3 x r c Uw07.init p ns := ⟨k3, ⟨dr, ns, 0, S3 r _ o2, sq3, rfl, Nat.zero_le _⟩, fun b z => .inl z, .inr (.inl rfl), tr3⟩
  refine ⟨fun m σ H' => ∃ (v : Option V) (h : Uw07.House) (p : Pl) (t : List Int) (cs : List Uw07.Call) (out : List Int), σ = [some (.ref c), some (.ref x), some (.ref r), some (.ref g), v] ∧ Both A K F R H' x r c h p t ∧ Line t cs ∧
    H' g = some (.lst (out.map V.int)) ∧ due Uw07.init cs0 = out ++ due h cs ∧ h.ahead.length + cs.length ≤ 40 ∧ m = cs.length, ⟨_, none, Uw07.init, p, ns, cs0, [], rfl, B3, L0, o3, rfl, by simpa [Uw07.init] using len0, rfl⟩, ?_⟩
  rintro m σ H' ⟨v, h, p', t, cs, out, rfl, B, L, hg, eq, la, rfl⟩
  obtain ⟨dx', v', ob'⟩ := B.rd.obj
  refine ⟨_, rfl, r, dx', _, rfl, ob', no_Reader_is_done, r, c, t, R, rfl, B.rd, _, rfl, ?_⟩
  cases cs with
  | nil =>
    have e : t = [] := (line_nil L).mpr rfl
    refine ifF (by rw [e]; rfl) ⟨_, rfl, k H' g ?_⟩
    rw [eq0, eq]
    simp only [due, List.append_nil]
    exact hg
  | cons y cs =>
    have e : ¬ t = [] := fun z => by cases (line_nil L).mp z
    refine ifT (by rw [decide_eq_false e]; rfl) ⟨fun σ H2 => ∃ (v : Option V) (h : Uw07.House) (p : Pl) (t : List Int) (out : List Int), σ = [some (.ref c), some (.ref x), some (.ref r), some (.ref g), v] ∧ Both A K F R H2 x r c h p t ∧ Line t cs ∧
      H2 g = some (.lst (out.map V.int)) ∧ due Uw07.init cs0 = out ++ due h cs ∧ h.ahead.length + cs.length ≤ 40, ?_, ?_⟩
    · rintro σ H2 ⟨v, h, p, t, out, rfl, B, L, hg, eq, la⟩
      exact ⟨cs.length, Nat.lt_succ_self _, v, h, p, t, cs, out, rfl, B, L, hg, eq, la, rfl⟩
    · have fg : F g := .inr (.inr rfl)
      refine ⟨_, rfl, _, rfl, x, r, c, F, R, h, p', t, y, cs, rfl, B, L, (by simp at la; omega), fun t2 L2 H2 q p2 nq hq B2 keep => ?_⟩
      have hg2 := keep g _ fg gr hg
      have gq : g ≠ q := fun z => nq (z ▸ fg)
      have dl := due_le h y cs
      have dl2 : (due Uw07.init cs0).length = out.length + (due h (y :: cs)).length := by rw [eq, List.length_append]
      -- given.append(len(answer))
      refine ⟨_, rfl, .inl ⟨rfl, _, SqL.of hg2⟩, _, rfl, q, _, rfl, .inl (SqL.of hq), g, _, _, rfl, rfl, hg2, ?_, ?_⟩
      · rw [List.length_map]
        show out.length < 2 ^ 24
        omega
      -- given.extend(answer)
      refine ⟨_, rfl, .inl ⟨rfl, _, SqL.of upd_same⟩, _, rfl, g, q, _, _, rfl, rfl, upd_same, (by rw [upd_ne gq.symm]; exact hq), ?_, ?_⟩
      · rw [List.length_append, List.length_map, List.length_map]
        show out.length + 1 + (Uw07Neutral.out (Uw07.step h y).2).length ≤ 2 ^ 24
        omega
      rw [upd_upd]
      refine ⟨some (.ref q), (Uw07.step h y).1, p2, t2, out ++ ni (Uw07Neutral.out (Uw07.step h y).2).length :: Uw07Neutral.out (Uw07.step h y).2, rfl, ?_, L2, ?_, ?_, ?_⟩
      · have gb : ∀ b o, b ≠ g → H2 b = some o → upd H2 g (.lst ((out.map V.int ++ [.int (((Uw07Neutral.out (Uw07.step h y).2).map V.int).length : Nat)]) ++ (Uw07Neutral.out (Uw07.step h y).2).map V.int)) b = some o := fun b o z e => by rw [upd_ne z]; exact e
        refine ⟨B2.pl.keep (fun b o n e => gb b o (fun z => n (z ▸ fg)) e) fun _ z _ => z, ?_, B2.sub, B2.fr, fun b f => ?_⟩
        · obtain ⟨dx3, ns3, i3, j1, j2, j3, j4⟩ := B2.rd.ex
          exact ⟨dx3, ns3, i3, gb _ _ gr.symm j1, j2.on (fun o fc no e => by
            have z : c ≠ g := fun z => fc (z ▸ hgc)
            exact gb _ _ z e), j3, j4⟩
        · by_cases z : b = g
          · rw [z, upd_same]; simp
          · cases e : H2 b with
            | none => exact absurd e (B2.tr b f)
            | some o => rw [gb b o z e]; simp
      · rw [upd_same, List.length_map]
        simp
      · rw [eq, due]
        simp
      · have := ahead_le h y
        simp at la
        omega
theorem fn_answers (T : Txt K mg A) : FnOk P w K mg base CX0 9 A.f_answers A.d_answers ["calls"] (sp_answers K) :=
  ok_answers T (fn_pinit T) (fn_Reader_init T) (fn_is_done T) (fn_call T) (fun vs H Q E h => by obtain ⟨c, ns, rfl, _⟩ := h; rfl) (pure_answers T)
end
end RC
namespace RC
open PySem PySem.Spec PyProof.Rows L2
theorem all_mk {K : PySem.W.Frag} {h : Heap} {mg : Str → Option Value}
    {c_Cheapest c_Rehearsals c_Plan c_Scene c_Player c_Piece c_Play c_Reader f_comes_too_soon f_lacks_time f_are_in_one_scene f_do_clash f_clashing_pairs f_can_play f_wrong_with_casting f_all_castings f_right_castings f_casting_cost f_all_orders f_beginnings f_is_in f_own_pieces f_stay_for f_stays_of_all f_stay_cost f_order_cost f_wrong_with_stay f_broken_pair f_wrong_with_order f_Cheapest_init f_Rehearsals_init f_Rehearsals_player_cost f_Rehearsals_player_costs f_Rehearsals_costs f_Rehearsals_cheapest f_row f_is_casting f_is_order f_Plan_init f_plans_by_casting f_best_plan f_plan_apart f_checked_plan f_cheapest_order f_Scene_init f_Player_init f_Piece_init f_Play_init f_Play_renew f_Play_begins f_Play_scene f_Play_player f_Play_piece f_Play_ahead f_Play_are_rising_roles f_Play_are_fees f_Reader_init f_Reader_is_done f_Reader_number f_Reader_row f_answer_begins f_answer_scene f_answer_player f_answer_piece f_answer_ahead f_answer_check f_answer_order f_answer_call f_answers : Addr}
    {od_comes_too_soon an_comes_too_soon od_lacks_time an_lacks_time od_are_in_one_scene an_are_in_one_scene od_do_clash an_do_clash od_clashing_pairs an_clashing_pairs od_can_play an_can_play od_wrong_with_casting an_wrong_with_casting od_all_castings an_all_castings od_right_castings an_right_castings od_casting_cost an_casting_cost od_all_orders an_all_orders od_beginnings an_beginnings od_is_in an_is_in od_own_pieces an_own_pieces od_stay_for an_stay_for od_stays_of_all an_stays_of_all od_stay_cost an_stay_cost od_order_cost an_order_cost od_wrong_with_stay an_wrong_with_stay od_broken_pair an_broken_pair od_wrong_with_order an_wrong_with_order od_Cheapest_init an_Cheapest_init od_Rehearsals_init an_Rehearsals_init od_Rehearsals_player_cost an_Rehearsals_player_cost od_Rehearsals_player_costs an_Rehearsals_player_costs od_Rehearsals_costs an_Rehearsals_costs od_Rehearsals_cheapest an_Rehearsals_cheapest od_row an_row od_is_casting an_is_casting od_is_order an_is_order od_Plan_init an_Plan_init od_plans_by_casting an_plans_by_casting od_best_plan an_best_plan od_plan_apart an_plan_apart od_checked_plan an_checked_plan od_cheapest_order an_cheapest_order od_Scene_init an_Scene_init od_Player_init an_Player_init od_Piece_init an_Piece_init od_Play_init an_Play_init od_Play_renew an_Play_renew od_Play_begins an_Play_begins od_Play_scene an_Play_scene od_Play_player an_Play_player od_Play_piece an_Play_piece od_Play_ahead an_Play_ahead od_Play_are_rising_roles an_Play_are_rising_roles od_Play_are_fees an_Play_are_fees od_Reader_init an_Reader_init od_Reader_is_done an_Reader_is_done od_Reader_number an_Reader_number od_Reader_row an_Reader_row od_answer_begins an_answer_begins od_answer_scene an_answer_scene od_answer_player an_answer_player od_answer_piece an_answer_piece od_answer_ahead an_answer_ahead od_answer_check an_answer_check od_answer_order an_answer_order od_answer_call an_answer_call od_answers an_answers : Option Addr}
    {sl_comes_too_soon sl_lacks_time sl_are_in_one_scene sl_do_clash sl_clashing_pairs sl_can_play sl_wrong_with_casting sl_all_castings sl_right_castings sl_casting_cost sl_all_orders sl_beginnings sl_is_in sl_own_pieces sl_stay_for sl_stays_of_all sl_stay_cost sl_order_cost sl_wrong_with_stay sl_broken_pair sl_wrong_with_order sl_Cheapest_init sl_Rehearsals_init sl_Rehearsals_player_cost sl_Rehearsals_player_costs sl_Rehearsals_costs sl_Rehearsals_cheapest sl_row sl_is_casting sl_is_order sl_Plan_init sl_plans_by_casting sl_best_plan sl_plan_apart sl_checked_plan sl_cheapest_order sl_Scene_init sl_Player_init sl_Piece_init sl_Play_init sl_Play_renew sl_Play_begins sl_Play_scene sl_Play_player sl_Play_piece sl_Play_ahead sl_Play_are_rising_roles sl_Play_are_fees sl_Reader_init sl_Reader_is_done sl_Reader_number sl_Reader_row sl_answer_begins sl_answer_scene sl_answer_player sl_answer_piece sl_answer_ahead sl_answer_check sl_answer_order sl_answer_call sl_answers : Array (Option Value)}
    {oc_comes_too_soon kV_comes_too_soon dc_comes_too_soon pm_comes_too_soon cd_comes_too_soon ct_comes_too_soon oc_lacks_time kV_lacks_time dc_lacks_time pm_lacks_time cd_lacks_time ct_lacks_time oc_are_in_one_scene kV_are_in_one_scene dc_are_in_one_scene pm_are_in_one_scene cd_are_in_one_scene ct_are_in_one_scene oc_do_clash kV_do_clash dc_do_clash pm_do_clash cd_do_clash ct_do_clash oc_clashing_pairs kV_clashing_pairs dc_clashing_pairs pm_clashing_pairs cd_clashing_pairs ct_clashing_pairs oc_can_play kV_can_play dc_can_play pm_can_play cd_can_play ct_can_play oc_wrong_with_casting kV_wrong_with_casting dc_wrong_with_casting pm_wrong_with_casting cd_wrong_with_casting ct_wrong_with_casting oc_all_castings kV_all_castings dc_all_castings pm_all_castings cd_all_castings ct_all_castings oc_right_castings kV_right_castings dc_right_castings pm_right_castings cd_right_castings ct_right_castings oc_casting_cost kV_casting_cost dc_casting_cost pm_casting_cost cd_casting_cost ct_casting_cost oc_all_orders kV_all_orders dc_all_orders pm_all_orders cd_all_orders ct_all_orders oc_beginnings kV_beginnings dc_beginnings pm_beginnings cd_beginnings ct_beginnings oc_is_in kV_is_in dc_is_in pm_is_in cd_is_in ct_is_in oc_own_pieces kV_own_pieces dc_own_pieces pm_own_pieces cd_own_pieces ct_own_pieces oc_stay_for kV_stay_for dc_stay_for pm_stay_for cd_stay_for ct_stay_for oc_stays_of_all kV_stays_of_all dc_stays_of_all pm_stays_of_all cd_stays_of_all ct_stays_of_all oc_stay_cost kV_stay_cost dc_stay_cost pm_stay_cost cd_stay_cost ct_stay_cost oc_order_cost kV_order_cost dc_order_cost pm_order_cost cd_order_cost ct_order_cost oc_wrong_with_stay kV_wrong_with_stay dc_wrong_with_stay pm_wrong_with_stay cd_wrong_with_stay ct_wrong_with_stay oc_broken_pair kV_broken_pair dc_broken_pair pm_broken_pair cd_broken_pair ct_broken_pair oc_wrong_with_order kV_wrong_with_order dc_wrong_with_order pm_wrong_with_order cd_wrong_with_order ct_wrong_with_order oc_Cheapest_init kV_Cheapest_init dc_Cheapest_init pm_Cheapest_init cd_Cheapest_init ct_Cheapest_init oc_Rehearsals_init kV_Rehearsals_init dc_Rehearsals_init pm_Rehearsals_init cd_Rehearsals_init ct_Rehearsals_init oc_Rehearsals_player_cost kV_Rehearsals_player_cost dc_Rehearsals_player_cost pm_Rehearsals_player_cost cd_Rehearsals_player_cost ct_Rehearsals_player_cost oc_Rehearsals_player_costs kV_Rehearsals_player_costs dc_Rehearsals_player_costs pm_Rehearsals_player_costs cd_Rehearsals_player_costs ct_Rehearsals_player_costs oc_Rehearsals_costs kV_Rehearsals_costs dc_Rehearsals_costs pm_Rehearsals_costs cd_Rehearsals_costs ct_Rehearsals_costs oc_Rehearsals_cheapest kV_Rehearsals_cheapest dc_Rehearsals_cheapest pm_Rehearsals_cheapest cd_Rehearsals_cheapest ct_Rehearsals_cheapest oc_row kV_row dc_row pm_row cd_row ct_row oc_is_casting kV_is_casting dc_is_casting pm_is_casting cd_is_casting ct_is_casting oc_is_order kV_is_order dc_is_order pm_is_order cd_is_order ct_is_order oc_Plan_init kV_Plan_init dc_Plan_init pm_Plan_init cd_Plan_init ct_Plan_init oc_plans_by_casting kV_plans_by_casting dc_plans_by_casting pm_plans_by_casting cd_plans_by_casting ct_plans_by_casting oc_best_plan kV_best_plan dc_best_plan pm_best_plan cd_best_plan ct_best_plan oc_plan_apart kV_plan_apart dc_plan_apart pm_plan_apart cd_plan_apart ct_plan_apart oc_checked_plan kV_checked_plan dc_checked_plan pm_checked_plan cd_checked_plan ct_checked_plan oc_cheapest_order kV_cheapest_order dc_cheapest_order pm_cheapest_order cd_cheapest_order ct_cheapest_order oc_Scene_init kV_Scene_init dc_Scene_init pm_Scene_init cd_Scene_init ct_Scene_init oc_Player_init kV_Player_init dc_Player_init pm_Player_init cd_Player_init ct_Player_init oc_Piece_init kV_Piece_init dc_Piece_init pm_Piece_init cd_Piece_init ct_Piece_init oc_Play_init kV_Play_init dc_Play_init pm_Play_init cd_Play_init ct_Play_init oc_Play_renew kV_Play_renew dc_Play_renew pm_Play_renew cd_Play_renew ct_Play_renew oc_Play_begins kV_Play_begins dc_Play_begins pm_Play_begins cd_Play_begins ct_Play_begins oc_Play_scene kV_Play_scene dc_Play_scene pm_Play_scene cd_Play_scene ct_Play_scene oc_Play_player kV_Play_player dc_Play_player pm_Play_player cd_Play_player ct_Play_player oc_Play_piece kV_Play_piece dc_Play_piece pm_Play_piece cd_Play_piece ct_Play_piece oc_Play_ahead kV_Play_ahead dc_Play_ahead pm_Play_ahead cd_Play_ahead ct_Play_ahead oc_Play_are_rising_roles kV_Play_are_rising_roles dc_Play_are_rising_roles pm_Play_are_rising_roles cd_Play_are_rising_roles ct_Play_are_rising_roles oc_Play_are_fees kV_Play_are_fees dc_Play_are_fees pm_Play_are_fees cd_Play_are_fees ct_Play_are_fees oc_Reader_init kV_Reader_init dc_Reader_init pm_Reader_init cd_Reader_init ct_Reader_init oc_Reader_is_done kV_Reader_is_done dc_Reader_is_done pm_Reader_is_done cd_Reader_is_done ct_Reader_is_done oc_Reader_number kV_Reader_number dc_Reader_number pm_Reader_number cd_Reader_number ct_Reader_number oc_Reader_row kV_Reader_row dc_Reader_row pm_Reader_row cd_Reader_row ct_Reader_row oc_answer_begins kV_answer_begins dc_answer_begins pm_answer_begins cd_answer_begins ct_answer_begins oc_answer_scene kV_answer_scene dc_answer_scene pm_answer_scene cd_answer_scene ct_answer_scene oc_answer_player kV_answer_player dc_answer_player pm_answer_player cd_answer_player ct_answer_player oc_answer_piece kV_answer_piece dc_answer_piece pm_answer_piece cd_answer_piece ct_answer_piece oc_answer_ahead kV_answer_ahead dc_answer_ahead pm_answer_ahead cd_answer_ahead ct_answer_ahead oc_answer_check kV_answer_check dc_answer_check pm_answer_check cd_answer_check ct_answer_check oc_answer_order kV_answer_order dc_answer_order pm_answer_order cd_answer_order ct_answer_order oc_answer_call kV_answer_call dc_answer_call pm_answer_call cd_answer_call ct_answer_call oc_answers kV_answers dc_answers pm_answers cd_answers ct_answers : Value}
    {t_MOST_ROLES t_MOST_DRESSING t_MOST_SCENES t_MOST_SCENE_MINUTES t_MOST_PLAYERS t_MOST_WAGE t_MOST_FEE t_MOST_RATE t_LAST_MINUTE t_MOST_PIECES t_MOST_PIECE_MINUTES t_BEGINS t_SCENE t_PLAYER t_PIECE t_AHEAD t_BEST t_APART t_CHECK t_ORDER : Tok}
    (X : K.In h) (G : h.Ns mainGlobals mg)
    (aC_Cheapest : PySem.W.nsIn K mainGlobals "Cheapest" = some (some (.ref c_Cheapest)))
    (aC_Rehearsals : PySem.W.nsIn K mainGlobals "Rehearsals" = some (some (.ref c_Rehearsals)))
    (aC_Plan : PySem.W.nsIn K mainGlobals "Plan" = some (some (.ref c_Plan)))
    (aC_Scene : PySem.W.nsIn K mainGlobals "Scene" = some (some (.ref c_Scene)))
    (aC_Player : PySem.W.nsIn K mainGlobals "Player" = some (some (.ref c_Player)))
    (aC_Piece : PySem.W.nsIn K mainGlobals "Piece" = some (some (.ref c_Piece)))
    (aC_Play : PySem.W.nsIn K mainGlobals "Play" = some (some (.ref c_Play)))
    (aC_Reader : PySem.W.nsIn K mainGlobals "Reader" = some (some (.ref c_Reader)))
    (a_comes_too_soon : PySem.W.nsIn K mainGlobals "comes_too_soon" = some (some (.ref f_comes_too_soon)))
    (l_comes_too_soon : K.lookup f_comes_too_soon = some ⟨oc_comes_too_soon, od_comes_too_soon, .func (PySem.W.fnOf "comes_too_soon" "comes_too_soon" (defArgs s_comes_too_soon) (defBody s_comes_too_soon) (defScope s_comes_too_soon) .none kV_comes_too_soon dc_comes_too_soon pm_comes_too_soon an_comes_too_soon cd_comes_too_soon ct_comes_too_soon), sl_comes_too_soon⟩)
    (c_comes_too_soon : PySem.W.codeIn K cd_comes_too_soon "comes_too_soon" = true)
    (k_comes_too_soon : PySem.W.keepIn K (.ref f_comes_too_soon) = true)
    (a_lacks_time : PySem.W.nsIn K mainGlobals "lacks_time" = some (some (.ref f_lacks_time)))
    (l_lacks_time : K.lookup f_lacks_time = some ⟨oc_lacks_time, od_lacks_time, .func (PySem.W.fnOf "lacks_time" "lacks_time" (defArgs s_lacks_time) (defBody s_lacks_time) (defScope s_lacks_time) .none kV_lacks_time dc_lacks_time pm_lacks_time an_lacks_time cd_lacks_time ct_lacks_time), sl_lacks_time⟩)
    (c_lacks_time : PySem.W.codeIn K cd_lacks_time "lacks_time" = true)
    (k_lacks_time : PySem.W.keepIn K (.ref f_lacks_time) = true)
    (a_are_in_one_scene : PySem.W.nsIn K mainGlobals "are_in_one_scene" = some (some (.ref f_are_in_one_scene)))
    (l_are_in_one_scene : K.lookup f_are_in_one_scene = some ⟨oc_are_in_one_scene, od_are_in_one_scene, .func (PySem.W.fnOf "are_in_one_scene" "are_in_one_scene" (defArgs s_are_in_one_scene) (defBody s_are_in_one_scene) (defScope s_are_in_one_scene) .none kV_are_in_one_scene dc_are_in_one_scene pm_are_in_one_scene an_are_in_one_scene cd_are_in_one_scene ct_are_in_one_scene), sl_are_in_one_scene⟩)
    (c_are_in_one_scene : PySem.W.codeIn K cd_are_in_one_scene "are_in_one_scene" = true)
    (k_are_in_one_scene : PySem.W.keepIn K (.ref f_are_in_one_scene) = true)
    (a_do_clash : PySem.W.nsIn K mainGlobals "do_clash" = some (some (.ref f_do_clash)))
    (l_do_clash : K.lookup f_do_clash = some ⟨oc_do_clash, od_do_clash, .func (PySem.W.fnOf "do_clash" "do_clash" (defArgs s_do_clash) (defBody s_do_clash) (defScope s_do_clash) .none kV_do_clash dc_do_clash pm_do_clash an_do_clash cd_do_clash ct_do_clash), sl_do_clash⟩)
    (c_do_clash : PySem.W.codeIn K cd_do_clash "do_clash" = true)
    (k_do_clash : PySem.W.keepIn K (.ref f_do_clash) = true)
    (a_clashing_pairs : PySem.W.nsIn K mainGlobals "clashing_pairs" = some (some (.ref f_clashing_pairs)))
    (l_clashing_pairs : K.lookup f_clashing_pairs = some ⟨oc_clashing_pairs, od_clashing_pairs, .func (PySem.W.fnOf "clashing_pairs" "clashing_pairs" (defArgs s_clashing_pairs) (defBody s_clashing_pairs) (defScope s_clashing_pairs) .none kV_clashing_pairs dc_clashing_pairs pm_clashing_pairs an_clashing_pairs cd_clashing_pairs ct_clashing_pairs), sl_clashing_pairs⟩)
    (c_clashing_pairs : PySem.W.codeIn K cd_clashing_pairs "clashing_pairs" = true)
    (k_clashing_pairs : PySem.W.keepIn K (.ref f_clashing_pairs) = true)
    (a_can_play : PySem.W.nsIn K mainGlobals "can_play" = some (some (.ref f_can_play)))
    (l_can_play : K.lookup f_can_play = some ⟨oc_can_play, od_can_play, .func (PySem.W.fnOf "can_play" "can_play" (defArgs s_can_play) (defBody s_can_play) (defScope s_can_play) .none kV_can_play dc_can_play pm_can_play an_can_play cd_can_play ct_can_play), sl_can_play⟩)
    (c_can_play : PySem.W.codeIn K cd_can_play "can_play" = true)
    (k_can_play : PySem.W.keepIn K (.ref f_can_play) = true)
    (a_wrong_with_casting : PySem.W.nsIn K mainGlobals "wrong_with_casting" = some (some (.ref f_wrong_with_casting)))
    (l_wrong_with_casting : K.lookup f_wrong_with_casting = some ⟨oc_wrong_with_casting, od_wrong_with_casting, .func (PySem.W.fnOf "wrong_with_casting" "wrong_with_casting" (defArgs s_wrong_with_casting) (defBody s_wrong_with_casting) (defScope s_wrong_with_casting) .none kV_wrong_with_casting dc_wrong_with_casting pm_wrong_with_casting an_wrong_with_casting cd_wrong_with_casting ct_wrong_with_casting), sl_wrong_with_casting⟩)
    (c_wrong_with_casting : PySem.W.codeIn K cd_wrong_with_casting "wrong_with_casting" = true)
    (k_wrong_with_casting : PySem.W.keepIn K (.ref f_wrong_with_casting) = true)
    (a_all_castings : PySem.W.nsIn K mainGlobals "all_castings" = some (some (.ref f_all_castings)))
    (l_all_castings : K.lookup f_all_castings = some ⟨oc_all_castings, od_all_castings, .func (PySem.W.fnOf "all_castings" "all_castings" (defArgs s_all_castings) (defBody s_all_castings) (defScope s_all_castings) .none kV_all_castings dc_all_castings pm_all_castings an_all_castings cd_all_castings ct_all_castings), sl_all_castings⟩)
    (c_all_castings : PySem.W.codeIn K cd_all_castings "all_castings" = true)
    (k_all_castings : PySem.W.keepIn K (.ref f_all_castings) = true)
    (a_right_castings : PySem.W.nsIn K mainGlobals "right_castings" = some (some (.ref f_right_castings)))
    (l_right_castings : K.lookup f_right_castings = some ⟨oc_right_castings, od_right_castings, .func (PySem.W.fnOf "right_castings" "right_castings" (defArgs s_right_castings) (defBody s_right_castings) (defScope s_right_castings) .none kV_right_castings dc_right_castings pm_right_castings an_right_castings cd_right_castings ct_right_castings), sl_right_castings⟩)
    (c_right_castings : PySem.W.codeIn K cd_right_castings "right_castings" = true)
    (k_right_castings : PySem.W.keepIn K (.ref f_right_castings) = true)
    (a_casting_cost : PySem.W.nsIn K mainGlobals "casting_cost" = some (some (.ref f_casting_cost)))
    (l_casting_cost : K.lookup f_casting_cost = some ⟨oc_casting_cost, od_casting_cost, .func (PySem.W.fnOf "casting_cost" "casting_cost" (defArgs s_casting_cost) (defBody s_casting_cost) (defScope s_casting_cost) .none kV_casting_cost dc_casting_cost pm_casting_cost an_casting_cost cd_casting_cost ct_casting_cost), sl_casting_cost⟩)
    (c_casting_cost : PySem.W.codeIn K cd_casting_cost "casting_cost" = true)
    (k_casting_cost : PySem.W.keepIn K (.ref f_casting_cost) = true)
    (a_all_orders : PySem.W.nsIn K mainGlobals "all_orders" = some (some (.ref f_all_orders)))
    (l_all_orders : K.lookup f_all_orders = some ⟨oc_all_orders, od_all_orders, .func (PySem.W.fnOf "all_orders" "all_orders" (defArgs s_all_orders) (defBody s_all_orders) (defScope s_all_orders) .none kV_all_orders dc_all_orders pm_all_orders an_all_orders cd_all_orders ct_all_orders), sl_all_orders⟩)
    (c_all_orders : PySem.W.codeIn K cd_all_orders "all_orders" = true)
    (k_all_orders : PySem.W.keepIn K (.ref f_all_orders) = true)
    (a_beginnings : PySem.W.nsIn K mainGlobals "beginnings" = some (some (.ref f_beginnings)))
    (l_beginnings : K.lookup f_beginnings = some ⟨oc_beginnings, od_beginnings, .func (PySem.W.fnOf "beginnings" "beginnings" (defArgs s_beginnings) (defBody s_beginnings) (defScope s_beginnings) .none kV_beginnings dc_beginnings pm_beginnings an_beginnings cd_beginnings ct_beginnings), sl_beginnings⟩)
    (c_beginnings : PySem.W.codeIn K cd_beginnings "beginnings" = true)
    (k_beginnings : PySem.W.keepIn K (.ref f_beginnings) = true)
    (a_is_in : PySem.W.nsIn K mainGlobals "is_in" = some (some (.ref f_is_in)))
    (l_is_in : K.lookup f_is_in = some ⟨oc_is_in, od_is_in, .func (PySem.W.fnOf "is_in" "is_in" (defArgs s_is_in) (defBody s_is_in) (defScope s_is_in) .none kV_is_in dc_is_in pm_is_in an_is_in cd_is_in ct_is_in), sl_is_in⟩)
    (c_is_in : PySem.W.codeIn K cd_is_in "is_in" = true)
    (k_is_in : PySem.W.keepIn K (.ref f_is_in) = true)
    (a_own_pieces : PySem.W.nsIn K mainGlobals "own_pieces" = some (some (.ref f_own_pieces)))
    (l_own_pieces : K.lookup f_own_pieces = some ⟨oc_own_pieces, od_own_pieces, .func (PySem.W.fnOf "own_pieces" "own_pieces" (defArgs s_own_pieces) (defBody s_own_pieces) (defScope s_own_pieces) .none kV_own_pieces dc_own_pieces pm_own_pieces an_own_pieces cd_own_pieces ct_own_pieces), sl_own_pieces⟩)
    (c_own_pieces : PySem.W.codeIn K cd_own_pieces "own_pieces" = true)
    (k_own_pieces : PySem.W.keepIn K (.ref f_own_pieces) = true)
    (a_stay_for : PySem.W.nsIn K mainGlobals "stay_for" = some (some (.ref f_stay_for)))
    (l_stay_for : K.lookup f_stay_for = some ⟨oc_stay_for, od_stay_for, .func (PySem.W.fnOf "stay_for" "stay_for" (defArgs s_stay_for) (defBody s_stay_for) (defScope s_stay_for) .none kV_stay_for dc_stay_for pm_stay_for an_stay_for cd_stay_for ct_stay_for), sl_stay_for⟩)
    (c_stay_for : PySem.W.codeIn K cd_stay_for "stay_for" = true)
    (k_stay_for : PySem.W.keepIn K (.ref f_stay_for) = true)
    (a_stays_of_all : PySem.W.nsIn K mainGlobals "stays_of_all" = some (some (.ref f_stays_of_all)))
    (l_stays_of_all : K.lookup f_stays_of_all = some ⟨oc_stays_of_all, od_stays_of_all, .func (PySem.W.fnOf "stays_of_all" "stays_of_all" (defArgs s_stays_of_all) (defBody s_stays_of_all) (defScope s_stays_of_all) .none kV_stays_of_all dc_stays_of_all pm_stays_of_all an_stays_of_all cd_stays_of_all ct_stays_of_all), sl_stays_of_all⟩)
    (c_stays_of_all : PySem.W.codeIn K cd_stays_of_all "stays_of_all" = true)
    (k_stays_of_all : PySem.W.keepIn K (.ref f_stays_of_all) = true)
    (a_stay_cost : PySem.W.nsIn K mainGlobals "stay_cost" = some (some (.ref f_stay_cost)))
    (l_stay_cost : K.lookup f_stay_cost = some ⟨oc_stay_cost, od_stay_cost, .func (PySem.W.fnOf "stay_cost" "stay_cost" (defArgs s_stay_cost) (defBody s_stay_cost) (defScope s_stay_cost) .none kV_stay_cost dc_stay_cost pm_stay_cost an_stay_cost cd_stay_cost ct_stay_cost), sl_stay_cost⟩)
    (c_stay_cost : PySem.W.codeIn K cd_stay_cost "stay_cost" = true)
    (k_stay_cost : PySem.W.keepIn K (.ref f_stay_cost) = true)
    (a_order_cost : PySem.W.nsIn K mainGlobals "order_cost" = some (some (.ref f_order_cost)))
    (l_order_cost : K.lookup f_order_cost = some ⟨oc_order_cost, od_order_cost, .func (PySem.W.fnOf "order_cost" "order_cost" (defArgs s_order_cost) (defBody s_order_cost) (defScope s_order_cost) .none kV_order_cost dc_order_cost pm_order_cost an_order_cost cd_order_cost ct_order_cost), sl_order_cost⟩)
    (c_order_cost : PySem.W.codeIn K cd_order_cost "order_cost" = true)
    (k_order_cost : PySem.W.keepIn K (.ref f_order_cost) = true)
    (a_wrong_with_stay : PySem.W.nsIn K mainGlobals "wrong_with_stay" = some (some (.ref f_wrong_with_stay)))
    (l_wrong_with_stay : K.lookup f_wrong_with_stay = some ⟨oc_wrong_with_stay, od_wrong_with_stay, .func (PySem.W.fnOf "wrong_with_stay" "wrong_with_stay" (defArgs s_wrong_with_stay) (defBody s_wrong_with_stay) (defScope s_wrong_with_stay) .none kV_wrong_with_stay dc_wrong_with_stay pm_wrong_with_stay an_wrong_with_stay cd_wrong_with_stay ct_wrong_with_stay), sl_wrong_with_stay⟩)
    (c_wrong_with_stay : PySem.W.codeIn K cd_wrong_with_stay "wrong_with_stay" = true)
    (k_wrong_with_stay : PySem.W.keepIn K (.ref f_wrong_with_stay) = true)
    (a_broken_pair : PySem.W.nsIn K mainGlobals "broken_pair" = some (some (.ref f_broken_pair)))
    (l_broken_pair : K.lookup f_broken_pair = some ⟨oc_broken_pair, od_broken_pair, .func (PySem.W.fnOf "broken_pair" "broken_pair" (defArgs s_broken_pair) (defBody s_broken_pair) (defScope s_broken_pair) .none kV_broken_pair dc_broken_pair pm_broken_pair an_broken_pair cd_broken_pair ct_broken_pair), sl_broken_pair⟩)
    (c_broken_pair : PySem.W.codeIn K cd_broken_pair "broken_pair" = true)
    (k_broken_pair : PySem.W.keepIn K (.ref f_broken_pair) = true)
    (a_wrong_with_order : PySem.W.nsIn K mainGlobals "wrong_with_order" = some (some (.ref f_wrong_with_order)))
    (l_wrong_with_order : K.lookup f_wrong_with_order = some ⟨oc_wrong_with_order, od_wrong_with_order, .func (PySem.W.fnOf "wrong_with_order" "wrong_with_order" (defArgs s_wrong_with_order) (defBody s_wrong_with_order) (defScope s_wrong_with_order) .none kV_wrong_with_order dc_wrong_with_order pm_wrong_with_order an_wrong_with_order cd_wrong_with_order ct_wrong_with_order), sl_wrong_with_order⟩)
    (c_wrong_with_order : PySem.W.codeIn K cd_wrong_with_order "wrong_with_order" = true)
    (k_wrong_with_order : PySem.W.keepIn K (.ref f_wrong_with_order) = true)
    (a_Cheapest_init : PySem.W.findIn K (.ref c_Cheapest) "__init__" = some (some (.ref f_Cheapest_init)))
    (i_Cheapest_init : PySem.W.isFn K (.ref f_Cheapest_init) = true)
    (l_Cheapest_init : K.lookup f_Cheapest_init = some ⟨oc_Cheapest_init, od_Cheapest_init, .func (PySem.W.fnOf "__init__" "Cheapest.__init__" (defArgs s_Cheapest_init) (defBody s_Cheapest_init) (defScope s_Cheapest_init) .none kV_Cheapest_init dc_Cheapest_init pm_Cheapest_init an_Cheapest_init cd_Cheapest_init ct_Cheapest_init), sl_Cheapest_init⟩)
    (c_Cheapest_init : PySem.W.codeIn K cd_Cheapest_init "Cheapest.__init__" = true)
    (k_Cheapest_init : PySem.W.keepIn K (.ref f_Cheapest_init) = true)
    (a_Rehearsals_init : PySem.W.findIn K (.ref c_Rehearsals) "__init__" = some (some (.ref f_Rehearsals_init)))
    (i_Rehearsals_init : PySem.W.isFn K (.ref f_Rehearsals_init) = true)
    (l_Rehearsals_init : K.lookup f_Rehearsals_init = some ⟨oc_Rehearsals_init, od_Rehearsals_init, .func (PySem.W.fnOf "__init__" "Rehearsals.__init__" (defArgs s_Rehearsals_init) (defBody s_Rehearsals_init) (defScope s_Rehearsals_init) .none kV_Rehearsals_init dc_Rehearsals_init pm_Rehearsals_init an_Rehearsals_init cd_Rehearsals_init ct_Rehearsals_init), sl_Rehearsals_init⟩)
    (c_Rehearsals_init : PySem.W.codeIn K cd_Rehearsals_init "Rehearsals.__init__" = true)
    (k_Rehearsals_init : PySem.W.keepIn K (.ref f_Rehearsals_init) = true)
    (a_Rehearsals_player_cost : PySem.W.findIn K (.ref c_Rehearsals) "player_cost" = some (some (.ref f_Rehearsals_player_cost)))
    (i_Rehearsals_player_cost : PySem.W.isFn K (.ref f_Rehearsals_player_cost) = true)
    (l_Rehearsals_player_cost : K.lookup f_Rehearsals_player_cost = some ⟨oc_Rehearsals_player_cost, od_Rehearsals_player_cost, .func (PySem.W.fnOf "player_cost" "Rehearsals.player_cost" (defArgs s_Rehearsals_player_cost) (defBody s_Rehearsals_player_cost) (defScope s_Rehearsals_player_cost) .none kV_Rehearsals_player_cost dc_Rehearsals_player_cost pm_Rehearsals_player_cost an_Rehearsals_player_cost cd_Rehearsals_player_cost ct_Rehearsals_player_cost), sl_Rehearsals_player_cost⟩)
    (c_Rehearsals_player_cost : PySem.W.codeIn K cd_Rehearsals_player_cost "Rehearsals.player_cost" = true)
    (k_Rehearsals_player_cost : PySem.W.keepIn K (.ref f_Rehearsals_player_cost) = true)
    (a_Rehearsals_player_costs : PySem.W.findIn K (.ref c_Rehearsals) "player_costs" = some (some (.ref f_Rehearsals_player_costs)))
    (i_Rehearsals_player_costs : PySem.W.isFn K (.ref f_Rehearsals_player_costs) = true)
    (l_Rehearsals_player_costs : K.lookup f_Rehearsals_player_costs = some ⟨oc_Rehearsals_player_costs, od_Rehearsals_player_costs, .func (PySem.W.fnOf "player_costs" "Rehearsals.player_costs" (defArgs s_Rehearsals_player_costs) (defBody s_Rehearsals_player_costs) (defScope s_Rehearsals_player_costs) .none kV_Rehearsals_player_costs dc_Rehearsals_player_costs pm_Rehearsals_player_costs an_Rehearsals_player_costs cd_Rehearsals_player_costs ct_Rehearsals_player_costs), sl_Rehearsals_player_costs⟩)
    (c_Rehearsals_player_costs : PySem.W.codeIn K cd_Rehearsals_player_costs "Rehearsals.player_costs" = true)
    (k_Rehearsals_player_costs : PySem.W.keepIn K (.ref f_Rehearsals_player_costs) = true)
    (a_Rehearsals_costs : PySem.W.findIn K (.ref c_Rehearsals) "costs" = some (some (.ref f_Rehearsals_costs)))
    (i_Rehearsals_costs : PySem.W.isFn K (.ref f_Rehearsals_costs) = true)
    (l_Rehearsals_costs : K.lookup f_Rehearsals_costs = some ⟨oc_Rehearsals_costs, od_Rehearsals_costs, .func (PySem.W.fnOf "costs" "Rehearsals.costs" (defArgs s_Rehearsals_costs) (defBody s_Rehearsals_costs) (defScope s_Rehearsals_costs) .none kV_Rehearsals_costs dc_Rehearsals_costs pm_Rehearsals_costs an_Rehearsals_costs cd_Rehearsals_costs ct_Rehearsals_costs), sl_Rehearsals_costs⟩)
    (c_Rehearsals_costs : PySem.W.codeIn K cd_Rehearsals_costs "Rehearsals.costs" = true)
    (k_Rehearsals_costs : PySem.W.keepIn K (.ref f_Rehearsals_costs) = true)
    (a_Rehearsals_cheapest : PySem.W.findIn K (.ref c_Rehearsals) "cheapest" = some (some (.ref f_Rehearsals_cheapest)))
    (i_Rehearsals_cheapest : PySem.W.isFn K (.ref f_Rehearsals_cheapest) = true)
    (l_Rehearsals_cheapest : K.lookup f_Rehearsals_cheapest = some ⟨oc_Rehearsals_cheapest, od_Rehearsals_cheapest, .func (PySem.W.fnOf "cheapest" "Rehearsals.cheapest" (defArgs s_Rehearsals_cheapest) (defBody s_Rehearsals_cheapest) (defScope s_Rehearsals_cheapest) .none kV_Rehearsals_cheapest dc_Rehearsals_cheapest pm_Rehearsals_cheapest an_Rehearsals_cheapest cd_Rehearsals_cheapest ct_Rehearsals_cheapest), sl_Rehearsals_cheapest⟩)
    (c_Rehearsals_cheapest : PySem.W.codeIn K cd_Rehearsals_cheapest "Rehearsals.cheapest" = true)
    (k_Rehearsals_cheapest : PySem.W.keepIn K (.ref f_Rehearsals_cheapest) = true)
    (a_row : PySem.W.nsIn K mainGlobals "row" = some (some (.ref f_row)))
    (l_row : K.lookup f_row = some ⟨oc_row, od_row, .func (PySem.W.fnOf "row" "row" (defArgs s_row) (defBody s_row) (defScope s_row) .none kV_row dc_row pm_row an_row cd_row ct_row), sl_row⟩)
    (c_row : PySem.W.codeIn K cd_row "row" = true)
    (k_row : PySem.W.keepIn K (.ref f_row) = true)
    (a_is_casting : PySem.W.nsIn K mainGlobals "is_casting" = some (some (.ref f_is_casting)))
    (l_is_casting : K.lookup f_is_casting = some ⟨oc_is_casting, od_is_casting, .func (PySem.W.fnOf "is_casting" "is_casting" (defArgs s_is_casting) (defBody s_is_casting) (defScope s_is_casting) .none kV_is_casting dc_is_casting pm_is_casting an_is_casting cd_is_casting ct_is_casting), sl_is_casting⟩)
    (c_is_casting : PySem.W.codeIn K cd_is_casting "is_casting" = true)
    (k_is_casting : PySem.W.keepIn K (.ref f_is_casting) = true)
    (a_is_order : PySem.W.nsIn K mainGlobals "is_order" = some (some (.ref f_is_order)))
    (l_is_order : K.lookup f_is_order = some ⟨oc_is_order, od_is_order, .func (PySem.W.fnOf "is_order" "is_order" (defArgs s_is_order) (defBody s_is_order) (defScope s_is_order) .none kV_is_order dc_is_order pm_is_order an_is_order cd_is_order ct_is_order), sl_is_order⟩)
    (c_is_order : PySem.W.codeIn K cd_is_order "is_order" = true)
    (k_is_order : PySem.W.keepIn K (.ref f_is_order) = true)
    (a_Plan_init : PySem.W.findIn K (.ref c_Plan) "__init__" = some (some (.ref f_Plan_init)))
    (i_Plan_init : PySem.W.isFn K (.ref f_Plan_init) = true)
    (l_Plan_init : K.lookup f_Plan_init = some ⟨oc_Plan_init, od_Plan_init, .func (PySem.W.fnOf "__init__" "Plan.__init__" (defArgs s_Plan_init) (defBody s_Plan_init) (defScope s_Plan_init) .none kV_Plan_init dc_Plan_init pm_Plan_init an_Plan_init cd_Plan_init ct_Plan_init), sl_Plan_init⟩)
    (c_Plan_init : PySem.W.codeIn K cd_Plan_init "Plan.__init__" = true)
    (k_Plan_init : PySem.W.keepIn K (.ref f_Plan_init) = true)
    (a_plans_by_casting : PySem.W.nsIn K mainGlobals "plans_by_casting" = some (some (.ref f_plans_by_casting)))
    (l_plans_by_casting : K.lookup f_plans_by_casting = some ⟨oc_plans_by_casting, od_plans_by_casting, .func (PySem.W.fnOf "plans_by_casting" "plans_by_casting" (defArgs s_plans_by_casting) (defBody s_plans_by_casting) (defScope s_plans_by_casting) .none kV_plans_by_casting dc_plans_by_casting pm_plans_by_casting an_plans_by_casting cd_plans_by_casting ct_plans_by_casting), sl_plans_by_casting⟩)
    (c_plans_by_casting : PySem.W.codeIn K cd_plans_by_casting "plans_by_casting" = true)
    (k_plans_by_casting : PySem.W.keepIn K (.ref f_plans_by_casting) = true)
    (a_best_plan : PySem.W.nsIn K mainGlobals "best_plan" = some (some (.ref f_best_plan)))
    (l_best_plan : K.lookup f_best_plan = some ⟨oc_best_plan, od_best_plan, .func (PySem.W.fnOf "best_plan" "best_plan" (defArgs s_best_plan) (defBody s_best_plan) (defScope s_best_plan) .none kV_best_plan dc_best_plan pm_best_plan an_best_plan cd_best_plan ct_best_plan), sl_best_plan⟩)
    (c_best_plan : PySem.W.codeIn K cd_best_plan "best_plan" = true)
    (k_best_plan : PySem.W.keepIn K (.ref f_best_plan) = true)
    (a_plan_apart : PySem.W.nsIn K mainGlobals "plan_apart" = some (some (.ref f_plan_apart)))
    (l_plan_apart : K.lookup f_plan_apart = some ⟨oc_plan_apart, od_plan_apart, .func (PySem.W.fnOf "plan_apart" "plan_apart" (defArgs s_plan_apart) (defBody s_plan_apart) (defScope s_plan_apart) .none kV_plan_apart dc_plan_apart pm_plan_apart an_plan_apart cd_plan_apart ct_plan_apart), sl_plan_apart⟩)
    (c_plan_apart : PySem.W.codeIn K cd_plan_apart "plan_apart" = true)
    (k_plan_apart : PySem.W.keepIn K (.ref f_plan_apart) = true)
    (a_checked_plan : PySem.W.nsIn K mainGlobals "checked_plan" = some (some (.ref f_checked_plan)))
    (l_checked_plan : K.lookup f_checked_plan = some ⟨oc_checked_plan, od_checked_plan, .func (PySem.W.fnOf "checked_plan" "checked_plan" (defArgs s_checked_plan) (defBody s_checked_plan) (defScope s_checked_plan) .none kV_checked_plan dc_checked_plan pm_checked_plan an_checked_plan cd_checked_plan ct_checked_plan), sl_checked_plan⟩)
    (c_checked_plan : PySem.W.codeIn K cd_checked_plan "checked_plan" = true)
    (k_checked_plan : PySem.W.keepIn K (.ref f_checked_plan) = true)
    (a_cheapest_order : PySem.W.nsIn K mainGlobals "cheapest_order" = some (some (.ref f_cheapest_order)))
    (l_cheapest_order : K.lookup f_cheapest_order = some ⟨oc_cheapest_order, od_cheapest_order, .func (PySem.W.fnOf "cheapest_order" "cheapest_order" (defArgs s_cheapest_order) (defBody s_cheapest_order) (defScope s_cheapest_order) .none kV_cheapest_order dc_cheapest_order pm_cheapest_order an_cheapest_order cd_cheapest_order ct_cheapest_order), sl_cheapest_order⟩)
    (c_cheapest_order : PySem.W.codeIn K cd_cheapest_order "cheapest_order" = true)
    (k_cheapest_order : PySem.W.keepIn K (.ref f_cheapest_order) = true)
    (a_Scene_init : PySem.W.findIn K (.ref c_Scene) "__init__" = some (some (.ref f_Scene_init)))
    (i_Scene_init : PySem.W.isFn K (.ref f_Scene_init) = true)
    (l_Scene_init : K.lookup f_Scene_init = some ⟨oc_Scene_init, od_Scene_init, .func (PySem.W.fnOf "__init__" "Scene.__init__" (defArgs s_Scene_init) (defBody s_Scene_init) (defScope s_Scene_init) .none kV_Scene_init dc_Scene_init pm_Scene_init an_Scene_init cd_Scene_init ct_Scene_init), sl_Scene_init⟩)
    (c_Scene_init : PySem.W.codeIn K cd_Scene_init "Scene.__init__" = true)
    (k_Scene_init : PySem.W.keepIn K (.ref f_Scene_init) = true)
    (a_Player_init : PySem.W.findIn K (.ref c_Player) "__init__" = some (some (.ref f_Player_init)))
    (i_Player_init : PySem.W.isFn K (.ref f_Player_init) = true)
    (l_Player_init : K.lookup f_Player_init = some ⟨oc_Player_init, od_Player_init, .func (PySem.W.fnOf "__init__" "Player.__init__" (defArgs s_Player_init) (defBody s_Player_init) (defScope s_Player_init) .none kV_Player_init dc_Player_init pm_Player_init an_Player_init cd_Player_init ct_Player_init), sl_Player_init⟩)
    (c_Player_init : PySem.W.codeIn K cd_Player_init "Player.__init__" = true)
    (k_Player_init : PySem.W.keepIn K (.ref f_Player_init) = true)
    (a_Piece_init : PySem.W.findIn K (.ref c_Piece) "__init__" = some (some (.ref f_Piece_init)))
    (i_Piece_init : PySem.W.isFn K (.ref f_Piece_init) = true)
    (l_Piece_init : K.lookup f_Piece_init = some ⟨oc_Piece_init, od_Piece_init, .func (PySem.W.fnOf "__init__" "Piece.__init__" (defArgs s_Piece_init) (defBody s_Piece_init) (defScope s_Piece_init) .none kV_Piece_init dc_Piece_init pm_Piece_init an_Piece_init cd_Piece_init ct_Piece_init), sl_Piece_init⟩)
    (c_Piece_init : PySem.W.codeIn K cd_Piece_init "Piece.__init__" = true)
    (k_Piece_init : PySem.W.keepIn K (.ref f_Piece_init) = true)
    (a_Play_init : PySem.W.findIn K (.ref c_Play) "__init__" = some (some (.ref f_Play_init)))
    (i_Play_init : PySem.W.isFn K (.ref f_Play_init) = true)
    (l_Play_init : K.lookup f_Play_init = some ⟨oc_Play_init, od_Play_init, .func (PySem.W.fnOf "__init__" "Play.__init__" (defArgs s_Play_init) (defBody s_Play_init) (defScope s_Play_init) .none kV_Play_init dc_Play_init pm_Play_init an_Play_init cd_Play_init ct_Play_init), sl_Play_init⟩)
    (c_Play_init : PySem.W.codeIn K cd_Play_init "Play.__init__" = true)
    (k_Play_init : PySem.W.keepIn K (.ref f_Play_init) = true)
    (a_Play_renew : PySem.W.findIn K (.ref c_Play) "renew" = some (some (.ref f_Play_renew)))
    (i_Play_renew : PySem.W.isFn K (.ref f_Play_renew) = true)
    (l_Play_renew : K.lookup f_Play_renew = some ⟨oc_Play_renew, od_Play_renew, .func (PySem.W.fnOf "renew" "Play.renew" (defArgs s_Play_renew) (defBody s_Play_renew) (defScope s_Play_renew) .none kV_Play_renew dc_Play_renew pm_Play_renew an_Play_renew cd_Play_renew ct_Play_renew), sl_Play_renew⟩)
    (c_Play_renew : PySem.W.codeIn K cd_Play_renew "Play.renew" = true)
    (k_Play_renew : PySem.W.keepIn K (.ref f_Play_renew) = true)
    (a_Play_begins : PySem.W.findIn K (.ref c_Play) "begins" = some (some (.ref f_Play_begins)))
    (i_Play_begins : PySem.W.isFn K (.ref f_Play_begins) = true)
    (l_Play_begins : K.lookup f_Play_begins = some ⟨oc_Play_begins, od_Play_begins, .func (PySem.W.fnOf "begins" "Play.begins" (defArgs s_Play_begins) (defBody s_Play_begins) (defScope s_Play_begins) .none kV_Play_begins dc_Play_begins pm_Play_begins an_Play_begins cd_Play_begins ct_Play_begins), sl_Play_begins⟩)
    (c_Play_begins : PySem.W.codeIn K cd_Play_begins "Play.begins" = true)
    (k_Play_begins : PySem.W.keepIn K (.ref f_Play_begins) = true)
    (a_Play_scene : PySem.W.findIn K (.ref c_Play) "scene" = some (some (.ref f_Play_scene)))
    (i_Play_scene : PySem.W.isFn K (.ref f_Play_scene) = true)
    (l_Play_scene : K.lookup f_Play_scene = some ⟨oc_Play_scene, od_Play_scene, .func (PySem.W.fnOf "scene" "Play.scene" (defArgs s_Play_scene) (defBody s_Play_scene) (defScope s_Play_scene) .none kV_Play_scene dc_Play_scene pm_Play_scene an_Play_scene cd_Play_scene ct_Play_scene), sl_Play_scene⟩)
    (c_Play_scene : PySem.W.codeIn K cd_Play_scene "Play.scene" = true)
    (k_Play_scene : PySem.W.keepIn K (.ref f_Play_scene) = true)
    (a_Play_player : PySem.W.findIn K (.ref c_Play) "player" = some (some (.ref f_Play_player)))
    (i_Play_player : PySem.W.isFn K (.ref f_Play_player) = true)
    (l_Play_player : K.lookup f_Play_player = some ⟨oc_Play_player, od_Play_player, .func (PySem.W.fnOf "player" "Play.player" (defArgs s_Play_player) (defBody s_Play_player) (defScope s_Play_player) .none kV_Play_player dc_Play_player pm_Play_player an_Play_player cd_Play_player ct_Play_player), sl_Play_player⟩)
    (c_Play_player : PySem.W.codeIn K cd_Play_player "Play.player" = true)
    (k_Play_player : PySem.W.keepIn K (.ref f_Play_player) = true)
    (a_Play_piece : PySem.W.findIn K (.ref c_Play) "piece" = some (some (.ref f_Play_piece)))
    (i_Play_piece : PySem.W.isFn K (.ref f_Play_piece) = true)
    (l_Play_piece : K.lookup f_Play_piece = some ⟨oc_Play_piece, od_Play_piece, .func (PySem.W.fnOf "piece" "Play.piece" (defArgs s_Play_piece) (defBody s_Play_piece) (defScope s_Play_piece) .none kV_Play_piece dc_Play_piece pm_Play_piece an_Play_piece cd_Play_piece ct_Play_piece), sl_Play_piece⟩)
    (c_Play_piece : PySem.W.codeIn K cd_Play_piece "Play.piece" = true)
    (k_Play_piece : PySem.W.keepIn K (.ref f_Play_piece) = true)
    (a_Play_ahead : PySem.W.findIn K (.ref c_Play) "ahead" = some (some (.ref f_Play_ahead)))
    (i_Play_ahead : PySem.W.isFn K (.ref f_Play_ahead) = true)
    (l_Play_ahead : K.lookup f_Play_ahead = some ⟨oc_Play_ahead, od_Play_ahead, .func (PySem.W.fnOf "ahead" "Play.ahead" (defArgs s_Play_ahead) (defBody s_Play_ahead) (defScope s_Play_ahead) .none kV_Play_ahead dc_Play_ahead pm_Play_ahead an_Play_ahead cd_Play_ahead ct_Play_ahead), sl_Play_ahead⟩)
    (c_Play_ahead : PySem.W.codeIn K cd_Play_ahead "Play.ahead" = true)
    (k_Play_ahead : PySem.W.keepIn K (.ref f_Play_ahead) = true)
    (a_Play_are_rising_roles : PySem.W.findIn K (.ref c_Play) "are_rising_roles" = some (some (.ref f_Play_are_rising_roles)))
    (i_Play_are_rising_roles : PySem.W.isFn K (.ref f_Play_are_rising_roles) = true)
    (l_Play_are_rising_roles : K.lookup f_Play_are_rising_roles = some ⟨oc_Play_are_rising_roles, od_Play_are_rising_roles, .func (PySem.W.fnOf "are_rising_roles" "Play.are_rising_roles" (defArgs s_Play_are_rising_roles) (defBody s_Play_are_rising_roles) (defScope s_Play_are_rising_roles) .none kV_Play_are_rising_roles dc_Play_are_rising_roles pm_Play_are_rising_roles an_Play_are_rising_roles cd_Play_are_rising_roles ct_Play_are_rising_roles), sl_Play_are_rising_roles⟩)
    (c_Play_are_rising_roles : PySem.W.codeIn K cd_Play_are_rising_roles "Play.are_rising_roles" = true)
    (k_Play_are_rising_roles : PySem.W.keepIn K (.ref f_Play_are_rising_roles) = true)
    (a_Play_are_fees : PySem.W.findIn K (.ref c_Play) "are_fees" = some (some (.ref f_Play_are_fees)))
    (i_Play_are_fees : PySem.W.isFn K (.ref f_Play_are_fees) = true)
    (l_Play_are_fees : K.lookup f_Play_are_fees = some ⟨oc_Play_are_fees, od_Play_are_fees, .func (PySem.W.fnOf "are_fees" "Play.are_fees" (defArgs s_Play_are_fees) (defBody s_Play_are_fees) (defScope s_Play_are_fees) .none kV_Play_are_fees dc_Play_are_fees pm_Play_are_fees an_Play_are_fees cd_Play_are_fees ct_Play_are_fees), sl_Play_are_fees⟩)
    (c_Play_are_fees : PySem.W.codeIn K cd_Play_are_fees "Play.are_fees" = true)
    (k_Play_are_fees : PySem.W.keepIn K (.ref f_Play_are_fees) = true)
    (a_Reader_init : PySem.W.findIn K (.ref c_Reader) "__init__" = some (some (.ref f_Reader_init)))
    (i_Reader_init : PySem.W.isFn K (.ref f_Reader_init) = true)
    (l_Reader_init : K.lookup f_Reader_init = some ⟨oc_Reader_init, od_Reader_init, .func (PySem.W.fnOf "__init__" "Reader.__init__" (defArgs s_Reader_init) (defBody s_Reader_init) (defScope s_Reader_init) .none kV_Reader_init dc_Reader_init pm_Reader_init an_Reader_init cd_Reader_init ct_Reader_init), sl_Reader_init⟩)
    (c_Reader_init : PySem.W.codeIn K cd_Reader_init "Reader.__init__" = true)
    (k_Reader_init : PySem.W.keepIn K (.ref f_Reader_init) = true)
    (a_Reader_is_done : PySem.W.findIn K (.ref c_Reader) "is_done" = some (some (.ref f_Reader_is_done)))
    (i_Reader_is_done : PySem.W.isFn K (.ref f_Reader_is_done) = true)
    (l_Reader_is_done : K.lookup f_Reader_is_done = some ⟨oc_Reader_is_done, od_Reader_is_done, .func (PySem.W.fnOf "is_done" "Reader.is_done" (defArgs s_Reader_is_done) (defBody s_Reader_is_done) (defScope s_Reader_is_done) .none kV_Reader_is_done dc_Reader_is_done pm_Reader_is_done an_Reader_is_done cd_Reader_is_done ct_Reader_is_done), sl_Reader_is_done⟩)
    (c_Reader_is_done : PySem.W.codeIn K cd_Reader_is_done "Reader.is_done" = true)
    (k_Reader_is_done : PySem.W.keepIn K (.ref f_Reader_is_done) = true)
    (a_Reader_number : PySem.W.findIn K (.ref c_Reader) "number" = some (some (.ref f_Reader_number)))
    (i_Reader_number : PySem.W.isFn K (.ref f_Reader_number) = true)
    (l_Reader_number : K.lookup f_Reader_number = some ⟨oc_Reader_number, od_Reader_number, .func (PySem.W.fnOf "number" "Reader.number" (defArgs s_Reader_number) (defBody s_Reader_number) (defScope s_Reader_number) .none kV_Reader_number dc_Reader_number pm_Reader_number an_Reader_number cd_Reader_number ct_Reader_number), sl_Reader_number⟩)
    (c_Reader_number : PySem.W.codeIn K cd_Reader_number "Reader.number" = true)
    (k_Reader_number : PySem.W.keepIn K (.ref f_Reader_number) = true)
    (a_Reader_row : PySem.W.findIn K (.ref c_Reader) "row" = some (some (.ref f_Reader_row)))
    (i_Reader_row : PySem.W.isFn K (.ref f_Reader_row) = true)
    (l_Reader_row : K.lookup f_Reader_row = some ⟨oc_Reader_row, od_Reader_row, .func (PySem.W.fnOf "row" "Reader.row" (defArgs s_Reader_row) (defBody s_Reader_row) (defScope s_Reader_row) .none kV_Reader_row dc_Reader_row pm_Reader_row an_Reader_row cd_Reader_row ct_Reader_row), sl_Reader_row⟩)
    (c_Reader_row : PySem.W.codeIn K cd_Reader_row "Reader.row" = true)
    (k_Reader_row : PySem.W.keepIn K (.ref f_Reader_row) = true)
    (a_answer_begins : PySem.W.nsIn K mainGlobals "answer_begins" = some (some (.ref f_answer_begins)))
    (l_answer_begins : K.lookup f_answer_begins = some ⟨oc_answer_begins, od_answer_begins, .func (PySem.W.fnOf "answer_begins" "answer_begins" (defArgs s_answer_begins) (defBody s_answer_begins) (defScope s_answer_begins) .none kV_answer_begins dc_answer_begins pm_answer_begins an_answer_begins cd_answer_begins ct_answer_begins), sl_answer_begins⟩)
    (c_answer_begins : PySem.W.codeIn K cd_answer_begins "answer_begins" = true)
    (k_answer_begins : PySem.W.keepIn K (.ref f_answer_begins) = true)
    (a_answer_scene : PySem.W.nsIn K mainGlobals "answer_scene" = some (some (.ref f_answer_scene)))
    (l_answer_scene : K.lookup f_answer_scene = some ⟨oc_answer_scene, od_answer_scene, .func (PySem.W.fnOf "answer_scene" "answer_scene" (defArgs s_answer_scene) (defBody s_answer_scene) (defScope s_answer_scene) .none kV_answer_scene dc_answer_scene pm_answer_scene an_answer_scene cd_answer_scene ct_answer_scene), sl_answer_scene⟩)
    (c_answer_scene : PySem.W.codeIn K cd_answer_scene "answer_scene" = true)
    (k_answer_scene : PySem.W.keepIn K (.ref f_answer_scene) = true)
    (a_answer_player : PySem.W.nsIn K mainGlobals "answer_player" = some (some (.ref f_answer_player)))
    (l_answer_player : K.lookup f_answer_player = some ⟨oc_answer_player, od_answer_player, .func (PySem.W.fnOf "answer_player" "answer_player" (defArgs s_answer_player) (defBody s_answer_player) (defScope s_answer_player) .none kV_answer_player dc_answer_player pm_answer_player an_answer_player cd_answer_player ct_answer_player), sl_answer_player⟩)
    (c_answer_player : PySem.W.codeIn K cd_answer_player "answer_player" = true)
    (k_answer_player : PySem.W.keepIn K (.ref f_answer_player) = true)
    (a_answer_piece : PySem.W.nsIn K mainGlobals "answer_piece" = some (some (.ref f_answer_piece)))
    (l_answer_piece : K.lookup f_answer_piece = some ⟨oc_answer_piece, od_answer_piece, .func (PySem.W.fnOf "answer_piece" "answer_piece" (defArgs s_answer_piece) (defBody s_answer_piece) (defScope s_answer_piece) .none kV_answer_piece dc_answer_piece pm_answer_piece an_answer_piece cd_answer_piece ct_answer_piece), sl_answer_piece⟩)
    (c_answer_piece : PySem.W.codeIn K cd_answer_piece "answer_piece" = true)
    (k_answer_piece : PySem.W.keepIn K (.ref f_answer_piece) = true)
    (a_answer_ahead : PySem.W.nsIn K mainGlobals "answer_ahead" = some (some (.ref f_answer_ahead)))
    (l_answer_ahead : K.lookup f_answer_ahead = some ⟨oc_answer_ahead, od_answer_ahead, .func (PySem.W.fnOf "answer_ahead" "answer_ahead" (defArgs s_answer_ahead) (defBody s_answer_ahead) (defScope s_answer_ahead) .none kV_answer_ahead dc_answer_ahead pm_answer_ahead an_answer_ahead cd_answer_ahead ct_answer_ahead), sl_answer_ahead⟩)
    (c_answer_ahead : PySem.W.codeIn K cd_answer_ahead "answer_ahead" = true)
    (k_answer_ahead : PySem.W.keepIn K (.ref f_answer_ahead) = true)
    (a_answer_check : PySem.W.nsIn K mainGlobals "answer_check" = some (some (.ref f_answer_check)))
    (l_answer_check : K.lookup f_answer_check = some ⟨oc_answer_check, od_answer_check, .func (PySem.W.fnOf "answer_check" "answer_check" (defArgs s_answer_check) (defBody s_answer_check) (defScope s_answer_check) .none kV_answer_check dc_answer_check pm_answer_check an_answer_check cd_answer_check ct_answer_check), sl_answer_check⟩)
    (c_answer_check : PySem.W.codeIn K cd_answer_check "answer_check" = true)
    (k_answer_check : PySem.W.keepIn K (.ref f_answer_check) = true)
    (a_answer_order : PySem.W.nsIn K mainGlobals "answer_order" = some (some (.ref f_answer_order)))
    (l_answer_order : K.lookup f_answer_order = some ⟨oc_answer_order, od_answer_order, .func (PySem.W.fnOf "answer_order" "answer_order" (defArgs s_answer_order) (defBody s_answer_order) (defScope s_answer_order) .none kV_answer_order dc_answer_order pm_answer_order an_answer_order cd_answer_order ct_answer_order), sl_answer_order⟩)
    (c_answer_order : PySem.W.codeIn K cd_answer_order "answer_order" = true)
    (k_answer_order : PySem.W.keepIn K (.ref f_answer_order) = true)
    (a_answer_call : PySem.W.nsIn K mainGlobals "answer_call" = some (some (.ref f_answer_call)))
    (l_answer_call : K.lookup f_answer_call = some ⟨oc_answer_call, od_answer_call, .func (PySem.W.fnOf "answer_call" "answer_call" (defArgs s_answer_call) (defBody s_answer_call) (defScope s_answer_call) .none kV_answer_call dc_answer_call pm_answer_call an_answer_call cd_answer_call ct_answer_call), sl_answer_call⟩)
    (c_answer_call : PySem.W.codeIn K cd_answer_call "answer_call" = true)
    (k_answer_call : PySem.W.keepIn K (.ref f_answer_call) = true)
    (a_answers : PySem.W.nsIn K mainGlobals "answers" = some (some (.ref f_answers)))
    (l_answers : K.lookup f_answers = some ⟨oc_answers, od_answers, .func (PySem.W.fnOf "answers" "answers" (defArgs s_answers) (defBody s_answers) (defScope s_answers) .none kV_answers dc_answers pm_answers an_answers cd_answers ct_answers), sl_answers⟩)
    (c_answers : PySem.W.codeIn K cd_answers "answers" = true)
    (k_answers : PySem.W.keepIn K (.ref f_answers) = true)
    (pg_Cheapest : PySem.W.plainGet K c_Cheapest Str.empty = true)
    (hd_Cheapest : PySem.W.hasDictIn K c_Cheapest = true)
    (po_Cheapest : PySem.W.plainOver K c_Cheapest = true)
    (sa_Cheapest : PySem.W.findIn K (.ref c_Cheapest) "__setattr__" = some (some (.builtin "object.__setattr__")))
    (mk_Cheapest : PySem.W.makesIn K c_Cheapest = true)
    (kc_Cheapest : PySem.W.keepIn K (.ref c_Cheapest) = true)
    (n_Cheapest_cost : PySem.W.findIn K (.ref c_Cheapest) "cost" = some none)
    (n_Cheapest_many : PySem.W.findIn K (.ref c_Cheapest) "many" = some none)
    (n_Cheapest_order : PySem.W.findIn K (.ref c_Cheapest) "order" = some none)
    (pg_Rehearsals : PySem.W.plainGet K c_Rehearsals Str.empty = true)
    (hd_Rehearsals : PySem.W.hasDictIn K c_Rehearsals = true)
    (po_Rehearsals : PySem.W.plainOver K c_Rehearsals = true)
    (sa_Rehearsals : PySem.W.findIn K (.ref c_Rehearsals) "__setattr__" = some (some (.builtin "object.__setattr__")))
    (mk_Rehearsals : PySem.W.makesIn K c_Rehearsals = true)
    (kc_Rehearsals : PySem.W.keepIn K (.ref c_Rehearsals) = true)
    (n_Rehearsals_players : PySem.W.findIn K (.ref c_Rehearsals) "players" = some none)
    (n_Rehearsals_pieces : PySem.W.findIn K (.ref c_Rehearsals) "pieces" = some none)
    (n_Rehearsals_orders : PySem.W.findIn K (.ref c_Rehearsals) "orders" = some none)
    (n_Rehearsals_tables : PySem.W.findIn K (.ref c_Rehearsals) "tables" = some none)
    (n_Rehearsals_known : PySem.W.findIn K (.ref c_Rehearsals) "known" = some none)
    (pg_Plan : PySem.W.plainGet K c_Plan Str.empty = true)
    (hd_Plan : PySem.W.hasDictIn K c_Plan = true)
    (po_Plan : PySem.W.plainOver K c_Plan = true)
    (sa_Plan : PySem.W.findIn K (.ref c_Plan) "__setattr__" = some (some (.builtin "object.__setattr__")))
    (mk_Plan : PySem.W.makesIn K c_Plan = true)
    (kc_Plan : PySem.W.keepIn K (.ref c_Plan) = true)
    (n_Plan_casting : PySem.W.findIn K (.ref c_Plan) "casting" = some none)
    (n_Plan_casting_price : PySem.W.findIn K (.ref c_Plan) "casting_price" = some none)
    (n_Plan_order : PySem.W.findIn K (.ref c_Plan) "order" = some none)
    (n_Plan_cost : PySem.W.findIn K (.ref c_Plan) "cost" = some none)
    (n_Plan_many : PySem.W.findIn K (.ref c_Plan) "many" = some none)
    (pg_Scene : PySem.W.plainGet K c_Scene Str.empty = true)
    (hd_Scene : PySem.W.hasDictIn K c_Scene = true)
    (po_Scene : PySem.W.plainOver K c_Scene = true)
    (sa_Scene : PySem.W.findIn K (.ref c_Scene) "__setattr__" = some (some (.builtin "object.__setattr__")))
    (mk_Scene : PySem.W.makesIn K c_Scene = true)
    (kc_Scene : PySem.W.keepIn K (.ref c_Scene) = true)
    (n_Scene_minutes : PySem.W.findIn K (.ref c_Scene) "minutes" = some none)
    (n_Scene_roles : PySem.W.findIn K (.ref c_Scene) "roles" = some none)
    (pg_Player : PySem.W.plainGet K c_Player Str.empty = true)
    (hd_Player : PySem.W.hasDictIn K c_Player = true)
    (po_Player : PySem.W.plainOver K c_Player = true)
    (sa_Player : PySem.W.findIn K (.ref c_Player) "__setattr__" = some (some (.builtin "object.__setattr__")))
    (mk_Player : PySem.W.makesIn K c_Player = true)
    (kc_Player : PySem.W.keepIn K (.ref c_Player) = true)
    (n_Player_wage : PySem.W.findIn K (.ref c_Player) "wage" = some none)
    (n_Player_rate : PySem.W.findIn K (.ref c_Player) "rate" = some none)
    (n_Player_since : PySem.W.findIn K (.ref c_Player) "since" = some none)
    (n_Player_till : PySem.W.findIn K (.ref c_Player) "till" = some none)
    (n_Player_fees : PySem.W.findIn K (.ref c_Player) "fees" = some none)
    (pg_Piece : PySem.W.plainGet K c_Piece Str.empty = true)
    (hd_Piece : PySem.W.hasDictIn K c_Piece = true)
    (po_Piece : PySem.W.plainOver K c_Piece = true)
    (sa_Piece : PySem.W.findIn K (.ref c_Piece) "__setattr__" = some (some (.builtin "object.__setattr__")))
    (mk_Piece : PySem.W.makesIn K c_Piece = true)
    (kc_Piece : PySem.W.keepIn K (.ref c_Piece) = true)
    (n_Piece_minutes : PySem.W.findIn K (.ref c_Piece) "minutes" = some none)
    (n_Piece_roles : PySem.W.findIn K (.ref c_Piece) "roles" = some none)
    (pg_Play : PySem.W.plainGet K c_Play Str.empty = true)
    (hd_Play : PySem.W.hasDictIn K c_Play = true)
    (po_Play : PySem.W.plainOver K c_Play = true)
    (sa_Play : PySem.W.findIn K (.ref c_Play) "__setattr__" = some (some (.builtin "object.__setattr__")))
    (mk_Play : PySem.W.makesIn K c_Play = true)
    (kc_Play : PySem.W.keepIn K (.ref c_Play) = true)
    (n_Play_dressing : PySem.W.findIn K (.ref c_Play) "dressing" = some none)
    (n_Play_scenes : PySem.W.findIn K (.ref c_Play) "scenes" = some none)
    (n_Play_players : PySem.W.findIn K (.ref c_Play) "players" = some none)
    (n_Play_pieces : PySem.W.findIn K (.ref c_Play) "pieces" = some none)
    (n_Play_pairs : PySem.W.findIn K (.ref c_Play) "pairs" = some none)
    (pg_Reader : PySem.W.plainGet K c_Reader Str.empty = true)
    (hd_Reader : PySem.W.hasDictIn K c_Reader = true)
    (po_Reader : PySem.W.plainOver K c_Reader = true)
    (sa_Reader : PySem.W.findIn K (.ref c_Reader) "__setattr__" = some (some (.builtin "object.__setattr__")))
    (mk_Reader : PySem.W.makesIn K c_Reader = true)
    (kc_Reader : PySem.W.keepIn K (.ref c_Reader) = true)
    (n_Reader_numbers : PySem.W.findIn K (.ref c_Reader) "numbers" = some none)
    (n_Reader_place : PySem.W.findIn K (.ref c_Reader) "place" = some none)
    (v_MOST_ROLES : PySem.W.nsIn K mainGlobals "MOST_ROLES" = some (some (.int (5) t_MOST_ROLES)))
    (v_MOST_DRESSING : PySem.W.nsIn K mainGlobals "MOST_DRESSING" = some (some (.int (1000) t_MOST_DRESSING)))
    (v_MOST_SCENES : PySem.W.nsIn K mainGlobals "MOST_SCENES" = some (some (.int (10) t_MOST_SCENES)))
    (v_MOST_SCENE_MINUTES : PySem.W.nsIn K mainGlobals "MOST_SCENE_MINUTES" = some (some (.int (1000) t_MOST_SCENE_MINUTES)))
    (v_MOST_PLAYERS : PySem.W.nsIn K mainGlobals "MOST_PLAYERS" = some (some (.int (4) t_MOST_PLAYERS)))
    (v_MOST_WAGE : PySem.W.nsIn K mainGlobals "MOST_WAGE" = some (some (.int (100000) t_MOST_WAGE)))
    (v_MOST_FEE : PySem.W.nsIn K mainGlobals "MOST_FEE" = some (some (.int (100000) t_MOST_FEE)))
    (v_MOST_RATE : PySem.W.nsIn K mainGlobals "MOST_RATE" = some (some (.int (1000) t_MOST_RATE)))
    (v_LAST_MINUTE : PySem.W.nsIn K mainGlobals "LAST_MINUTE" = some (some (.int (3600) t_LAST_MINUTE)))
    (v_MOST_PIECES : PySem.W.nsIn K mainGlobals "MOST_PIECES" = some (some (.int (4) t_MOST_PIECES)))
    (v_MOST_PIECE_MINUTES : PySem.W.nsIn K mainGlobals "MOST_PIECE_MINUTES" = some (some (.int (600) t_MOST_PIECE_MINUTES)))
    (v_BEGINS : PySem.W.nsIn K mainGlobals "BEGINS" = some (some (.int (0) t_BEGINS)))
    (v_SCENE : PySem.W.nsIn K mainGlobals "SCENE" = some (some (.int (1) t_SCENE)))
    (v_PLAYER : PySem.W.nsIn K mainGlobals "PLAYER" = some (some (.int (2) t_PLAYER)))
    (v_PIECE : PySem.W.nsIn K mainGlobals "PIECE" = some (some (.int (3) t_PIECE)))
    (v_AHEAD : PySem.W.nsIn K mainGlobals "AHEAD" = some (some (.int (4) t_AHEAD)))
    (v_BEST : PySem.W.nsIn K mainGlobals "BEST" = some (some (.int (5) t_BEST)))
    (v_APART : PySem.W.nsIn K mainGlobals "APART" = some (some (.int (6) t_APART)))
    (v_CHECK : PySem.W.nsIn K mainGlobals "CHECK" = some (some (.int (7) t_CHECK)))
    (v_ORDER : PySem.W.nsIn K mainGlobals "ORDER" = some (some (.int (8) t_ORDER)))
    (u_enumerate : PySem.W.nsIn K mainGlobals "enumerate" = some none)
    (u_range : PySem.W.nsIn K mainGlobals "range" = some none)
    (u_len : PySem.W.nsIn K mainGlobals "len" = some none)
    (u_tuple : PySem.W.nsIn K mainGlobals "tuple" = some none)
    (u_min : PySem.W.nsIn K mainGlobals "min" = some none)
    (u_max : PySem.W.nsIn K mainGlobals "max" = some none)
    (u_sum : PySem.W.nsIn K mainGlobals "sum" = some none)
    (u_zip : PySem.W.nsIn K mainGlobals "zip" = some none)
    (u_all : PySem.W.nsIn K mainGlobals "all" = some none)
    (u_sorted : PySem.W.nsIn K mainGlobals "sorted" = some none)
    (u_list : PySem.W.nsIn K mainGlobals "list" = some none) :
    ∃ A : Ad, A.f_answers = f_answers ∧ (∀ (s : Shared) (us : List Value), us.length = 1 → BindsTo s A.d_answers ⟨us, []⟩ ((["calls"] : List Str).zip us)) ∧ Txt K mg A := by
  have F_comes_too_soon := fun_mk (st := s_comes_too_soon) l_comes_too_soon c_comes_too_soon k_comes_too_soon
  have b_comes_too_soon := F_comes_too_soon.binds (ps := ["role", "minutes", "scenes"]) fun _ _ _ _ _ _ us hl => match us, hl with | [_, _, _], _ => rfl
  have F_lacks_time := fun_mk (st := s_lacks_time) l_lacks_time c_lacks_time k_lacks_time
  have b_lacks_time := F_lacks_time.binds (ps := ["earlier", "later", "dressing", "scenes"]) fun _ _ _ _ _ _ us hl => match us, hl with | [_, _, _, _], _ => rfl
  have F_are_in_one_scene := fun_mk (st := s_are_in_one_scene) l_are_in_one_scene c_are_in_one_scene k_are_in_one_scene
  have b_are_in_one_scene := F_are_in_one_scene.binds (ps := ["one", "other", "scenes"]) fun _ _ _ _ _ _ us hl => match us, hl with | [_, _, _], _ => rfl
  have F_do_clash := fun_mk (st := s_do_clash) l_do_clash c_do_clash k_do_clash
  have b_do_clash := F_do_clash.binds (ps := ["one", "other", "dressing", "scenes"]) fun _ _ _ _ _ _ us hl => match us, hl with | [_, _, _, _], _ => rfl
  have F_clashing_pairs := fun_mk (st := s_clashing_pairs) l_clashing_pairs c_clashing_pairs k_clashing_pairs
  have b_clashing_pairs := F_clashing_pairs.binds (ps := ["dressing", "scenes"]) fun _ _ _ _ _ _ us hl => match us, hl with | [_, _], _ => rfl
  have F_can_play := fun_mk (st := s_can_play) l_can_play c_can_play k_can_play
  have b_can_play := F_can_play.binds (ps := ["player", "role"]) fun _ _ _ _ _ _ us hl => match us, hl with | [_, _], _ => rfl
  have F_wrong_with_casting := fun_mk (st := s_wrong_with_casting) l_wrong_with_casting c_wrong_with_casting k_wrong_with_casting
  have b_wrong_with_casting := F_wrong_with_casting.binds (ps := ["casting", "players", "clashes"]) fun _ _ _ _ _ _ us hl => match us, hl with | [_, _, _], _ => rfl
  have F_all_castings := fun_mk (st := s_all_castings) l_all_castings c_all_castings k_all_castings
  have b_all_castings := F_all_castings.binds (ps := ["roles", "players"]) fun _ _ _ _ _ _ us hl => match us, hl with | [_, _], _ => rfl
  have F_right_castings := fun_mk (st := s_right_castings) l_right_castings c_right_castings k_right_castings
  have b_right_castings := F_right_castings.binds (ps := ["play"]) fun _ _ _ _ _ _ us hl => match us, hl with | [_], _ => rfl
  have F_casting_cost := fun_mk (st := s_casting_cost) l_casting_cost c_casting_cost k_casting_cost
  have b_casting_cost := F_casting_cost.binds (ps := ["casting", "players"]) fun _ _ _ _ _ _ us hl => match us, hl with | [_, _], _ => rfl
  have F_all_orders := fun_mk (st := s_all_orders) l_all_orders c_all_orders k_all_orders
  have b_all_orders := F_all_orders.binds (ps := ["pieces"]) fun _ _ _ _ _ _ us hl => match us, hl with | [_], _ => rfl
  have F_beginnings := fun_mk (st := s_beginnings) l_beginnings c_beginnings k_beginnings
  have b_beginnings := F_beginnings.binds (ps := ["order", "pieces"]) fun _ _ _ _ _ _ us hl => match us, hl with | [_, _], _ => rfl
  have F_is_in := fun_mk (st := s_is_in) l_is_in c_is_in k_is_in
  have b_is_in := F_is_in.binds (ps := ["who", "casting", "piece"]) fun _ _ _ _ _ _ us hl => match us, hl with | [_, _, _], _ => rfl
  have F_own_pieces := fun_mk (st := s_own_pieces) l_own_pieces c_own_pieces k_own_pieces
  have b_own_pieces := F_own_pieces.binds (ps := ["who", "casting", "pieces"]) fun _ _ _ _ _ _ us hl => match us, hl with | [_, _, _], _ => rfl
  have F_stay_for := fun_mk (st := s_stay_for) l_stay_for c_stay_for k_stay_for
  have b_stay_for := F_stay_for.binds (ps := ["own", "begun", "pieces"]) fun _ _ _ _ _ _ us hl => match us, hl with | [_, _, _], _ => rfl
  have F_stays_of_all := fun_mk (st := s_stays_of_all) l_stays_of_all c_stays_of_all k_stays_of_all
  have b_stays_of_all := F_stays_of_all.binds (ps := ["casting", "order", "players", "pieces"]) fun _ _ _ _ _ _ us hl => match us, hl with | [_, _, _, _], _ => rfl
  have F_stay_cost := fun_mk (st := s_stay_cost) l_stay_cost c_stay_cost k_stay_cost
  have b_stay_cost := F_stay_cost.binds (ps := ["stay", "player"]) fun _ _ _ _ _ _ us hl => match us, hl with | [_, _], _ => rfl
  have F_order_cost := fun_mk (st := s_order_cost) l_order_cost c_order_cost k_order_cost
  have b_order_cost := F_order_cost.binds (ps := ["stays", "players"]) fun _ _ _ _ _ _ us hl => match us, hl with | [_, _], _ => rfl
  have F_wrong_with_stay := fun_mk (st := s_wrong_with_stay) l_wrong_with_stay c_wrong_with_stay k_wrong_with_stay
  have b_wrong_with_stay := F_wrong_with_stay.binds (ps := ["stay", "player"]) fun _ _ _ _ _ _ us hl => match us, hl with | [_, _], _ => rfl
  have F_broken_pair := fun_mk (st := s_broken_pair) l_broken_pair c_broken_pair k_broken_pair
  have b_broken_pair := F_broken_pair.binds (ps := ["order", "pairs"]) fun _ _ _ _ _ _ us hl => match us, hl with | [_, _], _ => rfl
  have F_wrong_with_order := fun_mk (st := s_wrong_with_order) l_wrong_with_order c_wrong_with_order k_wrong_with_order
  have b_wrong_with_order := F_wrong_with_order.binds (ps := ["order", "pairs", "stays", "players"]) fun _ _ _ _ _ _ us hl => match us, hl with | [_, _, _, _], _ => rfl
  have F_Cheapest_init := fun_mk (st := s_Cheapest_init) l_Cheapest_init c_Cheapest_init k_Cheapest_init
  have b_Cheapest_init := F_Cheapest_init.binds (ps := ["self", "cost", "many", "order"]) fun _ _ _ _ _ _ us hl => match us, hl with | [_, _, _, _], _ => rfl
  have F_Rehearsals_init := fun_mk (st := s_Rehearsals_init) l_Rehearsals_init c_Rehearsals_init k_Rehearsals_init
  have b_Rehearsals_init := F_Rehearsals_init.binds (ps := ["self", "players", "pieces", "pairs"]) fun _ _ _ _ _ _ us hl => match us, hl with | [_, _, _, _], _ => rfl
  have F_Rehearsals_player_cost := fun_mk (st := s_Rehearsals_player_cost) l_Rehearsals_player_cost c_Rehearsals_player_cost k_Rehearsals_player_cost
  have b_Rehearsals_player_cost := F_Rehearsals_player_cost.binds (ps := ["self", "who", "own", "begun"]) fun _ _ _ _ _ _ us hl => match us, hl with | [_, _, _, _], _ => rfl
  have F_Rehearsals_player_costs := fun_mk (st := s_Rehearsals_player_costs) l_Rehearsals_player_costs c_Rehearsals_player_costs k_Rehearsals_player_costs
  have b_Rehearsals_player_costs := F_Rehearsals_player_costs.binds (ps := ["self", "who", "own"]) fun _ _ _ _ _ _ us hl => match us, hl with | [_, _, _], _ => rfl
  have F_Rehearsals_costs := fun_mk (st := s_Rehearsals_costs) l_Rehearsals_costs c_Rehearsals_costs k_Rehearsals_costs
  have b_Rehearsals_costs := F_Rehearsals_costs.binds (ps := ["self", "casting"]) fun _ _ _ _ _ _ us hl => match us, hl with | [_, _], _ => rfl
  have F_Rehearsals_cheapest := fun_mk (st := s_Rehearsals_cheapest) l_Rehearsals_cheapest c_Rehearsals_cheapest k_Rehearsals_cheapest
  have b_Rehearsals_cheapest := F_Rehearsals_cheapest.binds (ps := ["self", "casting"]) fun _ _ _ _ _ _ us hl => match us, hl with | [_, _], _ => rfl
  have F_row := fun_mk (st := s_row) l_row c_row k_row
  have b_row := F_row.binds (ps := ["numbers"]) fun _ _ _ _ _ _ us hl => match us, hl with | [_], _ => rfl
  have F_is_casting := fun_mk (st := s_is_casting) l_is_casting c_is_casting k_is_casting
  have b_is_casting := F_is_casting.binds (ps := ["casting", "play"]) fun _ _ _ _ _ _ us hl => match us, hl with | [_, _], _ => rfl
  have F_is_order := fun_mk (st := s_is_order) l_is_order c_is_order k_is_order
  have b_is_order := F_is_order.binds (ps := ["order", "play"]) fun _ _ _ _ _ _ us hl => match us, hl with | [_, _], _ => rfl
  have F_Plan_init := fun_mk (st := s_Plan_init) l_Plan_init c_Plan_init k_Plan_init
  have b_Plan_init := F_Plan_init.binds (ps := ["self", "casting", "casting_price", "cheapest"]) fun _ _ _ _ _ _ us hl => match us, hl with | [_, _, _, _], _ => rfl
  have F_plans_by_casting := fun_mk (st := s_plans_by_casting) l_plans_by_casting c_plans_by_casting k_plans_by_casting
  have b_plans_by_casting := F_plans_by_casting.binds (ps := ["play"]) fun _ _ _ _ _ _ us hl => match us, hl with | [_], _ => rfl
  have F_best_plan := fun_mk (st := s_best_plan) l_best_plan c_best_plan k_best_plan
  have b_best_plan := F_best_plan.binds (ps := ["play"]) fun _ _ _ _ _ _ us hl => match us, hl with | [_], _ => rfl
  have F_plan_apart := fun_mk (st := s_plan_apart) l_plan_apart c_plan_apart k_plan_apart
  have b_plan_apart := F_plan_apart.binds (ps := ["play"]) fun _ _ _ _ _ _ us hl => match us, hl with | [_], _ => rfl
  have F_checked_plan := fun_mk (st := s_checked_plan) l_checked_plan c_checked_plan k_checked_plan
  have b_checked_plan := F_checked_plan.binds (ps := ["play", "casting", "order"]) fun _ _ _ _ _ _ us hl => match us, hl with | [_, _, _], _ => rfl
  have F_cheapest_order := fun_mk (st := s_cheapest_order) l_cheapest_order c_cheapest_order k_cheapest_order
  have b_cheapest_order := F_cheapest_order.binds (ps := ["play", "casting"]) fun _ _ _ _ _ _ us hl => match us, hl with | [_, _], _ => rfl
  have F_Scene_init := fun_mk (st := s_Scene_init) l_Scene_init c_Scene_init k_Scene_init
  have b_Scene_init := F_Scene_init.binds (ps := ["self", "minutes", "roles"]) fun _ _ _ _ _ _ us hl => match us, hl with | [_, _, _], _ => rfl
  have F_Player_init := fun_mk (st := s_Player_init) l_Player_init c_Player_init k_Player_init
  have b_Player_init := F_Player_init.binds (ps := ["self", "wage", "rate", "since", "till", "fees"]) fun _ _ _ _ _ _ us hl => match us, hl with | [_, _, _, _, _, _], _ => rfl
  have F_Piece_init := fun_mk (st := s_Piece_init) l_Piece_init c_Piece_init k_Piece_init
  have b_Piece_init := F_Piece_init.binds (ps := ["self", "minutes", "roles"]) fun _ _ _ _ _ _ us hl => match us, hl with | [_, _, _], _ => rfl
  have F_Play_init := fun_mk (st := s_Play_init) l_Play_init c_Play_init k_Play_init
  have b_Play_init := F_Play_init.binds (ps := ["self"]) fun _ _ _ _ _ _ us hl => match us, hl with | [_], _ => rfl
  have F_Play_renew := fun_mk (st := s_Play_renew) l_Play_renew c_Play_renew k_Play_renew
  have b_Play_renew := F_Play_renew.binds (ps := ["self", "dressing"]) fun _ _ _ _ _ _ us hl => match us, hl with | [_, _], _ => rfl
  have F_Play_begins := fun_mk (st := s_Play_begins) l_Play_begins c_Play_begins k_Play_begins
  have b_Play_begins := F_Play_begins.binds (ps := ["self", "dressing"]) fun _ _ _ _ _ _ us hl => match us, hl with | [_, _], _ => rfl
  have F_Play_scene := fun_mk (st := s_Play_scene) l_Play_scene c_Play_scene k_Play_scene
  have b_Play_scene := F_Play_scene.binds (ps := ["self", "minutes", "roles"]) fun _ _ _ _ _ _ us hl => match us, hl with | [_, _, _], _ => rfl
  have F_Play_player := fun_mk (st := s_Play_player) l_Play_player c_Play_player k_Play_player
  have b_Play_player := F_Play_player.binds (ps := ["self", "wage", "rate", "since", "till", "fees"]) fun _ _ _ _ _ _ us hl => match us, hl with | [_, _, _, _, _, _], _ => rfl
  have F_Play_piece := fun_mk (st := s_Play_piece) l_Play_piece c_Play_piece k_Play_piece
  have b_Play_piece := F_Play_piece.binds (ps := ["self", "minutes", "roles"]) fun _ _ _ _ _ _ us hl => match us, hl with | [_, _, _], _ => rfl
  have F_Play_ahead := fun_mk (st := s_Play_ahead) l_Play_ahead c_Play_ahead k_Play_ahead
  have b_Play_ahead := F_Play_ahead.binds (ps := ["self", "i", "j"]) fun _ _ _ _ _ _ us hl => match us, hl with | [_, _, _], _ => rfl
  have F_Play_are_rising_roles := fun_mk (st := s_Play_are_rising_roles) l_Play_are_rising_roles c_Play_are_rising_roles k_Play_are_rising_roles
  have b_Play_are_rising_roles := F_Play_are_rising_roles.binds (ps := ["self", "roles"]) fun _ _ _ _ _ _ us hl => match us, hl with | [_, _], _ => rfl
  have F_Play_are_fees := fun_mk (st := s_Play_are_fees) l_Play_are_fees c_Play_are_fees k_Play_are_fees
  have b_Play_are_fees := F_Play_are_fees.binds (ps := ["self", "fees"]) fun _ _ _ _ _ _ us hl => match us, hl with | [_, _], _ => rfl
  have F_Reader_init := fun_mk (st := s_Reader_init) l_Reader_init c_Reader_init k_Reader_init
  have b_Reader_init := F_Reader_init.binds (ps := ["self", "numbers"]) fun _ _ _ _ _ _ us hl => match us, hl with | [_, _], _ => rfl
  have F_Reader_is_done := fun_mk (st := s_Reader_is_done) l_Reader_is_done c_Reader_is_done k_Reader_is_done
  have b_Reader_is_done := F_Reader_is_done.binds (ps := ["self"]) fun _ _ _ _ _ _ us hl => match us, hl with | [_], _ => rfl
  have F_Reader_number := fun_mk (st := s_Reader_number) l_Reader_number c_Reader_number k_Reader_number
  have b_Reader_number := F_Reader_number.binds (ps := ["self"]) fun _ _ _ _ _ _ us hl => match us, hl with | [_], _ => rfl
  have F_Reader_row := fun_mk (st := s_Reader_row) l_Reader_row c_Reader_row k_Reader_row
  have b_Reader_row := F_Reader_row.binds (ps := ["self"]) fun _ _ _ _ _ _ us hl => match us, hl with | [_], _ => rfl
  have F_answer_begins := fun_mk (st := s_answer_begins) l_answer_begins c_answer_begins k_answer_begins
  have b_answer_begins := F_answer_begins.binds (ps := ["play", "reader"]) fun _ _ _ _ _ _ us hl => match us, hl with | [_, _], _ => rfl
  have F_answer_scene := fun_mk (st := s_answer_scene) l_answer_scene c_answer_scene k_answer_scene
  have b_answer_scene := F_answer_scene.binds (ps := ["play", "reader"]) fun _ _ _ _ _ _ us hl => match us, hl with | [_, _], _ => rfl
  have F_answer_player := fun_mk (st := s_answer_player) l_answer_player c_answer_player k_answer_player
  have b_answer_player := F_answer_player.binds (ps := ["play", "reader"]) fun _ _ _ _ _ _ us hl => match us, hl with | [_, _], _ => rfl
  have F_answer_piece := fun_mk (st := s_answer_piece) l_answer_piece c_answer_piece k_answer_piece
  have b_answer_piece := F_answer_piece.binds (ps := ["play", "reader"]) fun _ _ _ _ _ _ us hl => match us, hl with | [_, _], _ => rfl
  have F_answer_ahead := fun_mk (st := s_answer_ahead) l_answer_ahead c_answer_ahead k_answer_ahead
  have b_answer_ahead := F_answer_ahead.binds (ps := ["play", "reader"]) fun _ _ _ _ _ _ us hl => match us, hl with | [_, _], _ => rfl
  have F_answer_check := fun_mk (st := s_answer_check) l_answer_check c_answer_check k_answer_check
  have b_answer_check := F_answer_check.binds (ps := ["play", "reader"]) fun _ _ _ _ _ _ us hl => match us, hl with | [_, _], _ => rfl
  have F_answer_order := fun_mk (st := s_answer_order) l_answer_order c_answer_order k_answer_order
  have b_answer_order := F_answer_order.binds (ps := ["play", "reader"]) fun _ _ _ _ _ _ us hl => match us, hl with | [_, _], _ => rfl
  have F_answer_call := fun_mk (st := s_answer_call) l_answer_call c_answer_call k_answer_call
  have b_answer_call := F_answer_call.binds (ps := ["play", "reader"]) fun _ _ _ _ _ _ us hl => match us, hl with | [_, _], _ => rfl
  have F_answers := fun_mk (st := s_answers) l_answers c_answers k_answers
  have b_answers := F_answers.binds (ps := ["calls"]) fun _ _ _ _ _ _ us hl => match us, hl with | [_], _ => rfl
  exact ⟨⟨c_Cheapest,
    c_Rehearsals,
    c_Plan,
    c_Scene,
    c_Player,
    c_Piece,
    c_Play,
    c_Reader,
    f_comes_too_soon,
    (PySem.W.fnOf "comes_too_soon" "comes_too_soon" (defArgs s_comes_too_soon) (defBody s_comes_too_soon) (defScope s_comes_too_soon) .none kV_comes_too_soon dc_comes_too_soon pm_comes_too_soon an_comes_too_soon cd_comes_too_soon ct_comes_too_soon),
    f_lacks_time,
    (PySem.W.fnOf "lacks_time" "lacks_time" (defArgs s_lacks_time) (defBody s_lacks_time) (defScope s_lacks_time) .none kV_lacks_time dc_lacks_time pm_lacks_time an_lacks_time cd_lacks_time ct_lacks_time),
    f_are_in_one_scene,
    (PySem.W.fnOf "are_in_one_scene" "are_in_one_scene" (defArgs s_are_in_one_scene) (defBody s_are_in_one_scene) (defScope s_are_in_one_scene) .none kV_are_in_one_scene dc_are_in_one_scene pm_are_in_one_scene an_are_in_one_scene cd_are_in_one_scene ct_are_in_one_scene),
    f_do_clash,
    (PySem.W.fnOf "do_clash" "do_clash" (defArgs s_do_clash) (defBody s_do_clash) (defScope s_do_clash) .none kV_do_clash dc_do_clash pm_do_clash an_do_clash cd_do_clash ct_do_clash),
    f_clashing_pairs,
    (PySem.W.fnOf "clashing_pairs" "clashing_pairs" (defArgs s_clashing_pairs) (defBody s_clashing_pairs) (defScope s_clashing_pairs) .none kV_clashing_pairs dc_clashing_pairs pm_clashing_pairs an_clashing_pairs cd_clashing_pairs ct_clashing_pairs),
    f_can_play,
    (PySem.W.fnOf "can_play" "can_play" (defArgs s_can_play) (defBody s_can_play) (defScope s_can_play) .none kV_can_play dc_can_play pm_can_play an_can_play cd_can_play ct_can_play),
    f_wrong_with_casting,
    (PySem.W.fnOf "wrong_with_casting" "wrong_with_casting" (defArgs s_wrong_with_casting) (defBody s_wrong_with_casting) (defScope s_wrong_with_casting) .none kV_wrong_with_casting dc_wrong_with_casting pm_wrong_with_casting an_wrong_with_casting cd_wrong_with_casting ct_wrong_with_casting),
    f_all_castings,
    (PySem.W.fnOf "all_castings" "all_castings" (defArgs s_all_castings) (defBody s_all_castings) (defScope s_all_castings) .none kV_all_castings dc_all_castings pm_all_castings an_all_castings cd_all_castings ct_all_castings),
    f_right_castings,
    (PySem.W.fnOf "right_castings" "right_castings" (defArgs s_right_castings) (defBody s_right_castings) (defScope s_right_castings) .none kV_right_castings dc_right_castings pm_right_castings an_right_castings cd_right_castings ct_right_castings),
    f_casting_cost,
    (PySem.W.fnOf "casting_cost" "casting_cost" (defArgs s_casting_cost) (defBody s_casting_cost) (defScope s_casting_cost) .none kV_casting_cost dc_casting_cost pm_casting_cost an_casting_cost cd_casting_cost ct_casting_cost),
    f_all_orders,
    (PySem.W.fnOf "all_orders" "all_orders" (defArgs s_all_orders) (defBody s_all_orders) (defScope s_all_orders) .none kV_all_orders dc_all_orders pm_all_orders an_all_orders cd_all_orders ct_all_orders),
    f_beginnings,
    (PySem.W.fnOf "beginnings" "beginnings" (defArgs s_beginnings) (defBody s_beginnings) (defScope s_beginnings) .none kV_beginnings dc_beginnings pm_beginnings an_beginnings cd_beginnings ct_beginnings),
    f_is_in,
    (PySem.W.fnOf "is_in" "is_in" (defArgs s_is_in) (defBody s_is_in) (defScope s_is_in) .none kV_is_in dc_is_in pm_is_in an_is_in cd_is_in ct_is_in),
    f_own_pieces,
    (PySem.W.fnOf "own_pieces" "own_pieces" (defArgs s_own_pieces) (defBody s_own_pieces) (defScope s_own_pieces) .none kV_own_pieces dc_own_pieces pm_own_pieces an_own_pieces cd_own_pieces ct_own_pieces),
    f_stay_for,
    (PySem.W.fnOf "stay_for" "stay_for" (defArgs s_stay_for) (defBody s_stay_for) (defScope s_stay_for) .none kV_stay_for dc_stay_for pm_stay_for an_stay_for cd_stay_for ct_stay_for),
    f_stays_of_all,
    (PySem.W.fnOf "stays_of_all" "stays_of_all" (defArgs s_stays_of_all) (defBody s_stays_of_all) (defScope s_stays_of_all) .none kV_stays_of_all dc_stays_of_all pm_stays_of_all an_stays_of_all cd_stays_of_all ct_stays_of_all),
    f_stay_cost,
    (PySem.W.fnOf "stay_cost" "stay_cost" (defArgs s_stay_cost) (defBody s_stay_cost) (defScope s_stay_cost) .none kV_stay_cost dc_stay_cost pm_stay_cost an_stay_cost cd_stay_cost ct_stay_cost),
    f_order_cost,
    (PySem.W.fnOf "order_cost" "order_cost" (defArgs s_order_cost) (defBody s_order_cost) (defScope s_order_cost) .none kV_order_cost dc_order_cost pm_order_cost an_order_cost cd_order_cost ct_order_cost),
    f_wrong_with_stay,
    (PySem.W.fnOf "wrong_with_stay" "wrong_with_stay" (defArgs s_wrong_with_stay) (defBody s_wrong_with_stay) (defScope s_wrong_with_stay) .none kV_wrong_with_stay dc_wrong_with_stay pm_wrong_with_stay an_wrong_with_stay cd_wrong_with_stay ct_wrong_with_stay),
    f_broken_pair,
    (PySem.W.fnOf "broken_pair" "broken_pair" (defArgs s_broken_pair) (defBody s_broken_pair) (defScope s_broken_pair) .none kV_broken_pair dc_broken_pair pm_broken_pair an_broken_pair cd_broken_pair ct_broken_pair),
    f_wrong_with_order,
    (PySem.W.fnOf "wrong_with_order" "wrong_with_order" (defArgs s_wrong_with_order) (defBody s_wrong_with_order) (defScope s_wrong_with_order) .none kV_wrong_with_order dc_wrong_with_order pm_wrong_with_order an_wrong_with_order cd_wrong_with_order ct_wrong_with_order),
    f_Cheapest_init,
    (PySem.W.fnOf "__init__" "Cheapest.__init__" (defArgs s_Cheapest_init) (defBody s_Cheapest_init) (defScope s_Cheapest_init) .none kV_Cheapest_init dc_Cheapest_init pm_Cheapest_init an_Cheapest_init cd_Cheapest_init ct_Cheapest_init),
    f_Rehearsals_init,
    (PySem.W.fnOf "__init__" "Rehearsals.__init__" (defArgs s_Rehearsals_init) (defBody s_Rehearsals_init) (defScope s_Rehearsals_init) .none kV_Rehearsals_init dc_Rehearsals_init pm_Rehearsals_init an_Rehearsals_init cd_Rehearsals_init ct_Rehearsals_init),
    f_Rehearsals_player_cost,
    (PySem.W.fnOf "player_cost" "Rehearsals.player_cost" (defArgs s_Rehearsals_player_cost) (defBody s_Rehearsals_player_cost) (defScope s_Rehearsals_player_cost) .none kV_Rehearsals_player_cost dc_Rehearsals_player_cost pm_Rehearsals_player_cost an_Rehearsals_player_cost cd_Rehearsals_player_cost ct_Rehearsals_player_cost),
    f_Rehearsals_player_costs,
    (PySem.W.fnOf "player_costs" "Rehearsals.player_costs" (defArgs s_Rehearsals_player_costs) (defBody s_Rehearsals_player_costs) (defScope s_Rehearsals_player_costs) .none kV_Rehearsals_player_costs dc_Rehearsals_player_costs pm_Rehearsals_player_costs an_Rehearsals_player_costs cd_Rehearsals_player_costs ct_Rehearsals_player_costs),
    f_Rehearsals_costs,
    (PySem.W.fnOf "costs" "Rehearsals.costs" (defArgs s_Rehearsals_costs) (defBody s_Rehearsals_costs) (defScope s_Rehearsals_costs) .none kV_Rehearsals_costs dc_Rehearsals_costs pm_Rehearsals_costs an_Rehearsals_costs cd_Rehearsals_costs ct_Rehearsals_costs),
    f_Rehearsals_cheapest,
    (PySem.W.fnOf "cheapest" "Rehearsals.cheapest" (defArgs s_Rehearsals_cheapest) (defBody s_Rehearsals_cheapest) (defScope s_Rehearsals_cheapest) .none kV_Rehearsals_cheapest dc_Rehearsals_cheapest pm_Rehearsals_cheapest an_Rehearsals_cheapest cd_Rehearsals_cheapest ct_Rehearsals_cheapest),
    f_row,
    (PySem.W.fnOf "row" "row" (defArgs s_row) (defBody s_row) (defScope s_row) .none kV_row dc_row pm_row an_row cd_row ct_row),
    f_is_casting,
    (PySem.W.fnOf "is_casting" "is_casting" (defArgs s_is_casting) (defBody s_is_casting) (defScope s_is_casting) .none kV_is_casting dc_is_casting pm_is_casting an_is_casting cd_is_casting ct_is_casting),
    f_is_order,
    (PySem.W.fnOf "is_order" "is_order" (defArgs s_is_order) (defBody s_is_order) (defScope s_is_order) .none kV_is_order dc_is_order pm_is_order an_is_order cd_is_order ct_is_order),
    f_Plan_init,
    (PySem.W.fnOf "__init__" "Plan.__init__" (defArgs s_Plan_init) (defBody s_Plan_init) (defScope s_Plan_init) .none kV_Plan_init dc_Plan_init pm_Plan_init an_Plan_init cd_Plan_init ct_Plan_init),
    f_plans_by_casting,
    (PySem.W.fnOf "plans_by_casting" "plans_by_casting" (defArgs s_plans_by_casting) (defBody s_plans_by_casting) (defScope s_plans_by_casting) .none kV_plans_by_casting dc_plans_by_casting pm_plans_by_casting an_plans_by_casting cd_plans_by_casting ct_plans_by_casting),
    f_best_plan,
    (PySem.W.fnOf "best_plan" "best_plan" (defArgs s_best_plan) (defBody s_best_plan) (defScope s_best_plan) .none kV_best_plan dc_best_plan pm_best_plan an_best_plan cd_best_plan ct_best_plan),
    f_plan_apart,
    (PySem.W.fnOf "plan_apart" "plan_apart" (defArgs s_plan_apart) (defBody s_plan_apart) (defScope s_plan_apart) .none kV_plan_apart dc_plan_apart pm_plan_apart an_plan_apart cd_plan_apart ct_plan_apart),
    f_checked_plan,
    (PySem.W.fnOf "checked_plan" "checked_plan" (defArgs s_checked_plan) (defBody s_checked_plan) (defScope s_checked_plan) .none kV_checked_plan dc_checked_plan pm_checked_plan an_checked_plan cd_checked_plan ct_checked_plan),
    f_cheapest_order,
    (PySem.W.fnOf "cheapest_order" "cheapest_order" (defArgs s_cheapest_order) (defBody s_cheapest_order) (defScope s_cheapest_order) .none kV_cheapest_order dc_cheapest_order pm_cheapest_order an_cheapest_order cd_cheapest_order ct_cheapest_order),
    f_Scene_init,
    (PySem.W.fnOf "__init__" "Scene.__init__" (defArgs s_Scene_init) (defBody s_Scene_init) (defScope s_Scene_init) .none kV_Scene_init dc_Scene_init pm_Scene_init an_Scene_init cd_Scene_init ct_Scene_init),
    f_Player_init,
    (PySem.W.fnOf "__init__" "Player.__init__" (defArgs s_Player_init) (defBody s_Player_init) (defScope s_Player_init) .none kV_Player_init dc_Player_init pm_Player_init an_Player_init cd_Player_init ct_Player_init),
    f_Piece_init,
    (PySem.W.fnOf "__init__" "Piece.__init__" (defArgs s_Piece_init) (defBody s_Piece_init) (defScope s_Piece_init) .none kV_Piece_init dc_Piece_init pm_Piece_init an_Piece_init cd_Piece_init ct_Piece_init),
    f_Play_init,
    (PySem.W.fnOf "__init__" "Play.__init__" (defArgs s_Play_init) (defBody s_Play_init) (defScope s_Play_init) .none kV_Play_init dc_Play_init pm_Play_init an_Play_init cd_Play_init ct_Play_init),
    f_Play_renew,
    (PySem.W.fnOf "renew" "Play.renew" (defArgs s_Play_renew) (defBody s_Play_renew) (defScope s_Play_renew) .none kV_Play_renew dc_Play_renew pm_Play_renew an_Play_renew cd_Play_renew ct_Play_renew),
    f_Play_begins,
    (PySem.W.fnOf "begins" "Play.begins" (defArgs s_Play_begins) (defBody s_Play_begins) (defScope s_Play_begins) .none kV_Play_begins dc_Play_begins pm_Play_begins an_Play_begins cd_Play_begins ct_Play_begins),
    f_Play_scene,
    (PySem.W.fnOf "scene" "Play.scene" (defArgs s_Play_scene) (defBody s_Play_scene) (defScope s_Play_scene) .none kV_Play_scene dc_Play_scene pm_Play_scene an_Play_scene cd_Play_scene ct_Play_scene),
    f_Play_player,
    (PySem.W.fnOf "player" "Play.player" (defArgs s_Play_player) (defBody s_Play_player) (defScope s_Play_player) .none kV_Play_player dc_Play_player pm_Play_player an_Play_player cd_Play_player ct_Play_player),
    f_Play_piece,
    (PySem.W.fnOf "piece" "Play.piece" (defArgs s_Play_piece) (defBody s_Play_piece) (defScope s_Play_piece) .none kV_Play_piece dc_Play_piece pm_Play_piece an_Play_piece cd_Play_piece ct_Play_piece),
    f_Play_ahead,
    (PySem.W.fnOf "ahead" "Play.ahead" (defArgs s_Play_ahead) (defBody s_Play_ahead) (defScope s_Play_ahead) .none kV_Play_ahead dc_Play_ahead pm_Play_ahead an_Play_ahead cd_Play_ahead ct_Play_ahead),
    f_Play_are_rising_roles,
    (PySem.W.fnOf "are_rising_roles" "Play.are_rising_roles" (defArgs s_Play_are_rising_roles) (defBody s_Play_are_rising_roles) (defScope s_Play_are_rising_roles) .none kV_Play_are_rising_roles dc_Play_are_rising_roles pm_Play_are_rising_roles an_Play_are_rising_roles cd_Play_are_rising_roles ct_Play_are_rising_roles),
    f_Play_are_fees,
    (PySem.W.fnOf "are_fees" "Play.are_fees" (defArgs s_Play_are_fees) (defBody s_Play_are_fees) (defScope s_Play_are_fees) .none kV_Play_are_fees dc_Play_are_fees pm_Play_are_fees an_Play_are_fees cd_Play_are_fees ct_Play_are_fees),
    f_Reader_init,
    (PySem.W.fnOf "__init__" "Reader.__init__" (defArgs s_Reader_init) (defBody s_Reader_init) (defScope s_Reader_init) .none kV_Reader_init dc_Reader_init pm_Reader_init an_Reader_init cd_Reader_init ct_Reader_init),
    f_Reader_is_done,
    (PySem.W.fnOf "is_done" "Reader.is_done" (defArgs s_Reader_is_done) (defBody s_Reader_is_done) (defScope s_Reader_is_done) .none kV_Reader_is_done dc_Reader_is_done pm_Reader_is_done an_Reader_is_done cd_Reader_is_done ct_Reader_is_done),
    f_Reader_number,
    (PySem.W.fnOf "number" "Reader.number" (defArgs s_Reader_number) (defBody s_Reader_number) (defScope s_Reader_number) .none kV_Reader_number dc_Reader_number pm_Reader_number an_Reader_number cd_Reader_number ct_Reader_number),
    f_Reader_row,
    (PySem.W.fnOf "row" "Reader.row" (defArgs s_Reader_row) (defBody s_Reader_row) (defScope s_Reader_row) .none kV_Reader_row dc_Reader_row pm_Reader_row an_Reader_row cd_Reader_row ct_Reader_row),
    f_answer_begins,
    (PySem.W.fnOf "answer_begins" "answer_begins" (defArgs s_answer_begins) (defBody s_answer_begins) (defScope s_answer_begins) .none kV_answer_begins dc_answer_begins pm_answer_begins an_answer_begins cd_answer_begins ct_answer_begins),
    f_answer_scene,
    (PySem.W.fnOf "answer_scene" "answer_scene" (defArgs s_answer_scene) (defBody s_answer_scene) (defScope s_answer_scene) .none kV_answer_scene dc_answer_scene pm_answer_scene an_answer_scene cd_answer_scene ct_answer_scene),
    f_answer_player,
    (PySem.W.fnOf "answer_player" "answer_player" (defArgs s_answer_player) (defBody s_answer_player) (defScope s_answer_player) .none kV_answer_player dc_answer_player pm_answer_player an_answer_player cd_answer_player ct_answer_player),
    f_answer_piece,
    (PySem.W.fnOf "answer_piece" "answer_piece" (defArgs s_answer_piece) (defBody s_answer_piece) (defScope s_answer_piece) .none kV_answer_piece dc_answer_piece pm_answer_piece an_answer_piece cd_answer_piece ct_answer_piece),
    f_answer_ahead,
    (PySem.W.fnOf "answer_ahead" "answer_ahead" (defArgs s_answer_ahead) (defBody s_answer_ahead) (defScope s_answer_ahead) .none kV_answer_ahead dc_answer_ahead pm_answer_ahead an_answer_ahead cd_answer_ahead ct_answer_ahead),
    f_answer_check,
    (PySem.W.fnOf "answer_check" "answer_check" (defArgs s_answer_check) (defBody s_answer_check) (defScope s_answer_check) .none kV_answer_check dc_answer_check pm_answer_check an_answer_check cd_answer_check ct_answer_check),
    f_answer_order,
    (PySem.W.fnOf "answer_order" "answer_order" (defArgs s_answer_order) (defBody s_answer_order) (defScope s_answer_order) .none kV_answer_order dc_answer_order pm_answer_order an_answer_order cd_answer_order ct_answer_order),
    f_answer_call,
    (PySem.W.fnOf "answer_call" "answer_call" (defArgs s_answer_call) (defBody s_answer_call) (defScope s_answer_call) .none kV_answer_call dc_answer_call pm_answer_call an_answer_call cd_answer_call ct_answer_call),
    f_answers,
    (PySem.W.fnOf "answers" "answers" (defArgs s_answers) (defBody s_answers) (defScope s_answers) .none kV_answers dc_answers pm_answers an_answers cd_answers ct_answers),
    t_MOST_ROLES,
    t_MOST_DRESSING,
    t_MOST_SCENES,
    t_MOST_SCENE_MINUTES,
    t_MOST_PLAYERS,
    t_MOST_WAGE,
    t_MOST_FEE,
    t_MOST_RATE,
    t_LAST_MINUTE,
    t_MOST_PIECES,
    t_MOST_PIECE_MINUTES,
    t_BEGINS,
    t_SCENE,
    t_PLAYER,
    t_PIECE,
    t_AHEAD,
    t_BEST,
    t_APART,
    t_CHECK,
    t_ORDER⟩, rfl, (fun s us hu => match us, hu with | [_], _ => .of_eq rfl), ⟨⟨pg_Cheapest, hd_Cheapest, po_Cheapest, sa_Cheapest⟩,
    PySem.W.mg_of X G aC_Cheapest,
    ⟨mk_Cheapest, a_Cheapest_init, i_Cheapest_init, kc_Cheapest⟩,
    n_Cheapest_cost,
    n_Cheapest_many,
    n_Cheapest_order,
    ⟨pg_Rehearsals, hd_Rehearsals, po_Rehearsals, sa_Rehearsals⟩,
    PySem.W.mg_of X G aC_Rehearsals,
    ⟨mk_Rehearsals, a_Rehearsals_init, i_Rehearsals_init, kc_Rehearsals⟩,
    n_Rehearsals_players,
    n_Rehearsals_pieces,
    n_Rehearsals_orders,
    n_Rehearsals_tables,
    n_Rehearsals_known,
    ⟨pg_Plan, hd_Plan, po_Plan, sa_Plan⟩,
    PySem.W.mg_of X G aC_Plan,
    ⟨mk_Plan, a_Plan_init, i_Plan_init, kc_Plan⟩,
    n_Plan_casting,
    n_Plan_casting_price,
    n_Plan_order,
    n_Plan_cost,
    n_Plan_many,
    ⟨pg_Scene, hd_Scene, po_Scene, sa_Scene⟩,
    PySem.W.mg_of X G aC_Scene,
    ⟨mk_Scene, a_Scene_init, i_Scene_init, kc_Scene⟩,
    n_Scene_minutes,
    n_Scene_roles,
    ⟨pg_Player, hd_Player, po_Player, sa_Player⟩,
    PySem.W.mg_of X G aC_Player,
    ⟨mk_Player, a_Player_init, i_Player_init, kc_Player⟩,
    n_Player_wage,
    n_Player_rate,
    n_Player_since,
    n_Player_till,
    n_Player_fees,
    ⟨pg_Piece, hd_Piece, po_Piece, sa_Piece⟩,
    PySem.W.mg_of X G aC_Piece,
    ⟨mk_Piece, a_Piece_init, i_Piece_init, kc_Piece⟩,
    n_Piece_minutes,
    n_Piece_roles,
    ⟨pg_Play, hd_Play, po_Play, sa_Play⟩,
    PySem.W.mg_of X G aC_Play,
    ⟨mk_Play, a_Play_init, i_Play_init, kc_Play⟩,
    n_Play_dressing,
    n_Play_scenes,
    n_Play_players,
    n_Play_pieces,
    n_Play_pairs,
    ⟨pg_Reader, hd_Reader, po_Reader, sa_Reader⟩,
    PySem.W.mg_of X G aC_Reader,
    ⟨mk_Reader, a_Reader_init, i_Reader_init, kc_Reader⟩,
    n_Reader_numbers,
    n_Reader_place,
    F_comes_too_soon,
    b_comes_too_soon,
    PySem.W.mg_of X G a_comes_too_soon,
    F_lacks_time,
    b_lacks_time,
    PySem.W.mg_of X G a_lacks_time,
    F_are_in_one_scene,
    b_are_in_one_scene,
    PySem.W.mg_of X G a_are_in_one_scene,
    F_do_clash,
    b_do_clash,
    PySem.W.mg_of X G a_do_clash,
    F_clashing_pairs,
    b_clashing_pairs,
    PySem.W.mg_of X G a_clashing_pairs,
    F_can_play,
    b_can_play,
    PySem.W.mg_of X G a_can_play,
    F_wrong_with_casting,
    b_wrong_with_casting,
    PySem.W.mg_of X G a_wrong_with_casting,
    F_all_castings,
    b_all_castings,
    PySem.W.mg_of X G a_all_castings,
    F_right_castings,
    b_right_castings,
    PySem.W.mg_of X G a_right_castings,
    F_casting_cost,
    b_casting_cost,
    PySem.W.mg_of X G a_casting_cost,
    F_all_orders,
    b_all_orders,
    PySem.W.mg_of X G a_all_orders,
    F_beginnings,
    b_beginnings,
    PySem.W.mg_of X G a_beginnings,
    F_is_in,
    b_is_in,
    PySem.W.mg_of X G a_is_in,
    F_own_pieces,
    b_own_pieces,
    PySem.W.mg_of X G a_own_pieces,
    F_stay_for,
    b_stay_for,
    PySem.W.mg_of X G a_stay_for,
    F_stays_of_all,
    b_stays_of_all,
    PySem.W.mg_of X G a_stays_of_all,
    F_stay_cost,
    b_stay_cost,
    PySem.W.mg_of X G a_stay_cost,
    F_order_cost,
    b_order_cost,
    PySem.W.mg_of X G a_order_cost,
    F_wrong_with_stay,
    b_wrong_with_stay,
    PySem.W.mg_of X G a_wrong_with_stay,
    F_broken_pair,
    b_broken_pair,
    PySem.W.mg_of X G a_broken_pair,
    F_wrong_with_order,
    b_wrong_with_order,
    PySem.W.mg_of X G a_wrong_with_order,
    F_Cheapest_init,
    b_Cheapest_init,
    F_Rehearsals_init,
    b_Rehearsals_init,
    F_Rehearsals_player_cost,
    b_Rehearsals_player_cost,
    ⟨a_Rehearsals_player_cost, i_Rehearsals_player_cost, k_Rehearsals_player_cost⟩,
    F_Rehearsals_player_costs,
    b_Rehearsals_player_costs,
    ⟨a_Rehearsals_player_costs, i_Rehearsals_player_costs, k_Rehearsals_player_costs⟩,
    F_Rehearsals_costs,
    b_Rehearsals_costs,
    ⟨a_Rehearsals_costs, i_Rehearsals_costs, k_Rehearsals_costs⟩,
    F_Rehearsals_cheapest,
    b_Rehearsals_cheapest,
    ⟨a_Rehearsals_cheapest, i_Rehearsals_cheapest, k_Rehearsals_cheapest⟩,
    F_row,
    b_row,
    PySem.W.mg_of X G a_row,
    F_is_casting,
    b_is_casting,
    PySem.W.mg_of X G a_is_casting,
    F_is_order,
    b_is_order,
    PySem.W.mg_of X G a_is_order,
    F_Plan_init,
    b_Plan_init,
    F_plans_by_casting,
    b_plans_by_casting,
    PySem.W.mg_of X G a_plans_by_casting,
    F_best_plan,
    b_best_plan,
    PySem.W.mg_of X G a_best_plan,
    F_plan_apart,
    b_plan_apart,
    PySem.W.mg_of X G a_plan_apart,
    F_checked_plan,
    b_checked_plan,
    PySem.W.mg_of X G a_checked_plan,
    F_cheapest_order,
    b_cheapest_order,
    PySem.W.mg_of X G a_cheapest_order,
    F_Scene_init,
    b_Scene_init,
    F_Player_init,
    b_Player_init,
    F_Piece_init,
    b_Piece_init,
    F_Play_init,
    b_Play_init,
    F_Play_renew,
    b_Play_renew,
    ⟨a_Play_renew, i_Play_renew, k_Play_renew⟩,
    F_Play_begins,
    b_Play_begins,
    ⟨a_Play_begins, i_Play_begins, k_Play_begins⟩,
    F_Play_scene,
    b_Play_scene,
    ⟨a_Play_scene, i_Play_scene, k_Play_scene⟩,
    F_Play_player,
    b_Play_player,
    ⟨a_Play_player, i_Play_player, k_Play_player⟩,
    F_Play_piece,
    b_Play_piece,
    ⟨a_Play_piece, i_Play_piece, k_Play_piece⟩,
    F_Play_ahead,
    b_Play_ahead,
    ⟨a_Play_ahead, i_Play_ahead, k_Play_ahead⟩,
    F_Play_are_rising_roles,
    b_Play_are_rising_roles,
    ⟨a_Play_are_rising_roles, i_Play_are_rising_roles, k_Play_are_rising_roles⟩,
    F_Play_are_fees,
    b_Play_are_fees,
    ⟨a_Play_are_fees, i_Play_are_fees, k_Play_are_fees⟩,
    F_Reader_init,
    b_Reader_init,
    F_Reader_is_done,
    b_Reader_is_done,
    ⟨a_Reader_is_done, i_Reader_is_done, k_Reader_is_done⟩,
    F_Reader_number,
    b_Reader_number,
    ⟨a_Reader_number, i_Reader_number, k_Reader_number⟩,
    F_Reader_row,
    b_Reader_row,
    ⟨a_Reader_row, i_Reader_row, k_Reader_row⟩,
    F_answer_begins,
    b_answer_begins,
    PySem.W.mg_of X G a_answer_begins,
    F_answer_scene,
    b_answer_scene,
    PySem.W.mg_of X G a_answer_scene,
    F_answer_player,
    b_answer_player,
    PySem.W.mg_of X G a_answer_player,
    F_answer_piece,
    b_answer_piece,
    PySem.W.mg_of X G a_answer_piece,
    F_answer_ahead,
    b_answer_ahead,
    PySem.W.mg_of X G a_answer_ahead,
    F_answer_check,
    b_answer_check,
    PySem.W.mg_of X G a_answer_check,
    F_answer_order,
    b_answer_order,
    PySem.W.mg_of X G a_answer_order,
    F_answer_call,
    b_answer_call,
    PySem.W.mg_of X G a_answer_call,
    F_answers,
    b_answers,
    PySem.W.mg_of X G a_answers,
    PySem.W.mg_of X G v_MOST_ROLES,
    PySem.W.mg_of X G v_MOST_DRESSING,
    PySem.W.mg_of X G v_MOST_SCENES,
    PySem.W.mg_of X G v_MOST_SCENE_MINUTES,
    PySem.W.mg_of X G v_MOST_PLAYERS,
    PySem.W.mg_of X G v_MOST_WAGE,
    PySem.W.mg_of X G v_MOST_FEE,
    PySem.W.mg_of X G v_MOST_RATE,
    PySem.W.mg_of X G v_LAST_MINUTE,
    PySem.W.mg_of X G v_MOST_PIECES,
    PySem.W.mg_of X G v_MOST_PIECE_MINUTES,
    PySem.W.mg_of X G v_BEGINS,
    PySem.W.mg_of X G v_SCENE,
    PySem.W.mg_of X G v_PLAYER,
    PySem.W.mg_of X G v_PIECE,
    PySem.W.mg_of X G v_AHEAD,
    PySem.W.mg_of X G v_BEST,
    PySem.W.mg_of X G v_APART,
    PySem.W.mg_of X G v_CHECK,
    PySem.W.mg_of X G v_ORDER,
    PySem.W.mg_none_of X G u_enumerate,
    PySem.W.mg_none_of X G u_range,
    PySem.W.mg_none_of X G u_len,
    PySem.W.mg_none_of X G u_tuple,
    PySem.W.mg_none_of X G u_min,
    PySem.W.mg_none_of X G u_max,
    PySem.W.mg_none_of X G u_sum,
    PySem.W.mg_none_of X G u_zip,
    PySem.W.mg_none_of X G u_all,
    PySem.W.mg_none_of X G u_sorted,
    PySem.W.mg_none_of X G u_list⟩⟩
end RC
open PySem PySem.W PyProof.Rows
set_option maxRecDepth 100000 in
set_option maxHeartbeats 8000000 in
theorem PySem.Challenge.cw_rolecasting_s01_answers_holds : PySem.Challenge.rw_rolecasting_s01_answers.Holds := by
  w_on; k_headS; (case hw => exact ⟨[.list [.int 5]], by decide +kernel, by decide +kernel⟩)
  k_fillS
  refine L2.walk_specK (r := PySem.Challenge.rw_rolecasting_s01_answers) (k := 9) (CX := L2.CX0) (ps := ["calls"]) (sp := RC.sp_answers) (by decide +kernel) rfl rfl ⟨rfl, by decide, by decide⟩ (fun w h Y => PySem.W.kIn_of Y) ?F ?S (fun _ _ _ _ z => z)
  case F =>
    intro w mg fa h Y KX G hmg
    have TT := by
      refine' RC.all_mk KX G ?aC_Cheapest ?aC_Rehearsals ?aC_Plan ?aC_Scene ?aC_Player ?aC_Piece ?aC_Play ?aC_Reader ?a_comes_too_soon ?l_comes_too_soon ?c_comes_too_soon ?k_comes_too_soon ?a_lacks_time ?l_lacks_time ?c_lacks_time ?k_lacks_time ?a_are_in_one_scene ?l_are_in_one_scene ?c_are_in_one_scene ?k_are_in_one_scene ?a_do_clash ?l_do_clash ?c_do_clash ?k_do_clash ?a_clashing_pairs ?l_clashing_pairs ?c_clashing_pairs ?k_clashing_pairs ?a_can_play ?l_can_play ?c_can_play ?k_can_play ?a_wrong_with_casting ?l_wrong_with_casting ?c_wrong_with_casting ?k_wrong_with_casting ?a_all_castings ?l_all_castings ?c_all_castings ?k_all_castings ?a_right_castings ?l_right_castings ?c_right_castings ?k_right_castings ?a_casting_cost ?l_casting_cost ?c_casting_cost ?k_casting_cost ?a_all_orders ?l_all_orders ?c_all_orders ?k_all_orders ?a_beginnings ?l_beginnings ?c_beginnings ?k_beginnings ?a_is_in ?l_is_in ?c_is_in ?k_is_in ?a_own_pieces ?l_own_pieces ?c_own_pieces ?k_own_pieces ?a_stay_for ?l_stay_for ?c_stay_for ?k_stay_for ?a_stays_of_all ?l_stays_of_all ?c_stays_of_all ?k_stays_of_all ?a_stay_cost ?l_stay_cost ?c_stay_cost ?k_stay_cost ?a_order_cost ?l_order_cost ?c_order_cost ?k_order_cost ?a_wrong_with_stay ?l_wrong_with_stay ?c_wrong_with_stay ?k_wrong_with_stay ?a_broken_pair ?l_broken_pair ?c_broken_pair ?k_broken_pair ?a_wrong_with_order ?l_wrong_with_order ?c_wrong_with_order ?k_wrong_with_order ?a_Cheapest_init ?i_Cheapest_init ?l_Cheapest_init ?c_Cheapest_init ?k_Cheapest_init ?a_Rehearsals_init ?i_Rehearsals_init ?l_Rehearsals_init ?c_Rehearsals_init ?k_Rehearsals_init ?a_Rehearsals_player_cost ?i_Rehearsals_player_cost ?l_Rehearsals_player_cost ?c_Rehearsals_player_cost ?k_Rehearsals_player_cost ?a_Rehearsals_player_costs ?i_Rehearsals_player_costs ?l_Rehearsals_player_costs ?c_Rehearsals_player_costs ?k_Rehearsals_player_costs ?a_Rehearsals_costs ?i_Rehearsals_costs ?l_Rehearsals_costs ?c_Rehearsals_costs ?k_Rehearsals_costs ?a_Rehearsals_cheapest ?i_Rehearsals_cheapest ?l_Rehearsals_cheapest ?c_Rehearsals_cheapest ?k_Rehearsals_cheapest ?a_row ?l_row ?c_row ?k_row ?a_is_casting ?l_is_casting ?c_is_casting ?k_is_casting ?a_is_order ?l_is_order ?c_is_order ?k_is_order ?a_Plan_init ?i_Plan_init ?l_Plan_init ?c_Plan_init ?k_Plan_init ?a_plans_by_casting ?l_plans_by_casting ?c_plans_by_casting ?k_plans_by_casting ?a_best_plan ?l_best_plan ?c_best_plan ?k_best_plan ?a_plan_apart ?l_plan_apart ?c_plan_apart ?k_plan_apart ?a_checked_plan ?l_checked_plan ?c_checked_plan ?k_checked_plan ?a_cheapest_order ?l_cheapest_order ?c_cheapest_order ?k_cheapest_order ?a_Scene_init ?i_Scene_init ?l_Scene_init ?c_Scene_init ?k_Scene_init ?a_Player_init ?i_Player_init ?l_Player_init ?c_Player_init ?k_Player_init ?a_Piece_init ?i_Piece_init ?l_Piece_init ?c_Piece_init ?k_Piece_init ?a_Play_init ?i_Play_init ?l_Play_init ?c_Play_init ?k_Play_init ?a_Play_renew ?i_Play_renew ?l_Play_renew ?c_Play_renew ?k_Play_renew ?a_Play_begins ?i_Play_begins ?l_Play_begins ?c_Play_begins ?k_Play_begins ?a_Play_scene ?i_Play_scene ?l_Play_scene ?c_Play_scene ?k_Play_scene ?a_Play_player ?i_Play_player ?l_Play_player ?c_Play_player ?k_Play_player ?a_Play_piece ?i_Play_piece ?l_Play_piece ?c_Play_piece ?k_Play_piece ?a_Play_ahead ?i_Play_ahead ?l_Play_ahead ?c_Play_ahead ?k_Play_ahead ?a_Play_are_rising_roles ?i_Play_are_rising_roles ?l_Play_are_rising_roles ?c_Play_are_rising_roles ?k_Play_are_rising_roles ?a_Play_are_fees ?i_Play_are_fees ?l_Play_are_fees ?c_Play_are_fees ?k_Play_are_fees ?a_Reader_init ?i_Reader_init ?l_Reader_init ?c_Reader_init ?k_Reader_init ?a_Reader_is_done ?i_Reader_is_done ?l_Reader_is_done ?c_Reader_is_done ?k_Reader_is_done ?a_Reader_number ?i_Reader_number ?l_Reader_number ?c_Reader_number ?k_Reader_number ?a_Reader_row ?i_Reader_row ?l_Reader_row ?c_Reader_row ?k_Reader_row ?a_answer_begins ?l_answer_begins ?c_answer_begins ?k_answer_begins ?a_answer_scene ?l_answer_scene ?c_answer_scene ?k_answer_scene ?a_answer_player ?l_answer_player ?c_answer_player ?k_answer_player ?a_answer_piece ?l_answer_piece ?c_answer_piece ?k_answer_piece ?a_answer_ahead ?l_answer_ahead ?c_answer_ahead ?k_answer_ahead ?a_answer_check ?l_answer_check ?c_answer_check ?k_answer_check ?a_answer_order ?l_answer_order ?c_answer_order ?k_answer_order ?a_answer_call ?l_answer_call ?c_answer_call ?k_answer_call ?a_answers ?l_answers ?c_answers ?k_answers ?pg_Cheapest ?hd_Cheapest ?po_Cheapest ?sa_Cheapest ?mk_Cheapest ?kc_Cheapest ?n_Cheapest_cost ?n_Cheapest_many ?n_Cheapest_order ?pg_Rehearsals ?hd_Rehearsals ?po_Rehearsals ?sa_Rehearsals ?mk_Rehearsals ?kc_Rehearsals ?n_Rehearsals_players ?n_Rehearsals_pieces ?n_Rehearsals_orders ?n_Rehearsals_tables ?n_Rehearsals_known ?pg_Plan ?hd_Plan ?po_Plan ?sa_Plan ?mk_Plan ?kc_Plan ?n_Plan_casting ?n_Plan_casting_price ?n_Plan_order ?n_Plan_cost ?n_Plan_many ?pg_Scene ?hd_Scene ?po_Scene ?sa_Scene ?mk_Scene ?kc_Scene ?n_Scene_minutes ?n_Scene_roles ?pg_Player ?hd_Player ?po_Player ?sa_Player ?mk_Player ?kc_Player ?n_Player_wage ?n_Player_rate ?n_Player_since ?n_Player_till ?n_Player_fees ?pg_Piece ?hd_Piece ?po_Piece ?sa_Piece ?mk_Piece ?kc_Piece ?n_Piece_minutes ?n_Piece_roles ?pg_Play ?hd_Play ?po_Play ?sa_Play ?mk_Play ?kc_Play ?n_Play_dressing ?n_Play_scenes ?n_Play_players ?n_Play_pieces ?n_Play_pairs ?pg_Reader ?hd_Reader ?po_Reader ?sa_Reader ?mk_Reader ?kc_Reader ?n_Reader_numbers ?n_Reader_place ?v_MOST_ROLES ?v_MOST_DRESSING ?v_MOST_SCENES ?v_MOST_SCENE_MINUTES ?v_MOST_PLAYERS ?v_MOST_WAGE ?v_MOST_FEE ?v_MOST_RATE ?v_LAST_MINUTE ?v_MOST_PIECES ?v_MOST_PIECE_MINUTES ?v_BEGINS ?v_SCENE ?v_PLAYER ?v_PIECE ?v_AHEAD ?v_BEST ?v_APART ?v_CHECK ?v_ORDER ?u_enumerate ?u_range ?u_len ?u_tuple ?u_min ?u_max ?u_sum ?u_zip ?u_all ?u_sorted ?u_list
      (case aC_Cheapest => k_is)
      (case aC_Rehearsals => k_is)
      (case aC_Plan => k_is)
      (case aC_Scene => k_is)
      (case aC_Player => k_is)
      (case aC_Piece => k_is)
      (case aC_Play => k_is)
      (case aC_Reader => k_is)
      (case a_comes_too_soon => k_is)
      (case l_comes_too_soon => k_is)
      (case c_comes_too_soon => k_is)
      (case k_comes_too_soon => k_is)
      (case a_lacks_time => k_is)
      (case l_lacks_time => k_is)
      (case c_lacks_time => k_is)
      (case k_lacks_time => k_is)
      (case a_are_in_one_scene => k_is)
      (case l_are_in_one_scene => k_is)
      (case c_are_in_one_scene => k_is)
      (case k_are_in_one_scene => k_is)
      (case a_do_clash => k_is)
      (case l_do_clash => k_is)
      (case c_do_clash => k_is)
      (case k_do_clash => k_is)
      (case a_clashing_pairs => k_is)
      (case l_clashing_pairs => k_is)
      (case c_clashing_pairs => k_is)
      (case k_clashing_pairs => k_is)
      (case a_can_play => k_is)
      (case l_can_play => k_is)
      (case c_can_play => k_is)
      (case k_can_play => k_is)
      (case a_wrong_with_casting => k_is)
      (case l_wrong_with_casting => k_is)
      (case c_wrong_with_casting => k_is)
      (case k_wrong_with_casting => k_is)
      (case a_all_castings => k_is)
      (case l_all_castings => k_is)
      (case c_all_castings => k_is)
      (case k_all_castings => k_is)
      (case a_right_castings => k_is)
      (case l_right_castings => k_is)
      (case c_right_castings => k_is)
      (case k_right_castings => k_is)
      (case a_casting_cost => k_is)
      (case l_casting_cost => k_is)
      (case c_casting_cost => k_is)
      (case k_casting_cost => k_is)
      (case a_all_orders => k_is)
      (case l_all_orders => k_is)
      (case c_all_orders => k_is)
      (case k_all_orders => k_is)
      (case a_beginnings => k_is)
      (case l_beginnings => k_is)
      (case c_beginnings => k_is)
      (case k_beginnings => k_is)
      (case a_is_in => k_is)
      (case l_is_in => k_is)
      (case c_is_in => k_is)
      (case k_is_in => k_is)
      (case a_own_pieces => k_is)
      (case l_own_pieces => k_is)
      (case c_own_pieces => k_is)
      (case k_own_pieces => k_is)
      (case a_stay_for => k_is)
      (case l_stay_for => k_is)
      (case c_stay_for => k_is)
      (case k_stay_for => k_is)
      (case a_stays_of_all => k_is)
      (case l_stays_of_all => k_is)
      (case c_stays_of_all => k_is)
      (case k_stays_of_all => k_is)
      (case a_stay_cost => k_is)
      (case l_stay_cost => k_is)
      (case c_stay_cost => k_is)
      (case k_stay_cost => k_is)
      (case a_order_cost => k_is)
      (case l_order_cost => k_is)
      (case c_order_cost => k_is)
      (case k_order_cost => k_is)
      (case a_wrong_with_stay => k_is)
      (case l_wrong_with_stay => k_is)
      (case c_wrong_with_stay => k_is)
      (case k_wrong_with_stay => k_is)
      (case a_broken_pair => k_is)
      (case l_broken_pair => k_is)
      (case c_broken_pair => k_is)
      (case k_broken_pair => k_is)
      (case a_wrong_with_order => k_is)
      (case l_wrong_with_order => k_is)
      (case c_wrong_with_order => k_is)
      (case k_wrong_with_order => k_is)
      (case a_Cheapest_init => k_is)
      (case i_Cheapest_init => k_is)
      (case l_Cheapest_init => k_is)
      (case c_Cheapest_init => k_is)
      (case k_Cheapest_init => k_is)
      (case a_Rehearsals_init => k_is)
      (case i_Rehearsals_init => k_is)
      (case l_Rehearsals_init => k_is)
      (case c_Rehearsals_init => k_is)
      (case k_Rehearsals_init => k_is)
      (case a_Rehearsals_player_cost => k_is)
      (case i_Rehearsals_player_cost => k_is)
      (case l_Rehearsals_player_cost => k_is)
      (case c_Rehearsals_player_cost => k_is)
      (case k_Rehearsals_player_cost => k_is)
      (case a_Rehearsals_player_costs => k_is)
      (case i_Rehearsals_player_costs => k_is)
      (case l_Rehearsals_player_costs => k_is)
      (case c_Rehearsals_player_costs => k_is)
      (case k_Rehearsals_player_costs => k_is)
      (case a_Rehearsals_costs => k_is)
      (case i_Rehearsals_costs => k_is)
      (case l_Rehearsals_costs => k_is)
      (case c_Rehearsals_costs => k_is)
      (case k_Rehearsals_costs => k_is)
      (case a_Rehearsals_cheapest => k_is)
      (case i_Rehearsals_cheapest => k_is)
      (case l_Rehearsals_cheapest => k_is)
      (case c_Rehearsals_cheapest => k_is)
      (case k_Rehearsals_cheapest => k_is)
      (case a_row => k_is)
      (case l_row => k_is)
      (case c_row => k_is)
      (case k_row => k_is)
      (case a_is_casting => k_is)
      (case l_is_casting => k_is)
      (case c_is_casting => k_is)
      (case k_is_casting => k_is)
      (case a_is_order => k_is)
      (case l_is_order => k_is)
      (case c_is_order => k_is)
      (case k_is_order => k_is)
      (case a_Plan_init => k_is)
      (case i_Plan_init => k_is)
      (case l_Plan_init => k_is)
      (case c_Plan_init => k_is)
      (case k_Plan_init => k_is)
      (case a_plans_by_casting => k_is)
      (case l_plans_by_casting => k_is)
      (case c_plans_by_casting => k_is)
      (case k_plans_by_casting => k_is)
      (case a_best_plan => k_is)
      (case l_best_plan => k_is)
      (case c_best_plan => k_is)
      (case k_best_plan => k_is)
      (case a_plan_apart => k_is)
      (case l_plan_apart => k_is)
      (case c_plan_apart => k_is)
      (case k_plan_apart => k_is)
      (case a_checked_plan => k_is)
      (case l_checked_plan => k_is)
      (case c_checked_plan => k_is)
      (case k_checked_plan => k_is)
      (case a_cheapest_order => k_is)
      (case l_cheapest_order => k_is)
      (case c_cheapest_order => k_is)
      (case k_cheapest_order => k_is)
      (case a_Scene_init => k_is)
      (case i_Scene_init => k_is)
      (case l_Scene_init => k_is)
      (case c_Scene_init => k_is)
      (case k_Scene_init => k_is)
      (case a_Player_init => k_is)
      (case i_Player_init => k_is)
      (case l_Player_init => k_is)
      (case c_Player_init => k_is)
      (case k_Player_init => k_is)
      (case a_Piece_init => k_is)
      (case i_Piece_init => k_is)
      (case l_Piece_init => k_is)
      (case c_Piece_init => k_is)
      (case k_Piece_init => k_is)
      (case a_Play_init => k_is)
      (case i_Play_init => k_is)
      (case l_Play_init => k_is)
      (case c_Play_init => k_is)
      (case k_Play_init => k_is)
      (case a_Play_renew => k_is)
      (case i_Play_renew => k_is)
      (case l_Play_renew => k_is)
      (case c_Play_renew => k_is)
      (case k_Play_renew => k_is)
      (case a_Play_begins => k_is)
      (case i_Play_begins => k_is)
      (case l_Play_begins => k_is)
      (case c_Play_begins => k_is)
      (case k_Play_begins => k_is)
      (case a_Play_scene => k_is)
      (case i_Play_scene => k_is)
      (case l_Play_scene => k_is)
      (case c_Play_scene => k_is)
      (case k_Play_scene => k_is)
      (case a_Play_player => k_is)
      (case i_Play_player => k_is)
      (case l_Play_player => k_is)
      (case c_Play_player => k_is)
      (case k_Play_player => k_is)
      (case a_Play_piece => k_is)
      (case i_Play_piece => k_is)
      (case l_Play_piece => k_is)
      (case c_Play_piece => k_is)
      (case k_Play_piece => k_is)
      (case a_Play_ahead => k_is)
      (case i_Play_ahead => k_is)
      (case l_Play_ahead => k_is)
      (case c_Play_ahead => k_is)
      (case k_Play_ahead => k_is)
      (case a_Play_are_rising_roles => k_is)
      (case i_Play_are_rising_roles => k_is)
      (case l_Play_are_rising_roles => k_is)
      (case c_Play_are_rising_roles => k_is)
      (case k_Play_are_rising_roles => k_is)
      (case a_Play_are_fees => k_is)
      (case i_Play_are_fees => k_is)
      (case l_Play_are_fees => k_is)
      (case c_Play_are_fees => k_is)
      (case k_Play_are_fees => k_is)
      (case a_Reader_init => k_is)
      (case i_Reader_init => k_is)
      (case l_Reader_init => k_is)
      (case c_Reader_init => k_is)
      (case k_Reader_init => k_is)
      (case a_Reader_is_done => k_is)
      (case i_Reader_is_done => k_is)
      (case l_Reader_is_done => k_is)
      (case c_Reader_is_done => k_is)
      (case k_Reader_is_done => k_is)
      (case a_Reader_number => k_is)
      (case i_Reader_number => k_is)
      (case l_Reader_number => k_is)
      (case c_Reader_number => k_is)
      (case k_Reader_number => k_is)
      (case a_Reader_row => k_is)
      (case i_Reader_row => k_is)
      (case l_Reader_row => k_is)
      (case c_Reader_row => k_is)
      (case k_Reader_row => k_is)
      (case a_answer_begins => k_is)
      (case l_answer_begins => k_is)
      (case c_answer_begins => k_is)
      (case k_answer_begins => k_is)
      (case a_answer_scene => k_is)
      (case l_answer_scene => k_is)
      (case c_answer_scene => k_is)
      (case k_answer_scene => k_is)
      (case a_answer_player => k_is)
      (case l_answer_player => k_is)
      (case c_answer_player => k_is)
      (case k_answer_player => k_is)
      (case a_answer_piece => k_is)
      (case l_answer_piece => k_is)
      (case c_answer_piece => k_is)
      (case k_answer_piece => k_is)
      (case a_answer_ahead => k_is)
      (case l_answer_ahead => k_is)
      (case c_answer_ahead => k_is)
      (case k_answer_ahead => k_is)
      (case a_answer_check => k_is)
      (case l_answer_check => k_is)
      (case c_answer_check => k_is)
      (case k_answer_check => k_is)
      (case a_answer_order => k_is)
      (case l_answer_order => k_is)
      (case c_answer_order => k_is)
      (case k_answer_order => k_is)
      (case a_answer_call => k_is)
      (case l_answer_call => k_is)
      (case c_answer_call => k_is)
      (case k_answer_call => k_is)
      (case a_answers => k_is)
      (case l_answers => k_is)
      (case c_answers => k_is)
      (case k_answers => k_is)
      (case pg_Cheapest => k_is)
      (case hd_Cheapest => k_is)
      (case po_Cheapest => k_is)
      (case sa_Cheapest => k_is)
      (case mk_Cheapest => k_is)
      (case kc_Cheapest => k_is)
      (case n_Cheapest_cost => k_is)
      (case n_Cheapest_many => k_is)
      (case n_Cheapest_order => k_is)
      (case pg_Rehearsals => k_is)
      (case hd_Rehearsals => k_is)
      (case po_Rehearsals => k_is)
      (case sa_Rehearsals => k_is)
      (case mk_Rehearsals => k_is)
      (case kc_Rehearsals => k_is)
      (case n_Rehearsals_players => k_is)
      (case n_Rehearsals_pieces => k_is)
      (case n_Rehearsals_orders => k_is)
      (case n_Rehearsals_tables => k_is)
      (case n_Rehearsals_known => k_is)
      (case pg_Plan => k_is)
      (case hd_Plan => k_is)
      (case po_Plan => k_is)
      (case sa_Plan => k_is)
      (case mk_Plan => k_is)
      (case kc_Plan => k_is)
      (case n_Plan_casting => k_is)
      (case n_Plan_casting_price => k_is)
      (case n_Plan_order => k_is)
      (case n_Plan_cost => k_is)
      (case n_Plan_many => k_is)
      (case pg_Scene => k_is)
      (case hd_Scene => k_is)
      (case po_Scene => k_is)
      (case sa_Scene => k_is)
      (case mk_Scene => k_is)
      (case kc_Scene => k_is)
      (case n_Scene_minutes => k_is)
      (case n_Scene_roles => k_is)
      (case pg_Player => k_is)
      (case hd_Player => k_is)
      (case po_Player => k_is)
      (case sa_Player => k_is)
      (case mk_Player => k_is)
      (case kc_Player => k_is)
      (case n_Player_wage => k_is)
      (case n_Player_rate => k_is)
      (case n_Player_since => k_is)
      (case n_Player_till => k_is)
      (case n_Player_fees => k_is)
      (case pg_Piece => k_is)
      (case hd_Piece => k_is)
      (case po_Piece => k_is)
      (case sa_Piece => k_is)
      (case mk_Piece => k_is)
      (case kc_Piece => k_is)
      (case n_Piece_minutes => k_is)
      (case n_Piece_roles => k_is)
      (case pg_Play => k_is)
      (case hd_Play => k_is)
      (case po_Play => k_is)
      (case sa_Play => k_is)
      (case mk_Play => k_is)
      (case kc_Play => k_is)
      (case n_Play_dressing => k_is)
      (case n_Play_scenes => k_is)
      (case n_Play_players => k_is)
      (case n_Play_pieces => k_is)
      (case n_Play_pairs => k_is)
      (case pg_Reader => k_is)
      (case hd_Reader => k_is)
      (case po_Reader => k_is)
      (case sa_Reader => k_is)
      (case mk_Reader => k_is)
      (case kc_Reader => k_is)
      (case n_Reader_numbers => k_is)
      (case n_Reader_place => k_is)
      (case v_MOST_ROLES => k_is)
      (case v_MOST_DRESSING => k_is)
      (case v_MOST_SCENES => k_is)
      (case v_MOST_SCENE_MINUTES => k_is)
      (case v_MOST_PLAYERS => k_is)
      (case v_MOST_WAGE => k_is)
      (case v_MOST_FEE => k_is)
      (case v_MOST_RATE => k_is)
      (case v_LAST_MINUTE => k_is)
      (case v_MOST_PIECES => k_is)
      (case v_MOST_PIECE_MINUTES => k_is)
      (case v_BEGINS => k_is)
      (case v_SCENE => k_is)
      (case v_PLAYER => k_is)
      (case v_PIECE => k_is)
      (case v_AHEAD => k_is)
      (case v_BEST => k_is)
      (case v_APART => k_is)
      (case v_CHECK => k_is)
      (case v_ORDER => k_is)
      (case u_enumerate => k_is)
      (case u_range => k_is)
      (case u_len => k_is)
      (case u_tuple => k_is)
      (case u_min => k_is)
      (case u_max => k_is)
      (case u_sum => k_is)
      (case u_zip => k_is)
      (case u_all => k_is)
      (case u_sorted => k_is)
      (case u_list => k_is)
    obtain ⟨A, eA, bA, T⟩ := TT
    have e := hmg.symm.trans T.g_answers
    cases e
    exact ⟨A.d_answers, bA, fun base _ _ => RC.fn_answers T⟩
  case S =>
    intro K H xs a hO hwi hask hx
    cases hx with
    | cons h1 h2 =>
      cases h2
      cases h1 with
      | lst hs ha =>
        have e := L2.ints_dw a.1 _ ha
        subst e
        exact ⟨_, a.1, rfl, hs, hask, fun H' p hp => .lst (L2.SqL.of hp) (L2.dw_ints _)⟩
