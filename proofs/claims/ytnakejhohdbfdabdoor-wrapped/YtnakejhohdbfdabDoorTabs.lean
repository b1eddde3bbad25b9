/- Plain mathematics of the tables: no program. -/
namespace Go.Proofs.YtnakejhohdbfdabDoor.Tabs

def classTab : List (Int × Int × Int) := [(0, 8, 9), (9, 9, 11), (10, 10, 10), (11, 11, 11), (12, 12, 12), (13, 13, 10), (14, 27, 9), (28, 30, 10), (31, 31, 11), (32, 32, 12), (33, 34, 13), (35, 37, 5), (38, 42, 13), (43, 43, 4), (44, 44, 7), (45, 45, 4), (46, 47, 7), (48, 57, 3), (58, 58, 7), (59, 64, 13), (91, 96, 13), (123, 126, 13), (127, 132, 9), (133, 133, 10), (134, 159, 9), (160, 160, 7), (161, 161, 13), (162, 165, 5), (166, 169, 13), (171, 172, 13), (173, 173, 9), (174, 175, 13), (176, 177, 5), (178, 179, 3), (180, 180, 13), (768, 879, 8), (1425, 1469, 8), (1470, 1470, 1), (1488, 1514, 1), (1536, 1541, 6), (1544, 1544, 2), (1548, 1548, 7), (1564, 1564, 2), (1568, 1610, 2), (1611, 1631, 8), (1632, 1641, 6), (1642, 1642, 5), (1643, 1644, 6), (1645, 1647, 2), (1648, 1648, 8), (1649, 1747, 2), (1776, 1785, 3), (8203, 8205, 9), (8207, 8207, 1), (8232, 8232, 12), (8233, 8233, 10), (8234, 8234, 14), (8235, 8235, 16), (8236, 8236, 18), (8237, 8237, 15), (8238, 8238, 17), (8239, 8239, 7), (8260, 8260, 7), (8294, 8294, 19), (8295, 8295, 20), (8296, 8296, 21), (8297, 8297, 22), (8352, 8383, 5), (8592, 8595, 13), (9728, 10175, 13), (12296, 12299, 13), (65024, 65039, 8), (65279, 65279, 9), (65533, 65533, 13), (127744, 129535, 13)]
def lowTab : List (Int × Int × Int) := [(0, 8, 9), (9, 9, 11), (10, 10, 10), (11, 11, 11), (12, 12, 12), (13, 13, 10), (14, 27, 9), (28, 30, 10), (31, 31, 11), (32, 32, 12), (33, 34, 13), (35, 37, 5), (38, 42, 13), (43, 43, 4), (44, 44, 7), (45, 45, 4), (46, 47, 7), (48, 57, 3), (58, 58, 7), (59, 64, 13), (91, 96, 13), (123, 126, 13), (127, 132, 9), (133, 133, 10), (134, 159, 9), (160, 160, 7), (161, 161, 13), (162, 165, 5), (166, 169, 13), (171, 172, 13), (173, 173, 9), (174, 175, 13), (176, 177, 5), (178, 179, 3), (180, 180, 13)]
def highTab : List (Int × Int × Int) := [(768, 879, 8), (1425, 1469, 8), (1470, 1470, 1), (1488, 1514, 1), (1536, 1541, 6), (1544, 1544, 2), (1548, 1548, 7), (1564, 1564, 2), (1568, 1610, 2), (1611, 1631, 8), (1632, 1641, 6), (1642, 1642, 5), (1643, 1644, 6), (1645, 1647, 2), (1648, 1648, 8), (1649, 1747, 2), (1776, 1785, 3), (8203, 8205, 9), (8207, 8207, 1), (8232, 8232, 12), (8233, 8233, 10), (8239, 8239, 7), (8260, 8260, 7), (8352, 8383, 5), (8592, 8595, 13), (9728, 10175, 13), (12296, 12299, 13), (65024, 65039, 8), (65279, 65279, 9), (65533, 65533, 13), (127744, 129535, 13)]
def nineTab : List (Int × Int × Int) := [(8234, 8234, 14), (8235, 8235, 16), (8236, 8236, 18), (8237, 8237, 15), (8238, 8238, 17), (8294, 8294, 19), (8295, 8295, 20), (8296, 8296, 21), (8297, 8297, 22)]
def kindTab : List (Int × Int × Int) := [(0, 9, 3), (10, 10, 2), (11, 12, 3), (13, 13, 1), (14, 31, 3), (127, 159, 3), (169, 169, 14), (173, 173, 3), (174, 174, 14), (768, 879, 4), (1425, 1469, 4), (1536, 1541, 7), (1564, 1564, 3), (1611, 1631, 4), (1648, 1648, 4), (2307, 2307, 8), (2366, 2368, 8), (4352, 4447, 9), (4448, 4519, 10), (4520, 4607, 11), (8203, 8203, 3), (8204, 8204, 4), (8205, 8205, 5), (8206, 8207, 3), (8232, 8238, 3), (8294, 8297, 3), (9728, 10175, 14), (65024, 65039, 4), (65279, 65279, 3), (127462, 127487, 6), (127744, 127994, 14), (127995, 127999, 4), (128000, 129535, 14)]

/-- Does a row hold the number? -/
def hit (r : Int) (x : Int × Int × Int) : Bool := decide (x.1 ≤ r) && decide (r ≤ x.2.1)
/-- What the first row that holds the number says; 0 where none does. -/
def look : List (Int × Int × Int) → Int → Int
  | [], _ => 0
  | x :: l, r => if hit r x then x.2.2 else look l r
/-- Each row's first is not above its last, and the rows rise. -/
def rising : Int → List (Int × Int × Int) → Bool
  | _, [] => true
  | z, x :: l => decide (z < x.1) && decide (x.1 ≤ x.2.1) && rising x.2.1 l

def frm (l : List (Int × Int × Int)) (i : Nat) : Int := (l.getD i (0, 0, 0)).1
def til (l : List (Int × Int × Int)) (i : Nat) : Int := (l.getD i (0, 0, 0)).2.1
def wht (l : List (Int × Int × Int)) (i : Nat) : Int := (l.getD i (0, 0, 0)).2.2

theorem rising_low : ∀ (l : List (Int × Int × Int)) (z z' : Int), z' ≤ z → rising z l = true → rising z' l = true
  | [], _, _, _, _ => rfl
  | x :: l, z, z', hz, h => by
    simp only [rising, Bool.and_eq_true, decide_eq_true_eq] at h ⊢
    exact ⟨⟨by omega, h.1.2⟩, h.2⟩
theorem rising_mem : ∀ (l : List (Int × Int × Int)) (z : Int), rising z l = true → ∀ x ∈ l, z < x.1 ∧ x.1 ≤ x.2.1
  | [], _, _, x, hx => by cases hx
  | y :: l, z, h, x, hx => by
    simp only [rising, Bool.and_eq_true, decide_eq_true_eq] at h
    rcases List.mem_cons.1 hx with rfl | hx
    · exact ⟨h.1.1, h.1.2⟩
    · have := rising_mem l _ h.2 x hx
      exact ⟨by omega, this.2⟩
theorem look_none : ∀ (l : List (Int × Int × Int)) (r : Int), (∀ x ∈ l, hit r x = false) → look l r = 0
  | [], _, _ => rfl
  | x :: l, r, h => by
    rw [look, if_neg (by rw [h x List.mem_cons_self]; exact Bool.false_ne_true)]
    exact look_none l r fun y hy => h y (List.mem_cons_of_mem _ hy)
theorem look_mem : ∀ (l : List (Int × Int × Int)) (z r : Int), rising z l = true → ∀ x ∈ l, hit r x = true → look l r = x.2.2
  | [], _, _, _, x, hx, _ => by cases hx
  | y :: l, z, r, h, x, hx, hr => by
    simp only [rising, Bool.and_eq_true, decide_eq_true_eq] at h
    rcases List.mem_cons.1 hx with rfl | hx
    · rw [look, if_pos hr]
    · have hm := rising_mem l _ h.2 x hx
      have hy : hit r y = false := by
        simp only [hit, Bool.and_eq_true, decide_eq_true_eq] at hr
        simp only [hit, Bool.and_eq_false_iff, decide_eq_false_iff_not]
        omega
      rw [look, if_neg (by rw [hy]; exact Bool.false_ne_true)]
      exact look_mem l _ r h.2 x hx hr
theorem hit_or (r : Int) (l : List (Int × Int × Int)) : (∃ x ∈ l, hit r x = true) ∨ ∀ x ∈ l, hit r x = false := by
  by_cases h : ∃ x ∈ l, hit r x = true
  · exact .inl h
  · refine .inr fun x hx => ?_
    cases e : hit r x with
    | false => rfl
    | true => exact absurd ⟨x, hx, e⟩ h

theorem mem_of_lt (l : List (Int × Int × Int)) (i : Nat) (h : i < l.length) : (frm l i, til l i, wht l i) ∈ l := by
  have : l.getD i (0, 0, 0) = l[i] := by simp [List.getD, h]
  unfold frm til wht
  rw [this]
  exact List.getElem_mem h
theorem lt_of_mem {l : List (Int × Int × Int)} {x : Int × Int × Int} (h : x ∈ l) : ∃ i, i < l.length ∧ x = (frm l i, til l i, wht l i) := by
  obtain ⟨i, hi, rfl⟩ := List.getElem_of_mem h
  refine ⟨i, hi, ?_⟩
  have : l.getD i (0, 0, 0) = l[i] := by simp [List.getD, hi]
  unfold frm til wht
  rw [this]
theorem til_lt_frm : ∀ (l : List (Int × Int × Int)) (z : Int), rising z l = true → ∀ i j, i < j → j < l.length → til l i < frm l j
  | [], _, _, i, j, _, hj => by simp at hj
  | y :: l, z, h, i, j, hij, hj => by
    simp only [rising, Bool.and_eq_true, decide_eq_true_eq] at h
    cases j with
    | zero => omega
    | succ j =>
      have hj' : j < l.length := by simpa using hj
      cases i with
      | zero =>
        have := rising_mem l _ h.2 _ (mem_of_lt l j hj')
        show y.2.1 < frm l j
        exact this.1
      | succ i => exact til_lt_frm l _ h.2 i j (by omega) hj'
theorem frm_le_til (l : List (Int × Int × Int)) (z : Int) (h : rising z l = true) (i : Nat) (hi : i < l.length) : frm l i ≤ til l i := (rising_mem l z h _ (mem_of_lt l i hi)).2
/-- The places behind one whose last is not below r have lasts not below r. -/
theorem til_mono (l : List (Int × Int × Int)) (z : Int) (h : rising z l = true) (r : Int) (a b : Nat) (hab : a ≤ b) (hb : b < l.length) (hr : decide (r ≤ til l a) = true) : decide (r ≤ til l b) = true := by
  simp only [decide_eq_true_eq] at hr ⊢
  rcases Nat.lt_or_eq_of_le hab with h1 | h1
  · have := til_lt_frm l z h a b h1 hb
    have := frm_le_til l z h b hb
    omega
  · subst h1; exact hr
/-- WHAT A SEARCH BY HALVES FINDS. -/
theorem look_yes (l : List (Int × Int × Int)) (z : Int) (h : rising z l = true) (r : Int) (k : Nat) (hk : k < l.length) (h1 : frm l k ≤ r) (h2 : decide (r ≤ til l k) = true) : look l r = wht l k := by
  refine look_mem l z r h _ (mem_of_lt l k hk) ?_
  show (decide (frm l k ≤ r) && decide (r ≤ til l k)) = true
  rw [h2, decide_eq_true h1]
  rfl
theorem look_no (l : List (Int × Int × Int)) (z : Int) (h : rising z l = true) (r : Int) (k : Nat) (hlo : ∀ t, t < k → decide (r ≤ til l t) = false) (h1 : k < l.length → r < frm l k) : look l r = 0 := by
  refine look_none l r fun x hx => ?_
  obtain ⟨i, hi, rfl⟩ := lt_of_mem hx
  simp only [hit, Bool.and_eq_false_iff, decide_eq_false_iff_not]
  rcases Nat.lt_trichotomy i k with h3 | h3 | h3
  · have := hlo i h3
    simp only [decide_eq_false_iff_not] at this
    exact .inr this
  · subst h3
    have := h1 hi
    omega
  · have := h1 (by omega)
    have := til_lt_frm l z h k i h3 hi
    have := frm_le_til l z h k (by omega)
    omega

theorem len_class : classTab.length = 75 := by decide
theorem len_low : lowTab.length = 35 := by decide
theorem len_high : highTab.length = 31 := by decide
theorem len_kind : kindTab.length = 33 := by decide
theorem rise_class : rising (-1) classTab = true := by decide
theorem rise_low : rising (-1) lowTab = true := by decide
theorem rise_high : rising (-1) highTab = true := by decide
theorem rise_kind : rising (-1) kindTab = true := by decide
theorem low_sub : ∀ x ∈ lowTab, x ∈ classTab ∧ x.2.1 < 256 := by decide
theorem high_sub : ∀ x ∈ highTab, x ∈ classTab ∧ 256 ≤ x.1 := by decide
theorem nine_sub : ∀ x ∈ nineTab, x ∈ classTab ∧ x.1 = x.2.1 := by decide
theorem class_sub : ∀ x ∈ classTab, x ∈ lowTab ∨ x ∈ highTab ∨ x ∈ nineTab := by decide

theorem class_nine (r c : Int) (h : (r, r, c) ∈ nineTab) : look classTab r = c :=
  look_mem classTab (-1) r rise_class _ (nine_sub _ h).1 (by simp [hit])
theorem class_low (r : Int) (h : r < 256) : look classTab r = look lowTab r := by
  rcases hit_or r lowTab with ⟨x, hx, he⟩ | hn
  · rw [look_mem lowTab (-1) r rise_low x hx he, look_mem classTab (-1) r rise_class x (low_sub x hx).1 he]
  · rw [look_none lowTab r hn]
    refine look_none classTab r fun x hx => ?_
    rcases class_sub x hx with h1 | h1 | h1
    · exact hn x h1
    · have := (high_sub x h1).2
      simp only [hit, Bool.and_eq_false_iff, decide_eq_false_iff_not]; omega
    · have : ∀ x ∈ nineTab, 256 ≤ x.1 := by decide
      have := this x h1
      simp only [hit, Bool.and_eq_false_iff, decide_eq_false_iff_not]; omega
theorem class_high (r : Int) (h : 256 ≤ r) (h9 : ∀ x ∈ nineTab, r ≠ x.1) : look classTab r = look highTab r := by
  rcases hit_or r highTab with ⟨x, hx, he⟩ | hn
  · rw [look_mem highTab (-1) r rise_high x hx he, look_mem classTab (-1) r rise_class x (high_sub x hx).1 he]
  · rw [look_none highTab r hn]
    refine look_none classTab r fun x hx => ?_
    rcases class_sub x hx with h1 | h1 | h1
    · have := (low_sub x h1).2
      simp only [hit, Bool.and_eq_false_iff, decide_eq_false_iff_not]; omega
    · exact hn x h1
    · have := (nine_sub x h1).2
      have := h9 x h1
      simp only [hit, Bool.and_eq_false_iff, decide_eq_false_iff_not]; omega

/-- KINDS, syllables counted in. -/
def kindOf (r : Int) : Int := if 44032 ≤ r ∧ r ≤ 55203 then (if (r - 44032) % 28 = 0 then 12 else 13) else look kindTab r
end Go.Proofs.YtnakejhohdbfdabDoor.Tabs
