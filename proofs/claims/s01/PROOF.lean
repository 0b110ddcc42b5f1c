import PyProof.Rows.All
import PySi86
import PyWideLaws
import Wide.All
import OpenK.AllK
import Wide.FinOn
import HandS.ForMost
import HandS.Strs
import HandS.SetFor
import HandS.SortKw
import Open.SpecLaws
import KE.OsGo
import HandS.ForSpec
import HandS.Zip
import HandS.Codes
import HandS.CallLocal
import PySem.Challenge.RW_lostthings_s01_answers
namespace My
/-! ## The line's form -/
abbrev Q := Int × List Int
def flat : List Q → List Int
  | [] => []
  | (p, ns) :: r => p :: (ns.length : Int) :: (ns ++ (0 :: flat r))
def row (q : Q) : List (List Int) := [q.1 :: q.2]
def inW (z : Int) : Prop := 0 ≤ z ∧ z ≤ 4294967295
def shapeOk (p : Int) (n : Nat) : Prop :=
  (p = 0 ∧ n = 1) ∨ (p = 1 ∧ n = 4) ∨ (p = 2 ∧ n = 4) ∨ (p = 3 ∧ n = 1) ∨ (p = 4 ∧ n ≤ 6) ∨ (p = 5 ∧ n = 0) ∨ (p = 6 ∧ n = 1) ∨ (p = 7 ∧ n = 0)
structure OkQ (q : Q) : Prop where
  nums : ∀ z ∈ q.2, inW z
  shape : shapeOk q.1 q.2.length
theorem put_flat : ∀ qs : List Q, PyWide.put (qs.map row) = flat qs
  | [] => rfl
  | (p, ns) :: r => by
    show (p :: (((ns.length : Int) :: ns) ++ ((([] : List (List Int)).length : Int) :: []))) ++ PyWide.put (r.map row) = _
    rw [put_flat r]
    show _ = p :: (ns.length : Int) :: (ns ++ (0 :: flat r))
    simp
theorem each1 {lo hi x : Int} {b : List (Int × Int)} {xs : List Int} (h : PyInside.each ((lo, hi) :: b) (x :: xs) = true) : (lo ≤ x ∧ x ≤ hi) ∧ PyInside.each b xs = true := by
  simpa [PyInside.each, PyInside.within] using h
theorem okQ_of {c : List (List Int)} (ho : PyWide.okCall c) (h1 : Si86Neutral.asked1 c = true) (h2 : PySi86.fits c = true) : ∃ q : Q, c = row q ∧ OkQ q := by
  obtain ⟨p, ns, xs, rfl⟩ := ho
  unfold Si86Neutral.asked1 at h1
  simp only [Bool.and_eq_true, beq_iff_eq, List.length_cons, List.headD_cons, List.all_eq_true] at h1
  obtain ⟨hl, hn, hc⟩ := h1
  have hx : xs = [] := List.length_eq_zero_iff.mp (by omega)
  clear hl
  subst hx
  refine ⟨(p, ns), rfl, ?_, ?_⟩
  · intro z hz
    have := hn z (List.mem_cons_of_mem _ hz)
    simp [Si86Neutral.natural] at this
    exact ⟨this.1, by omega⟩
  · have hp : 0 ≤ p := by
      have := hn p (List.mem_cons_self)
      simp [Si86Neutral.natural] at this
      exact this.1
    show shapeOk p ns.length
    have hp0 : p.toNat = p := Int.toNat_of_nonneg hp
    unfold Si86Neutral.callOf at hc
    rw [List.map_cons] at hc
    have hlen : (ns.map Int.toNat).length = ns.length := List.length_map _
    unfold shapeOk
    generalize hm : ns.map Int.toNat = ms at hc hlen
    split at hc
    · rename_i e he
      obtain ⟨e1, e2⟩ := List.cons.inj he
      subst e2
      have : ns.length = 1 := hlen.symm
      omega
    · rename_i a b c d he
      obtain ⟨e1, e2⟩ := List.cons.inj he
      subst e2
      have : ns.length = 4 := hlen.symm
      omega
    · rename_i a b c d he
      obtain ⟨e1, e2⟩ := List.cons.inj he
      subst e2
      have : ns.length = 4 := hlen.symm
      omega
    · rename_i a he
      obtain ⟨e1, e2⟩ := List.cons.inj he
      subst e2
      have : ns.length = 1 := hlen.symm
      omega
    · rename_i a he
      obtain ⟨e1, e2⟩ := List.cons.inj he
      subst e2
      have : ns.length ≤ 6 := by
        rw [← hlen]
        split at hc
        · assumption
        · simp at hc
      omega
    · rename_i he
      obtain ⟨e1, e2⟩ := List.cons.inj he
      subst e2
      have : ns.length = 0 := hlen.symm
      omega
    · rename_i a he
      obtain ⟨e1, e2⟩ := List.cons.inj he
      subst e2
      have : ns.length = 1 := hlen.symm
      omega
    · rename_i he
      obtain ⟨e1, e2⟩ := List.cons.inj he
      subst e2
      have : ns.length = 0 := hlen.symm
      omega
    · simp at hc
theorem rows_of : ∀ (cs : List (List (List Int))), (∀ c ∈ cs, ∃ q : Q, c = row q ∧ OkQ q) → ∃ qs : List Q, cs = qs.map row ∧ ∀ q ∈ qs, OkQ q
  | [], _ => ⟨[], rfl, fun _ h => by cases h⟩
  | c :: cs, h => by
    obtain ⟨q, e, ok⟩ := h c List.mem_cons_self
    obtain ⟨qs, e2, ok2⟩ := rows_of cs fun d hd => h d (List.mem_cons_of_mem _ hd)
    refine ⟨q :: qs, by rw [e, e2]; rfl, fun x hx => ?_⟩
    cases hx with
    | head => exact ok
    | tail _ hx => exact ok2 x hx
/-- what is due of a line's calls -/
def due (qs : List Q) : List (List Int) := PyFlat.played Si86Neutral.step Si86.init (qs.map row)
theorem asked_inv {l : List Int} (h : PySi86.answers_asked l = true) :
    ∃ qs : List Q, l = flat qs ∧ (∀ q ∈ qs, OkQ q) ∧ qs.length ≤ 60 ∧ PySi86.answers l = PyFlat.told (due qs) ∧ (PyFlat.told (due qs)).length ≤ 10000000 := by
  unfold PySi86.answers_asked at h
  cases e : PySi86.calls l with
  | none => rw [e] at h; cases h
  | some cs =>
    rw [e] at h
    simp only [Bool.and_eq_true] at h
    obtain ⟨⟨⟨⟨h0, h1⟩, h2⟩, h3⟩, h4⟩ := h
    have hp := PyWide.put_calls _ _ _ e
    have ha : ∀ c ∈ cs, Si86Neutral.asked1 c = true := by
      unfold Si86Neutral.asked at h3
      simp only [Bool.and_eq_true, List.all_eq_true] at h3
      exact h3.1
    have hf : ∀ c ∈ cs, PySi86.fits c = true := by
      simpa [List.all_eq_true] using h1
    obtain ⟨qs, e2, ok⟩ := rows_of cs fun c hc => okQ_of (hp.2 c hc) (ha c hc) (hf c hc)
    have e3 : PySi86.answers l = PyFlat.told (due qs) := by
      unfold PySi86.answers
      rw [e]
      show PyFlat.told (PyFlat.played Si86Neutral.step Si86Neutral.start cs) = _
      rw [e2]
      rfl
    refine ⟨qs, ?_, ok, ?_, e3, ?_⟩
    · rw [hp.1, e2, put_flat]
    · have : cs.length ≤ 60 := by simpa [PyFlat.atMost] using h2
      rw [e2, List.length_map] at this
      exact this
    · rw [← e3]
      simpa [PyFlat.short] using h4
end My
namespace My
/-! ## The office as the program keeps it -/
structure M where
  wrong : Int
  things : List (List Int)
  claims : List (List Int)
def optI (v : Int) : Option Nat := if v = 10 then none else some v.toNat
def M.off (m : M) : Si86.Office := ⟨m.wrong.toNat, m.things.map (·.map Int.toNat), m.claims.map (·.map optI)⟩
def feat (hi : Int) (f : List Int) : Prop := f.length = 4 ∧ ∀ z ∈ f, 0 ≤ z ∧ z ≤ hi
structure M.Ok (m : M) : Prop where
  w0 : 0 ≤ m.wrong
  w4 : m.wrong ≤ 4
  t5 : m.things.length ≤ 5
  c5 : m.claims.length ≤ 5
  tg : ∀ f ∈ m.things, feat 9 f
  cg : ∀ f ∈ m.claims, feat 10 f
def M.init : M := ⟨0, [], []⟩
theorem M.init_ok : M.init.Ok := ⟨by decide, by decide, by decide, by decide, fun _ (h : _ ∈ ([] : List (List Int))) => (nomatch h), fun _ (h : _ ∈ ([] : List (List Int))) => (nomatch h)⟩
theorem M.init_off : M.init.off = Si86.init := rfl
/-! ## A claim's errors about a thing -/
def offAt (p : Int × Int) : Bool := p.1 != 10 && p.1 != p.2
def errP (l : List (Int × Int)) : Nat := (l.filter offAt).length
def errN (c t : List Int) : Nat := errP (c.zip t)
theorem four {α : Type} {l : List α} (h : l.length = 4) : ∃ a b c d, l = [a, b, c, d] := by
  match l, h with
  | [a, b, c, d], _ => exact ⟨a, b, c, d, rfl⟩
theorem off1 {a e : Int} (ha : 0 ≤ a) (he : 0 ≤ e) : (match optI a with
  | none => false
  | some v => v != e.toNat) = offAt (a, e) := by
  unfold optI offAt
  by_cases h : a = 10
  · subst h
    rfl
  · rw [if_neg h]
    show (a.toNat != e.toNat) = (a != 10 && a != e)
    have h1 : (a != 10) = true := by simpa using h
    rw [h1, Bool.true_and]
    by_cases g : a = e
    · subst g
      simp
    · have g2 : a.toNat ≠ e.toNat := by omega
      rw [bne_iff_ne.mpr g, bne_iff_ne.mpr g2]
theorem errors_lists {c t : List Int} (hc : feat 10 c) (ht : feat 9 t) :
    ((List.range Si86.FEATURES).filter fun k => match (c.map optI).getD k none with
      | none => false
      | some v => v != (t.map Int.toNat).getD k 0).length = errN c t := by
  obtain ⟨a, b, c, d, rfl⟩ := four hc.1
  obtain ⟨e, f, g, h, rfl⟩ := four ht.1
  have q1 := off1 (hc.2 a (by simp)).1 (ht.2 e (by simp)).1
  have q2 := off1 (hc.2 b (by simp)).1 (ht.2 f (by simp)).1
  have q3 := off1 (hc.2 c (by simp)).1 (ht.2 g (by simp)).1
  have q4 := off1 (hc.2 d (by simp)).1 (ht.2 h (by simp)).1
  show (List.filter _ [0, 1, 2, 3]).length = (List.filter offAt [(a, e), (b, f), (c, g), (d, h)]).length
  simp only [List.filter_cons, List.filter_nil]
  rw [show (match ([a, b, c, d].map optI).getD 0 none with | none => false | some v => v != ([e, f, g, h].map Int.toNat).getD 0 0) = offAt (a, e) from q1,
    show (match ([a, b, c, d].map optI).getD 1 none with | none => false | some v => v != ([e, f, g, h].map Int.toNat).getD 1 0) = offAt (b, f) from q2,
    show (match ([a, b, c, d].map optI).getD 2 none with | none => false | some v => v != ([e, f, g, h].map Int.toNat).getD 2 0) = offAt (c, g) from q3,
    show (match ([a, b, c, d].map optI).getD 3 none with | none => false | some v => v != ([e, f, g, h].map Int.toNat).getD 3 0) = offAt (d, h) from q4]
  cases offAt (a, e) <;> cases offAt (b, f) <;> cases offAt (c, g) <;> cases offAt (d, h) <;> rfl
theorem getD_map {α β : Type} (f : α → β) (d : α) (e : β) (h : f d = e) : ∀ (l : List α) (i : Nat), (l.map f).getD i e = f (l.getD i d)
  | [], i => by simp [h]
  | a :: l, 0 => rfl
  | a :: l, i + 1 => by
    rw [List.map_cons, List.getD_cons_succ, List.getD_cons_succ]
    exact getD_map f d e h l i
def M.thing (m : M) (t : Nat) : List Int := m.things.getD t []
def M.claim (m : M) (c : Nat) : List Int := m.claims.getD c []
def M.err (m : M) (c t : Nat) : Nat := errN (m.claim c) (m.thing t)
theorem getD_mem {α : Type} {l : List α} {i : Nat} {d : α} (h : i < l.length) : l.getD i d ∈ l := by
  rw [List.getD_eq_getElem?_getD, List.getElem?_eq_getElem h]
  exact List.getElem_mem h
theorem M.errors_eq {m : M} (k : m.Ok) {c t : Nat} (hc : c < m.claims.length) (ht : t < m.things.length) : m.off.errors c t = m.err c t := by
  unfold Si86.Office.errors Si86.Office.claim Si86.Office.thing M.off
  simp only [getD_map (fun (l : List Int) => l.map optI) [] [] rfl, getD_map (fun (l : List Int) => l.map Int.toNat) [] [] rfl]
  exact errors_lists (k.cg _ (getD_mem hc)) (k.tg _ (getD_mem ht))
theorem M.errors_le (m : M) (c t : Nat) : m.off.errors c t ≤ 4 := by
  unfold Si86.Office.errors
  exact Nat.le_trans (List.length_filter_le ..) (by simp [Si86.FEATURES])
/-- the thing fits the claim -/
def M.fit (m : M) (c t : Nat) : Bool := decide ((m.err c t : Int) ≤ m.wrong)
theorem M.fits_eq {m : M} (k : m.Ok) {c t : Nat} (hc : c < m.claims.length) (ht : t < m.things.length) : m.off.fits c t = m.fit c t := by
  unfold Si86.Office.fits M.fit
  rw [M.errors_eq k hc ht]
  have h1 : c < m.off.claims.length := by show c < (m.claims.map _).length; rw [List.length_map]; exact hc
  have h2 : t < m.off.things.length := by show t < (m.things.map _).length; rw [List.length_map]; exact ht
  rw [decide_eq_true h1, decide_eq_true h2, Bool.true_and, Bool.true_and]
  have : (m.err c t ≤ m.off.wrong) ↔ (m.err c t : Int) ≤ m.wrong := by
    show m.err c t ≤ m.wrong.toNat ↔ _
    have := k.w0
    omega
  exact decide_eq_decide.mpr this
theorem M.fits_claims {m : M} {c t : Nat} (h : m.off.fits c t = true) : c < m.claims.length ∧ t < m.things.length := by
  unfold Si86.Office.fits at h
  simp only [Bool.and_eq_true, decide_eq_true_eq] at h
  have h1 : m.off.claims.length = m.claims.length := List.length_map _
  have h2 : m.off.things.length = m.things.length := List.length_map _
  rw [h1, h2] at h
  exact ⟨h.1, h.2.1⟩
theorem M.len_claims (m : M) : m.off.claims.length = m.claims.length := List.length_map _
theorem M.len_things (m : M) : m.off.things.length = m.things.length := List.length_map _
theorem M.none_eq (m : M) : m.off.none_ = m.things.length := List.length_map _
/-! ## begins, thing, claim, fits -/
def M.begins (m : M) (e : Int) : M × List Int := if e > 4 then (m, [-1]) else (⟨e, [], []⟩, [0])
def tooHigh (f : List Int) (hi : Int) : Prop := ∃ z ∈ f, hi < z
instance (f : List Int) (hi : Int) : Decidable (tooHigh f hi) := by unfold tooHigh; infer_instance
def behind (kept : List (List Int)) (f : List Int) (hi : Int) : Int := if tooHigh f hi then -1 else if kept.length = 5 then -5 else (kept.length : Int)
def M.takesT (m : M) (f : List Int) : M × List Int := (if 0 ≤ behind m.things f 9 then { m with things := m.things ++ [f] } else m, [behind m.things f 9])
def M.takesC (m : M) (f : List Int) : M × List Int := (if 0 ≤ behind m.claims f 10 then { m with claims := m.claims ++ [f] } else m, [behind m.claims f 10])
/-- the first i things that fit claim c, each with its errors -/
def fitN (w : Int) (ts : List (List Int)) (c : List Int) (i : Nat) : List (Nat × Nat) := ((List.range i).filter fun t => decide ((errN c (ts.getD t []) : Int) ≤ w)).map fun t => (t, errN c (ts.getD t []))
def pairsI (l : List (Nat × Nat)) : List Int := l.flatMap fun p => [(p.1 : Int), (p.2 : Int)]
def M.fits (m : M) (c : Int) : List Int := if (m.claims.length : Int) ≤ c then [-2] else
  let l := fitN m.wrong m.things (m.claim c.toNat) m.things.length
  (l.length : Int) :: pairsI l
theorem ni (o : Si86.Office) {c : Si86.Call} {o' : Si86.Office} {v : Int} {l : List Int} (h : Si86.step o c = (o', ⟨v, l⟩)) : (let r := Si86.step o c; (r.1, r.2.v :: r.2.l)) = (o', v :: l) := by
  rw [h]
theorem step_begins {m : M} {e : Int} (h : inW e) : Si86Neutral.step m.off [[0, e]] = ((m.begins e).1.off, (m.begins e).2) := by
  show (let r := Si86.step m.off (.begins e.toNat); (r.1, r.2.v :: r.2.l)) = _
  unfold M.begins
  have := h.1
  by_cases c : e > 4
  · rw [if_pos c]
    exact ni m.off (if_pos (by show 4 < e.toNat; omega))
  · rw [if_neg c]
    exact ni m.off (if_neg (by show ¬ 4 < e.toNat; omega))
theorem begins_ok {m : M} (k : m.Ok) {e : Int} (h : inW e) : (m.begins e).1.Ok := by
  unfold M.begins
  have := h.1
  split
  · exact k
  · exact ⟨h.1, by show e ≤ 4; omega, by show (0:Nat) ≤ 5; decide, by show (0:Nat) ≤ 5; decide, fun _ (h : _ ∈ ([] : List (List Int))) => (nomatch h), fun _ (h : _ ∈ ([] : List (List Int))) => (nomatch h)⟩
theorem all_iff (f : List Int) (hi : Int) (n : Nat) (hn : (n : Int) = hi + 1) (h : ∀ z ∈ f, inW z) : ((f.map Int.toNat).all (fun v => decide (v < n)) = false) ↔ tooHigh f hi := by
  rw [← Bool.not_eq_true, List.all_eq_true]
  constructor
  · intro k
    apply Classical.byContradiction
    intro g
    apply k
    intro x hx
    obtain ⟨z, hz, rfl⟩ := List.mem_map.mp hx
    have := (h z hz).1
    have : ¬ hi < z := fun e => g ⟨z, hz, e⟩
    exact decide_eq_true (by omega)
  · rintro ⟨z, hz, e⟩ k
    have := k z.toNat (List.mem_map_of_mem hz)
    have := of_decide_eq_true this
    omega
theorem step_thing {m : M} (k : m.Ok) {f : List Int} (hf : f.length = 4) (h : ∀ z ∈ f, inW z) : Si86Neutral.step m.off [1 :: f] = ((m.takesT f).1.off, (m.takesT f).2) := by
  have e0 : Si86Neutral.step m.off [1 :: f] = (let r := Si86.step m.off (.thing (f.map Int.toNat)); (r.1, r.2.v :: r.2.l)) := by
    obtain ⟨a, b, c, d, rfl⟩ := four hf
    rfl
  rw [e0]
  have hl : (f.map Int.toNat).length = 4 := by rw [List.length_map]; exact hf
  have e1 : m.off.things.length = m.things.length := List.length_map _
  have ha := all_iff f 9 10 rfl h
  have := k.t5
  unfold M.takesT behind
  dsimp only
  by_cases c : tooHigh f 9
  · rw [if_pos c]
    exact ni m.off (if_pos (Or.inr (ha.mpr c)))
  · rw [if_neg c]
    have n1 : ¬ ((f.map Int.toNat).length ≠ Si86.FEATURES ∨ ((f.map Int.toNat).all fun v => decide (v < Si86.VALUES)) = false) := fun z => z.elim (fun q => q hl) fun q => c (ha.mp q)
    by_cases g : m.things.length = 5
    · rw [if_pos g]
      exact ni m.off (c := Si86.Call.thing (f.map Int.toNat)) ((if_neg n1).trans (if_pos (by rw [e1]; show 5 ≤ _; omega)))
    · rw [if_neg g, if_pos (by omega)]
      refine (ni m.off (c := Si86.Call.thing (f.map Int.toNat)) ((if_neg n1).trans (if_neg (show ¬ 5 ≤ m.off.things.length by rw [e1]; omega)))).trans ?_
      rw [e1]
      unfold M.off
      simp
theorem step_claim {m : M} (k : m.Ok) {f : List Int} (hf : f.length = 4) (h : ∀ z ∈ f, inW z) : Si86Neutral.step m.off [2 :: f] = ((m.takesC f).1.off, (m.takesC f).2) := by
  have e0 : Si86Neutral.step m.off [2 :: f] = (let r := Si86.step m.off (.claim (f.map Int.toNat)); (r.1, r.2.v :: r.2.l)) := by
    obtain ⟨a, b, c, d, rfl⟩ := four hf
    rfl
  rw [e0]
  have hl : (f.map Int.toNat).length = 4 := by rw [List.length_map]; exact hf
  have e1 : m.off.claims.length = m.claims.length := List.length_map _
  have ha : ((f.map Int.toNat).all (fun v => decide (v ≤ Si86.VALUES)) = false) ↔ tooHigh f 10 := by
    have := all_iff f 10 11 rfl h
    have e : (fun v => decide (v ≤ Si86.VALUES)) = fun v => decide (v < 11) := by
      funext v
      exact decide_eq_decide.mpr ⟨fun (q : v ≤ 10) => by omega, fun q => by show v ≤ 10; omega⟩
    rw [e]
    exact this
  have := k.c5
  unfold M.takesC behind
  dsimp only
  by_cases c : tooHigh f 10
  · rw [if_pos c]
    exact ni m.off (if_pos (Or.inr (ha.mpr c)))
  · rw [if_neg c]
    have n1 : ¬ ((f.map Int.toNat).length ≠ Si86.FEATURES ∨ ((f.map Int.toNat).all fun v => decide (v ≤ Si86.VALUES)) = false) := fun z => z.elim (fun q => q hl) fun q => c (ha.mp q)
    by_cases g : m.claims.length = 5
    · rw [if_pos g]
      exact ni m.off (c := Si86.Call.claim (f.map Int.toNat)) ((if_neg n1).trans (if_pos (by rw [e1]; show 5 ≤ _; omega)))
    · rw [if_neg g, if_pos (by omega)]
      refine (ni m.off (c := Si86.Call.claim (f.map Int.toNat)) ((if_neg n1).trans (if_neg (show ¬ 5 ≤ m.off.claims.length by rw [e1]; omega)))).trans ?_
      rw [e1]
      have e2 : ((f.map Int.toNat).map fun v => if v = Si86.VALUES then none else some v) = f.map optI := by
        rw [List.map_map]
        apply List.map_congr_left
        intro z hz
        have := (h z hz).1
        show (if z.toNat = 10 then none else some z.toNat) = optI z
        unfold optI
        by_cases q : z = 10
        · rw [if_pos q, if_pos (by omega)]
        · rw [if_neg q, if_neg (by omega)]
      rw [e2]
      unfold M.off
      simp
theorem behind_nonneg {kept : List (List Int)} {f : List Int} {hi : Int} (h : 0 ≤ behind kept f hi) : ¬ tooHigh f hi ∧ kept.length ≠ 5 := by
  unfold behind at h
  by_cases c : tooHigh f hi
  · rw [if_pos c] at h
    omega
  · rw [if_neg c] at h
    by_cases g : kept.length = 5
    · rw [if_pos g] at h
      omega
    · exact ⟨c, g⟩
theorem feat_of {f : List Int} {hi : Int} (hf : f.length = 4) (h : ∀ z ∈ f, inW z) (c : ¬ tooHigh f hi) : feat hi f :=
  ⟨hf, fun z hz => ⟨(h z hz).1, by have : ¬ hi < z := fun e => c ⟨z, hz, e⟩; omega⟩⟩
theorem takesT_ok {m : M} (k : m.Ok) {f : List Int} (hf : f.length = 4) (h : ∀ z ∈ f, inW z) : (m.takesT f).1.Ok := by
  unfold M.takesT
  dsimp only
  split
  · rename_i g
    obtain ⟨c, g⟩ := behind_nonneg g
    have := k.t5
    refine ⟨k.w0, k.w4, ?_, k.c5, ?_, k.cg⟩
    · show (m.things ++ [f]).length ≤ 5
      rw [List.length_append]
      show m.things.length + 1 ≤ 5
      omega
    · intro x hx
      rcases List.mem_append.mp hx with q | q
      · exact k.tg x q
      · cases List.mem_singleton.mp q
        exact feat_of hf h c
  · exact k
theorem takesC_ok {m : M} (k : m.Ok) {f : List Int} (hf : f.length = 4) (h : ∀ z ∈ f, inW z) : (m.takesC f).1.Ok := by
  unfold M.takesC
  dsimp only
  split
  · rename_i g
    obtain ⟨c, g⟩ := behind_nonneg g
    have := k.c5
    refine ⟨k.w0, k.w4, k.t5, ?_, k.tg, ?_⟩
    · show (m.claims ++ [f]).length ≤ 5
      rw [List.length_append]
      show m.claims.length + 1 ≤ 5
      omega
    · intro x hx
      rcases List.mem_append.mp hx with q | q
      · exact k.cg x q
      · cases List.mem_singleton.mp q
        exact feat_of hf h c
  · exact k
theorem filter_congr_range {n : Nat} {p q : Nat → Bool} (h : ∀ i, i < n → p i = q i) : (List.range n).filter p = (List.range n).filter q :=
  List.filter_congr fun x hx => h x (List.mem_range.mp hx)
theorem step_fits {m : M} (k : m.Ok) {c : Int} (h : inW c) : Si86Neutral.step m.off [[3, c]] = (m.off, m.fits c) := by
  show (let r := Si86.step m.off (.fits c.toNat); (r.1, r.2.v :: r.2.l)) = _
  unfold M.fits
  have := h.1
  by_cases g : (m.claims.length : Int) ≤ c
  · rw [if_pos g]
    exact ni m.off (if_pos (by rw [M.len_claims]; omega))
  · rw [if_neg g]
    refine (ni m.off (c := .fits c.toNat) (if_neg (show ¬ m.off.claims.length ≤ c.toNat by rw [M.len_claims]; omega))).trans ?_
    have hc : c.toNat < m.claims.length := by omega
    have e1 : (List.range m.off.things.length).filter (m.off.fits c.toNat) = (List.range m.things.length).filter fun t => decide ((errN (m.claim c.toNat) (m.things.getD t []) : Int) ≤ m.wrong) := by
      rw [M.len_things]
      exact filter_congr_range fun t ht => M.fits_eq k hc ht
    show (m.off, _ :: Si86.ints _) = _
    rw [e1]
    refine congrArg (Prod.mk m.off) ?_
    unfold fitN pairsI Si86.ints
    dsimp only
    rw [List.length_map, List.flatMap_map, List.map_flatMap]
    refine congrArg (List.cons _) ?_
    refine congrArg List.flatten (List.map_congr_left fun t ht => ?_)
    have ht' : t < m.things.length := List.mem_range.mp (List.mem_filter.mp ht).1
    have e2 : m.off.errors c.toNat t = errN (m.claim c.toNat) (m.things.getD t []) := M.errors_eq k hc ht'
    show [((t : Nat) : Int), ((m.off.errors c.toNat t : Nat) : Int)] = _
    rw [e2]
end My
namespace My
/-! ## Plans, claim by claim -/
/-- thing t may stand for claim c behind the plan p of the claims ahead -/
def M.can (m : M) (p : List Nat) (t : Nat) : Bool := t == m.things.length || (m.fit p.length t && !p.contains t)
/-- the plans that can be, of the first n claims, in order -/
def M.level (m : M) : Nat → List (List Nat)
  | 0 => [[]]
  | n + 1 => (m.level n).flatMap fun p => ((List.range (m.things.length + 1)).filter (m.can p)).map fun t => p ++ [t]
theorem rows_snoc (k : Nat) : ∀ n, Si86.rows k (n + 1) = (Si86.rows k n).flatMap fun l => (List.range (k + 1)).map fun t => l ++ [t]
  | 0 => by
    show (List.range (k + 1)).flatMap (fun t => ([[]] : List (List Nat)).map fun l => t :: l) = ([[]] : List (List Nat)).flatMap fun l => (List.range (k + 1)).map fun t => l ++ [t]
    rw [List.flatMap_cons, List.flatMap_nil, List.append_nil]
    induction List.range (k + 1) with
    | nil => rfl
    | cons a r ih =>
      rw [List.flatMap_cons, ih]
      rfl
  | n + 1 => by
    show (List.range (k + 1)).flatMap (fun t => (Si86.rows k (n + 1)).map fun l => t :: l) = ((List.range (k + 1)).flatMap fun t => (Si86.rows k n).map fun l => t :: l).flatMap fun l => (List.range (k + 1)).map fun t => l ++ [t]
    rw [List.flatMap_assoc]
    congr 1
    funext t
    rw [rows_snoc k n, List.flatMap_map, List.map_flatMap]
    congr 1
    funext l
    rw [List.map_map]
    rfl
theorem rows_mem (k : Nat) : ∀ (n : Nat) (l : List Nat), l ∈ Si86.rows k n ↔ l.length = n ∧ ∀ t ∈ l, t ≤ k
  | 0, l => by
    show l ∈ [[]] ↔ _
    rw [List.mem_singleton]
    constructor
    · rintro rfl
      exact ⟨rfl, fun _ h => (nomatch h)⟩
    · rintro ⟨h, _⟩
      exact List.length_eq_zero_iff.mp h
  | n + 1, l => by
    show l ∈ (List.range (k + 1)).flatMap (fun t => (Si86.rows k n).map fun l => t :: l) ↔ _
    rw [List.mem_flatMap]
    constructor
    · rintro ⟨t, ht, h⟩
      obtain ⟨r, hr, rfl⟩ := List.mem_map.mp h
      obtain ⟨h1, h2⟩ := (rows_mem k n r).mp hr
      have := List.mem_range.mp ht
      refine ⟨by rw [List.length_cons, h1], fun x hx => ?_⟩
      cases hx with
      | head => omega
      | tail _ hx => exact h2 x hx
    · rintro ⟨h1, h2⟩
      cases l with
      | nil => cases h1
      | cons t r =>
        refine ⟨t, List.mem_range.mpr (by have := h2 t List.mem_cons_self; omega), List.mem_map.mpr ⟨r, (rows_mem k n r).mpr ⟨by rw [List.length_cons] at h1; omega, fun x hx => h2 x (List.mem_cons_of_mem _ hx)⟩, rfl⟩⟩
/-- the plan of the claims ahead is right as far as it goes -/
def M.fine (m : M) (p : List Nat) : Bool := (List.range p.length).all fun c => m.can (p.take c) (p.getD c 0)
theorem fine_nil (m : M) : m.fine [] = true := rfl
theorem take_append_len {α : Type} (p : List α) (x : α) {c : Nat} (h : c < p.length) : (p ++ [x]).take c = p.take c := by
  rw [List.take_append_of_le_length (by omega)]
theorem getD_append_left {α : Type} (p : List α) (x d : α) {c : Nat} (h : c < p.length) : (p ++ [x]).getD c d = p.getD c d := by
  rw [List.getD_eq_getElem?_getD, List.getD_eq_getElem?_getD, List.getElem?_append_left h]
theorem getD_append_len {α : Type} (p : List α) (x d : α) : (p ++ [x]).getD p.length d = x := by
  rw [List.getD_eq_getElem?_getD, List.getElem?_append_right (Nat.le_refl _), Nat.sub_self]
  rfl
theorem all_congr_range {n : Nat} {p q : Nat → Bool} (h : ∀ i, i < n → p i = q i) : (List.range n).all p = (List.range n).all q := by
  rw [Bool.eq_iff_iff, List.all_eq_true, List.all_eq_true]
  constructor <;> intro k x hx
  · rw [← h x (List.mem_range.mp hx)]; exact k x hx
  · rw [h x (List.mem_range.mp hx)]; exact k x hx
theorem fine_snoc (m : M) (p : List Nat) (t : Nat) : m.fine (p ++ [t]) = (m.fine p && m.can p t) := by
  unfold M.fine
  rw [List.length_append]
  show (List.range (p.length + 1)).all _ = _
  rw [List.range_succ, List.all_append]
  refine congr (congrArg and ?_) ?_
  · exact all_congr_range fun i hi => by rw [take_append_len p t hi, getD_append_left p t 0 hi]
  · show ((m.can ((p ++ [t]).take p.length) ((p ++ [t]).getD p.length 0)) && true) = _
    rw [Bool.and_true, getD_append_len, List.take_left]
theorem level_eq (m : M) : ∀ n, m.level n = (Si86.rows m.things.length n).filter m.fine
  | 0 => rfl
  | n + 1 => by
    rw [rows_snoc, List.filter_flatMap]
    show (m.level n).flatMap _ = _
    rw [level_eq m n]
    induction Si86.rows m.things.length n with
    | nil => rfl
    | cons p r ih =>
      rw [List.flatMap_cons, ← ih, List.filter_cons]
      have e : ((List.range (m.things.length + 1)).map fun t => p ++ [t]).filter m.fine = if m.fine p = true then ((List.range (m.things.length + 1)).filter (m.can p)).map fun t => p ++ [t] else [] := by
        rw [List.filter_map]
        cases h : m.fine p with
        | true =>
          rw [if_pos rfl]
          congr 1
          apply List.filter_congr
          intro t _
          show m.fine (p ++ [t]) = m.can p t
          rw [fine_snoc, h, Bool.true_and]
        | false =>
          rw [if_neg (by decide), List.filter_eq_nil_iff.mpr]
          · rfl
          · intro t _
            show ¬ m.fine (p ++ [t]) = true
            rw [fine_snoc, h, Bool.false_and]
            decide
      rw [e]
      cases m.fine p <;> rfl
/-! ### right, told by claims -/
theorem any_range_eq (p : List Nat) (c : Nat) (h : c ≤ p.length) (x : Nat) : ((List.range c).any fun d => p.getD d 0 == x) = (p.take c).contains x := by
  rw [Bool.eq_iff_iff, List.any_eq_true, List.contains_iff_mem]
  constructor
  · rintro ⟨d, hd, e⟩
    have hd := List.mem_range.mp hd
    have e := eq_of_beq e
    rw [← e, List.getD_eq_getElem?_getD, List.getElem?_eq_getElem (by omega)]
    show p[d] ∈ _
    rw [List.mem_take_iff_getElem]
    exact ⟨d, by omega, rfl⟩
  · intro hm
    obtain ⟨d, hd, e⟩ := List.mem_take_iff_getElem.mp hm
    refine ⟨d, List.mem_range.mpr (by omega), ?_⟩
    rw [List.getD_eq_getElem?_getD, List.getElem?_eq_getElem (by omega), ← e]
    exact beq_self_eq_true _
/-- the spec's two searches, at a plan of the right form -/
theorem M.bad_none {m : M} (k : m.Ok) {p : List Nat} (hl : p.length = m.claims.length) (ht : ∀ t ∈ p, t ≤ m.things.length) :
    (m.off.bad p).isNone = true ↔ ∀ c, c < p.length → p.getD c 0 = m.things.length ∨ m.fit c (p.getD c 0) = true := by
  unfold Si86.Office.bad
  rw [Option.isNone_iff_eq_none, List.find?_eq_none]
  constructor
  · intro h c hc
    have := h c (List.mem_range.mpr hc)
    have hmem : p.getD c 0 ∈ p := getD_mem hc
    have hle := ht _ hmem
    rw [M.none_eq] at this
    by_cases e : p.getD c 0 = m.things.length
    · exact Or.inl e
    · refine Or.inr ?_
      rw [M.fits_eq k (by omega) (by omega)] at this
      generalize p.getD c 0 = x at this e ⊢
      simpa [e] using this
  · intro h c hc
    have hc := List.mem_range.mp hc
    have hmem : p.getD c 0 ∈ p := getD_mem hc
    have hle := ht _ hmem
    rw [M.none_eq]
    rcases h c hc with e | e
    · generalize p.getD c 0 = x at e ⊢
      simp [e]
    · by_cases e2 : p.getD c 0 = m.things.length
      · generalize p.getD c 0 = x at e2 ⊢
        simp [e2]
      · rw [M.fits_eq k (by omega) (by omega), e]
        simp
theorem M.twice_none {m : M} {p : List Nat} :
    (m.off.twice p).isNone = true ↔ ∀ c, c < p.length → p.getD c 0 = m.things.length ∨ (p.take c).contains (p.getD c 0) = false := by
  unfold Si86.Office.twice
  rw [Option.isNone_iff_eq_none, List.find?_eq_none]
  constructor
  · intro h c hc
    have := h c (List.mem_range.mpr hc)
    rw [M.none_eq, any_range_eq p c (by omega)] at this
    by_cases e : p.getD c 0 = m.things.length
    · exact Or.inl e
    · refine Or.inr ?_
      generalize p.getD c 0 = x at this e ⊢
      simpa [e] using this
  · intro h c hc
    have hc := List.mem_range.mp hc
    rw [M.none_eq, any_range_eq p c (by omega)]
    rcases h c hc with e | e
    · generalize p.getD c 0 = x at e ⊢
      simp [e]
    · rw [e]
      simp
theorem M.right_eq {m : M} (k : m.Ok) {p : List Nat} (hl : p.length = m.claims.length) (ht : ∀ t ∈ p, t ≤ m.things.length) : m.off.right p = m.fine p := by
  have told : m.off.told p = true := by
    unfold Si86.Office.told
    rw [M.len_claims, hl, M.none_eq]
    simp only [beq_self_eq_true, Bool.true_and, List.all_eq_true]
    exact fun t h => decide_eq_true (ht t h)
  unfold Si86.Office.right
  rw [told, Bool.true_and, Bool.eq_iff_iff, Bool.and_eq_true, M.bad_none k hl ht, M.twice_none]
  unfold M.fine
  rw [List.all_eq_true]
  constructor
  · rintro ⟨h1, h2⟩ c hc
    have hc := List.mem_range.mp hc
    have e : (p.take c).length = c := by rw [List.length_take]; omega
    unfold M.can
    rw [e]
    rcases h1 c hc with a | a
    · rw [a, beq_self_eq_true, Bool.true_or]
    · rcases h2 c hc with b | b
      · rw [b, beq_self_eq_true, Bool.true_or]
      · rw [a, b, Bool.not_false, Bool.and_true, Bool.or_true]
  · intro h
    have h' : ∀ c, c < p.length → p.getD c 0 = m.things.length ∨ (m.fit c (p.getD c 0) = true ∧ (p.take c).contains (p.getD c 0) = false) := by
      intro c hc
      have e : (p.take c).length = c := by rw [List.length_take]; omega
      have := h c (List.mem_range.mpr hc)
      unfold M.can at this
      rw [e, Bool.or_eq_true, Bool.and_eq_true, beq_iff_eq] at this
      rcases this with a | ⟨a, b⟩
      · exact Or.inl a
      · exact Or.inr ⟨a, by simpa using b⟩
    exact ⟨fun c hc => (h' c hc).imp id fun q => q.1, fun c hc => (h' c hc).imp id fun q => q.2⟩
theorem M.plans_eq {m : M} (k : m.Ok) : m.off.plans = m.level m.claims.length := by
  unfold Si86.Office.plans
  rw [level_eq, M.none_eq, M.len_claims]
  apply List.filter_congr
  intro p hp
  obtain ⟨h1, h2⟩ := (rows_mem _ _ _).mp hp
  exact M.right_eq k h1 h2
theorem level_mem (m : M) {n : Nat} {p : List Nat} (h : p ∈ m.level n) : p.length = n ∧ (∀ t ∈ p, t ≤ m.things.length) ∧ m.fine p = true := by
  rw [level_eq] at h
  obtain ⟨h1, h2⟩ := List.mem_filter.mp h
  obtain ⟨h3, h4⟩ := (rows_mem _ _ _).mp h1
  exact ⟨h3, h4, h2⟩
end My
namespace My
/-! ## What is due of check, best, has, why: told by what holds of it -/
def M.given (m : M) (p : List Nat) : Nat := (p.filter fun t => t != m.things.length).length
def M.cost (m : M) (p : List Nat) : Nat := ((List.range p.length).map fun c => if p.getD c 0 = m.things.length then 0 else m.err c (p.getD c 0)).sum
def M.plans (m : M) : List (List Nat) := m.level m.claims.length
theorem M.given_eq (m : M) (p : List Nat) : m.off.given p = m.given p := by
  unfold Si86.Office.given M.given
  rw [M.none_eq]
theorem M.cost_eq {m : M} (k : m.Ok) {p : List Nat} (hl : p.length ≤ m.claims.length) (ht : ∀ t ∈ p, t ≤ m.things.length) : m.off.off p = m.cost p := by
  unfold Si86.Office.off M.cost
  rw [M.none_eq]
  refine congrArg List.sum (List.map_congr_left fun c hc => ?_)
  have hc := List.mem_range.mp hc
  by_cases e : p.getD c 0 = m.things.length
  · rw [if_pos e, if_pos e]
  · rw [if_neg e, if_neg e]
    have := ht _ (getD_mem (d := 0) hc)
    exact M.errors_eq k (by omega) (by omega)
theorem foldl_max_le : ∀ (l : List Nat) (a : Nat), a ≤ l.foldl max a ∧ ∀ x ∈ l, x ≤ l.foldl max a
  | [], a => ⟨Nat.le_refl _, fun _ h => (nomatch h)⟩
  | b :: l, a => by
    obtain ⟨h1, h2⟩ := foldl_max_le l (max a b)
    refine ⟨Nat.le_trans (Nat.le_max_left ..) h1, fun x hx => ?_⟩
    cases hx with
    | head => exact Nat.le_trans (Nat.le_max_right ..) h1
    | tail _ hx => exact h2 x hx
theorem foldl_max_mem : ∀ (l : List Nat) (a : Nat), l.foldl max a = a ∨ l.foldl max a ∈ l
  | [], a => Or.inl rfl
  | b :: l, a => by
    rcases foldl_max_mem l (max a b) with h | h
    · rw [List.foldl_cons, h]
      rcases Nat.le_total a b with c | c
      · rw [Nat.max_eq_right c]
        exact Or.inr List.mem_cons_self
      · rw [Nat.max_eq_left c]
        exact Or.inl rfl
    · exact Or.inr (List.mem_cons_of_mem _ h)
/-- the full plans: g is the most that a plan gives out -/
structure M.Most (m : M) (g : Nat) : Prop where
  le : ∀ p ∈ m.plans, m.given p ≤ g
  at_ : ∃ p ∈ m.plans, m.given p = g
theorem M.fulls_eq {m : M} (k : m.Ok) {g : Nat} (h : m.Most g) : m.off.fulls = m.plans.filter fun p => m.given p == g := by
  unfold Si86.Office.fulls
  rw [M.plans_eq k]
  show List.filter (fun l => m.off.given l == ((m.plans).map m.off.given).foldl max 0) m.plans = _
  have e0 : m.off.given = m.given := funext fun p => M.given_eq m p
  rw [e0]
  have e : ((m.plans).map m.given).foldl max 0 = g := by
    obtain ⟨p, hp, hg⟩ := h.at_
    apply Nat.le_antisymm
    · rcases foldl_max_mem ((m.plans).map m.given) 0 with q | q
      · rw [q]
        exact Nat.zero_le _
      · obtain ⟨x, hx, e⟩ := List.mem_map.mp q
        rw [← e]
        exact h.le x hx
    · rw [← hg]
      exact (foldl_max_le _ 0).2 _ (List.mem_map_of_mem hp)
  rw [e]
/-- the search for the best, over any list -/
theorem best_fold (off : List Nat → Nat) (e : Nat) : ∀ (L : List (List Nat)) (x : Si86.Best), (∀ p ∈ L, e ≤ off p) → e ≤ x.off → ((∃ p ∈ L, off p = e) ∨ x.off = e) →
    L.foldl (fun (r : Option Si86.Best) l => match r with
      | none => some ⟨off l, 1, l⟩
      | some x => if off l < x.off then some ⟨off l, 1, l⟩ else if off l = x.off then some { x with many := x.many + 1 } else some x) (some x) =
    if x.off = e then some { x with many := x.many + (L.filter fun p => off p == e).length } else
      match L.filter fun p => off p == e with
      | [] => none
      | r :: t => some ⟨e, t.length + 1, r⟩
  | [], x, _, _, h => by
    rcases h with ⟨p, hp, _⟩ | h
    · cases hp
    · rw [if_pos h]
      rfl
  | l :: L, x, h1, h2, h3 => by
    have hl := h1 l List.mem_cons_self
    have hL : ∀ p ∈ L, e ≤ off p := fun p hp => h1 p (List.mem_cons_of_mem _ hp)
    rw [List.foldl_cons]
    show L.foldl _ (if off l < x.off then some ⟨off l, 1, l⟩ else if off l = x.off then some { x with many := x.many + 1 } else some x) = _
    by_cases c1 : off l < x.off
    · rw [if_pos c1, if_neg (by omega)]
      by_cases c2 : off l = e
      · rw [best_fold off e L ⟨off l, 1, l⟩ hL (by show e ≤ off l; omega) (Or.inr c2), if_pos c2, List.filter_cons, if_pos (by rw [c2]; exact beq_self_eq_true e)]
        show some _ = some _
        rw [c2, Nat.add_comm]
      · rw [best_fold off e L ⟨off l, 1, l⟩ hL (by show e ≤ off l; omega) (Or.inl (by
          rcases h3 with ⟨p, hp, q⟩ | q
          · cases hp with
            | head => exact absurd q c2
            | tail _ hp => exact ⟨p, hp, q⟩
          · omega)), if_neg c2, List.filter_cons, if_neg (by simpa using c2)]
    · rw [if_neg c1]
      by_cases c2 : off l = x.off
      · rw [if_pos c2]
        by_cases c3 : x.off = e
        · rw [best_fold off e L { x with many := x.many + 1 } hL h2 (Or.inr c3), if_pos c3, if_pos c3, List.filter_cons, if_pos (by rw [c2, c3]; exact beq_self_eq_true e), List.length_cons]
          show some (Si86.Best.mk _ _ _) = some (Si86.Best.mk _ _ _)
          rw [Nat.add_assoc, Nat.add_comm 1]
        · rw [best_fold off e L { x with many := x.many + 1 } hL h2 (Or.inl (by
            rcases h3 with ⟨p, hp, q⟩ | q
            · cases hp with
              | head => omega
              | tail _ hp => exact ⟨p, hp, q⟩
            · omega)), if_neg c3, if_neg c3, List.filter_cons, if_neg (by rw [c2]; simpa using c3)]
      · rw [if_neg c2]
        have c4 : off l ≠ e := by omega
        have e5 : (l :: L).filter (fun p => off p == e) = L.filter (fun p => off p == e) := by rw [List.filter_cons, if_neg (by simpa using c4)]
        rw [e5]
        rw [best_fold off e L x hL h2 (by
            rcases h3 with ⟨p, hp, q⟩ | q
            · cases hp with
              | head => exact absurd q c4
              | tail _ hp => exact Or.inl ⟨p, hp, q⟩
            · exact Or.inr q)]
theorem best_fold0 (off : List Nat → Nat) (e : Nat) {L : List (List Nat)} {r : List Nat} {t : List (List Nat)} (h1 : ∀ p ∈ L, e ≤ off p) (h2 : L.filter (fun p => off p == e) = r :: t) :
    L.foldl (fun (r : Option Si86.Best) l => match r with
      | none => some ⟨off l, 1, l⟩
      | some x => if off l < x.off then some ⟨off l, 1, l⟩ else if off l = x.off then some { x with many := x.many + 1 } else some x) none = some ⟨e, t.length + 1, r⟩ := by
  cases L with
  | nil => cases h2
  | cons l L =>
    have hl := h1 l List.mem_cons_self
    have hL : ∀ p ∈ L, e ≤ off p := fun p hp => h1 p (List.mem_cons_of_mem _ hp)
    rw [List.foldl_cons]
    show L.foldl _ (some (Si86.Best.mk (off l) 1 l)) = _
    rw [List.filter_cons] at h2
    by_cases c : off l = e
    · rw [if_pos (by rw [c]; exact beq_self_eq_true e)] at h2
      obtain ⟨e1, e2⟩ := List.cons.inj h2
      rw [best_fold off e L ⟨off l, 1, l⟩ hL hl (Or.inr c), if_pos c, e2]
      show some (Si86.Best.mk _ _ _) = some (Si86.Best.mk _ _ _)
      rw [c, e1, Nat.add_comm]
    · rw [if_neg (by simpa using c)] at h2
      have hr : r ∈ L.filter (fun p => off p == e) := by rw [h2]; exact List.mem_cons_self
      obtain ⟨hr1, hr2⟩ := List.mem_filter.mp hr
      rw [best_fold off e L ⟨off l, 1, l⟩ hL hl (Or.inl ⟨r, hr1, eq_of_beq hr2⟩), if_neg c, h2]
/-- best, by what holds of g, e and the plans that are as good -/
theorem step_best {m : M} (k : m.Ok) {g e : Nat} {r : List Nat} {t : List (List Nat)} (hg : m.Most g) (he : ∀ p ∈ m.plans, m.given p = g → e ≤ m.cost p)
    (hr : m.plans.filter (fun p => m.given p == g && m.cost p == e) = r :: t) : Si86Neutral.step m.off [[5]] = (m.off, (g : Int) :: (e : Int) :: ((t.length + 1 : Nat) : Int) :: r.map fun (n : Nat) => (n : Int)) := by
  have hoff : ∀ p ∈ m.plans, m.off.off p = m.cost p := fun p hp => by
    obtain ⟨h1, h2, _⟩ := level_mem m hp
    exact M.cost_eq k (by omega) h2
  have hb : m.off.best = some ⟨e, t.length + 1, r⟩ := by
    unfold Si86.Office.best
    rw [M.fulls_eq k hg]
    refine best_fold0 m.off.off e ?_ ?_
    · intro p hp
      obtain ⟨h1, h2⟩ := List.mem_filter.mp hp
      rw [hoff p h1]
      exact he p h1 (eq_of_beq h2)
    · rw [List.filter_filter]
      have e1 : (m.plans.filter fun p => (m.off.off p == e) && (m.given p == g)) = m.plans.filter fun p => m.given p == g && m.cost p == e := by
        apply List.filter_congr
        intro p hp
        rw [hoff p hp, Bool.and_comm]
      rw [e1, hr]
  have hrg : m.given r = g := by
    have : r ∈ m.plans.filter (fun p => m.given p == g && m.cost p == e) := by rw [hr]; exact List.mem_cons_self
    have := (List.mem_filter.mp this).2
    rw [Bool.and_eq_true] at this
    exact eq_of_beq this.1
  show (let r := Si86.step m.off .best; (r.1, r.2.v :: r.2.l)) = _
  have e2 : Si86.step m.off .best = (m.off, ⟨((m.off.given r : Nat) : Int), Si86.ints (e :: (t.length + 1) :: r)⟩) := by
    show (m.off, (match m.off.best with
      | none => Si86.ok (-6)
      | some x => (⟨((m.off.given x.row : Nat) : Int), Si86.ints (x.off :: x.many :: x.row)⟩ : Si86.Ans))) = _
    rw [hb]
  rw [e2, M.given_eq, hrg]
  rfl
/-- has -/
theorem step_has {m : M} (k : m.Ok) {g : Nat} (hg : m.Most g) {c : Int} (h0 : inW c) (hc : c < m.claims.length) {L : List Nat}
    (hL : L = (List.range (m.things.length + 1)).filter fun t => m.plans.any fun p => m.given p == g && p.getD c.toNat 0 == t) :
    Si86Neutral.step m.off [[6, c]] = (m.off, (L.length : Int) :: L.map fun (n : Nat) => (n : Int)) := by
  show (let r := Si86.step m.off (.has c.toNat); (r.1, r.2.v :: r.2.l)) = _
  have := h0.1
  refine (ni m.off (c := .has c.toNat) (if_neg (show ¬ m.off.claims.length ≤ c.toNat by rw [M.len_claims]; omega))).trans ?_
  have e : m.off.has c.toNat = L := by
    rw [hL]
    unfold Si86.Office.has
    dsimp only
    rw [M.fulls_eq k hg, M.none_eq]
    apply List.filter_congr
    intro t _
    rw [List.any_filter]
  rw [e]
  rfl
theorem step_has_no {m : M} {c : Int} (h0 : inW c) (hc : (m.claims.length : Int) ≤ c) : Si86Neutral.step m.off [[6, c]] = (m.off, [-2]) := by
  show (let r := Si86.step m.off (.has c.toNat); (r.1, r.2.v :: r.2.l)) = _
  have := h0.1
  exact ni m.off (if_pos (by rw [M.len_claims]; omega))
/-- why -/
def M.members (m : M) (s : Nat) : List Nat := (List.range m.claims.length).filter fun c => s.testBit c
def M.reach (m : M) (s : Nat) : List Nat := (List.range m.things.length).filter fun t => (m.members s).any fun c => m.fit c t
def M.short (m : M) (s : Nat) : Nat := (m.members s).length - (m.reach s).length
theorem M.members_eq (m : M) (s : Nat) : m.off.members s = m.members s := by
  unfold Si86.Office.members M.members
  rw [M.len_claims]
theorem M.members_lt {m : M} {s c : Nat} (h : c ∈ m.members s) : c < m.claims.length := List.mem_range.mp (List.mem_filter.mp h).1
theorem any_congr_mem {α : Type} {l : List α} {p q : α → Bool} (h : ∀ x ∈ l, p x = q x) : l.any p = l.any q := by
  induction l with
  | nil => rfl
  | cons a l ih =>
    rw [List.any_cons, List.any_cons, h a List.mem_cons_self, ih fun x hx => h x (List.mem_cons_of_mem _ hx)]
theorem M.reach_eq {m : M} (k : m.Ok) (s : Nat) : m.off.reach s = m.reach s := by
  unfold Si86.Office.reach M.reach
  rw [M.len_things, M.members_eq]
  exact filter_congr_range fun t ht => any_congr_mem fun c hc => M.fits_eq k (M.members_lt hc) ht
theorem M.short_eq {m : M} (k : m.Ok) (s : Nat) : m.off.short s = m.short s := by
  unfold Si86.Office.short M.short
  rw [M.reach_eq k, M.members_eq]
theorem why_fold (f : Nat → Nat) : ∀ n, ∃ s, (List.range n).foldl (fun b s => if f b < f s then s else b) 0 = s ∧ (0 < n → s < n) ∧ (∀ x, x < n → f x ≤ f s) ∧ ∀ x, x < s → f x < f s
  | 0 => ⟨0, rfl, fun h => absurd h (Nat.lt_irrefl 0), fun x h => absurd h (Nat.not_lt_zero x), fun x h => absurd h (Nat.not_lt_zero x)⟩
  | n + 1 => by
    obtain ⟨s, h1, h2, h3, h4⟩ := why_fold f n
    rw [List.range_succ, List.foldl_append, h1]
    show ∃ s', (if f s < f n then n else s) = s' ∧ _
    by_cases c : f s < f n
    · refine ⟨n, if_pos c, fun _ => Nat.lt_succ_self n, fun x hx => ?_, fun x hx => ?_⟩
      · by_cases e : x = n
        · rw [e]
          exact Nat.le_refl _
        · have := h3 x (by omega)
          omega
      · have := h3 x hx
        omega
    · refine ⟨s, if_neg c, fun _ => ?_, fun x hx => ?_, h4⟩
      · by_cases z : n = 0
        · subst z
          have : s = 0 := h1.symm
          omega
        · have := h2 (by omega)
          omega
      · by_cases e : x = n
        · rw [e]
          omega
        · exact h3 x (by omega)
theorem step_why {m : M} (k : m.Ok) {s : Nat} (hs : s < 2 ^ m.claims.length) (h1 : ∀ x, x < 2 ^ m.claims.length → m.short x ≤ m.short s) (h2 : ∀ x, x < s → m.short x < m.short s) :
    Si86Neutral.step m.off [[7]] = (m.off, (m.short s : Int) :: (s : Int) :: (m.reach s).map fun (n : Nat) => (n : Int)) := by
  have e : m.off.why = s := by
    unfold Si86.Office.why
    rw [M.len_claims]
    have ef : m.off.short = m.short := funext fun s => M.short_eq k s
    rw [ef]
    obtain ⟨s', e1, e2, e3, e4⟩ := why_fold m.short (2 ^ m.claims.length)
    rw [e1]
    have hp : 0 < 2 ^ m.claims.length := Nat.pow_pos (by decide)
    have e2 := e2 hp
    rcases Nat.lt_trichotomy s' s with c | c | c
    · have := h2 s' c
      have := e3 s hs
      omega
    · exact c
    · have := e4 s c
      have := h1 s' e2
      omega
  show (let r := Si86.step m.off .why; (r.1, r.2.v :: r.2.l)) = _
  show (m.off, ((m.off.short m.off.why : Nat) : Int) :: Si86.ints (m.off.why :: m.off.reach m.off.why)) = _
  rw [e, M.short_eq k, M.reach_eq k]
  rfl
/-- check -/
def M.told (m : M) (ns : List Int) : Prop := ns.length = m.claims.length ∧ ∀ z ∈ ns, z ≤ m.things.length
instance (m : M) (ns : List Int) : Decidable (m.told ns) := by unfold M.told; infer_instance
def M.wrongAt (m : M) (ns : List Int) (c : Nat) : Bool := ns.getD c 0 != (m.things.length : Int) && !m.fit c (ns.getD c 0).toNat
def M.twiceAt (m : M) (ns : List Int) (c : Nat) : Bool := ns.getD c 0 != (m.things.length : Int) && (ns.take c).contains (ns.getD c 0)
def M.check (m : M) (ns : List Int) : List Int := if m.told ns then
    match (List.range ns.length).find? (m.wrongAt ns) with
    | some c => [-6, (c : Int)]
    | none => match (List.range ns.length).find? (m.twiceAt ns) with
      | some c => [-7, (c : Int)]
      | none => [(m.given (ns.map Int.toNat) : Int), (m.cost (ns.map Int.toNat) : Int)]
  else [-1]
theorem find_congr_range {n : Nat} {p q : Nat → Bool} (h : ∀ i, i < n → p i = q i) : (List.range n).find? p = (List.range n).find? q := by
  have : ∀ l : List Nat, (∀ i ∈ l, p i = q i) → l.find? p = l.find? q := by
    intro l
    induction l with
    | nil => intro _; rfl
    | cons a l ih =>
      intro h
      rw [List.find?_cons, List.find?_cons, h a List.mem_cons_self, ih fun x hx => h x (List.mem_cons_of_mem _ hx)]
  exact this _ fun i hi => h i (List.mem_range.mp hi)
theorem toNat_ne {a b : Int} (ha : 0 ≤ a) (hb : 0 ≤ b) : (a.toNat != b.toNat) = (a != b) := by
  rw [Bool.eq_iff_iff, bne_iff_ne, bne_iff_ne]
  omega
theorem getD_map0 (ns : List Int) (c : Nat) : (ns.map Int.toNat).getD c 0 = (ns.getD c 0).toNat := getD_map Int.toNat 0 0 rfl ns c
theorem contains_toNat {l : List Int} {z : Int} (h : ∀ x ∈ l, 0 ≤ x) (hz : 0 ≤ z) : (l.map Int.toNat).contains z.toNat = l.contains z := by
  rw [Bool.eq_iff_iff, List.contains_iff_mem, List.contains_iff_mem, List.mem_map]
  constructor
  · rintro ⟨x, hx, e⟩
    have := h x hx
    have : x = z := by omega
    exact this ▸ hx
  · exact fun hm => ⟨z, hm, rfl⟩
theorem step_check {m : M} (k : m.Ok) {ns : List Int} (h : ∀ z ∈ ns, inW z) (h6 : ns.length ≤ 6) : Si86Neutral.step m.off [4 :: ns] = (m.off, m.check ns) := by
  have e0 : Si86Neutral.step m.off [4 :: ns] = (let r := Si86.step m.off (.check (ns.map Int.toNat)); (r.1, r.2.v :: r.2.l)) := by
    have : Si86Neutral.callOf (4 :: ns) = some (.check (ns.map Int.toNat)) := by
      show (if (ns.map Int.toNat).length ≤ 6 then some (Si86.Call.check (ns.map Int.toNat)) else none) = _
      rw [if_pos (by rw [List.length_map]; exact h6)]
    unfold Si86Neutral.step
    rw [show ([4 :: ns] : List (List Int)).headD [] = 4 :: ns from rfl, this]
  rw [e0]
  have ht : m.off.told (ns.map Int.toNat) = decide (m.told ns) := by
    unfold Si86.Office.told
    rw [M.len_claims, M.none_eq, List.length_map, Bool.eq_iff_iff, Bool.and_eq_true, beq_iff_eq, List.all_eq_true, decide_eq_true_iff]
    unfold M.told
    constructor
    · rintro ⟨a, b⟩
      refine ⟨a, fun z hz => ?_⟩
      have := of_decide_eq_true (b z.toNat (List.mem_map_of_mem hz))
      omega
    · rintro ⟨a, b⟩
      refine ⟨a, fun x hx => ?_⟩
      obtain ⟨z, hz, rfl⟩ := List.mem_map.mp hx
      have := b z hz
      have := (h z hz).1
      exact decide_eq_true (by omega)
  by_cases c : m.told ns
  · have e1 : m.check ns = _ := if_pos c
    rw [e1]
    have ht : ¬ m.off.told (ns.map Int.toNat) = false := by rw [ht, decide_eq_true c]; decide
    have g0 : ∀ c', c' < ns.length → 0 ≤ ns.getD c' 0 ∧ ns.getD c' 0 ≤ m.things.length := fun c' hc' => ⟨(h _ (getD_mem hc')).1, c.2 _ (getD_mem hc')⟩
    have hn0 : ∀ z ∈ ns, 0 ≤ z := fun z hz => (h z hz).1
    have eb : m.off.bad (ns.map Int.toNat) = (List.range ns.length).find? (m.wrongAt ns) := by
      unfold Si86.Office.bad
      rw [List.length_map, M.none_eq]
      refine find_congr_range fun i hi => ?_
      rw [getD_map0]
      unfold M.wrongAt
      have := g0 i hi
      have e2 : ((ns.getD i 0).toNat != m.things.length) = (ns.getD i 0 != (m.things.length : Int)) := toNat_ne (b := (m.things.length : Int)) this.1 (by omega)
      rw [e2]
      by_cases q : ns.getD i 0 = (m.things.length : Int)
      · rw [q]
        simp
      · rw [M.fits_eq k (by rw [← c.1]; exact hi) (by omega)]
    have et : m.off.twice (ns.map Int.toNat) = (List.range ns.length).find? (m.twiceAt ns) := by
      unfold Si86.Office.twice
      rw [List.length_map, M.none_eq]
      refine find_congr_range fun i hi => ?_
      rw [any_range_eq _ _ (by rw [List.length_map]; omega), getD_map0]
      unfold M.twiceAt
      have := g0 i hi
      have e2 : ((ns.getD i 0).toNat != m.things.length) = (ns.getD i 0 != (m.things.length : Int)) := toNat_ne (b := (m.things.length : Int)) this.1 (by omega)
      rw [e2, ← List.map_take, contains_toNat (fun x hx => hn0 x (List.mem_of_mem_take hx)) this.1]
    have eo : m.off.off (ns.map Int.toNat) = m.cost (ns.map Int.toNat) := M.cost_eq k (by rw [List.length_map, c.1]; exact Nat.le_refl _) fun t ht => by
      obtain ⟨z, hz, rfl⟩ := List.mem_map.mp ht
      have := c.2 z hz
      have := hn0 z hz
      omega
    refine (ni m.off (c := .check (ns.map Int.toNat)) (o' := m.off) (v := ((match m.off.bad (ns.map Int.toNat) with
      | some c => ⟨-6, Si86.ints [c]⟩
      | none => match m.off.twice (ns.map Int.toNat) with
        | some c => ⟨-7, Si86.ints [c]⟩
        | none => ⟨((m.off.given (ns.map Int.toNat) : Nat) : Int), Si86.ints [m.off.off (ns.map Int.toNat)]⟩ : Si86.Ans)).v) (l := ((match m.off.bad (ns.map Int.toNat) with
      | some c => ⟨-6, Si86.ints [c]⟩
      | none => match m.off.twice (ns.map Int.toNat) with
        | some c => ⟨-7, Si86.ints [c]⟩
        | none => ⟨((m.off.given (ns.map Int.toNat) : Nat) : Int), Si86.ints [m.off.off (ns.map Int.toNat)]⟩ : Si86.Ans)).l) (if_neg ht)).trans ?_
    rw [eb, et, eo, M.given_eq]
    cases (List.range ns.length).find? (m.wrongAt ns) with
    | some c => rfl
    | none => cases (List.range ns.length).find? (m.twiceAt ns) <;> rfl
  · have e1 : m.check ns = _ := if_neg c
    rw [e1]
    exact ni m.off (if_pos (by rw [ht, decide_eq_false c]))
end My
namespace My
/-! ## What the program goes through, told by lists -/
def zi (l : List Nat) : List Int := l.map fun (n : Nat) => (n : Int)
theorem zi_len (l : List Nat) : (zi l).length = l.length := List.length_map _
theorem zi_append (a b : List Nat) : zi (a ++ b) = zi a ++ zi b := List.map_append
theorem zi_toNat (l : List Nat) : (zi l).map Int.toNat = l := by
  unfold zi
  rw [List.map_map]
  exact (List.map_congr_left fun x _ => Int.toNat_natCast x).trans (List.map_id _)
theorem zi_get {l : List Nat} {i : Nat} {z : Int} (h : (zi l)[i]? = some z) : ∃ n : Nat, l[i]? = some n ∧ z = (n : Int) := by
  unfold zi at h
  rw [List.getElem?_map] at h
  cases e : l[i]? with
  | none =>
    rw [e] at h
    cases h
  | some n =>
    rw [e] at h
    exact ⟨n, rfl, (Option.some.inj h).symm⟩
theorem zi_some {l : List Nat} {i n : Nat} (h : l[i]? = some n) : (zi l)[i]? = some (n : Int) := by
  unfold zi
  rw [List.getElem?_map, h]
  rfl
theorem zi_mem {l : List Nat} {n : Nat} : (n : Int) ∈ zi l ↔ n ∈ l := by
  unfold zi
  rw [List.mem_map]
  constructor
  · rintro ⟨x, hx, e⟩
    have : x = n := by omega
    exact this ▸ hx
  · exact fun h => ⟨n, h, rfl⟩
/-- a told plan that the words allow is one of numbers of things -/
theorem zi_of {ns : List Int} (h : ∀ z ∈ ns, 0 ≤ z) : ns = zi (ns.map Int.toNat) := by
  unfold zi
  rw [List.map_map]
  refine (List.map_id _).symm.trans (List.map_congr_left fun z hz => ?_)
  have := h z hz
  show z = ((z.toNat : Nat) : Int)
  omega
theorem getD_zi (l : List Nat) (c : Nat) : (zi l).getD c 0 = ((l.getD c 0 : Nat) : Int) := getD_map (fun (n : Nat) => (n : Int)) 0 0 rfl l c
/-! ### the things that fit -/
def fitI (w : Int) (ts : List (List Int)) (c : List Int) (i : Nat) : List Nat := (List.range i).filter fun t => decide ((errN c (ts.getD t []) : Int) ≤ w)
theorem fitN_fitI (w : Int) (ts : List (List Int)) (c : List Int) (i : Nat) : fitN w ts c i = (fitI w ts c i).map fun t => (t, errN c (ts.getD t [])) := rfl
theorem fitI_more (w : Int) (ts : List (List Int)) (c : List Int) (i : Nat) : fitI w ts c (i + 1) = fitI w ts c i ++ if (errN c (ts.getD i []) : Int) ≤ w then [i] else [] := by
  unfold fitI
  rw [List.range_succ, List.filter_append]
  refine congrArg _ ?_
  by_cases h : (errN c (ts.getD i []) : Int) ≤ w
  · rw [if_pos h, List.filter_cons, if_pos (decide_eq_true h)]
    rfl
  · rw [if_neg h, List.filter_cons, decide_eq_false h]
    rfl
theorem fitI_len (w : Int) (ts : List (List Int)) (c : List Int) (i : Nat) : (fitI w ts c i).length ≤ i := by
  unfold fitI
  exact Nat.le_trans (List.length_filter_le ..) (by rw [List.length_range]; exact Nat.le_refl _)
theorem fitI_lt {w : Int} {ts : List (List Int)} {c : List Int} {i t : Nat} (h : t ∈ fitI w ts c i) : t < i := List.mem_range.mp (List.mem_filter.mp h).1
/-! ### the plans, claim by claim, as the program lays them -/
def M.free (m : M) (p : List Nat) (l : List Nat) : List Nat := l.filter fun t => t == m.things.length || !p.contains t
def M.numbers (m : M) (c : Nat) : List Nat := fitI m.wrong m.things (m.claim c) m.things.length ++ [m.things.length]
def M.longer (m : M) (c : Nat) (p : List Nat) : List (List Nat) := (m.free p (m.numbers c)).map fun t => p ++ [t]
theorem level_succ (m : M) (n : Nat) : m.level (n + 1) = (m.level n).flatMap (m.longer n) := by
  show (m.level n).flatMap _ = _
  rw [List.flatMap_def, List.flatMap_def]
  refine congrArg List.flatten (List.map_congr_left fun p hp => ?_)
  obtain ⟨hl, _, _⟩ := level_mem m hp
  unfold M.longer
  refine congrArg (List.map fun t => p ++ [t]) ?_
  unfold M.free M.numbers
  rw [List.range_succ, List.filter_append, List.filter_append]
  refine congr (congrArg HAppend.hAppend ?_) ?_
  · show _ = List.filter _ ((List.range m.things.length).filter (m.fit n))
    rw [List.filter_filter]
    apply List.filter_congr
    intro t ht
    have hlt := List.mem_range.mp ht
    have e : (t == m.things.length) = false := by
      rw [beq_eq_false_iff_ne]
      omega
    unfold M.can
    rw [e, Bool.false_or, Bool.false_or, hl, Bool.and_comm]
  · have e : m.can p m.things.length = true := by
      unfold M.can
      rw [beq_self_eq_true, Bool.true_or]
    rw [List.filter_cons, List.filter_cons, if_pos e, if_pos (by rw [beq_self_eq_true, Bool.true_or])]
    rfl
theorem numbers_le {m : M} {c t : Nat} (h : t ∈ m.numbers c) : t ≤ m.things.length := by
  unfold M.numbers at h
  rcases List.mem_append.mp h with h | h
  · exact Nat.le_of_lt (fitI_lt h)
  · rw [List.mem_singleton.mp h]
    exact Nat.le_refl _
theorem numbers_len (m : M) (c : Nat) : (m.numbers c).length ≤ m.things.length + 1 := by
  unfold M.numbers
  rw [List.length_append]
  exact Nat.add_le_add_right (fitI_len ..) 1
theorem rows_len (k : Nat) : ∀ n, (Si86.rows k n).length = (k + 1) ^ n
  | 0 => rfl
  | n + 1 => by
    rw [rows_snoc, List.length_flatMap, Nat.pow_succ, ← rows_len k n]
    generalize Si86.rows k n = L
    induction L with
    | nil => simp
    | cons a l ih =>
      rw [List.map_cons, List.sum_cons, ih, List.length_map, List.length_range, List.length_cons, Nat.succ_mul, Nat.add_comm]
theorem level_len {m : M} (k : m.Ok) {n : Nat} (h : n ≤ 5) : (m.level n).length ≤ 7776 := by
  rw [level_eq]
  refine Nat.le_trans (List.length_filter_le ..) ?_
  rw [rows_len]
  have h5 := k.t5
  calc (m.things.length + 1) ^ n ≤ 6 ^ n := Nat.pow_le_pow_left (by omega) n
    _ ≤ 6 ^ 5 := Nat.pow_le_pow_right (by decide) h
    _ = 7776 := by decide
/-- nothing given out is always a plan -/
theorem level_ne (m : M) : ∀ n, m.level n ≠ []
  | 0 => fun h => by cases h
  | n + 1 => fun h => by
    rw [level_succ, List.flatMap_eq_nil_iff] at h
    obtain ⟨p, hp⟩ := List.exists_mem_of_ne_nil _ (level_ne m n)
    have := h p hp
    unfold M.longer M.free M.numbers at this
    rw [List.filter_append, List.filter_cons, if_pos (by rw [beq_self_eq_true, Bool.true_or]), List.map_append] at this
    exact absurd (List.append_eq_nil_iff.mp this).2 (by intro q; cases q)
/-! ### given, cost -/
theorem given_count (m : M) (p : List Nat) : (m.given p : Int) = ((zi p).length : Int) - (((zi p).count (m.things.length : Int) : Nat) : Int) := by
  have h : m.given p + (zi p).count (m.things.length : Int) = p.length := by
    unfold M.given zi
    induction p with
    | nil => rfl
    | cons a l ih =>
      rw [List.filter_cons, List.map_cons, List.count_cons]
      by_cases e : a = m.things.length
      · subst e
        simp at ih ⊢
        omega
      · have e1 : (a != m.things.length) = true := bne_iff_ne.mpr e
        have e2 : (((a : Nat) : Int) == (m.things.length : Int)) = false := by
          rw [beq_eq_false_iff_ne]
          omega
        rw [if_pos e1, e2, List.length_cons, List.length_cons]
        simp at ih ⊢
        omega
  rw [zi_len]
  omega
theorem given_le (m : M) (p : List Nat) : m.given p ≤ p.length := List.length_filter_le ..
def M.costAt (m : M) (p : List Nat) (c : Nat) : Nat := if p.getD c 0 = m.things.length then 0 else m.err c (p.getD c 0)
def M.costTo (m : M) (p : List Nat) (i : Nat) : Nat := ((List.range i).map (m.costAt p)).sum
theorem costTo_more (m : M) (p : List Nat) (i : Nat) : m.costTo p (i + 1) = m.costTo p i + m.costAt p i := by
  unfold M.costTo
  rw [List.range_succ, List.map_append, List.sum_append]
  simp
theorem cost_to (m : M) (p : List Nat) : m.cost p = m.costTo p p.length := rfl
/-! ### the first of many -/
theorem find_range_none {n : Nat} {q : Nat → Bool} (h : ∀ i, i < n → q i = false) : (List.range n).find? q = none := by
  rw [List.find?_eq_none]
  intro x hx
  rw [h x (List.mem_range.mp hx)]
  decide
theorem find_range_some {n i : Nat} {q : Nat → Bool} (hi : i < n) (hq : q i = true) (h : ∀ j, j < i → q j = false) : (List.range n).find? q = some i := by
  cases e : (List.range n).find? q with
  | none => exact absurd hq (List.find?_eq_none.mp e i (List.mem_range.mpr hi))
  | some x =>
    have hx : q x = true := List.find?_some e
    have hmem := List.mem_range.mp (List.mem_of_find?_eq_some e)
    rcases Nat.lt_trichotomy x i with c | c | c
    · rw [h x c] at hx
      cases hx
    · rw [c]
    · rw [List.find?_eq_some_iff_getElem] at e
      obtain ⟨_, j, hj, e1, e2⟩ := e
      rw [List.getElem_range] at e1
      subst e1
      have := e2 i c
      rw [List.getElem_range, hq] at this
      cases this
/-! ### best -/
theorem best_first {α : Type} {f : α → Nat} {e : Nat} : ∀ {F : List α} {j : Nat} {r : α}, F[j]? = some r → f r = e → (∀ (i : Nat) (q : α), i < j → F[i]? = some q → f q ≠ e) →
    ∃ t, F.filter (fun p => f p == e) = r :: t ∧ (F.map f).count e = t.length + 1
  | [], j, r, h, _, _ => by simp at h
  | a :: F, 0, r, h, hr, _ => by
    have : a = r := Option.some.inj h
    subst this
    refine ⟨F.filter fun p => f p == e, ?_, ?_⟩
    · rw [List.filter_cons, if_pos (by rw [hr]; exact beq_self_eq_true e)]
    · rw [List.map_cons, List.count_cons, hr, beq_self_eq_true, if_pos rfl]
      refine congrArg (· + 1) ?_
      rw [List.count_eq_countP, List.countP_map, List.countP_eq_length_filter]
      rfl
  | a :: F, j + 1, r, h, hr, h2 => by
    have ha : f a ≠ e := h2 0 a (Nat.succ_pos j) rfl
    obtain ⟨t, e1, e2⟩ := best_first (F := F) (j := j) (r := r) (by simpa using h) hr fun i q hi hq => h2 (i + 1) q (by omega) (by simpa using hq)
    refine ⟨t, ?_, ?_⟩
    · rw [List.filter_cons, if_neg (by simpa using ha), e1]
    · rw [List.map_cons, List.count_cons, if_neg (by simpa using ha), e2]
/-! ### sets of numbers, rising -/
theorem rising_ext : ∀ {a b : List Int}, a.Pairwise (· < ·) → b.Pairwise (· < ·) → (∀ k, k ∈ a ↔ k ∈ b) → a = b
  | [], [], _, _, _ => rfl
  | [], y :: b, _, _, h => absurd ((h y).mpr List.mem_cons_self) (by simp)
  | x :: a, [], _, _, h => absurd ((h x).mp List.mem_cons_self) (by simp)
  | x :: a, y :: b, h1, h2, h => by
    obtain ⟨a1, a2⟩ := List.pairwise_cons.mp h1
    obtain ⟨b1, b2⟩ := List.pairwise_cons.mp h2
    have exy : x = y := by
      rcases List.mem_cons.mp ((h x).mp List.mem_cons_self) with e | e
      · exact e
      · rcases List.mem_cons.mp ((h y).mpr List.mem_cons_self) with f | f
        · exact f.symm
        · have := b1 x e
          have := a1 y f
          omega
    subst exy
    rw [rising_ext a2 b2 fun k => ?_]
    constructor
    · intro hk
      rcases List.mem_cons.mp ((h k).mp (List.mem_cons_of_mem _ hk)) with e | e
      · have := a1 k hk
        omega
      · exact e
    · intro hk
      rcases List.mem_cons.mp ((h k).mpr (List.mem_cons_of_mem _ hk)) with e | e
      · have := b1 k hk
        omega
      · exact e
theorem zi_rising {n : Nat} (q : Nat → Bool) : (zi ((List.range n).filter q)).Pairwise (· < ·) := by
  unfold zi
  rw [List.pairwise_map]
  refine List.Pairwise.imp (R := (· < ·)) (fun h => by omega) ?_
  exact List.Pairwise.sublist List.filter_sublist List.pairwise_lt_range
theorem nodup_room : ∀ (B : Nat) (l : List Int), l.Nodup → (∀ k ∈ l, 0 ≤ k ∧ k < B) → l.length ≤ B
  | 0, l, _, h => by
    cases l with
    | nil => exact Nat.le_refl _
    | cons a l =>
      have := h a List.mem_cons_self
      omega
  | B + 1, l, nd, h => by
    have ih := nodup_room B (l.erase (B : Int)) (nd.erase _) fun k hk => by
      have hk2 := (List.Nodup.mem_erase_iff nd).mp hk
      have := h k hk2.2
      omega
    by_cases hm : (B : Int) ∈ l
    · rw [List.length_erase_of_mem hm] at ih
      omega
    · rw [List.erase_of_not_mem hm] at ih
      omega
/-! ### why -/
theorem members0 (m : M) : m.members 0 = [] := by
  unfold M.members
  rw [List.filter_eq_nil_iff]
  intro c _
  simp
theorem reach0 (m : M) : m.reach 0 = [] := by
  unfold M.reach
  rw [members0, List.filter_eq_nil_iff]
  intro c _
  simp
theorem short0 (m : M) : m.short 0 = 0 := by
  unfold M.short
  rw [members0, reach0]
  rfl
def M.reachOf (m : M) (cl : List Nat) (i : Nat) : List Nat := (List.range i).filter fun t => cl.any fun c => m.fit c t
theorem reachOf_more (m : M) (cl : List Nat) (i : Nat) : m.reachOf cl (i + 1) = m.reachOf cl i ++ if (cl.any fun c => m.fit c i) = true then [i] else [] := by
  unfold M.reachOf
  rw [List.range_succ, List.filter_append]
  refine congrArg _ ?_
  cases h : cl.any fun c => m.fit c i with
  | true => rw [if_pos rfl, List.filter_cons, if_pos h]; rfl
  | false => rw [if_neg (by decide), List.filter_cons, h]; rfl
theorem reach_of (m : M) (s : Nat) : m.reach s = m.reachOf (m.members s) m.things.length := rfl
theorem reachOf_len (m : M) (cl : List Nat) (i : Nat) : (m.reachOf cl i).length ≤ i := by
  unfold M.reachOf
  exact Nat.le_trans (List.length_filter_le ..) (by rw [List.length_range]; exact Nat.le_refl _)
def M.membersTo (m : M) (s i : Nat) : List Nat := (List.range i).filter fun c => s.testBit c
theorem membersTo_more (m : M) (s i : Nat) : m.membersTo s (i + 1) = m.membersTo s i ++ if s.testBit i = true then [i] else [] := by
  unfold M.membersTo
  rw [List.range_succ, List.filter_append]
  refine congrArg _ ?_
  cases h : s.testBit i with
  | true => rw [if_pos rfl, List.filter_cons, if_pos h]; rfl
  | false => rw [if_neg (by decide), List.filter_cons, h]; rfl
theorem members_to (m : M) (s : Nat) : m.members s = m.membersTo s m.claims.length := rfl
theorem membersTo_len (m : M) (s i : Nat) : (m.membersTo s i).length ≤ i := by
  unfold M.membersTo
  exact Nat.le_trans (List.length_filter_le ..) (by rw [List.length_range]; exact Nat.le_refl _)
/-- (group >> number) % 2 == 1 -/
theorem bit_of (s c : Nat) : decide (((s : Int) / 2 ^ c).fmod 2 = 1) = s.testBit c := by
  rw [Nat.testBit_eq_decide_div_mod_eq]
  have e : ((s : Int) / 2 ^ c) = ((s / 2 ^ c : Nat) : Int) := by
    rw [Int.natCast_ediv, Int.natCast_pow]
    rfl
  rw [e, Int.fmod_eq_emod_of_nonneg _ (by decide)]
  refine decide_eq_decide.mpr ?_
  omega
end My
set_option Elab.async false
set_option maxRecDepth 100000
set_option maxHeartbeats 4000000
namespace My
open PySem PySem.Spec PyProof.Rows
/-! ### max(xs, default=d) -/
section
variable {prog : Program} {w : World} {A : Around} {Z : Result → Shared → Prop} {it : Addr} {fp wr : List Addr} {n : Nat} {P : Nat → Value → Prop} {St : Nat → Heap → Prop}
theorem nameMax : (toString "max" ++ toString ".loop" : String) = "max.loop" := by decide
theorem upd_stays {h h0 : Heap} {B b : Addr} {o : Obj} {f : Obj → Obj} (hb : b ≠ B) (e : h0.get? b = some o) (k : h.get? b = some o) : (h.update B f).get? b = some o := (Heap.get?_update_other _ _ (Ne.symm hb)).trans k
theorem maxD_loop (d : Value) (W : Walks prog w A.in1 it fp wr n P St) (gt : Nat → Nat → Bool) (hc : CmpOf prog w A.in1 .Gt P gt) (B : Addr) (hB : B ∉ fp) :
    ∀ (k j : Nat) (s : Shared) (vb : Value) (c : Nat), n - (j + 1) = k → j + 1 ≤ n → St (j + 1) s.heap → P (argBest gt j) vb →
    s.heap.get? B = some { cls := .type "list", dict := none, data := .seq #[vb, vb] c, slots := #[] } →
    (∀ v h' tk, P (argBest gt (n - 1)) v → (∀ b o, b ∉ wr → b ≠ B → s.heap.get? b = some o → h'.get? b = some o) → Z (.ok (.ret v)) { s with heap := h', toks := tk }) →
    codeAny (model prog w) A (.builtin "max.loop" ⟨[.ref it, .none, .ref B], [(Str.ofString "default", d)]⟩) Z s := by
  have hBw : B ∉ wr := fun q => hB (W.sub _ q)
  intro k
  induction k with
  | zero =>
    intro j s vb c hk hj st pb hs hz
    have hn : j + 1 = n := by omega
    refine codeAny_builtin PySem.F.entry_max_loop ?_; rw [Around.under_plainId PySem.F.plain_max_loop _]
    show wpAny _ A.in1 (seqItems? (.ref B) >>= _) _ _ s
    refine wpAny_bind (wpAny_seqItems hs rfl ?_); show wpAny _ A.in1 (tryCatch (pyNext (.ref it)) _ >>= _) _ _ s
    refine wpAny_bind (wpAny_tryCatch (W.done s _ _ (hn ▸ st) fun h1 tk k1 => ?_))
    have hs1 := k1 B _ hBw hs
    show wpAny _ A.in1 (updateSeq B (fun _ => #[]) >>= _) _ _ _
    refine wpAny_bind ?_; refine wpAny_updateSeq hs1 rfl (wpAny_bind (wpAny_letGo (wpAny_pure ?_)))
    exact hz vb _ tk (by rw [← hn]; exact pb) fun b o h1 h2 e => upd_stays h2 e (k1 b o h1 e)
  | succ k ih =>
    intro j s vb c hk hj st pb hs hz
    have hn : j + 1 < n := by omega
    refine codeAny_builtin PySem.F.entry_max_loop ?_; rw [Around.under_plainId PySem.F.plain_max_loop _]
    show wpAny _ A.in1 (seqItems? (.ref B) >>= _) _ _ s
    refine wpAny_bind (wpAny_seqItems hs rfl ?_); show wpAny _ A.in1 (tryCatch (pyNext (.ref it)) _ >>= _) _ _ s
    refine wpAny_bind (wpAny_tryCatch (W.item (j + 1) s _ _ hn st fun v h1 tk pv st1 k1 => ?_))
    have hs1 := k1 B _ hBw hs
    show wpAny _ A.in1 (tryCatch (holding [v, v] (richCompare .Gt v vb >>= _)) _ >>= _) _ _ _
    refine wpAny_bind (wpAny_tryCatch (wpAny_holding (wpAny_bind (hc (j + 1) (argBest gt j) v vb _ _ _ pv pb ?_))))
    refine wpAny_bind (wpAny_holding (wpAny_truthy_bool ?_)); refine wpAny_bind (wpAny_letGo (wpAny_pure ?_))
    cases eb : gt (j + 1) (argBest gt j) with
    | true =>
      simp only [if_true]
      refine wpAny_bind ?_; refine wpAny_updateSeq hs1 rfl (wpAny_bind (wpAny_letGo ?_)); rw [nameMax]
      refine wpAny_pure ⟨plainId_quiet PySem.F.plain_max_loop _, ih (j + 1) _ v _ (by omega) hn (W.frame _ _ _ st1 fun b hb o e => ?_) (by simp only [argBest, eb, if_true]; exact pv) (Heap.get?_update_self _ hs1 rfl) fun v2 h2 tk2 pv2 k2 => ?_⟩
      · exact upd_stays (fun q : b = B => hB (q ▸ hb)) e e
      · exact hz v2 h2 tk2 pv2 fun b o q1 q2 e => k2 b o q1 q2 (upd_stays q2 e (k1 b o q1 e))
    | false =>
      simp only [Bool.false_eq_true, if_false]
      refine wpAny_bind (wpAny_letGo ?_); rw [nameMax]
      refine wpAny_pure ⟨plainId_quiet PySem.F.plain_max_loop _, ih (j + 1) _ vb c (by omega) hn st1 (by simp only [argBest, eb, Bool.false_eq_true, if_false]; exact pb) hs1 fun v2 h2 tk2 pv2 k2 => ?_⟩
      exact hz v2 h2 tk2 pv2 fun b o q1 q2 e => k2 b o q1 q2 (k1 b o q1 e)
theorem maxD_first (d : Value) (W : Walks prog w A.in1 it fp wr n P St) (gt : Nat → Nat → Bool) (hc : CmpOf prog w A.in1 .Gt P gt) (B : Addr) (hB : B ∉ fp) {s : Shared} {c : Nat} (st : St 0 s.heap)
    (hs : s.heap.get? B = some { cls := .type "list", dict := none, data := .seq #[] c, slots := #[] })
    (h0 : n = 0 → ∀ h' tk, (∀ b o, b ∉ wr → b ≠ B → s.heap.get? b = some o → h'.get? b = some o) → Z (.ok (.ret d)) { s with heap := h', toks := tk })
    (hz : 0 < n → ∀ v h' tk, P (argBest gt (n - 1)) v → (∀ b o, b ∉ wr → b ≠ B → s.heap.get? b = some o → h'.get? b = some o) → Z (.ok (.ret v)) { s with heap := h', toks := tk }) :
    codeAny (model prog w) A (.builtin "max.loop" ⟨[.ref it, .none, .ref B], [(Str.ofString "default", d)]⟩) Z s := by
  have hBw : B ∉ wr := fun q => hB (W.sub _ q)
  refine codeAny_builtin PySem.F.entry_max_loop ?_; rw [Around.under_plainId PySem.F.plain_max_loop _]
  show wpAny _ A.in1 (seqItems? (.ref B) >>= _) _ _ s
  refine wpAny_bind (wpAny_seqItems hs rfl ?_); show wpAny _ A.in1 (tryCatch (pyNext (.ref it)) _ >>= _) _ _ s
  by_cases hn : n = 0
  · refine wpAny_bind (wpAny_tryCatch (W.done s _ _ (hn ▸ st) fun h1 tk k1 => ?_))
    show wpAny _ A.in1 (rule _ >>= _) _ _ _
    refine wpAny_bind (wpAny_rule ?_)
    exact wpAny_pure (h0 hn _ tk fun b o h1 h2 e => k1 b o h1 e)
  · have hn : 0 < n := by omega
    refine wpAny_bind (wpAny_tryCatch (W.item 0 s _ _ hn st fun v h1 tk pv st1 k1 => ?_))
    have hs1 := k1 B _ hBw hs
    show wpAny _ A.in1 (updateSeq B (fun _ => #[v, v]) >>= _) _ _ _
    refine wpAny_bind ?_; refine wpAny_updateSeq hs1 rfl ?_; rw [nameMax]
    refine wpAny_pure ⟨plainId_quiet PySem.F.plain_max_loop _, maxD_loop d W gt hc B hB _ 0 _ v _ rfl hn (W.frame _ _ _ st1 fun b hb o e => ?_) pv (Heap.get?_update_self _ hs1 rfl) fun v2 h2 tk2 pv2 k2 => ?_⟩
    · exact upd_stays (fun q : b = B => hB (q ▸ hb)) e e
    · exact hz hn v2 h2 tk2 pv2 fun b o q1 q2 e => k2 b o q1 q2 (upd_stays q2 e (k1 b o q1 e))
theorem args_maxD (a d : Value) : argsOk "max" ⟨[a], [(Str.ofString "default", d)]⟩ := by unfold argsOk; kernel_rfl
theorem call_maxD {E : Value → Shared → Prop} {s : Shared} {x d : Value} {Q : Value → Shared → Prop}
    (h : wpAny (model prog w) A.in1 (pyIter x) (fun i s₂ => ∃ it fp wr n P St gt, i = .ref it ∧ Walks prog w A.in1 it fp wr n P St ∧ St 0 s₂.heap ∧ (∀ b ∈ fp, b < s₂.heap.objs.size) ∧ CmpOf prog w A.in1 .Gt P gt ∧
      (n = 0 → ∀ h' tk, (∀ b o, b ∉ wr → s₂.heap.get? b = some o → h'.get? b = some o) → Q d { s₂ with heap := h', toks := tk }) ∧
      (0 < n → ∀ v h' tk, P (argBest gt (n - 1)) v → (∀ b o, b ∉ wr → s₂.heap.get? b = some o → h'.get? b = some o) → Q v { s₂ with heap := h', toks := tk })) E s) :
    wpAny (model prog w) A (call (.builtin "max") [x] [(Str.ofString "default", d)]) Q E s := by
  refine PyProof.Rows.kmk_tree PySem.F.kind_max PySem.F.plain_max PySem.F.entry_max (args_maxD _ _) ?_
  show wpAny _ A.in1 (Builtin.Builtins.bindParams "max" ["key", "default"] 0 ⟨[], [(Str.ofString "default", d)]⟩ >>= _) _ _ s
  refine wpAny_bind (wpAny_of_eq (show Builtin.Builtins.bindParams "max" ["key", "default"] 0 ⟨[], [(Str.ofString "default", d)]⟩ = pure [none, some d] from rfl) ?_)
  refine wpAny_bind (wpAny_pure ?_); refine wpAny_bind (wpAny_mono h (fun i s₂ h₂ => ?_) fun _ _ e => e)
  obtain ⟨it, fp, wr, n, P, St, gt, rfl, W, st, hfp, hc, q0, q1⟩ := h₂
  refine wpAny_bind (wpAny_newObj_type ?_)
  have hB : s₂.heap.objs.size ∉ fp := fun hm => Nat.lt_irrefl _ (hfp _ hm)
  rw [nameMax]
  refine wpAny_pure ⟨plainId_quiet PySem.F.plain_max_loop _, maxD_first d W gt hc s₂.heap.objs.size hB (W.frame _ _ _ st fun b _ o e => Heap.get?_push_of_some _ e) (Heap.get?_push_size _ rfl) (fun hn h' tk hk => ?_) fun hn v h' tk pv hk => ?_⟩
  · exact q0 hn h' tk fun b o hb e => hk b o hb (Nat.ne_of_lt (Heap.lt_size e)) (Heap.get?_push_of_some _ e)
  · exact q1 hn v h' tk pv fun b o hb e => hk b o hb (Nat.ne_of_lt (Heap.lt_size e)) (Heap.get?_push_of_some _ e)
end
end My
namespace My
open PySem PySem.Spec PyProof.Rows L2
section
variable {X : Cx}
/-- max(xs, default=d) of a list of whole numbers -/
def rMaxD (K : PySem.W.Frag) : List V → List V → Hp → VK → Prop := fun vs zs H Q => ∃ (a : Addr) (ns : List Int) (d : Int), vs = [V.ref a] ∧ zs = [.int d] ∧ SqL K H a (ns.map V.int) ∧
  ∀ x : Int, (x = d ∧ ns = [] ∨ x ∈ ns ∧ ∀ y ∈ ns, y ≤ x) → Q (.int x) H
theorem cr_maxD (hcm : X.calm = true) : CallRK X (.builtin "max") [Str.ofString "default"] (rMaxD X.K) := by
  intro pins s σ H vs zs us ws Q I rv rz ⟨a, ns, d, e1, e2, hs, q⟩
  subst e1 e2
  obtain rfl := Vals.ref1 rv
  obtain ⟨dv, rfl, rd⟩ := vals1 rz
  obtain ⟨its, rvs, hl, _⟩ := I.list hs
  have hh := I.ok.hd hcm
  obtain ⟨xs, e⟩ := rvs.ints.allInts.items
  have hn : numsOf (intItems xs).toList = ns := by rw [← e]; exact rvs.ints.numsOf
  rw [nums_intItems] at hn
  have hl := hl.isList
  rw [e] at hl
  show wpAny _ _ (call (.builtin "max") [.ref a] [(Str.ofString "default", dv)]) _ _ s
  refine call_maxD (iter_intList hl fun s₂ e2 st hfp hne => ?_)
  subst e2
  refine ⟨_, _, _, _, _, _, _, rfl, Walks.list (A := X.A.in1) hh _ a hne (intItems xs), st, hfp, CmpOf.ints_gt (numAt xs) (fun _ _ => intItems_at), fun h0 h' tk hk => ?_, fun hpos v h' tk pv hk => ?_⟩
  · have hz : xs.size = 0 := by simpa [intItems] using h0
    exact ⟨.int d, H, I.kept (old_kept hk), rd, q d (.inl ⟨rfl, by rw [← hn]; exact List.length_eq_zero_iff.mp (by rw [List.length_map, Array.length_toList]; exact hz)⟩)⟩
  · have hsz : (intItems xs).size = xs.size := by simp [intItems]
    have hpos : 0 < xs.size := by omega
    obtain ⟨t, rfl⟩ := intItems_at pv
    rw [hsz] at pv ⊢
    obtain ⟨h1, h2⟩ := argBest_gt (numAt xs) (xs.size - 1)
    refine ⟨.int _, H, I.kept (old_kept hk), ⟨_, rfl⟩, q _ (.inr ⟨?_, fun y hy => ?_⟩)⟩
    · rw [← hn, numAt_eq]; exact PySem.getD_mem (by rw [List.length_map, Array.length_toList]; omega)
    · rw [← hn] at hy
      obtain ⟨j, hj, rfl⟩ := mem_getD hy
      rw [List.length_map, Array.length_toList] at hj
      rw [← numAt_eq]; exact h2 j (by omega)
end
end My
set_option Elab.async false
set_option maxRecDepth 100000
set_option maxHeartbeats 4000000
namespace My
open PySem PySem.Spec PyProof.Rows L2
/-! ### set(xs) of a list of small whole numbers -/
section
variable {P : Program} {w : World} {A : Around} {E : Value → Shared → Prop} {s : Shared}
theorem setR_room {h : Heap} {a : Addr} {f : Int → Bool} {c : Nat} (R : SetR w h a f c) (hf : ∀ k, f k = true → 0 ≤ k ∧ k < 60) : c ≤ 60 := by
  obtain ⟨o, es, ep, t, _, _, _, _, nd, hm, _, _, hn, _, _⟩ := R
  have := nodup_room 60 (es.toList.map keyOf) nd fun k hk => hf k ((hm k).mpr hk)
  rw [List.length_map, Array.length_toList] at this
  omega
theorem set_loop {it : Addr} {fp wr : List Addr} {G : Array GenState → Array GenState → Prop} {n : Nat} {Pv : Nat → Value → Prop} {St : Nat → Shared → Prop} {Z : Result → Shared → Prop}
    (W : WalksS P w A.in1 it fp wr G n Pv St) (D : Addr) (hD : D ∉ fp) (ns : List Int) (hn : n = ns.length) (hb : ∀ k ∈ ns, 0 ≤ k ∧ k < 60) (hv : ∀ i v, Pv i v → ∃ k t, ns[i]? = some k ∧ v = .int k t) :
    ∀ (k i : Nat) (s : Shared), n - i = k → i ≤ n → St i s → (∃ c, SetR w s.heap D (fun j => decide (j ∈ ns.take i)) c) →
      (∀ s' c, Moved (D :: wr) G s s' → SetR w s'.heap D (fun j => decide (j ∈ ns)) c → Z (.ok (.ret .none)) s') →
      codeAny (model P w) A (.builtin "set.update.loop" ⟨[.ref D, .ref it], []⟩) Z s := by
  have hDw : D ∉ wr := fun q => hD (W.sub _ q)
  have more : ∀ b ∈ wr, b ∈ D :: wr := fun b q => List.mem_cons_of_mem _ q
  intro k
  induction k with
  | zero =>
    intro i s hk hi st ⟨c, hS⟩ hz
    obtain rfl : i = n := by omega
    refine codeAny_builtin F.entry_set_update_loop ?_; rw [Around.under_plainId F.plain_set_update_loop _]
    show wpAny _ A.in1 (pyNext (.ref it) >>= _) _ _ s
    refine wpAny_bind (W.done s _ _ st fun s1 hm => ?_)
    have e : ns.take i = ns := List.take_of_length_le (by omega)
    rw [e] at hS
    exact wpAny_pure (hz s1 c (hm.mono more) (hS.at fun o e => hm.heap D o hDw e))
  | succ k ih =>
    intro i s hk hi st ⟨c, hS⟩ hz
    have hlt : i < n := by omega
    refine codeAny_builtin F.entry_set_update_loop ?_; rw [Around.under_plainId F.plain_set_update_loop _]
    show wpAny _ A.in1 (pyNext (.ref it) >>= _) _ _ s
    refine wpAny_bind (W.item i s _ _ hlt st fun v s1 hp st1 hm => ?_)
    obtain ⟨z, t, hzi, rfl⟩ := hv i v hp
    have hS1 : SetR w s1.heap D (fun j => decide (j ∈ ns.take i)) c := hS.at fun o e => hm.heap D o hDw e
    have hc : c ≤ 60 := setR_room hS1 fun k hk => hb k (List.mem_of_mem_take (of_decide_eq_true hk))
    show wpAny _ A.in1 (holding [Value.int z t] (setAdd D (.int z t)) >>= _) _ _ s1
    refine wpAny_bind (wpAny_holding ?_); unfold setAdd
    refine wpAny_holding ?_
    refine wpAny_bind ((intKind P w).pyHash (k := z) (intKind_is _ _ _ _) ?_)
    refine setR_add_hashed (s := { s1 with toks := s1.toks + 1 }) hS1 (by unfold scanBound; omega) fun h1 sb hS2 => ?_
    have hS3 := hS2.congr (S' := fun j => decide (j ∈ ns.take (i + 1))) fun j => by
      rw [List.take_add_one, hzi]
      simp [List.mem_append]
    refine wpAny_pure ⟨plainId_quiet F.plain_set_update_loop _, ih (i + 1) _ (by omega) hlt (W.frame _ s1 _ _ st1 (Nat.le_succ _) fun b hb o e => ?_) ⟨_, hS3⟩ fun s2 c2 hm2 hS4 => ?_⟩
    · rw [sb.2 b fun q : b = D => hD (q ▸ hb)]; exact e
    · refine hz s2 c2 (Moved.trans W.gtrans ((hm.mono more).then_heap (Nat.le_succ _) fun b o q e => ?_) hm2) hS4
      rw [sb.2 b fun r : b = D => q (r ▸ List.mem_cons_self)]; exact e
set_option maxHeartbeats 3200000 in
theorem call_set_lst {l : Addr} {items : Array Value} (ns : List Int) {Q : Value → Shared → Prop} (hh : A.handled = none) (hl : s.heap.IsList l items) (hit : IntsAre items.toList ns) (hb : ∀ k ∈ ns, 0 ≤ k ∧ k < 60)
    (h : ∀ (h' : Heap) (tk c : Nat), SetR w h' s.heap.objs.size (fun j => decide (j ∈ ns)) c → (∀ b o, s.heap.get? b = some o → h'.get? b = some o) → Q (.ref s.heap.objs.size) { s with heap := h', toks := tk }) :
    wpAny (model P w) A (call (.type "set") [.ref l]) Q E s := by
  have hsz : items.size = ns.length := (Array.length_toList (xs := items)).symm.trans (IntsAre.length hit)
  obtain ⟨c0, tl0, hmro⟩ := F.called_set.mro
  have f1 := F.called_set.made
  have f2 := F.called_set.sub
  refine wpAny_call (codeAny_of_tree ?_); show wpAny _ _ (callAny (.type "set") _) _ _ _
  refine wpAny_pure ⟨Code.quiet_builtin _ (by decide +kernel), codeAny_builtin F.entry_type_call ?_⟩; rw [Around.under_plain (weight_type_call_type "set" [.ref l] []) rfl]
  have f3 := F.called_set.notType
  have f4 := F.called_set.canCreate
  have f5 := F.typeCall_set_1 (.ref l)
  repeat (any_goals (first | assumption | wp_step))
  generalize hob : ({ cls := .type "set", dict := none, data := .set #[] 0 (.fresh 0 0 (!w.params.followText "set-order")) } : Obj) = ob
  refine codeAny_mono (code_set_led1 (.ref l) (E := E) (Q₁ := fun obj s₁ => obj = .ref s.heap.objs.size ∧ s₁ = { s with heap := s.heap.push ob }) ⟨rfl, by rw [← hob]⟩) fun r s₁ hr => ?_
  cases r with
  | error e => exact hr
  | ok fl =>
    cases fl with
    | ret obj =>
      obtain ⟨rfl, rfl⟩ := hr
      have hS : (s.heap.push ob).get? s.heap.objs.size = some ob := Heap.get?_push_size _ (by rw [← hob]; rfl)
      have hT : Shared.TypeIs { s with heap := s.heap.push ob } (.ref s.heap.objs.size) "set" := ⟨_, hS, by rw [← hob]⟩
      have f6 := F.called_set.init.lookup
      have f7 := F.called_set.init.bind (.ref s.heap.objs.size)
      repeat (any_goals (first | assumption | wp_step))
      refine codeAny_mono (codeAny_call_builtin (R := wants (fun r s₂ => r = .none ∧ ∃ h' tk c, s₂ = { s with heap := h', toks := tk } ∧ SetR w h' s.heap.objs.size (fun j => decide (j ∈ ns)) c ∧
          (∀ b o, s.heap.get? b = some o → h'.get? b = some o)) E) F.called_set.init.plain F.entry_set_init (check_set_init_1 hT ?_)) fun r₂ s₂ hr₂ => ?_
      · obtain ⟨ol, hol, hcl, nl, hdl⟩ := hl
        obtain ⟨ocls, odict, odata, oslots⟩ := ol
        simp only at hcl hdl
        subst hcl; subst hdl
        have hol' : (s.heap.push ob).get? l = some { cls := .type "list", dict := odict, data := .seq items nl, slots := oslots } := Heap.get?_push_of_some _ hol
        have f8 := F.sub_list_set
        have f9 := F.sub_list_frozenset
        have f10 : (Value.type "list" == Value.type "dict") = false := by decide
        have hl1 : (s.heap.push ob).IsList l items := ⟨_, hol', rfl, nl, rfl⟩
        unfold Builtin.«set.__init__» noKeywords Builtin.Frozenset.updateFrom
        subst hob
        generalize hPI : pyIter = PI
        wp_walk
        subst hPI
        refine wpAny_pyIter_list hl1 ?_
        refine wpAny_bind (wpAny_runValue ?_)
        have hlS : l < s.heap.objs.size := Heap.lt_size hol
        have hz1 : (s.heap.push { cls := .type "set", dict := none, data := .set #[] 0 (.fresh 0 0 (!w.params.followText "set-order")) }).objs.size = s.heap.objs.size + 1 := Heap.size_push ..
        have hne : l ≠ (s.heap.push { cls := .type "set", dict := none, data := .set #[] 0 (.fresh 0 0 (!w.params.followText "set-order")) }).objs.size := by rw [hz1]; exact Nat.ne_of_lt (Nat.lt_succ_of_lt hlS)
        have hD : s.heap.objs.size ∉ [(s.heap.push { cls := .type "set", dict := none, data := .set #[] 0 (.fresh 0 0 (!w.params.followText "set-order")) }).objs.size, l] := by
          rw [hz1]; simp only [List.mem_cons, List.not_mem_nil, or_false, not_or]
          exact ⟨Nat.ne_of_lt (Nat.lt_succ_self _), Nat.ne_of_gt hlS⟩
        have hval : ∀ (i : Nat) (v : Value), items[i]? = some v → ∃ k t, ns[i]? = some k ∧ v = .int k t := fun i v hv => by
          have hi : i < ns.length := by rw [← hsz]; exact (Array.getElem?_eq_some_iff.mp hv).1
          obtain ⟨t, e⟩ := PyProof.Rows.IntsAre.int_at hit i v (by rw [Array.getElem?_toList]; exact hv)
          refine ⟨ns[i], t, List.getElem?_eq_getElem hi, ?_⟩
          rw [e, List.getD_eq_getElem?_getD, List.getElem?_eq_getElem hi] <;> rfl
        refine set_loop ((Walks.list (by simp [hh]) _ l hne items).toS) s.heap.objs.size hD ns hsz hb hval (items.size - 0) 0 _ (by omega) (Nat.zero_le _) ⟨⟨_, Heap.get?_push_size _ rfl, rfl, rfl⟩, (hl1.push _)⟩ ?hS0 ?hR
        case hS0 => exact ⟨0, setR_new_at (Heap.get?_push_of_some _ hS)⟩
        case hR =>
          intro s1 c' hm hS'
          obtain ⟨h1, g1, d1, tk1, os1⟩ := s1
          obtain rfl : g1 = s.gens := hm.gens
          obtain rfl : d1 = s.drawn := hm.drawn
          obtain rfl : os1 = s.os := hm.os
          show wpAny _ _ _ _ _ _
          refine wpAny_pure ?_; show wpAny _ _ (ret Value.none) _ _ _
          refine wpAny_pure ⟨rfl, h1, tk1, c', rfl, hS', fun b o e => ?_⟩
          have hb0 : b < s.heap.objs.size := Heap.lt_size e
          exact hm.heap b o (by rw [hz1]; simp only [List.mem_cons, List.not_mem_nil, or_false, not_or]; exact ⟨Nat.ne_of_lt hb0, Nat.ne_of_lt (Nat.lt_succ_of_lt hb0)⟩) (Heap.get?_push_of_some _ (Heap.get?_push_of_some _ e))
      · cases r₂ with
        | error e => exact hr₂
        | ok fl₂ =>
          cases fl₂ with
          | ret r =>
            obtain ⟨rfl, h1, tk1, c', rfl, hS', hk'⟩ := hr₂
            repeat (any_goals (first | assumption | wp_step))
            exact h _ _ _ hS' hk'
          | _ => exact hr₂.elim
    | _ => exact hr.elim
end
end My
namespace My
open PySem PySem.Spec PyProof.Rows L2
section
variable {X : Cx}
def rSetL (K : PySem.W.Frag) (w : World) : List V → Hp → VK → Prop := fun vs H Q => ∃ (a : Addr) (ns : List Int), vs = [V.ref a] ∧ SqL K H a (ns.map V.int) ∧ (∀ k ∈ ns, 0 ≤ k ∧ k < 60) ∧
  ∀ (p : Addr) (c : Nat), H p = none → c < 64 → Q (.ref p) (upd H p (SetO w p (fun j => decide (j ∈ ns)) c))
theorem cr_setL (hcm : X.calm = true) : CallR X (.type "set") (rSetL X.K X.w) := by
  intro pins s σ H vs us Q I rv ⟨a, ns, e, hs, hb, q⟩
  subst e
  obtain rfl := Vals.ref1 rv
  obtain ⟨its, rvs, hl, _⟩ := I.list hs
  refine call_set_lst ns (I.ok.hd hcm) hl.isList (by simpa using rvs.ints) hb fun h1 tk c R k => ?_
  have hc := setR_room R fun k hk => hb k (of_decide_eq_true hk)
  exact ⟨.ref _, upd H s.heap.objs.size (SetO X.w s.heap.objs.size (fun j => decide (j ∈ ns)) c), I.laid (t' := tk) k (Nat.le_refl _) (setO_new R), rfl, q _ c (I.hok.fresh (Nat.le_refl _)) (by omega)⟩
end
/-- a comprehension over enumerate, by an invariant -/
theorem lc_enumL {K : PySem.W.Frag} {a : Addr} {xs : List V} {g : TG} {tt : TT} {te : TE} {vs : List Nat} {σ : L2.St} {H1 : Hp} {D : Addr} {Qd : Hp → Prop} (Pv : Nat → Hp → Prop) (h0 : Pv 0 (upd H1 D (.lst []))) (hl : ∀ i H, Pv i H → SqL K H a xs)
    (hs : ∀ (i : Nat) (x : V) (T : Addr) (H : Hp), xs[i]? = some x → Pv i H → H T = none → g (.ref T) (wipe σ vs) (upd H T (.tup [.int (i : Nat), x])) fun σ2 H2 => wipe σ2 vs = wipe σ vs ∧ tt σ2 H2 fun b H3 =>
      if b = true then te σ2 H3 fun y H4 => ∃ acc, H4 D = some (.lst acc) ∧ acc.length < sizeLine ∧ Pv (i + 1) (upd H4 D (.lst (acc ++ [y]))) else Pv (i + 1) H3) (hd : ∀ H, Pv xs.length H → Qd H) :
    ∃ W : Nat → Nat → Hp → Prop, (∃ m, W 0 m (upd H1 D (.lst []))) ∧ ∀ i m H, W i m H →
      ((Ite K a).stop i H ∧ Qd H) ∨ ((Ite K a).go i H ∧ ∃ Nx : Hp → Prop, (∀ H', Nx H' → ∃ m', m' < m ∧ W (i + 1) m' H') ∧ ∀ x H', (Ite K a).yld i H x H' → g x (wipe σ vs) H' fun σ2 H2 => wipe σ2 vs = wipe σ vs ∧ tt σ2 H2 fun b H3 =>
        if b = true then te σ2 H3 fun y H4 => ∃ acc, H4 D = some (.lst acc) ∧ acc.length < sizeLine ∧ Nx (upd H4 D (.lst (acc ++ [y]))) else Nx H3) := by
  refine ⟨fun i m H => m = xs.length - i ∧ i ≤ xs.length ∧ Pv i H, ⟨xs.length, rfl, Nat.zero_le _, h0⟩, ?_⟩
  rintro i m H ⟨rfl, hi, p⟩
  have qx := hl i H p
  by_cases hlt : i < xs.length
  · have hx : xs[i]? = some xs[i] := List.getElem?_eq_getElem hlt
    refine .inr ⟨⟨xs, _, qx, hx⟩, Pv (i + 1), fun H' p' => ⟨xs.length - (i + 1), by omega, rfl, hlt, p'⟩, fun v H' y => ?_⟩
    obtain ⟨T, x', rfl, hT, rfl, f1⟩ := y
    exact hs i x' T H (f1 xs qx) p hT
  · have e : i = xs.length := by omega
    subst e
    exact .inl ⟨⟨xs, qx, Nat.le_refl _⟩, hd H p⟩
end My
set_option Elab.async false
set_option maxRecDepth 100000
set_option maxHeartbeats 4000000
namespace My
open PySem PySem.Spec PyProof.Rows L2
/-! ### rules of my own -/
/-- a dict of the module whose keys are whole numbers -/
def KDctI (K : PySem.W.Frag) (a : Addr) (i : Int) (v : V) : Prop :=
  ∃ es n u, K.lookup a = some ⟨.type "dict", none, .dict es n, #[]⟩ ∧ (∀ e ∈ es.toList, ∃ k t, e.key = .int k t ∧ e.hash = hashInt k) ∧ findBy Value.isInt es i = some u ∧ RelV v u
def rIxDI (K : PySem.W.Frag) : R2 := fun x y H Q => ∃ p i v, x = .ref p ∧ y = .int i ∧ KDctI K p i v ∧ Q v H
theorem ix_kdictI {X : Cx} : IxR X (rIxDI X.K) := by
  intro value slice pins s σ H x y v u Q I rx ry h hs
  obtain ⟨p, z, r, rfl, rfl, ⟨es, n, u0, hl, hk, e, ru⟩, q⟩ := h
  obtain rfl : v = Value.ref p := rx
  obtain ⟨t, rfl⟩ := (show ∃ t, u = Value.int z t from ry)
  have hm : s.heap.MapOf (intKind X.prog X.w) p (fun k => findBy Value.isInt es k) :=
    ⟨_, es, n, I.kIn _ _ hl, ⟨rfl, rfl, rfl⟩, rfl, fun e he => by
      obtain ⟨k, t, e1, e2⟩ := hk e (Array.mem_toList_iff.mpr he)
      exact ⟨k, by rw [e1]; exact intKind_is X.prog X.w k t, e2⟩, fun _ => rfl⟩
  exact tail_any hm.typeIs slot_dict_getitem.lookup (wpAny_getItem_of (intKind_is X.prog X.w z t) hm e ⟨r, H, I.tok _, ru, q⟩) hs
/-- a call of what an expression gives: one of several defs, each with its promise -/
def tCallE (S : Addr → Sp → Prop) (tf : TE) (t : TA) : TE := fun σ H Q => tf σ H fun x H1 => ∃ f sp, x = .ref f ∧ S f sp ∧ t σ H1 fun vs H2 => sp vs H2 Q (fun _ _ _ => False)
theorem pe_callE {X : Cx} {k : Nat} {fe e : Expr} {es : List Expr} {tf : TE} {t : TA} {pos : Pos} {S : Addr → Sp → Prop} (hfe : PE X fe tf) (A : ∀ f sp, S f sp → Held X.prog X.w X.K X.mg X.base k f sp) (hr : Room k X.A) (ha : PA X (e :: es) t)
    (heq : eval (.Call fe (e :: es) [] pos) X.env = (do callWith pos (← eval fe X.env) [] (backTo pos (starEach (e :: es) X.env)) (backToKw pos (keywordEach [] X.env))) := by rfl)
    (he : starEach (e :: es) X.env = (false, eval e X.env) :: starEach es X.env := by rfl) (hpl : (backTo pos (starEach es X.env)).any (·.1) = false := by rfl) : PE X (.Call fe (e :: es) [] pos) (tCallE S tf t) := by
  refine ⟨fun pins s σ H Q I h => ?_⟩
  rw [heq]
  refine wpAny_bind (thn (hfe.run pins s σ H _ I h) fun u s1 ⟨v, H1, I1, r1, f, sp, e1, hS, q1⟩ => ?_)
  subst e1
  cases r1
  obtain ⟨fd, ps, F, hk, hb⟩ := (A f sp hS).ex
  refine PySem.W.callWith_K (h₀ := X.base) I.ok.mod.kin hk (thn (ha.run pos pins s1 σ _ _ I1 q1) fun us s2 ⟨vs, H2, I2, r, q⟩ => ⟨I2.kIn, ?_⟩) he hpl
  have q' : sp (vs ++ []) H2 Q (fun _ _ _ => False) := by
    rw [List.append_nil]
    exact q
  exact run_fn (dvs := []) (ds := []) F hr hb .nil (fun _ _ _ _ _ _ _ z => z.elim) I2 r q'
/-- enumerate, by an invariant -/
theorem for_enumL {K : PySem.W.Frag} {a : Addr} {xs : List V} {g : TG} {tb : TS} {D : Ends} {σ : L2.St} {H : Hp} (Pv : Nat → L2.St → Hp → Prop) (h0 : Pv 0 σ H) (hq : ∀ i σ H, Pv i σ H → SqL K H a xs)
    (hs : ∀ (i : Nat) (x : V) (T : Addr) (σ : L2.St) (H : Hp), xs[i]? = some x → Pv i σ H → H T = none → g (.ref T) σ (upd H T (.tup [.int (i : Nat), x])) fun σ2 H2 => tb { D with nx := Pv (i + 1), ct := Pv (i + 1), bk := D.nx } σ2 H2) (hd : ∀ σ H, Pv xs.length σ H → D.nx σ H) :
    ∃ W : Nat → Nat → L2.St → Hp → Prop, (∃ m, W 0 m σ H) ∧ ∀ i m σ H, W i m σ H →
      ((Ite K a).stop i H ∧ D.nx σ H) ∨ ((Ite K a).go i H ∧ ∃ N : L2.St → Hp → Prop, (∀ σ' H', N σ' H' → ∃ m', m' < m ∧ W (i + 1) m' σ' H') ∧ ∀ v H', (Ite K a).yld i H v H' → g v σ H' fun σ2 H2 => tb { D with nx := N, ct := N, bk := D.nx } σ2 H2) := by
  refine ⟨fun i m σ H => m = xs.length - i ∧ i ≤ xs.length ∧ Pv i σ H, ⟨xs.length, rfl, Nat.zero_le _, h0⟩, ?_⟩
  rintro i m σ H ⟨rfl, hi, p⟩
  have qx := hq i σ H p
  by_cases hlt : i < xs.length
  · have hx : xs[i]? = some xs[i] := List.getElem?_eq_getElem hlt
    refine .inr ⟨⟨xs, _, qx, hx⟩, Pv (i + 1), fun σ' H' p' => ⟨xs.length - (i + 1), by omega, rfl, hlt, p'⟩, fun v H' y => ?_⟩
    obtain ⟨T, x', rfl, hT, rfl, f1⟩ := y
    exact hs i x' T σ H (f1 xs qx) p hT
  · have e : i = xs.length := by omega
    subst e
    exact .inl ⟨⟨xs, qx, Nat.le_refl _⟩, hd σ H p⟩
theorem if_true_of {c : Bool} {A B : Prop} (hc : c = true) (h : A) : if c = true then A else B := by
  rw [if_pos hc]
  exact h
theorem if_false_of {c : Bool} {A B : Prop} (hc : c = false) (h : B) : if c = true then A else B := by
  rw [hc, if_neg Bool.false_ne_true]
  exact h
/-- a number of the module's top -/
theorem pe_num {X : Cx} {x : Str} {pos : Pos} {n : Int} (hg : Gl X x) (h : ∃ t, X.mg x = some (.int n t)) (hdb : (x == ("__debug__" : Str)) = false := by decide) : PE X (.Name x pos) (tC (.int n)) := by
  obtain ⟨t, h⟩ := h
  exact pe_glob (v := .int n) hg h ⟨t, rfl⟩ hdb
/-! ### the heap -/
def iv (l : List Int) : List V := l.map V.int
def ofF (w : Int) (t c : Addr) : List (Str × V) := [("wrong", .int w), ("things", .ref t), ("claims", .ref c)]
def RowsAt (H : Hp) (ps : List Addr) (ls : List (List Int)) : Prop := ps.length = ls.length ∧ ∀ (i : Nat) (p : Addr) (l : List Int), ps[i]? = some p → ls[i]? = some l → H p = some (.lst (iv l))
structure Where where
  dx : Addr
  t : Addr
  c : Addr
  ts : List Addr
  cs : List Addr
structure OffAt (C : Addr) (H : Hp) (o : Addr) (z : Where) (m : M) : Prop where
  o : H o = some (.ins C z.dx (ofF m.wrong z.t z.c))
  t : H z.t = some (.lst (z.ts.map V.ref))
  c : H z.c = some (.lst (z.cs.map V.ref))
  rt : RowsAt H z.ts m.things
  rc : RowsAt H z.cs m.claims
  tc : z.t ≠ z.c
  nt : ∀ p ∈ z.ts ++ z.cs, p ≠ z.t ∧ p ≠ z.c
def Where.foot (z : Where) (o : Addr) : List Addr := o :: z.t :: z.c :: (z.ts ++ z.cs)
theorem RowsAt.keep {H H' : Hp} {ps : List Addr} {ls : List (List Int)} (h : RowsAt H ps ls) (k : ∀ p ∈ ps, ∀ x, H p = some x → H' p = some x) : RowsAt H' ps ls :=
  ⟨h.1, fun i p l e1 e2 => k p (List.mem_of_getElem? e1) _ (h.2 i p l e1 e2)⟩
theorem OffAt.keep {C o : Addr} {H H' : Hp} {z : Where} {m : M} (h : OffAt C H o z m) (k : ∀ p ∈ z.foot o, ∀ x, H p = some x → H' p = some x) : OffAt C H' o z m where
  o := k _ (by simp [Where.foot]) _ h.o
  t := k _ (by simp [Where.foot]) _ h.t
  c := k _ (by simp [Where.foot]) _ h.c
  rt := h.rt.keep fun p hp => k p (by simp [Where.foot, hp])
  rc := h.rc.keep fun p hp => k p (by simp [Where.foot, hp])
  tc := h.tc
  nt := h.nt
theorem OffAt.same {C o : Addr} {H H' : Hp} {z : Where} {m : M} (h : OffAt C H o z m) (s : Same H H') : OffAt C H' o z m := h.keep fun _ _ x e => s _ x e
theorem RowsAt.tracked {H : Hp} {ps : List Addr} {ls : List (List Int)} (h : RowsAt H ps ls) : ∀ p ∈ ps, ∃ x, H p = some x := fun p hp => by
  obtain ⟨i, hi, e⟩ := List.mem_iff_getElem.mp hp
  have h1 : ps[i]? = some p := by rw [List.getElem?_eq_getElem hi, e]
  have hi2 : i < ls.length := h.1 ▸ hi
  exact ⟨_, h.2 i p _ h1 (List.getElem?_eq_getElem hi2)⟩
theorem OffAt.tracked {C o : Addr} {H : Hp} {z : Where} {m : M} (h : OffAt C H o z m) : ∀ p ∈ z.foot o, ∃ x, H p = some x := fun p hp => by
  simp only [Where.foot, List.mem_cons, List.mem_append] at hp
  rcases hp with rfl | rfl | rfl | hp | hp
  · exact ⟨_, h.o⟩
  · exact ⟨_, h.t⟩
  · exact ⟨_, h.c⟩
  · exact h.rt.tracked p hp
  · exact h.rc.tracked p hp
theorem Same.new {H : Hp} {p : Addr} {o : HO} (h : H p = none) : Same H (upd H p o) := fun b x e => by
  rw [upd_ne (ne_of_none e h)]
  exact e
theorem lk_here {k : Str} {v : V} {r : List (Str × V)} : List.lookup k ((k, v) :: r) = some v := by
  have e : (k == k) = true := beq_self_eq_true k
  simp only [List.lookup, e]
theorem lk_past {k g : Str} {v : V} {r : List (Str × V)} (h : (k == g) = false) : List.lookup k ((g, v) :: r) = List.lookup k r := by
  simp only [List.lookup, h]
theorem put_here {f : Str} {v x : V} {r : List (Str × V)} : putF f v ((f, x) :: r) = (f, v) :: r := if_pos rfl
theorem put_past {f g : Str} {v x : V} {r : List (Str × V)} (h : ¬ g = f) : putF f v ((g, x) :: r) = (g, x) :: putF f v r := if_neg h
theorem ofF_wrong (w : Int) (t c : Addr) : (ofF w t c).lookup ("wrong" : Str) = some (.int w) := lk_here
theorem ofF_things (w : Int) (t c : Addr) : (ofF w t c).lookup ("things" : Str) = some (.ref t) := (lk_past (by decide +kernel)).trans lk_here
theorem ofF_claims (w : Int) (t c : Addr) : (ofF w t c).lookup ("claims" : Str) = some (.ref c) := (lk_past (by decide +kernel)).trans ((lk_past (by decide +kernel)).trans lk_here)
theorem put_wrong (w w' : Int) (t c : Addr) : putF "wrong" (.int w') (ofF w t c) = ofF w' t c := put_here
theorem put_things (w : Int) (t t' c : Addr) : putF "things" (.ref t') (ofF w t c) = ofF w t' c := (put_past (by decide +kernel)).trans (congrArg _ put_here)
theorem put_claims (w : Int) (t c c' : Addr) : putF "claims" (.ref c') (ofF w t c) = ofF w t c' := (put_past (by decide +kernel)).trans (congrArg _ ((put_past (by decide +kernel)).trans (congrArg _ put_here)))
theorem put_new (t c : Addr) : putF "claims" (.ref c) (putF "things" (.ref t) (putF "wrong" (.int 0) [])) = ofF 0 t c := by
  have e1 : putF "wrong" (.int 0) [] = [(("wrong" : Str), V.int 0)] := rfl
  rw [e1]
  have e2 : putF "things" (.ref t) [(("wrong" : Str), V.int 0)] = [(("wrong" : Str), V.int 0), ("things", .ref t)] := put_past (by decide +kernel)
  rw [e2]
  exact (put_past (by decide +kernel)).trans (congrArg _ (put_past (by decide +kernel)))
end My
set_option Elab.async false
set_option maxRecDepth 100000
set_option maxHeartbeats 4000000
namespace My
open PySem PySem.Spec PyProof.Rows L2
/-! ### the text -/
def topS (i : Nat) : Stmt := PySem.Challenge.pw_lostthings_s01_answers.main.body.getD i (.Pass ⟨0, 0, 0, 0⟩)
abbrev sInit : Stmt := inClass (topS 5) 0
abbrev sBegins : Stmt := topS 6
abbrev sBehind : Stmt := topS 7
abbrev sThing : Stmt := topS 8
abbrev sClaim : Stmt := topS 9
abbrev sErrors : Stmt := topS 10
abbrev sMay : Stmt := topS 11
abbrev sFitting : Stmt := topS 12
abbrev sFits : Stmt := topS 13
abbrev sGiven : Stmt := topS 14
abbrev sErrs : Stmt := topS 15
abbrev sUnfit : Stmt := topS 16
abbrev sTwice : Stmt := topS 17
abbrev sCheck : Stmt := topS 18
abbrev sPlans : Stmt := topS 19
abbrev sFull : Stmt := topS 20
abbrev sBest : Stmt := topS 21
abbrev sHas : Stmt := topS 22
abbrev sClaimsIn : Stmt := topS 23
abbrev sOneOf : Stmt := topS 24
abbrev sWhy : Stmt := topS 25
abbrev sAns : Stmt := topS 27
structure Txt (K : PySem.W.Frag) (mg : Str → Option Value) (C D : Addr) : Prop where
  cl : Cls K C
  nW : NoAttr K C "wrong"
  nT : NoAttr K C "things"
  nC : NoAttr K C "claims"
  gC : mg "Office" = some (.ref C)
  gD : mg "CALLS" = some (.ref D)
  g4 : ∃ t, mg "MOST_WRONG" = some (.int 4 t)
  g5 : ∃ t, mg "MOST_KEPT" = some (.int 5 t)
  g9 : ∃ t, mg "HIGHEST_VALUE" = some (.int 9 t)
  g10 : ∃ t, mg "LEFT_OUT" = some (.int 10 t)
  len : mg "len" = none
  max : mg "max" = none
  zip : mg "zip" = none
  enum : mg "enumerate" = none
  min : mg "min" = none
  set : mg "set" = none
  sorted : mg "sorted" = none
  any : mg "any" = none
  range : mg "range" = none
theorem scInit : FnScope ["self"] ["self"] (defScope sInit) := ⟨rfl, rfl, rfl, by decide +kernel, rfl, by decide +kernel, by decide +kernel⟩
theorem scBegins : FnScope ["office", "told"] ["office", "told"] (defScope sBegins) := ⟨rfl, rfl, rfl, by decide +kernel, rfl, by decide +kernel, by decide +kernel⟩
theorem scBehind : FnScope ["kept", "features", "highest"] ["kept", "features", "highest"] (defScope sBehind) := ⟨rfl, rfl, rfl, by decide +kernel, rfl, by decide +kernel, by decide +kernel⟩
theorem scThing : FnScope ["office", "told", "number"] ["office", "told"] (defScope sThing) := ⟨rfl, rfl, rfl, by decide +kernel, rfl, by decide +kernel, by decide +kernel⟩
theorem scClaim : FnScope ["office", "told", "number"] ["office", "told"] (defScope sClaim) := ⟨rfl, rfl, rfl, by decide +kernel, rfl, by decide +kernel, by decide +kernel⟩
theorem scErrors : FnScope ["claim", "thing", "errors", "said", "had"] ["claim", "thing"] (defScope sErrors) := ⟨rfl, rfl, rfl, by decide +kernel, rfl, by decide +kernel, by decide +kernel⟩
theorem scMay : FnScope ["office", "claim", "thing"] ["office", "claim", "thing"] (defScope sMay) := ⟨rfl, rfl, rfl, by decide +kernel, rfl, by decide +kernel, by decide +kernel⟩
theorem scFitting : FnScope ["office", "claim", "number", "thing"] ["office", "claim"] (defScope sFitting) := ⟨rfl, rfl, rfl, by decide +kernel, rfl, by decide +kernel, by decide +kernel⟩
theorem scFits : FnScope ["office", "told", "claim", "found", "answer", "number"] ["office", "told"] (defScope sFits) := ⟨rfl, rfl, rfl, by decide +kernel, rfl, by decide +kernel, by decide +kernel⟩
theorem scGiven : FnScope ["office", "plan"] ["office", "plan"] (defScope sGiven) := ⟨rfl, rfl, rfl, by decide +kernel, rfl, by decide +kernel, by decide +kernel⟩
theorem scErrs : FnScope ["office", "plan", "errors", "claim", "number"] ["office", "plan"] (defScope sErrs) := ⟨rfl, rfl, rfl, by decide +kernel, rfl, by decide +kernel, by decide +kernel⟩
theorem scUnfit : FnScope ["office", "plan", "place", "number"] ["office", "plan"] (defScope sUnfit) := ⟨rfl, rfl, rfl, by decide +kernel, rfl, by decide +kernel, by decide +kernel⟩
theorem scTwice : FnScope ["office", "plan", "place", "number"] ["office", "plan"] (defScope sTwice) := ⟨rfl, rfl, rfl, by decide +kernel, rfl, by decide +kernel, by decide +kernel⟩
theorem scCheck : FnScope ["office", "told", "unfit", "twice"] ["office", "told"] (defScope sCheck) := ⟨rfl, rfl, rfl, by decide +kernel, rfl, by decide +kernel, by decide +kernel⟩
theorem scPlans : FnScope ["office", "none", "plans", "claim", "numbers", "longer", "plan", "free", "number"] ["office"] (defScope sPlans) := ⟨rfl, rfl, rfl, by decide +kernel, rfl, by decide +kernel, by decide +kernel⟩
theorem scFull : FnScope ["office", "plans", "most", "plan"] ["office"] (defScope sFull) := ⟨rfl, rfl, rfl, by decide +kernel, rfl, by decide +kernel, by decide +kernel⟩
theorem scBest : FnScope ["office", "told", "full", "errors", "fewest", "earliest", "plan"] ["office", "told"] (defScope sBest) := ⟨rfl, rfl, rfl, by decide +kernel, rfl, by decide +kernel, by decide +kernel⟩
theorem scHas : FnScope ["office", "told", "numbers", "plan"] ["office", "told"] (defScope sHas) := ⟨rfl, rfl, rfl, by decide +kernel, rfl, by decide +kernel, by decide +kernel⟩
theorem scClaimsIn : FnScope ["office", "group", "number", "claim"] ["office", "group"] (defScope sClaimsIn) := ⟨rfl, rfl, rfl, by decide +kernel, rfl, by decide +kernel, by decide +kernel⟩
theorem scOneOf : FnScope ["office", "claims", "found", "number", "thing", "claim"] ["office", "claims"] (defScope sOneOf) := ⟨rfl, rfl, rfl, by decide +kernel, rfl, by decide +kernel, by decide +kernel⟩
theorem scWhy : FnScope ["office", "told", "short", "shortest", "few", "group", "claims", "found"] ["office", "told"] (defScope sWhy) := ⟨rfl, rfl, rfl, by decide +kernel, rfl, by decide +kernel, by decide +kernel⟩
theorem scAns : FnScope ["calls", "office", "given", "place", "first", "behind", "answer"] ["calls"] (defScope sAns) := ⟨rfl, rfl, rfl, by decide +kernel, rfl, by decide +kernel, by decide +kernel⟩
end My
set_option Elab.async false
set_option maxRecDepth 100000
set_option maxHeartbeats 4000000
namespace My
open PySem PySem.Spec PyProof.Rows L2
theorem take_more {α : Type} : ∀ {l : List α} {i : Nat} {x : α}, l[i]? = some x → l.take (i + 1) = l.take i ++ [x]
  | [], i, x, h => by simp at h
  | a :: l, 0, x, h => by
    have e : a = x := Option.some.inj h
    subst e
    rfl
  | a :: l, i + 1, x, h => by
    have ih := take_more (l := l) (i := i) (x := x) h
    show a :: l.take (i + 1) = a :: l.take i ++ [x]
    rw [ih]
    rfl
theorem iv_get {l : List Int} {i : Nat} {x : V} (h : (iv l)[i]? = some x) : ∃ z, l[i]? = some z ∧ x = .int z := by
  unfold iv at h
  rw [List.getElem?_map] at h
  cases e : l[i]? with
  | none =>
    rw [e] at h
    cases h
  | some z =>
    rw [e] at h
    exact ⟨z, rfl, (Option.some.inj h).symm⟩
theorem errP_more {l : List (Int × Int)} {i : Nat} {p : Int × Int} (h : l[i]? = some p) : errP (l.take (i + 1)) = errP (l.take i) + if offAt p = true then 1 else 0 := by
  unfold errP
  rw [take_more h, List.filter_append, List.length_append]
  cases e : offAt p with
  | true => simp [e]
  | false => simp [e]
section
variable {P : Program} {w : World} {K : PySem.W.Frag} {mg : Str → Option Value} {base : Heap} {C D : Addr}
/-- errors_about: the claim's numbers, the thing's; how many are otherwise -/
def spErrors : Sp := fun vs H Q _ => ∃ (a b : Addr) (c t : List Int), vs = [.ref a, .ref b] ∧ H a = some (.lst (iv c)) ∧ H b = some (.lst (iv t)) ∧ c.length = t.length ∧
  ∀ H', Same H H' → Q (.int (errN c t)) H'
theorem ok_errors {f : Addr} {fd : FuncData} (F : Fun K "errors_about" "errors_about" sErrors f fd) (T : Txt K mg C D) : FnOk P w K mg base CX0 1 f fd ["claim", "thing"] spErrors := by
  refine F.ok scErrors (fun vs H Q E h => ?_) (fun cdv A outer s H vs Q E hr h => ⟨_, pss_cons (ps_set (i := 2) scErrors.nd rfl (Or.inl rfl) pe_int)
    (pss_cons (ps_for PassesOwn.never rfl (pi_zip (by rfl) T.zip (pa_cons (pv 0) (pa_cons (pv 1) pa_nil))) (pg_tup rfl (pgs_cons (pg_name (i := 3) scErrors.nd rfl (Or.inl rfl)) (pgs_cons (pg_name (i := 4) scErrors.nd rfl (Or.inl rfl)) pgs_nil)))
      (pss_one (ps_if (PW.pt (pw_and (pt_cmpR op_ne (pv 3) (pe_num rfl T.g10) (nomark _)) (pw_and1 (pt_cmpR op_ne (pv 3) (pv 4) (nomark _)))))
        (pss_one (ps_aug (i := 2) scErrors.nd rfl (Or.inl rfl) pe_int ip_add)) pss_nil)))
    (pss_one (ps_ret (pv 2)))), ?_⟩)
  · obtain ⟨a, b, c, t, rfl, _⟩ := h
    rfl
  obtain ⟨a, b, c, t, rfl, h1, h2, hl, k⟩ := h
  refine ⟨_, rfl, _, rfl, a, b, iv c, iv t, rfl, SqL.of h1, SqL.of h2, ?_⟩
  refine RZ.for_zipL (by unfold iv; rw [List.length_map, List.length_map, hl]) (fun i σ H' => ∃ v3 v4 : Option V, σ = [some (.ref a), some (.ref b), some (.int (errP ((c.zip t).take i))), v3, v4] ∧ Same H H')
    ⟨none, none, rfl, Same.refl H⟩ (fun i σ H' ⟨_, _, _, s1⟩ => ⟨SqL.of (s1 _ _ h1), SqL.of (s1 _ _ h2)⟩) ?_ ?_
  · rintro i x y T' σ H' hx hy ⟨v3, v4, rfl, s1⟩ hT
    obtain ⟨cz, hc, rfl⟩ := iv_get hx
    obtain ⟨tz, ht, rfl⟩ := iv_get hy
    have hz : (c.zip t)[i]? = some (cz, tz) := List.getElem?_zip_eq_some.mpr ⟨hc, ht⟩
    have em := errP_more hz
    have s2 : Same H (upd H' T' (.tup [.int cz, .int tz])) := s1.trans (Same.new hT)
    refine ⟨T', _, rfl, SqT.of upd_same, rfl, _, _, rfl, _, _, rfl, rfl, ?_⟩
    refine ⟨_, rfl, rfl, _, rfl, ?_⟩
    have e1 : (!decide (V.int cz = V.int 10)) = (cz != 10) := by rw [dec_int]; rfl
    have e2 : (!decide (V.int cz = V.int tz)) = (cz != tz) := by rw [dec_int]; rfl
    rw [e1]
    have ho : offAt (cz, tz) = ((cz != 10) && (cz != tz)) := rfl
    cases b1 : (cz != 10) with
    | false =>
      refine iteF (iteF ?_)
      rw [ho, b1] at em
      exact ⟨_, _, by rw [em]; rfl, s2⟩
    | true =>
      refine iteT ⟨_, rfl, _, rfl, rfl, _, rfl, ?_⟩
      rw [e2]
      rw [ho, b1] at em
      cases b2 : (cz != tz) with
      | false =>
        refine iteF ?_
        rw [b2] at em
        exact ⟨_, _, by rw [em]; rfl, s2⟩
      | true =>
        rw [b2] at em
        refine iteT ⟨_, rfl, _, _, rfl, rfl, ?_⟩
        exact ⟨_, _, by rw [em]; rfl, s2⟩
  · rintro σ H' ⟨v3, v4, rfl, s1⟩
    refine ⟨_, rfl, ?_⟩
    have e : (c.zip t).take (iv c).length = c.zip t := by
      refine List.take_of_length_le ?_
      unfold iv
      rw [List.length_zip, List.length_map]
      omega
    rw [e]
    exact k H' s1
end
end My
set_option Elab.async false
set_option maxRecDepth 100000
set_option maxHeartbeats 4000000
namespace My
open PySem PySem.Spec PyProof.Rows L2
section
variable {P : Program} {w : World} {K : PySem.W.Frag} {mg : Str → Option Value} {base : Heap} {C D : Addr}
/-- Office.__init__ -/
def spInit (C : Addr) : Sp := fun vs H Q _ => ∃ (p dx : Addr), vs = [.ref p] ∧ H p = some (.ins C dx []) ∧
  ∀ (H' : Hp) (t c : Addr), OffAt C H' p ⟨dx, t, c, [], []⟩ M.init → H t = none → H c = none → (∀ b x, H b = some x → b ≠ p → H' b = some x) → Q .non H'
theorem rows_nil (H : Hp) : RowsAt H [] [] := ⟨rfl, fun _ _ _ h => (nomatch h)⟩
theorem ok_init {f : Addr} {fd : FuncData} (F : Fun K "__init__" "Office.__init__" sInit f fd) (T : Txt K mg C D) : FnOk P w K mg base CX0 1 f fd ["self"] (spInit C) := by
  refine F.ok scInit (fun vs H Q E h => ?_) (fun cdv A outer s H vs Q E hr h => ⟨_, pss_cons (ps_fld (pv 0) pe_int rfl) (pss_cons (ps_fld (pv 0) (pe_lst pa_nil) rfl) (pss_one (ps_fld (pv 0) (pe_lst pa_nil) rfl))), ?_⟩)
  · obtain ⟨p, dx, rfl, _⟩ := h
    rfl
  obtain ⟨p, dx, rfl, hp, k⟩ := h
  refine ⟨_, rfl, p, C, dx, _, rfl, hp, T.cl, T.nW, (by show 0 < 1000; decide), ?_⟩
  refine ⟨(by show 0 ≤ sizeLine; exact Nat.zero_le _), fun t ht => ?_⟩
  have htp : p ≠ t := ne_of_none upd_same ht
  refine ⟨_, rfl, p, C, dx, _, rfl, (upd_ne htp).trans upd_same, T.cl, T.nT, (by show 1 < 1000; decide), ?_⟩
  refine ⟨(by show 0 ≤ sizeLine; exact Nat.zero_le _), fun c hc => ?_⟩
  have hcp : p ≠ c := ne_of_none upd_same hc
  refine ⟨_, rfl, p, C, dx, _, rfl, (upd_ne hcp).trans upd_same, T.cl, T.nC, (by show 2 < 1000; decide), ?_⟩
  have htc : t ≠ c := by
    intro e
    subst e
    rw [upd_ne (Ne.symm htp), upd_same] at hc
    cases hc
  have ht0 : H t = none := by rw [upd_ne (Ne.symm htp)] at ht; exact ht
  have hc0 : H c = none := by rw [upd_ne (Ne.symm hcp), upd_ne (Ne.symm htc), upd_ne (Ne.symm hcp)] at hc; exact hc
  refine k _ t c ⟨?_, ?_, ?_, rows_nil _, rows_nil _, htc, fun _ h => (nomatch h)⟩ ht0 hc0 ?_
  · refine Eq.trans upd_same (congrArg (fun q => some (HO.ins C dx q)) (put_new t c))
  · show upd _ p _ t = _
    rw [upd_ne (Ne.symm htp), upd_ne htc, upd_ne (Ne.symm htp), upd_same]
    rfl
  · show upd _ p _ c = _
    rw [upd_ne (Ne.symm hcp), upd_same]
    rfl
  · intro b x hb hne
    have h1 : b ≠ t := ne_of_none hb ht0
    have h2 : b ≠ c := ne_of_none hb hc0
    rw [upd_ne hne, upd_ne h2, upd_ne hne, upd_ne h1, upd_ne hne]
    exact hb
/-- number_behind -/
def spBehind : Sp := fun vs H Q _ => ∃ (a b : Addr) (xs : List V) (kept : List (List Int)) (g : List Int) (hi : Int), vs = [.ref a, .ref b, .int hi] ∧ H a = some (.lst xs) ∧ xs.length = kept.length ∧ H b = some (.lst (iv g)) ∧ 0 < g.length ∧
  ∀ H', Same H H' → Q (.int (behind kept g hi)) H'
theorem ok_behind {f : Addr} {fd : FuncData} (F : Fun K "number_behind" "number_behind" sBehind f fd) (T : Txt K mg C D) : FnOk P w K mg base CX0 1 f fd ["kept", "features", "highest"] spBehind := by
  refine F.ok scBehind (fun vs H Q E h => ?_) (fun cdv A outer s H vs Q E hr h => ⟨_,
    pss_cons (ps_if (pt_cmpR op_gt (pe_callB (cr_max rfl) (by rfl) T.max (by decide +kernel) (pa_cons (pv 1) pa_nil)) (pv 2) (nomark _)) (pss_one (ps_ret (pe_un un_neg pe_int))) pss_nil)
    (pss_cons (ps_if (pt_cmpR op_eq (pe_callB call_len_seq (by rfl) T.len PySem.boot_len (pa_cons (pv 0) pa_nil)) (pe_num rfl T.g5) (nomark _)) (pss_one (ps_ret (pe_un un_neg pe_int))) pss_nil)
    (pss_one (ps_ret (pe_callB call_len_seq (by rfl) T.len PySem.boot_len (pa_cons (pv 0) pa_nil))))), ?_⟩)
  · obtain ⟨a, b, xs, kept, g, hi, rfl, _⟩ := h
    rfl
  obtain ⟨a, b, xs, kept, g, hi, rfl, h1, hl, h2, h0, k⟩ := h
  refine ⟨_, rfl, b, g, rfl, SqL.of h2, h0, fun m hm hle => ?_⟩
  refine ⟨_, rfl, m, hi, rfl, rfl, _, rfl, ?_⟩
  have k' := k H (Same.refl H)
  unfold behind at k'
  refine ite2 (fun c => ?_) (fun c => ?_)
  · have c := of_decide_eq_true c
    rw [if_pos ⟨m, hm, c⟩] at k'
    exact ⟨_, rfl, k'⟩
  · have c : ¬ hi < m := fun e => c (decide_eq_true e)
    rw [if_neg (fun ⟨y, hy, e⟩ => c (Int.lt_of_lt_of_le e (hle y hy)))] at k'
    refine ⟨_, rfl, a, xs, rfl, .inl (SqL.of h1), rfl, _, rfl, ?_⟩
    refine ite2 (fun d => ?_) (fun d => ?_)
    · have d := V.int.inj (of_decide_eq_true d)
      rw [if_pos (by omega)] at k'
      exact ⟨_, rfl, k'⟩
    · have d : ¬ (xs.length : Int) = 5 := fun e => d (decide_eq_true (congrArg V.int e))
      rw [if_neg (by omega), ← hl] at k'
      exact ⟨_, rfl, a, xs, rfl, .inl (SqL.of h1), k'⟩
end
end My
set_option Elab.async false
set_option maxRecDepth 100000
set_option maxHeartbeats 4000000
namespace My
open PySem PySem.Spec PyProof.Rows L2
/-- a call of the office: its numbers in a list of its own; the office goes on, what is answered is a new list; all else stands -/
def spOp (C : Addr) (p : Int) (g : M → List Int → M × List Int) : Sp := fun vs H Q _ => ∃ (o a : Addr) (z : Where) (m : M) (ns : List Int), vs = [.ref o, .ref a] ∧ OffAt C H o z m ∧ m.Ok ∧ H a = some (.lst (iv ns)) ∧ a ∉ z.foot o ∧ OkQ (p, ns) ∧
  ∀ (H' : Hp) (r : Addr) (z' : Where), OffAt C H' o z' (g m ns).1 → H' r = some (.lst (iv (g m ns).2)) → H r = none → (∀ b x, H b = some x → b ≠ o → b ≠ z.t → b ≠ z.c → H' b = some x) →
    (∀ q ∈ z'.foot o, q ∈ z.foot o ∨ q = a ∨ H q = none) → Q (.ref r) H'
/-- of those that leave the office as it was -/
theorem spOp.same {C : Addr} {o a : Addr} {z : Where} {m : M} {ns : List Int} {g : M → List Int → M × List Int} {H : Hp} {Q : VK} (hO : OffAt C H o z m)
    (k : ∀ (H' : Hp) (r : Addr) (z' : Where), OffAt C H' o z' (g m ns).1 → H' r = some (.lst (iv (g m ns).2)) → H r = none → (∀ b x, H b = some x → b ≠ o → b ≠ z.t → b ≠ z.c → H' b = some x) →
    (∀ q ∈ z'.foot o, q ∈ z.foot o ∨ q = a ∨ H q = none) → Q (.ref r) H') (e : (g m ns).1 = m) {H' : Hp} {r : Addr} (s : Same H H') (h : H' r = some (.lst (iv (g m ns).2))) (n : H r = none) : Q (.ref r) H' :=
  k H' r z (by rw [e]; exact hO.same s) h n (fun b x hb _ _ _ => s b x hb) fun q hq => Or.inl hq
def gBegins (m : M) (ns : List Int) : M × List Int := m.begins (ns.headD 0)
def gThing (m : M) (ns : List Int) : M × List Int := m.takesT ns
def gClaim (m : M) (ns : List Int) : M × List Int := m.takesC ns
def gFits (m : M) (ns : List Int) : M × List Int := (m, m.fits (ns.headD 0))
theorem len1 {ns : List Int} (h : ns.length = 1) : ∃ e, ns = [e] := by
  match ns, h with
  | [e], _ => exact ⟨e, rfl⟩
section
variable {P : Program} {w : World} {K : PySem.W.Frag} {mg : Str → Option Value} {base : Heap} {C D : Addr}
theorem ok_begins {f : Addr} {fd : FuncData} (F : Fun K "begins" "begins" sBegins f fd) (T : Txt K mg C D) : FnOk P w K mg base CX0 1 f fd ["office", "told"] (spOp C 0 gBegins) := by
  refine F.ok scBegins (fun vs H Q E h => ?_) (fun cdv A outer s H vs Q E hr h => ⟨_,
    pss_cons (ps_if (pt_cmpR op_gt (pe_ix ix_list (pv 1) pe_int (fun _ _ => rfl)) (pe_num rfl T.g4) (nomark _)) (pss_one (ps_ret (pe_lst (pa_cons (pe_un un_neg pe_int) pa_nil)))) pss_nil)
    (pss_cons (ps_fld (pv 0) (pe_ix ix_list (pv 1) pe_int (fun _ _ => rfl)) rfl)
    (pss_cons (ps_fld (pv 0) (pe_lst pa_nil) rfl)
    (pss_cons (ps_fld (pv 0) (pe_lst pa_nil) rfl)
    (pss_one (ps_ret (pe_lst (pa_cons pe_int pa_nil))))))), ?_⟩)
  · obtain ⟨o, a, z, m, ns, rfl, _⟩ := h
    rfl
  obtain ⟨o, a, z, m, ns, rfl, hO, hm, ha, haf, ok, k⟩ := h
  have hl : ns.length = 1 := by
    have := ok.shape
    unfold shapeOk at this
    dsimp only at this
    omega
  obtain ⟨e, rfl⟩ := len1 hl
  have ix0 : atI (iv [e]) 0 = some (V.int e) := rfl
  have kb : (gBegins m [e]) = m.begins e := rfl
  unfold M.begins at kb
  refine ⟨_, rfl, a, iv [e], 0, .int e, rfl, rfl, SqL.of ha, ix0, e, 4, rfl, rfl, _, rfl, ?_⟩
  refine ite2 (fun c => ?_) (fun c => ?_)
  · have c := of_decide_eq_true c
    rw [if_pos c] at kb
    refine ⟨_, rfl, (by show 1 ≤ sizeLine; decide), fun r hr => ?_⟩
    refine spOp.same hO k (by rw [kb]) (Same.new hr) ?_ hr
    rw [kb]
    exact upd_same
  · have c : ¬ 4 < e := fun h => c (decide_eq_true h)
    rw [if_neg c] at kb
    refine ⟨_, rfl, a, iv [e], 0, .int e, rfl, rfl, SqL.of ha, ix0, ?_⟩
    refine ⟨_, rfl, o, C, z.dx, _, rfl, hO.o, T.cl, T.nW, (by show 3 < 1000; decide), ?_⟩
    rw [put_wrong]
    refine ⟨(by show 0 ≤ sizeLine; exact Nat.zero_le _), fun t ht => ?_⟩
    have hto : o ≠ t := ne_of_none upd_same ht
    refine ⟨_, rfl, o, C, z.dx, _, rfl, (upd_ne hto).trans upd_same, T.cl, T.nT, (by show 3 < 1000; decide), ?_⟩
    rw [put_things]
    refine ⟨(by show 0 ≤ sizeLine; exact Nat.zero_le _), fun c' hc => ?_⟩
    have hco : o ≠ c' := ne_of_none upd_same hc
    refine ⟨_, rfl, o, C, z.dx, _, rfl, (upd_ne hco).trans upd_same, T.cl, T.nC, (by show 3 < 1000; decide), ?_⟩
    rw [put_claims]
    have htc : t ≠ c' := by
      intro q
      subst q
      rw [upd_ne (Ne.symm hto), upd_same] at hc
      cases hc
    have ht0 : H t = none := by rw [upd_ne (Ne.symm hto)] at ht; exact ht
    have hc0 : H c' = none := by rw [upd_ne (Ne.symm hco), upd_ne (Ne.symm htc), upd_ne (Ne.symm hco)] at hc; exact hc
    refine ⟨(by show 1 ≤ sizeLine; decide), fun r hr => ?_⟩
    have hro : r ≠ o := fun q => by
      rw [q, upd_same] at hr
      cases hr
    have hrc : r ≠ c' := fun q => by
      rw [q, upd_ne (Ne.symm hco), upd_same] at hr
      cases hr
    have hrt : r ≠ t := fun q => by
      rw [q, upd_ne (Ne.symm hto), upd_ne htc, upd_ne (Ne.symm hto), upd_same] at hr
      cases hr
    have hr0 : H r = none := by
      rw [upd_ne hro, upd_ne hrc, upd_ne hro, upd_ne hrt, upd_ne hro] at hr
      exact hr
    refine k _ r ⟨z.dx, t, c', [], []⟩ ?_ ?_ hr0 ?_ ?_
    · rw [kb]
      refine ⟨?_, ?_, ?_, rows_nil _, rows_nil _, htc, fun _ h => (nomatch h)⟩
      · show upd _ r _ o = _
        rw [upd_ne (Ne.symm hro), upd_same]
      · show upd _ r _ t = _
        rw [upd_ne (Ne.symm hrt), upd_ne (Ne.symm hto), upd_ne htc, upd_ne (Ne.symm hto), upd_same]
        rfl
      · show upd _ r _ c' = _
        rw [upd_ne (Ne.symm hrc), upd_ne (Ne.symm hco), upd_same]
        rfl
    · rw [kb]
      exact upd_same
    · intro b x hb h1 _ _
      rw [upd_ne (ne_of_none hb hr0), upd_ne h1, upd_ne (ne_of_none hb hc0), upd_ne h1, upd_ne (ne_of_none hb ht0), upd_ne h1]
      exact hb
    · intro q hq
      simp only [Where.foot, List.mem_cons, List.append_nil, List.not_mem_nil, or_false] at hq
      rcases hq with rfl | rfl | rfl
      · exact Or.inl (by simp [Where.foot])
      · exact Or.inr (Or.inr ht0)
      · exact Or.inr (Or.inr hc0)
/-- a list that grows by one -/
theorem RowsAt.push {H : Hp} {ps : List Addr} {ls : List (List Int)} {a : Addr} {l : List Int} (h : RowsAt H ps ls) (ha : H a = some (.lst (iv l))) : RowsAt H (ps ++ [a]) (ls ++ [l]) := by
  refine ⟨by rw [List.length_append, List.length_append, h.1]; rfl, fun i p x e1 e2 => ?_⟩
  by_cases c : i < ps.length
  · rw [List.getElem?_append_left c] at e1
    rw [List.getElem?_append_left (by rw [← h.1]; exact c)] at e2
    exact h.2 i p x e1 e2
  · rw [List.getElem?_append_right (by omega)] at e1
    rw [List.getElem?_append_right (by rw [← h.1]; omega), ← h.1] at e2
    cases hi : i - ps.length with
    | zero =>
      rw [hi] at e1 e2
      cases e1
      cases e2
      exact ha
    | succ n =>
      rw [hi] at e1
      cases e1
theorem shape4 {p : Int} {ns : List Int} (ok : OkQ (p, ns)) (h : p = 1 ∨ p = 2) : ns.length = 4 := by
  have := ok.shape
  unfold shapeOk at this
  dsimp only at this
  omega
theorem ok_thing {f fB : Addr} {fd fdB : FuncData} (F : Fun K "takes_thing" "takes_thing" sThing f fd) (T : Txt K mg C D) (FB : Fun K "number_behind" "number_behind" sBehind fB fdB) (gB : mg "number_behind" = some (.ref fB)) (bB : Binds K fdB ["kept", "features", "highest"] []) :
    FnOk P w K mg base CX0 2 f fd ["office", "told"] (spOp C 1 gThing) := by
  have GB : FnOk P w K mg base CX0 1 fB fdB ["kept", "features", "highest"] spBehind := ok_behind FB T
  refine F.ok scThing (fun vs H Q E h => ?_) (fun cdv A outer s H vs Q E hr h => ⟨_,
    pss_cons (ps_set (i := 2) scThing.nd rfl (Or.inl rfl) (pe_call GB hr rfl gB FB.kp bB .nil pass0 (pa_cons (pe_fld (pv 0) rfl) (pa_cons (pv 1) (pa_cons (pe_num rfl T.g9) pa_nil)))))
    (pss_cons (ps_if (pt_cmpR op_ge (pv 2) pe_int (nomark _)) (pss_one (ps_expr (pe_bm PySem.F.plainAttrs_list PySem.F.slot_list_append PySem.F.type_list_append mt_append (pe_fld (pv 0) rfl) (pa_cons (pv 1) pa_nil)))) pss_nil)
    (pss_one (ps_ret (pe_lst (pa_cons (pv 2) pa_nil))))), ?_⟩)
  · obtain ⟨o, a, z, m, ns, rfl, _⟩ := h
    rfl
  obtain ⟨o, a, z, m, ns, rfl, hO, hm, ha, haf, ok, k⟩ := h
  have hl := shape4 ok (Or.inl rfl)
  have kb : gThing m ns = m.takesT ns := rfl
  unfold M.takesT at kb
  refine ⟨_, rfl, o, C, z.dx, _, _, rfl, hO.o, T.cl, T.nT, ofF_things _ _ _, _, rfl, ?_⟩
  refine ⟨z.t, a, _, m.things, ns, 9, rfl, hO.t, by rw [List.length_map]; exact hO.rt.1, ha, by omega, fun H1 s1 => ?_⟩
  refine ⟨_, rfl, _, _, rfl, rfl, _, rfl, ?_⟩
  have hO1 := hO.same s1
  have ha1 := s1 _ _ ha
  refine ite2 (fun c => ?_) (fun c => ?_)
  · have c : 0 ≤ behind m.things ns 9 := of_decide_eq_true c
    rw [if_pos c] at kb
    refine ⟨_, rfl, o, C, z.dx, _, _, rfl, hO1.o, T.cl, T.nT, ofF_things _ _ _, Or.inl ⟨rfl, _, Or.inl (Or.inl hO1.t)⟩, _, rfl, z.t, _, .ref a, rfl, rfl, hO1.t, ?_, ?_⟩
    · rw [List.length_map, hO.rt.1]
      have := hm.t5
      exact Nat.lt_of_le_of_lt this (by decide)
    refine ⟨_, rfl, (by show 1 ≤ sizeLine; decide), fun r hr => ?_⟩
    have hrt : r ≠ z.t := fun q => by
      rw [q, upd_same] at hr
      cases hr
    rw [upd_ne hrt] at hr
    have hr0 := s1.free hr
    have haz : a ≠ z.t := fun q => haf (by simp [Where.foot, q])
    have hac : a ≠ z.c := fun q => haf (by simp [Where.foot, q])
    have hot : o ≠ z.t := ne_of hO.o hO.t (by intro q; cases q)
    have stay : ∀ b x, H b = some x → b ≠ z.t → upd (upd H1 z.t (.lst (z.ts.map V.ref ++ [.ref a]))) r (.lst [.int (behind m.things ns 9)]) b = some x := fun b x hb h1 => by
      rw [upd_ne (ne_of_none hb hr0), upd_ne h1]
      exact s1 _ _ hb
    refine k _ r ⟨z.dx, z.t, z.c, z.ts ++ [a], z.cs⟩ ?_ ?_ hr0 ?_ ?_
    · rw [kb]
      refine ⟨stay _ _ hO.o hot, ?_, stay _ _ hO.c (Ne.symm hO.tc), ?_, ?_, hO.tc, ?_⟩
      · show upd _ r _ z.t = _
        rw [upd_ne (Ne.symm hrt), upd_same, List.map_append]
        rfl
      · exact (hO.rt.keep fun p hp x e => stay _ _ e (hO.nt p (List.mem_append_left _ hp)).1).push (stay _ _ ha haz)
      · exact hO.rc.keep fun p hp x e => stay _ _ e (hO.nt p (List.mem_append_right _ hp)).1
      · intro p hp
        show p ≠ z.t ∧ p ≠ z.c
        simp only [List.mem_append, List.mem_singleton] at hp
        rcases hp with (hp | rfl) | hp
        · exact hO.nt p (List.mem_append_left _ hp)
        · exact ⟨haz, hac⟩
        · exact hO.nt p (List.mem_append_right _ hp)
    · rw [kb]
      exact upd_same
    · intro b x hb _ h2 _
      exact stay b x hb h2
    · intro q hq
      simp only [Where.foot, List.mem_cons, List.mem_append, List.not_mem_nil, or_false] at hq
      simp only [Where.foot, List.mem_cons, List.mem_append]
      rcases hq with rfl | rfl | rfl | (hq | rfl) | hq <;> simp [*]
  · have c : ¬ 0 ≤ behind m.things ns 9 := fun h => c (decide_eq_true h)
    rw [if_neg c] at kb
    refine ⟨_, rfl, (by show 1 ≤ sizeLine; decide), fun r hr => ?_⟩
    refine spOp.same hO k (by rw [kb]) (s1.trans (Same.new hr)) ?_ (s1.free hr)
    rw [kb]
    exact upd_same
theorem ok_claim {f fB : Addr} {fd fdB : FuncData} (F : Fun K "takes_claim" "takes_claim" sClaim f fd) (T : Txt K mg C D) (FB : Fun K "number_behind" "number_behind" sBehind fB fdB) (gB : mg "number_behind" = some (.ref fB)) (bB : Binds K fdB ["kept", "features", "highest"] []) :
    FnOk P w K mg base CX0 2 f fd ["office", "told"] (spOp C 2 gClaim) := by
  have GB : FnOk P w K mg base CX0 1 fB fdB ["kept", "features", "highest"] spBehind := ok_behind FB T
  refine F.ok scClaim (fun vs H Q E h => ?_) (fun cdv A outer s H vs Q E hr h => ⟨_,
    pss_cons (ps_set (i := 2) scClaim.nd rfl (Or.inl rfl) (pe_call GB hr rfl gB FB.kp bB .nil pass0 (pa_cons (pe_fld (pv 0) rfl) (pa_cons (pv 1) (pa_cons (pe_num rfl T.g10) pa_nil)))))
    (pss_cons (ps_if (pt_cmpR op_ge (pv 2) pe_int (nomark _)) (pss_one (ps_expr (pe_bm PySem.F.plainAttrs_list PySem.F.slot_list_append PySem.F.type_list_append mt_append (pe_fld (pv 0) rfl) (pa_cons (pv 1) pa_nil)))) pss_nil)
    (pss_one (ps_ret (pe_lst (pa_cons (pv 2) pa_nil))))), ?_⟩)
  · obtain ⟨o, a, z, m, ns, rfl, _⟩ := h
    rfl
  obtain ⟨o, a, z, m, ns, rfl, hO, hm, ha, haf, ok, k⟩ := h
  have hl := shape4 ok (Or.inr rfl)
  have kb : gClaim m ns = m.takesC ns := rfl
  unfold M.takesC at kb
  refine ⟨_, rfl, o, C, z.dx, _, _, rfl, hO.o, T.cl, T.nC, ofF_claims _ _ _, _, rfl, ?_⟩
  refine ⟨z.c, a, _, m.claims, ns, 10, rfl, hO.c, by rw [List.length_map]; exact hO.rc.1, ha, by omega, fun H1 s1 => ?_⟩
  refine ⟨_, rfl, _, _, rfl, rfl, _, rfl, ?_⟩
  have hO1 := hO.same s1
  have ha1 := s1 _ _ ha
  refine ite2 (fun c => ?_) (fun c => ?_)
  · have c : 0 ≤ behind m.claims ns 10 := of_decide_eq_true c
    rw [if_pos c] at kb
    refine ⟨_, rfl, o, C, z.dx, _, _, rfl, hO1.o, T.cl, T.nC, ofF_claims _ _ _, Or.inl ⟨rfl, _, Or.inl (Or.inl hO1.c)⟩, _, rfl, z.c, _, .ref a, rfl, rfl, hO1.c, ?_, ?_⟩
    · rw [List.length_map, hO.rc.1]
      have := hm.c5
      exact Nat.lt_of_le_of_lt this (by decide)
    refine ⟨_, rfl, (by show 1 ≤ sizeLine; decide), fun r hr => ?_⟩
    have hrt : r ≠ z.c := fun q => by
      rw [q, upd_same] at hr
      cases hr
    rw [upd_ne hrt] at hr
    have hr0 := s1.free hr
    have haz : a ≠ z.t := fun q => haf (by simp [Where.foot, q])
    have hac : a ≠ z.c := fun q => haf (by simp [Where.foot, q])
    have hot : o ≠ z.c := ne_of hO.o hO.c (by intro q; cases q)
    have stay : ∀ b x, H b = some x → b ≠ z.c → upd (upd H1 z.c (.lst (z.cs.map V.ref ++ [.ref a]))) r (.lst [.int (behind m.claims ns 10)]) b = some x := fun b x hb h1 => by
      rw [upd_ne (ne_of_none hb hr0), upd_ne h1]
      exact s1 _ _ hb
    refine k _ r ⟨z.dx, z.t, z.c, z.ts, z.cs ++ [a]⟩ ?_ ?_ hr0 ?_ ?_
    · rw [kb]
      refine ⟨stay _ _ hO.o hot, stay _ _ hO.t hO.tc, ?_, ?_, ?_, hO.tc, ?_⟩
      · show upd _ r _ z.c = _
        rw [upd_ne (Ne.symm hrt), upd_same, List.map_append]
        rfl
      · exact hO.rt.keep fun p hp x e => stay _ _ e (hO.nt p (List.mem_append_left _ hp)).2
      · exact (hO.rc.keep fun p hp x e => stay _ _ e (hO.nt p (List.mem_append_right _ hp)).2).push (stay _ _ ha hac)
      · intro p hp
        show p ≠ z.t ∧ p ≠ z.c
        simp only [List.mem_append, List.mem_singleton] at hp
        rcases hp with hp | hp | rfl
        · exact hO.nt p (List.mem_append_left _ hp)
        · exact hO.nt p (List.mem_append_right _ hp)
        · exact ⟨haz, hac⟩
    · rw [kb]
      exact upd_same
    · intro b x hb _ _ h2
      exact stay b x hb h2
    · intro q hq
      simp only [Where.foot, List.mem_cons, List.mem_append, List.not_mem_nil, or_false] at hq
      simp only [Where.foot, List.mem_cons, List.mem_append]
      rcases hq with rfl | rfl | rfl | hq | hq | rfl <;> simp [*]
  · have c : ¬ 0 ≤ behind m.claims ns 10 := fun h => c (decide_eq_true h)
    rw [if_neg c] at kb
    refine ⟨_, rfl, (by show 1 ≤ sizeLine; decide), fun r hr => ?_⟩
    refine spOp.same hO k (by rw [kb]) (s1.trans (Same.new hr)) ?_ (s1.free hr)
    rw [kb]
    exact upd_same
end
end My
set_option Elab.async false
set_option maxRecDepth 100000
set_option maxHeartbeats 4000000
namespace My
open PySem PySem.Spec PyProof.Rows L2
theorem refs_get {ps : List Addr} {i : Nat} {x : V} (h : (ps.map V.ref)[i]? = some x) : ∃ p, ps[i]? = some p ∧ x = .ref p := by
  rw [List.getElem?_map] at h
  cases e : ps[i]? with
  | none =>
    rw [e] at h
    cases h
  | some z =>
    rw [e] at h
    exact ⟨z, rfl, (Option.some.inj h).symm⟩
theorem atI_int {xs : List V} {e : Int} (h0 : 0 ≤ e) {v : V} (h : xs[e.toNat]? = some v) : atI xs e = some v := by
  obtain ⟨n, rfl⟩ := Int.eq_ofNat_of_zero_le h0
  exact atI_nat h
section
variable {X : Cx}
/-- a name stored in a comprehension; the expected type is looked at first -/
theorem pg_nm {i : Nat} {x : Str} {pos : Pos} (hN : X.N.Nodup) (hi : X.N[i]? = some x) (hx : Loc X.env.scope x) (hf : X.fn x = true ∨ X.env.scope.names.lookup x = some .local) : PG X (.Name x pos) (gName i) := pg_name hN hi hx hf
theorem pg_two {K : PySem.W.Frag} {i j k : Nat} {x y : Str} {p1 p2 pos : Pos} (hK : X.K = K) (hc : X.calm = true) (hN : X.N.Nodup) (hi : X.N[i]? = some x) (hx : Loc X.env.scope x) (fx : X.fn x = true ∨ X.env.scope.names.lookup x = some .local)
    (hj : X.N[j]? = some y) (hy : Loc X.env.scope y) (fy : X.fn y = true ∨ X.env.scope.names.lookup y = some .local) : PG X (.Tuple [.Name x p1, .Name y p2] k pos) (gTup K 2 (gCons (gName i) (gCons (gName j) gNil))) :=
  hK ▸ pg_tup hc (pgs_cons (pg_name hN hi hx fx) (pgs_cons (pg_name hN hj hy fy) pgs_nil))
end
section
variable {P : Program} {w : World} {K : PySem.W.Frag} {mg : Str → Option Value} {base : Heap} {C D : Addr}
/-- may_be -/
def spMay (C : Addr) : Sp := fun vs H Q _ => ∃ (o a b : Addr) (z : Where) (m : M) (c t : List Int), vs = [.ref o, .ref a, .ref b] ∧ OffAt C H o z m ∧ H a = some (.lst (iv c)) ∧ H b = some (.lst (iv t)) ∧ c.length = t.length ∧
  ∀ H', Same H H' → Q (.bl (decide ((errN c t : Int) ≤ m.wrong))) H'
theorem ok_may {f fE : Addr} {fd fdE : FuncData} (F : Fun K "may_be" "may_be" sMay f fd) (T : Txt K mg C D) (FE : Fun K "errors_about" "errors_about" sErrors fE fdE) (gE : mg "errors_about" = some (.ref fE)) (bE : Binds K fdE ["claim", "thing"] []) :
    FnOk P w K mg base CX0 2 f fd ["office", "claim", "thing"] (spMay C) := by
  have GE : FnOk P w K mg base CX0 1 fE fdE ["claim", "thing"] spErrors := ok_errors FE T
  refine F.ok scMay (fun vs H Q E h => ?_) (fun cdv A outer s H vs Q E hr h => ⟨_,
    pss_one (ps_ret (pe_cmpR op_le (pe_call GE hr rfl gE FE.kp bE .nil pass0 (pa_cons (pv 1) (pa_cons (pv 2) pa_nil))) (pe_fld (pv 0) rfl) (nomark _))), ?_⟩)
  · obtain ⟨o, a, b, z, m, c, t, rfl, _⟩ := h
    rfl
  obtain ⟨o, a, b, z, m, c, t, rfl, hO, ha, hb, hl, k⟩ := h
  refine ⟨_, rfl, _, rfl, a, b, c, t, rfl, ha, hb, hl, fun H1 s1 => ?_⟩
  exact ⟨_, rfl, o, C, z.dx, _, _, rfl, s1 _ _ hO.o, T.cl, T.nW, ofF_wrong _ _ _, _, _, rfl, rfl, k H1 s1⟩
/-- a thing's place -/
theorem RowsAt.at {H : Hp} {ps : List Addr} {ls : List (List Int)} (h : RowsAt H ps ls) {i : Nat} {p : Addr} (hp : ps[i]? = some p) : ∃ l, ls[i]? = some l ∧ H p = some (.lst (iv l)) := by
  have hi : i < ls.length := h.1 ▸ (List.getElem?_eq_some_iff.mp hp).1
  exact ⟨_, List.getElem?_eq_getElem hi, h.2 i p _ hp (List.getElem?_eq_getElem hi)⟩
theorem RowsAt.has {H : Hp} {ps : List Addr} {ls : List (List Int)} (h : RowsAt H ps ls) {i : Nat} (hi : i < ls.length) : ∃ p, ps[i]? = some p ∧ H p = some (.lst (iv (ls.getD i []))) := by
  have hi2 : i < ps.length := h.1 ▸ hi
  refine ⟨_, List.getElem?_eq_getElem hi2, h.2 i _ _ (List.getElem?_eq_getElem hi2) ?_⟩
  rw [List.getD_eq_getElem?_getD, List.getElem?_eq_getElem hi]
  rfl
theorem getD_of {α : Type} {l : List α} {i : Nat} {x d : α} (h : l[i]? = some x) : l.getD i d = x := by
  rw [List.getD_eq_getElem?_getD, h]
  rfl
/-- fitting: the numbers of the things that fit, in a new list -/
def spFitting (C : Addr) : Sp := fun vs H Q _ => ∃ (o a : Addr) (z : Where) (m : M) (c : List Int), vs = [.ref o, .ref a] ∧ OffAt C H o z m ∧ m.Ok ∧ H a = some (.lst (iv c)) ∧ c.length = 4 ∧
  ∀ (H' : Hp) (r : Addr), Same H H' → H r = none → H' r = some (.lst (iv (zi (fitI m.wrong m.things c m.things.length)))) → Q (.ref r) H'
theorem ok_fitting {f fM fE : Addr} {fd fdM fdE : FuncData} (F : Fun K "fitting" "fitting" sFitting f fd) (T : Txt K mg C D) (FM : Fun K "may_be" "may_be" sMay fM fdM) (gM : mg "may_be" = some (.ref fM)) (bM : Binds K fdM ["office", "claim", "thing"] [])
    (FE : Fun K "errors_about" "errors_about" sErrors fE fdE) (gE : mg "errors_about" = some (.ref fE)) (bE : Binds K fdE ["claim", "thing"] []) :
    FnOk P w K mg base CX0 3 f fd ["office", "claim"] (spFitting C) := by
  have GM : FnOk P w K mg base CX0 2 fM fdM ["office", "claim", "thing"] (spMay C) := ok_may FM T FE gE bE
  refine F.ok scFitting (fun vs H Q E h => ?_) (fun cdv A outer s H vs Q E hr h => ⟨_,
    pss_one (ps_ret (pe_lc (own := [("number", 2), ("thing", 3)]) rfl scFitting.nd (pi_enum (by rfl) T.enum (pa_cons (pe_fld (pv 0) rfl) pa_nil)) (blkOk_by (N := ["office", "claim", "number", "thing"]) (sc := defScope sFitting) (by decide +kernel))
      (fun _ _ _ _ _ => pg_two (K := K) (i := 2) (j := 3) rfl rfl scFitting.nd rfl (Or.inl rfl) (Or.inr rfl) rfl (Or.inl rfl) (Or.inr rfl))
      (fun _ _ _ _ _ => pts_one (pt_val (pe_call GM hr rfl gM FM.kp bM .nil pass0 (pa_cons (pv 0) (pa_cons (pv 1) (pa_cons (pv 3) pa_nil)))))) (fun _ _ _ _ _ => pv 2))), ?_⟩)
  · obtain ⟨o, a, z, m, c, rfl, _⟩ := h
    rfl
  obtain ⟨o, a, z, m, c, rfl, hO, hm, ha, hc, k⟩ := h
  refine ⟨_, rfl, o, C, z.dx, _, _, rfl, hO.o, T.cl, T.nT, ofF_things _ _ _, z.t, _, rfl, SqL.of hO.t, fun r hr => ?_⟩
  refine lc_enumL (xs := z.ts.map V.ref) (fun i H' => Same H H' ∧ H' r = some (.lst (iv (zi (fitI m.wrong m.things c i)))) ∧ i ≤ m.things.length) ⟨Same.new hr, upd_same, Nat.zero_le _⟩ (fun i H' ⟨s1, _⟩ => SqL.of (s1 _ _ hO.t)) ?_ ?_
  · rintro i x T' H' hx ⟨s1, h1, hi⟩ hT
    obtain ⟨p, hp, rfl⟩ := refs_get hx
    obtain ⟨l, hl, hpl⟩ := hO.rt.at hp
    have hi2 : i < m.things.length := (List.getElem?_eq_some_iff.mp hl).1
    have htf := hm.tg _ (List.mem_of_getElem? hl)
    have em := fitI_more m.wrong m.things c i
    rw [getD_of hl] at em
    have s2 : Same H' (upd H' T' (.tup [.int (i : Int), .ref p])) := Same.new hT
    refine ⟨T', _, rfl, SqT.of upd_same, rfl, _, _, rfl, _, _, rfl, rfl, rfl, ?_⟩
    refine ⟨_, rfl, _, rfl, _, rfl, o, a, p, z, m, c, l, rfl, (hO.same s1).same s2, s2 _ _ (s1 _ _ ha), s2 _ _ (s1 _ _ hpl), by rw [hc, htf.1], fun H2 s3 => ?_⟩
    have s4 : Same H' H2 := s2.trans s3
    have h2 := s4 _ _ h1
    refine ⟨_, rfl, ?_⟩
    refine ite2 (fun d => ?_) (fun d => ?_)
    · have d := of_decide_eq_true d
      rw [if_pos d] at em
      refine ⟨_, rfl, _, h2, ?_, ?_, ?_, hi2⟩
      · unfold iv
        rw [List.length_map, zi_len]
        have := fitI_len m.wrong m.things c i
        have := hm.t5
        exact Nat.lt_of_le_of_lt (m := 5) (by omega) (by decide)
      · intro b x e
        rw [upd_ne (ne_of_none e hr)]
        exact s4 _ _ (s1 _ _ e)
      · rw [upd_same, em, zi_append]
        unfold iv
        rw [List.map_append]
        rfl
    · have d : ¬ (errN c l : Int) ≤ m.wrong := fun h => d (decide_eq_true h)
      rw [if_neg d, List.append_nil] at em
      refine ⟨s1.trans s4, ?_, hi2⟩
      rw [em]
      exact h2
  · rintro H' ⟨s1, h1, hi⟩
    have e : (z.ts.map V.ref).length = m.things.length := by rw [List.length_map]; exact hO.rt.1
    rw [e] at h1
    exact k H' r s1 hr h1
end
end My
set_option Elab.async false
set_option maxRecDepth 100000
set_option maxHeartbeats 4000000
namespace My
open PySem PySem.Spec PyProof.Rows L2
section
variable {P : Program} {w : World} {K : PySem.W.Frag} {mg : Str → Option Value} {base : Heap} {C D : Addr}
/-- numbers of pairs -/
theorem pairsI_append (l l' : List (Nat × Nat)) : pairsI (l ++ l') = pairsI l ++ pairsI l' := by
  unfold pairsI
  rw [List.flatMap_append]
theorem pairsI_len (l : List (Nat × Nat)) : (pairsI l).length = 2 * l.length := by
  induction l with
  | nil => rfl
  | cons a l ih =>
    have : pairsI (a :: l) = (a.1 : Int) :: (a.2 : Int) :: pairsI l := rfl
    rw [this, List.length_cons, List.length_cons, ih, List.length_cons]
    omega
theorem iv_append (l l' : List Int) : iv (l ++ l') = iv l ++ iv l' := List.map_append
theorem fitN_at {w : Int} {ts : List (List Int)} {c : List Int} {n i t : Nat} (h : (fitI w ts c n)[i]? = some t) : (fitN w ts c n)[i]? = some (t, errN c (ts.getD t [])) := by
  rw [fitN_fitI, List.getElem?_map, h]
  rfl
theorem ok_fits {f fG fM fE : Addr} {fd fdG fdM fdE : FuncData} (F : Fun K "fits" "fits" sFits f fd) (T : Txt K mg C D) (FG : Fun K "fitting" "fitting" sFitting fG fdG) (gG : mg "fitting" = some (.ref fG)) (bG : Binds K fdG ["office", "claim"] [])
    (FM : Fun K "may_be" "may_be" sMay fM fdM) (gM : mg "may_be" = some (.ref fM)) (bM : Binds K fdM ["office", "claim", "thing"] [])
    (FE : Fun K "errors_about" "errors_about" sErrors fE fdE) (gE : mg "errors_about" = some (.ref fE)) (bE : Binds K fdE ["claim", "thing"] []) :
    FnOk P w K mg base CX0 4 f fd ["office", "told"] (spOp C 3 gFits) := by
  have GG : FnOk P w K mg base CX0 3 fG fdG ["office", "claim"] (spFitting C) := ok_fitting FG T FM gM bM FE gE bE
  have GE : FnOk P w K mg base CX0 1 fE fdE ["claim", "thing"] spErrors := ok_errors FE T
  refine F.ok scFits (fun vs H Q E h => ?_) (fun cdv A outer s H vs Q E hr h => ⟨_,
    pss_cons (ps_if (pt_cmpR op_ge (pe_ix ix_list (pv 1) pe_int (fun _ _ => rfl)) (pe_callB call_len_seq (by rfl) T.len PySem.boot_len (pa_cons (pe_fld (pv 0) rfl) pa_nil)) (nomark _)) (pss_one (ps_ret (pe_lst (pa_cons (pe_un un_neg pe_int) pa_nil)))) pss_nil)
    (pss_cons (ps_set (i := 2) scFits.nd rfl (Or.inl rfl) (pe_ix ix_list (pe_fld (pv 0) rfl) (pe_ix ix_list (pv 1) pe_int (fun _ _ => rfl)) (fun _ _ => rfl)))
    (pss_cons (ps_set (i := 3) scFits.nd rfl (Or.inl rfl) (pe_call GG hr rfl gG FG.kp bG .nil pass0 (pa_cons (pv 0) (pa_cons (pv 2) pa_nil))))
    (pss_cons (ps_set (i := 4) scFits.nd rfl (Or.inl rfl) (pe_lst (pa_cons (pe_callB call_len_seq (by rfl) T.len PySem.boot_len (pa_cons (pv 3) pa_nil)) pa_nil)))
    (pss_cons (ps_for PassesOwn.never rfl (pi_list (pv 3)) (pg_name (i := 5) scFits.nd rfl (Or.inl rfl))
      (pss_cons (ps_expr (pe_bm PySem.F.plainAttrs_list PySem.F.slot_list_append PySem.F.type_list_append mt_append (pv 4) (pa_cons (pv 5) pa_nil)))
      (pss_one (ps_expr (pe_bm PySem.F.plainAttrs_list PySem.F.slot_list_append PySem.F.type_list_append mt_append (pv 4) (pa_cons (pe_call GE (hr.mono (by decide)) rfl gE FE.kp bE .nil pass0 (pa_cons (pv 2) (pa_cons (pe_ix ix_list (pe_fld (pv 0) rfl) (pv 5) (fun _ _ => rfl)) pa_nil))) pa_nil))))))
    (pss_one (ps_ret (pv 4))))))), ?_⟩)
  · obtain ⟨o, a, z, m, ns, rfl, _⟩ := h
    rfl
  obtain ⟨o, a, z, m, ns, rfl, hO, hm, ha, haf, ok, k⟩ := h
  have hl : ns.length = 1 := by
    have := ok.shape
    unfold shapeOk at this
    dsimp only at this
    omega
  obtain ⟨e, rfl⟩ := len1 hl
  have he := ok.nums e (by simp)
  have ix0 : atI (iv [e]) 0 = some (V.int e) := rfl
  have kb : gFits m [e] = (m, m.fits e) := rfl
  unfold M.fits at kb
  have hcl : (z.cs.map V.ref).length = m.claims.length := by rw [List.length_map]; exact hO.rc.1
  refine ⟨_, rfl, a, iv [e], 0, .int e, rfl, rfl, SqL.of ha, ix0, _, rfl, o, C, z.dx, _, _, rfl, hO.o, T.cl, T.nC, ofF_claims _ _ _, z.c, _, rfl, .inl (SqL.of hO.c), e, _, rfl, rfl, _, rfl, ?_⟩
  rw [hcl]
  refine ite2 (fun c => ?_) (fun c => ?_)
  · have c := of_decide_eq_true c
    rw [if_pos c] at kb
    refine ⟨_, rfl, (by show 1 ≤ sizeLine; decide), fun r hr => ?_⟩
    refine spOp.same hO k (by rw [kb]) (Same.new hr) ?_ hr
    rw [kb]
    exact upd_same
  · have c : ¬ (m.claims.length : Int) ≤ e := fun h => c (decide_eq_true h)
    rw [if_neg c] at kb
    have he0 := he.1
    have hen : e.toNat < m.claims.length := by omega
    obtain ⟨p, hp, hq⟩ := hO.rc.has hen
    have hcI : atI (z.cs.map V.ref) e = some (.ref p) := atI_int he0 (by rw [List.getElem?_map, hp]; rfl)
    have eg : m.claims.getD e.toNat [] = m.claim e.toNat := rfl
    rw [eg] at hq
    have hc4 : (m.claim e.toNat).length = 4 := (hm.cg _ (getD_mem hen)).1
    refine ⟨_, rfl, o, C, z.dx, _, _, rfl, hO.o, T.cl, T.nC, ofF_claims _ _ _, _, rfl, a, iv [e], 0, .int e, rfl, rfl, SqL.of ha, ix0, z.c, _, e, _, rfl, rfl, SqL.of hO.c, hcI, ?_⟩
    refine ⟨_, rfl, _, rfl, o, p, z, m, m.claim e.toNat, rfl, hO, hm, hq, hc4, fun H1 g s1 hg h1 => ?_⟩
    have hkb2 : (fitN m.wrong m.things (m.claim e.toNat) m.things.length).length = (fitI m.wrong m.things (m.claim e.toNat) m.things.length).length := by rw [fitN_fitI, List.length_map]
    dsimp only at kb
    rw [hkb2] at kb
    have hat := @fitN_at m.wrong m.things (m.claim e.toNat) m.things.length
    have hL5 : (fitI m.wrong m.things (m.claim e.toNat) m.things.length).length ≤ 5 := Nat.le_trans (fitI_len _ _ _ _) hm.t5
    have hLt : ∀ t ∈ fitI m.wrong m.things (m.claim e.toNat) m.things.length, t < m.things.length := fun t ht => fitI_lt ht
    generalize fitI m.wrong m.things (m.claim e.toNat) m.things.length = L at h1 kb hat hL5 hLt hkb2
    generalize fitN m.wrong m.things (m.claim e.toNat) m.things.length = LN at kb hat hkb2
    refine ⟨_, rfl, g, _, rfl, .inl (SqL.of h1), (by show 1 ≤ sizeLine; decide), fun r hr => ?_⟩
    have hlen : (iv (zi L)).length = L.length := by unfold iv; rw [List.length_map, zi_len]
    rw [hlen]
    have hgr : g ≠ r := ne_of_none h1 hr
    have s2 : Same H1 (upd H1 r (.lst [.int (L.length : Int)])) := Same.new hr
    refine ⟨_, rfl, g, rfl, ⟨_, SqL.of (s2 _ _ h1)⟩, for_list (K := K) (a := g) (xs := iv (zi L)) (fun i σ H' => ∃ v5 : Option V, σ = [some (.ref o), some (.ref a), some (.ref p), some (.ref g), some (.ref r), v5] ∧ Same H1 H' ∧ H' r = some (.lst (iv ((L.length : Int) :: pairsI (LN.take i)))))
      ⟨none, rfl, s2, upd_same⟩ (fun i σ H' _ ⟨_, _, s3, _⟩ => SqL.of (s3 _ _ h1)) ?_ ?_⟩
    · rintro i x σ H' hx ⟨v5, rfl, s3, h3⟩
      obtain ⟨z', hz', rfl⟩ := iv_get hx
      obtain ⟨t, ht, rfl⟩ := zi_get hz'
      have htl := hLt t (List.mem_of_getElem? ht)
      obtain ⟨q, hq1, hq2⟩ := hO.rt.has htl
      have hti : atI (z.ts.map V.ref) (t : Int) = some (.ref q) := atI_int (Int.natCast_nonneg t) (by rw [Int.toNat_natCast, List.getElem?_map, hq1]; rfl)
      have hpl : (pairsI (LN.take i)).length ≤ 10 := by
        rw [pairsI_len, List.length_take]
        omega
      have s30 := s1.trans s3
      refine ⟨_, rfl, Or.inl ⟨rfl, _, Or.inl (Or.inl h3)⟩, _, rfl, r, _, _, rfl, rfl, h3, ?_, ?_⟩
      · unfold iv
        rw [List.length_map, List.length_cons]
        exact Nat.lt_of_le_of_lt (m := 11) (by omega) (by decide)
      have st : ∀ b x, H b = some x → b ≠ r := fun b x hb => ne_of_none (s1 _ _ hb) hr
      have s4 : Same H (upd H' r (.lst (iv ((L.length : Int) :: pairsI (LN.take i)) ++ [.int (t : Int)]))) := fun b x hb => by
        rw [upd_ne (st b x hb)]
        exact s30 _ _ hb
      refine ⟨_, rfl, Or.inl ⟨rfl, _, Or.inl (Or.inl upd_same)⟩, _, rfl, _, rfl, o, C, z.dx, _, _, rfl, s4 _ _ hO.o, T.cl, T.nT, ofF_things _ _ _, _, rfl, z.t, _, (t : Int), _, rfl, rfl, SqL.of (s4 _ _ hO.t), hti, ?_⟩
      refine ⟨p, q, _, _, rfl, s4 _ _ hq, s4 _ _ hq2, by rw [hc4, (hm.tg _ (getD_mem htl)).1], fun H3 s5 => ?_⟩
      refine ⟨r, _, _, rfl, rfl, s5 _ _ upd_same, ?_, ?_⟩
      · unfold iv
        rw [List.length_append, List.length_map, List.length_cons]
        exact Nat.lt_of_le_of_lt (m := 12) (by show _ + 1 + 1 ≤ 12; omega) (by decide)
      refine ⟨_, rfl, ?_, ?_⟩
      · intro b x hb
        have hbr : b ≠ r := ne_of_none hb hr
        rw [upd_ne hbr]
        refine s5 _ _ ?_
        rw [upd_ne hbr]
        exact s3 _ _ hb
      · rw [upd_same, take_more (hat ht), pairsI_append]
        refine congrArg (fun q => some (HO.lst q)) ?_
        show _ = iv (((L.length : Int) :: pairsI (LN.take i)) ++ pairsI [(t, errN (m.claim e.toNat) (m.things.getD t []))])
        rw [iv_append, List.append_assoc]
        rfl
    · rintro σ H' ⟨v5, rfl, s3, h3⟩
      refine ⟨_, rfl, ?_⟩
      rw [hlen, ← hkb2, List.take_length, hkb2] at h3
      have hr0 := s1.free hr
      refine spOp.same hO k (by rw [kb]) (s1.trans s3) ?_ hr0
      rw [kb]
      exact h3
end
end My
set_option Elab.async false
set_option maxRecDepth 100000
set_option maxHeartbeats 4000000
namespace My
open PySem PySem.Spec PyProof.Rows L2
theorem ne_dec (n k : Nat) : (!decide (V.int (n : Int) = V.int (k : Int))) = (n != k) := by
  rw [Bool.eq_iff_iff, Bool.not_eq_true', decide_eq_false_iff_not, bne_iff_ne]
  constructor
  · exact fun h e => h (by rw [e])
  · intro h e
    injection e with e
    omega
section
variable {P : Program} {w : World} {K : PySem.W.Frag} {mg : Str → Option Value} {base : Heap} {C D : Addr}
/-- given_out -/
def spGiven (C : Addr) : Sp := fun vs H Q _ => ∃ (o a : Addr) (z : Where) (m : M) (p : List Nat), vs = [.ref o, .ref a] ∧ OffAt C H o z m ∧ H a = some (.lst (iv (zi p))) ∧ ∀ H', Same H H' → Q (.int (m.given p)) H'
theorem ok_given {f : Addr} {fd : FuncData} (F : Fun K "given_out" "given_out" sGiven f fd) (T : Txt K mg C D) : FnOk P w K mg base CX0 1 f fd ["office", "plan"] (spGiven C) := by
  refine F.ok scGiven (fun vs H Q E h => ?_) (fun cdv A outer s H vs Q E hr h => ⟨_,
    pss_one (ps_ret (pe_op op_sub (pe_callB call_len_seq (by rfl) T.len PySem.boot_len (pa_cons (pv 1) pa_nil)) (pe_bm PySem.F.plainAttrs_list PySem.F.slot_list_count PySem.F.type_list_count mt_lcount (pv 1) (pa_cons (pe_callB call_len_seq (by rfl) T.len PySem.boot_len (pa_cons (pe_fld (pv 0) rfl) pa_nil)) pa_nil)))), ?_⟩)
  · obtain ⟨o, a, z, m, p, rfl, _⟩ := h
    rfl
  obtain ⟨o, a, z, m, p, rfl, hO, ha, k⟩ := h
  have hcl : (z.ts.map V.ref).length = m.things.length := by rw [List.length_map]; exact hO.rt.1
  have k' := k H (Same.refl H)
  rw [given_count] at k'
  refine ⟨_, rfl, a, _, rfl, .inl (SqL.of ha), _, rfl, Or.inl ⟨rfl, _, SqL.of ha⟩, _, rfl, o, C, z.dx, _, _, rfl, hO.o, T.cl, T.nT, ofF_things _ _ _, z.t, _, rfl, .inl (SqL.of hO.t), a, zi p, _, rfl, rfl, SqL.of ha, _, _, rfl, rfl, ?_⟩
  rw [hcl]
  unfold iv
  rw [List.length_map]
  exact k'
/-- errors_of -/
def spErrs (C : Addr) : Sp := fun vs H Q _ => ∃ (o a : Addr) (z : Where) (m : M) (p : List Nat), vs = [.ref o, .ref a] ∧ OffAt C H o z m ∧ m.Ok ∧ H a = some (.lst (iv (zi p))) ∧ p.length = m.claims.length ∧ (∀ t ∈ p, t ≤ m.things.length) ∧ ∀ H', Same H H' → Q (.int (m.cost p)) H'
theorem ok_errs {f fE : Addr} {fd fdE : FuncData} (F : Fun K "errors_of" "errors_of" sErrs f fd) (T : Txt K mg C D) (FE : Fun K "errors_about" "errors_about" sErrors fE fdE) (gE : mg "errors_about" = some (.ref fE)) (bE : Binds K fdE ["claim", "thing"] []) :
    FnOk P w K mg base CX0 2 f fd ["office", "plan"] (spErrs C) := by
  have GE : FnOk P w K mg base CX0 1 fE fdE ["claim", "thing"] spErrors := ok_errors FE T
  refine F.ok scErrs (fun vs H Q E h => ?_) (fun cdv A outer s H vs Q E hr h => ⟨_,
    pss_cons (ps_set (i := 2) scErrs.nd rfl (Or.inl rfl) pe_int)
    (pss_cons (ps_for PassesOwn.never rfl (pi_zip (by rfl) T.zip (pa_cons (pe_fld (pv 0) rfl) (pa_cons (pv 1) pa_nil))) (pg_tup rfl (pgs_cons (pg_name (i := 3) scErrs.nd rfl (Or.inl rfl)) (pgs_cons (pg_name (i := 4) scErrs.nd rfl (Or.inl rfl)) pgs_nil)))
      (pss_one (ps_if (pt_cmpR op_ne (pv 4) (pe_callB call_len_seq (by rfl) T.len PySem.boot_len (pa_cons (pe_fld (pv 0) rfl) pa_nil)) (nomark _))
        (pss_one (ps_aug (i := 2) scErrs.nd rfl (Or.inl rfl) (pe_call GE hr rfl gE FE.kp bE .nil pass0 (pa_cons (pv 3) (pa_cons (pe_ix ix_list (pe_fld (pv 0) rfl) (pv 4) (fun _ _ => rfl)) pa_nil))) ip_add)) pss_nil)))
    (pss_one (ps_ret (pv 2)))), ?_⟩)
  · obtain ⟨o, a, z, m, p, rfl, _⟩ := h
    rfl
  obtain ⟨o, a, z, m, p, rfl, hO, hm, ha, hl, hle, k⟩ := h
  have hcl : (z.ts.map V.ref).length = m.things.length := by rw [List.length_map]; exact hO.rt.1
  have hzl : (z.cs.map V.ref).length = (iv (zi p)).length := by
    unfold iv
    rw [List.length_map, List.length_map, zi_len, hO.rc.1, hl]
  refine ⟨_, rfl, o, C, z.dx, _, _, rfl, hO.o, T.cl, T.nC, ofF_claims _ _ _, _, rfl, z.c, a, _, _, rfl, SqL.of hO.c, SqL.of ha, ?_⟩
  refine RZ.for_zipL hzl (fun i σ H' => ∃ v3 v4 : Option V, σ = [some (.ref o), some (.ref a), some (.int (m.costTo p i)), v3, v4] ∧ Same H H')
    ⟨none, none, rfl, Same.refl H⟩ (fun i σ H' ⟨_, _, _, s1⟩ => ⟨SqL.of (s1 _ _ hO.c), SqL.of (s1 _ _ ha)⟩) ?_ ?_
  · rintro i x y T' σ H' hx hy ⟨v3, v4, rfl, s1⟩ hT
    obtain ⟨q, hq, rfl⟩ := refs_get hx
    obtain ⟨cl, hcl1, hcl2⟩ := hO.rc.at hq
    obtain ⟨n', hn', rfl⟩ := iv_get hy
    obtain ⟨n, hn, rfl⟩ := zi_get hn'
    have hmore := costTo_more m p i
    have hgd : p.getD i 0 = n := getD_of hn
    have hcg : m.claim i = cl := getD_of hcl1
    have hnl := hle n (List.mem_of_getElem? hn)
    have s2 : Same H (upd H' T' (.tup [.ref q, .int (n : Int)])) := s1.trans (Same.new hT)
    refine ⟨T', _, rfl, SqT.of upd_same, rfl, _, _, rfl, _, _, rfl, rfl, ?_⟩
    refine ⟨_, rfl, _, rfl, o, C, z.dx, _, _, rfl, s2 _ _ hO.o, T.cl, T.nT, ofF_things _ _ _, z.t, _, rfl, .inl (SqL.of (s2 _ _ hO.t)), rfl, _, rfl, ?_⟩
    rw [hcl]
    unfold M.costAt at hmore
    rw [hgd] at hmore
    rw [ne_dec]
    refine ite2 (fun d => ?_) (fun d => ?_)
    · have d : n ≠ m.things.length := bne_iff_ne.mp d
      rw [if_neg d] at hmore
      have hnt : n < m.things.length := by omega
      obtain ⟨q2, hq1, hq2⟩ := hO.rt.has hnt
      have hti : atI (z.ts.map V.ref) (n : Int) = some (.ref q2) := atI_int (Int.natCast_nonneg n) (by rw [Int.toNat_natCast, List.getElem?_map, hq1]; rfl)
      refine ⟨_, rfl, _, rfl, _, rfl, o, C, z.dx, _, _, rfl, s2 _ _ hO.o, T.cl, T.nT, ofF_things _ _ _, _, rfl, z.t, _, (n : Int), _, rfl, rfl, SqL.of (s2 _ _ hO.t), hti, ?_⟩
      refine ⟨q, q2, cl, _, rfl, s2 _ _ hcl2, s2 _ _ hq2, by rw [(hm.cg _ (List.mem_of_getElem? hcl1)).1, (hm.tg _ (getD_mem hnt)).1], fun H3 s5 => ?_⟩
      refine ⟨_, _, rfl, rfl, ?_⟩
      have e : m.err i n = errN cl (m.things.getD n []) := by
        unfold M.err
        rw [hcg]
        rfl
      exact ⟨some (.ref q), some (.int (n : Int)), by rw [hmore, e, Int.natCast_add]; rfl, s2.trans s5⟩
    · have d : n = m.things.length := Classical.byContradiction fun e => d (bne_iff_ne.mpr e)
      rw [if_pos d, Nat.add_zero] at hmore
      exact ⟨_, _, by rw [hmore]; rfl, s2⟩
  · rintro σ H' ⟨v3, v4, rfl, s1⟩
    refine ⟨_, rfl, ?_⟩
    have e : (z.cs.map V.ref).length = p.length := by rw [hzl]; unfold iv; rw [List.length_map, zi_len]
    rw [e]
    exact k H' s1
/-- first_unfit -/
def orNone (r : Option Nat) : V := match r with
  | some c => .int (c : Int)
  | none => .non
def spFirst (C : Addr) (q : M → List Nat → Nat → Bool) : Sp := fun vs H Q _ => ∃ (o a : Addr) (z : Where) (m : M) (p : List Nat), vs = [.ref o, .ref a] ∧ OffAt C H o z m ∧ m.Ok ∧ H a = some (.lst (iv (zi p))) ∧ p.length = m.claims.length ∧ (∀ t ∈ p, t ≤ m.things.length) ∧
  ∀ H', Same H H' → Q (orNone ((List.range p.length).find? (q m p))) H'
def unfitAt (m : M) (p : List Nat) (c : Nat) : Bool := p.getD c 0 != m.things.length && !m.fit c (p.getD c 0)
def againAt (m : M) (p : List Nat) (c : Nat) : Bool := p.getD c 0 != m.things.length && (p.take c).contains (p.getD c 0)
theorem ok_unfit {f fM fE : Addr} {fd fdM fdE : FuncData} (F : Fun K "first_unfit" "first_unfit" sUnfit f fd) (T : Txt K mg C D) (FM : Fun K "may_be" "may_be" sMay fM fdM) (gM : mg "may_be" = some (.ref fM)) (bM : Binds K fdM ["office", "claim", "thing"] [])
    (FE : Fun K "errors_about" "errors_about" sErrors fE fdE) (gE : mg "errors_about" = some (.ref fE)) (bE : Binds K fdE ["claim", "thing"] []) :
    FnOk P w K mg base CX0 3 f fd ["office", "plan"] (spFirst C unfitAt) := by
  have GM : FnOk P w K mg base CX0 2 fM fdM ["office", "claim", "thing"] (spMay C) := ok_may FM T FE gE bE
  refine F.ok scUnfit (fun vs H Q E h => ?_) (fun cdv A outer s H vs Q E hr h => ⟨_,
    pss_cons (ps_for PassesOwn.never rfl (pi_enum (by rfl) T.enum (pa_cons (pv 1) pa_nil)) (pg_tup rfl (pgs_cons (pg_name (i := 2) scUnfit.nd rfl (Or.inl rfl)) (pgs_cons (pg_name (i := 3) scUnfit.nd rfl (Or.inl rfl)) pgs_nil)))
      (pss_one (ps_if (PW.pt (pw_and (pt_cmpR op_ne (pv 3) (pe_callB call_len_seq (by rfl) T.len PySem.boot_len (pa_cons (pe_fld (pv 0) rfl) pa_nil)) (nomark _))
          (pw_and1 (pt_not (pt_val (pe_call GM hr rfl gM FM.kp bM .nil pass0 (pa_cons (pv 0) (pa_cons (pe_ix ix_list (pe_fld (pv 0) rfl) (pv 2) (fun _ _ => rfl)) (pa_cons (pe_ix ix_list (pe_fld (pv 0) rfl) (pv 3) (fun _ _ => rfl)) pa_nil)))))))))
        (pss_one (ps_ret (pv 2))) pss_nil)))
    (pss_one (ps_ret pe_non)), ?_⟩)
  · obtain ⟨o, a, z, m, p, rfl, _⟩ := h
    rfl
  obtain ⟨o, a, z, m, p, rfl, hO, hm, ha, hl, hle, k⟩ := h
  have hcl : (z.ts.map V.ref).length = m.things.length := by rw [List.length_map]; exact hO.rt.1
  have hpl : (iv (zi p)).length = p.length := by unfold iv; rw [List.length_map, zi_len]
  refine ⟨_, rfl, a, _, rfl, SqL.of ha, ?_⟩
  refine for_enumL (fun i σ H' => ∃ v2 v3 : Option V, σ = [some (.ref o), some (.ref a), v2, v3] ∧ Same H H' ∧ ∀ j, j < i → unfitAt m p j = false)
    ⟨none, none, rfl, Same.refl H, fun j hj => absurd hj (Nat.not_lt_zero j)⟩ (fun i σ H' ⟨_, _, _, s1, _⟩ => SqL.of (s1 _ _ ha)) ?_ ?_
  · rintro i x T' σ H' hx ⟨v2, v3, rfl, s1, hj⟩ hT
    obtain ⟨n', hn', rfl⟩ := iv_get hx
    obtain ⟨n, hn, rfl⟩ := zi_get hn'
    have hgd : p.getD i 0 = n := getD_of hn
    have hnl := hle n (List.mem_of_getElem? hn)
    have hip : i < p.length := (List.getElem?_eq_some_iff.mp hn).1
    have hic : i < m.claims.length := hl ▸ hip
    have s2 : Same H (upd H' T' (.tup [.int (i : Int), .int (n : Int)])) := s1.trans (Same.new hT)
    refine ⟨T', _, rfl, SqT.of upd_same, rfl, _, _, rfl, _, _, rfl, rfl, ?_⟩
    refine ⟨_, rfl, _, rfl, o, C, z.dx, _, _, rfl, s2 _ _ hO.o, T.cl, T.nT, ofF_things _ _ _, z.t, _, rfl, .inl (SqL.of (s2 _ _ hO.t)), rfl, _, rfl, ?_⟩
    rw [hcl, ne_dec]
    have more : unfitAt m p i = false → ∀ j, j < i + 1 → unfitAt m p j = false := fun q j hj2 => by
      by_cases e : j = i
      · rw [e]
        exact q
      · exact hj j (by omega)
    have hun : unfitAt m p i = (n != m.things.length && !m.fit i n) := by
      unfold unfitAt
      rw [hgd]
    cases b1 : (n != m.things.length) with
    | false =>
      rw [b1, Bool.false_and] at hun
      exact iteF (iteF ⟨_, _, rfl, s2, more hun⟩)
    | true =>
      have d : n ≠ m.things.length := bne_iff_ne.mp b1
      have hnt : n < m.things.length := by omega
      obtain ⟨q1, hq1, hq2⟩ := hO.rc.has hic
      obtain ⟨q3, hq3, hq4⟩ := hO.rt.has hnt
      have hci : atI (z.cs.map V.ref) (i : Int) = some (.ref q1) := atI_int (Int.natCast_nonneg i) (by rw [Int.toNat_natCast, List.getElem?_map, hq1]; rfl)
      have hti : atI (z.ts.map V.ref) (n : Int) = some (.ref q3) := atI_int (Int.natCast_nonneg n) (by rw [Int.toNat_natCast, List.getElem?_map, hq3]; rfl)
      refine iteT ⟨_, rfl, _, rfl, o, C, z.dx, _, _, rfl, s2 _ _ hO.o, T.cl, T.nC, ofF_claims _ _ _, _, rfl, z.c, _, (i : Int), _, rfl, rfl, SqL.of (s2 _ _ hO.c), hci, ?_⟩
      refine ⟨_, rfl, o, C, z.dx, _, _, rfl, s2 _ _ hO.o, T.cl, T.nT, ofF_things _ _ _, _, rfl, z.t, _, (n : Int), _, rfl, rfl, SqL.of (s2 _ _ hO.t), hti, ?_⟩
      refine ⟨o, q1, q3, z, m, _, _, rfl, hO.same s2, s2 _ _ hq2, s2 _ _ hq4, by rw [(hm.cg _ (getD_mem hic)).1, (hm.tg _ (getD_mem hnt)).1], fun H3 s5 => ?_⟩
      refine ⟨_, rfl, ?_⟩
      have ef : decide ((errN (m.claims.getD i []) (m.things.getD n []) : Int) ≤ m.wrong) = m.fit i n := rfl
      rw [ef]
      rw [b1, Bool.true_and] at hun
      cases b2 : m.fit i n with
      | true =>
        rw [b2] at hun
        exact iteF ⟨_, _, rfl, s2.trans s5, more hun⟩
      | false =>
        rw [b2] at hun
        refine iteT ⟨_, rfl, ?_⟩
        have e := find_range_some hip hun hj
        have k' := k _ (s2.trans s5)
        rw [e] at k'
        exact k'
  · rintro σ H' ⟨v2, v3, rfl, s1, hj⟩
    rw [hpl] at hj
    have k' := k _ s1
    rw [find_range_none hj] at k'
    exact k'
theorem inV_zi (n : Nat) : ∀ l : List Nat, inV (.int (n : Int)) (iv (zi l)) = l.contains n
  | [] => rfl
  | a :: l => by
    have ih := inV_zi n l
    show (eqV (.int (a : Int)) (.int (n : Int)) || inV (.int (n : Int)) (iv (zi l))) = (a :: l).contains n
    rw [ih, List.contains_cons]
    refine congrArg (· || _) ?_
    show decide ((a : Int) = (n : Int)) = _
    rw [Bool.eq_iff_iff, decide_eq_true_iff, beq_iff_eq]
    omega
theorem flat_iv (l : List Int) : (iv l).all flatV = true := by
  rw [List.all_eq_true]
  intro x hx
  obtain ⟨z, _, rfl⟩ := List.mem_map.mp hx
  rfl
theorem ok_twice {f : Addr} {fd : FuncData} (F : Fun K "first_twice" "first_twice" sTwice f fd) (T : Txt K mg C D) : FnOk P w K mg base CX0 1 f fd ["office", "plan"] (spFirst C againAt) := by
  refine F.ok scTwice (fun vs H Q E h => ?_) (fun cdv A outer s H vs Q E hr h => ⟨_,
    pss_cons (ps_for PassesOwn.never rfl (pi_enum (by rfl) T.enum (pa_cons (pv 1) pa_nil)) (pg_tup rfl (pgs_cons (pg_name (i := 2) scTwice.nd rfl (Or.inl rfl)) (pgs_cons (pg_name (i := 3) scTwice.nd rfl (Or.inl rfl)) pgs_nil)))
      (pss_one (ps_if (PW.pt (pw_and (pt_cmpR op_ne (pv 3) (pe_callB call_len_seq (by rfl) T.len PySem.boot_len (pa_cons (pe_fld (pv 0) rfl) pa_nil)) (nomark _))
          (pw_and1 (pt_cmpR op_in_seq (pv 3) (pe_slice sl_list (pv 1) po_none (po_some (pv 2))) (by rfl)))))
        (pss_one (ps_ret (pv 2))) pss_nil)))
    (pss_one (ps_ret pe_non)), ?_⟩)
  · obtain ⟨o, a, z, m, p, rfl, _⟩ := h
    rfl
  obtain ⟨o, a, z, m, p, rfl, hO, hm, ha, hl, hle, k⟩ := h
  have hcl : (z.ts.map V.ref).length = m.things.length := by rw [List.length_map]; exact hO.rt.1
  have hpl : (iv (zi p)).length = p.length := by unfold iv; rw [List.length_map, zi_len]
  refine ⟨_, rfl, a, _, rfl, SqL.of ha, ?_⟩
  refine for_enumL (fun i σ H' => ∃ v2 v3 : Option V, σ = [some (.ref o), some (.ref a), v2, v3] ∧ Same H H' ∧ ∀ j, j < i → againAt m p j = false)
    ⟨none, none, rfl, Same.refl H, fun j hj => absurd hj (Nat.not_lt_zero j)⟩ (fun i σ H' ⟨_, _, _, s1, _⟩ => SqL.of (s1 _ _ ha)) ?_ ?_
  · rintro i x T' σ H' hx ⟨v2, v3, rfl, s1, hj⟩ hT
    obtain ⟨n', hn', rfl⟩ := iv_get hx
    obtain ⟨n, hn, rfl⟩ := zi_get hn'
    have hgd : p.getD i 0 = n := getD_of hn
    have hip : i < p.length := (List.getElem?_eq_some_iff.mp hn).1
    have s2 : Same H (upd H' T' (.tup [.int (i : Int), .int (n : Int)])) := s1.trans (Same.new hT)
    refine ⟨T', _, rfl, SqT.of upd_same, rfl, _, _, rfl, _, _, rfl, rfl, ?_⟩
    refine ⟨_, rfl, _, rfl, o, C, z.dx, _, _, rfl, s2 _ _ hO.o, T.cl, T.nT, ofF_things _ _ _, z.t, _, rfl, .inl (SqL.of (s2 _ _ hO.t)), rfl, _, rfl, ?_⟩
    rw [hcl, ne_dec]
    have more : againAt m p i = false → ∀ j, j < i + 1 → againAt m p j = false := fun q j hj2 => by
      by_cases e : j = i
      · rw [e]
        exact q
      · exact hj j (by omega)
    have hun : againAt m p i = (n != m.things.length && (p.take i).contains n) := by
      unfold againAt
      rw [hgd]
    cases b1 : (n != m.things.length) with
    | false =>
      rw [b1, Bool.false_and] at hun
      exact iteF (iteF ⟨_, _, rfl, s2, more hun⟩)
    | true =>
      have cut : cutV (iv (zi p)) none (some (i : Int)) = iv (zi (p.take i)) := by
        unfold cutV
        rw [HT.sIx_none, HT.sIx_nat, List.drop_zero, Nat.sub_zero, Nat.min_eq_left (by omega)]
        unfold iv zi
        rw [← List.map_take, ← List.map_take]
      refine iteT ⟨_, rfl, _, rfl, _, rfl, _, rfl, a, _, rfl, SqL.of (s2 _ _ ha), fun b hb => ?_⟩
      rw [cut]
      have s3 := s2.trans (Same.new (o := .lst (iv (zi (p.take i)))) hb)
      refine ⟨b, _, rfl, .inl (SqL.of upd_same), rfl, flat_iv _, _, rfl, ?_⟩
      rw [b1, Bool.true_and] at hun
      rw [inV_zi]
      cases b2 : (p.take i).contains n with
      | false =>
        rw [b2] at hun
        exact iteF ⟨_, _, rfl, s3, more hun⟩
      | true =>
        rw [b2] at hun
        refine iteT ⟨_, rfl, ?_⟩
        have e := find_range_some hip hun hj
        have k' := k _ s3
        rw [e] at k'
        exact k'
  · rintro σ H' ⟨v2, v3, rfl, s1, hj⟩
    rw [hpl] at hj
    have k' := k _ s1
    rw [find_range_none hj] at k'
    exact k'
end
end My
set_option Elab.async false
set_option maxRecDepth 100000
set_option maxHeartbeats 4000000
namespace My
open PySem PySem.Spec PyProof.Rows L2
/-! ### check -/
theorem natne (x n : Nat) : ((x : Int) != (n : Int)) = (x != n) := by
  rw [Bool.eq_iff_iff, bne_iff_ne, bne_iff_ne]
  omega
theorem wrong_zi (m : M) (p : List Nat) (c : Nat) : m.wrongAt (zi p) c = unfitAt m p c := by
  unfold M.wrongAt unfitAt
  rw [getD_zi, natne, Int.toNat_natCast]
theorem contains_zi (l : List Nat) (n : Nat) : (zi l).contains (n : Int) = l.contains n := by
  rw [Bool.eq_iff_iff, List.contains_iff_mem, List.contains_iff_mem]
  exact zi_mem
theorem take_zi (l : List Nat) (n : Nat) : (zi l).take n = zi (l.take n) := by
  unfold zi
  rw [← List.map_take]
theorem twice_zi (m : M) (p : List Nat) (c : Nat) : m.twiceAt (zi p) c = againAt m p c := by
  unfold M.twiceAt againAt
  rw [getD_zi, natne, take_zi, contains_zi]
theorem check_zi (m : M) (p : List Nat) (h : m.told (zi p)) : m.check (zi p) = match (List.range p.length).find? (unfitAt m p) with
    | some c => [-6, (c : Int)]
    | none => match (List.range p.length).find? (againAt m p) with
      | some c => [-7, (c : Int)]
      | none => [(m.given p : Int), (m.cost p : Int)] := by
  unfold M.check
  rw [if_pos h, zi_len, zi_toNat, show m.wrongAt (zi p) = unfitAt m p from funext (wrong_zi m p), show m.twiceAt (zi p) = againAt m p from funext (twice_zi m p)]
  all_goals rfl
def gCheck (m : M) (ns : List Int) : M × List Int := (m, m.check ns)
section
variable {P : Program} {w : World} {K : PySem.W.Frag} {mg : Str → Option Value} {base : Heap} {C D : Addr}
theorem ok_check {f fU fW fV fR fM fE : Addr} {fd fdU fdW fdV fdR fdM fdE : FuncData} (F : Fun K "check" "check" sCheck f fd) (T : Txt K mg C D)
    (FU : Fun K "first_unfit" "first_unfit" sUnfit fU fdU) (gU : mg "first_unfit" = some (.ref fU)) (bU : Binds K fdU ["office", "plan"] [])
    (FW : Fun K "first_twice" "first_twice" sTwice fW fdW) (gW : mg "first_twice" = some (.ref fW)) (bW : Binds K fdW ["office", "plan"] [])
    (FV : Fun K "given_out" "given_out" sGiven fV fdV) (gV : mg "given_out" = some (.ref fV)) (bV : Binds K fdV ["office", "plan"] [])
    (FR : Fun K "errors_of" "errors_of" sErrs fR fdR) (gR : mg "errors_of" = some (.ref fR)) (bR : Binds K fdR ["office", "plan"] [])
    (FM : Fun K "may_be" "may_be" sMay fM fdM) (gM : mg "may_be" = some (.ref fM)) (bM : Binds K fdM ["office", "claim", "thing"] [])
    (FE : Fun K "errors_about" "errors_about" sErrors fE fdE) (gE : mg "errors_about" = some (.ref fE)) (bE : Binds K fdE ["claim", "thing"] []) :
    FnOk P w K mg base CX0 4 f fd ["office", "told"] (spOp C 4 gCheck) := by
  have GU : FnOk P w K mg base CX0 3 fU fdU ["office", "plan"] (spFirst C unfitAt) := ok_unfit FU T FM gM bM FE gE bE
  have GW : FnOk P w K mg base CX0 1 fW fdW ["office", "plan"] (spFirst C againAt) := ok_twice FW T
  have GV : FnOk P w K mg base CX0 1 fV fdV ["office", "plan"] (spGiven C) := ok_given FV T
  have GR : FnOk P w K mg base CX0 2 fR fdR ["office", "plan"] (spErrs C) := ok_errs FR T FE gE bE
  refine F.ok scCheck (fun vs H Q E h => ?_) (fun cdv A outer s H vs Q E hr h => ⟨_,
    pss_cons (ps_if (PW.pt (pw_or (pt_cmpR op_ne (pe_callB call_len_seq (by rfl) T.len PySem.boot_len (pa_cons (pv 1) pa_nil)) (pe_callB call_len_seq (by rfl) T.len PySem.boot_len (pa_cons (pe_fld (pv 0) rfl) pa_nil)) (nomark _))
      (pw_or1 (pt_cmpR op_gt (pe_callBK (cr_maxD rfl) (by rfl) T.max (by decide +kernel) (pa_cons (pv 1) pa_nil) (pk_cons pe_int pk_nil)) (pe_callB call_len_seq (by rfl) T.len PySem.boot_len (pa_cons (pe_fld (pv 0) rfl) pa_nil)) (nomark _)))))
      (pss_one (ps_ret (pe_lst (pa_cons (pe_un un_neg pe_int) pa_nil)))) pss_nil)
    (pss_cons (ps_set (i := 2) scCheck.nd rfl (Or.inl rfl) (pe_call GU hr rfl gU FU.kp bU .nil pass0 (pa_cons (pv 0) (pa_cons (pv 1) pa_nil))))
    (pss_cons (ps_if (pt_cmpR op_notN (pv 2) pe_non (nomark _)) (pss_one (ps_ret (pe_lst (pa_cons (pe_un un_neg pe_int) (pa_cons (pv 2) pa_nil))))) pss_nil)
    (pss_cons (ps_set (i := 3) scCheck.nd rfl (Or.inl rfl) (pe_call GW (hr.mono (by decide)) rfl gW FW.kp bW .nil pass0 (pa_cons (pv 0) (pa_cons (pv 1) pa_nil))))
    (pss_cons (ps_if (pt_cmpR op_notN (pv 3) pe_non (nomark _)) (pss_one (ps_ret (pe_lst (pa_cons (pe_un un_neg pe_int) (pa_cons (pv 3) pa_nil))))) pss_nil)
    (pss_one (ps_ret (pe_lst (pa_cons (pe_call GV (hr.mono (by decide)) rfl gV FV.kp bV .nil pass0 (pa_cons (pv 0) (pa_cons (pv 1) pa_nil)))
      (pa_cons (pe_call GR (hr.mono (by decide)) rfl gR FR.kp bR .nil pass0 (pa_cons (pv 0) (pa_cons (pv 1) pa_nil))) pa_nil))))))))), ?_⟩)
  · obtain ⟨o, a, z, m, ns, rfl, _⟩ := h
    rfl
  obtain ⟨o, a, z, m, ns, rfl, hO, hm, ha, haf, ok, k⟩ := h
  have hn0 : ∀ x ∈ ns, 0 ≤ x := fun x hx => (ok.nums x hx).1
  have hcl : (z.cs.map V.ref).length = m.claims.length := by rw [List.length_map]; exact hO.rc.1
  have htl : (z.ts.map V.ref).length = m.things.length := by rw [List.length_map]; exact hO.rt.1
  have hivl : (iv ns).length = ns.length := List.length_map _
  have fin : ∀ (H' : Hp) (r : Addr), Same H H' → H' r = some (.lst (iv (m.check ns))) → H r = none → Q (.ref r) H' := fun H' r s e n => spOp.same hO k rfl s e n
  refine ⟨_, rfl, a, _, rfl, .inl (SqL.of ha), _, rfl, o, C, z.dx, _, _, rfl, hO.o, T.cl, T.nC, ofF_claims _ _ _, z.c, _, rfl, .inl (SqL.of hO.c), rfl, _, rfl, ?_⟩
  rw [hcl, hivl, ne_dec]
  have no : ¬ m.told ns → ∀ (H' : Hp) (r : Addr), Same H H' → H' r = some (.lst (iv [-1])) → H r = none → Q (.ref r) H' := fun c H' r s e n => fin H' r s (by unfold M.check; rw [if_neg c]; exact e) n
  refine ite2 (fun c => ?_) (fun c => ?_)
  · have c : ns.length ≠ m.claims.length := bne_iff_ne.mp c
    refine iteT ⟨_, rfl, (by show 1 ≤ sizeLine; decide), fun r hr => ?_⟩
    exact no (fun t => c t.1) _ r (Same.new hr) upd_same hr
  have hlen : ns.length = m.claims.length := Classical.byContradiction fun e => c (bne_iff_ne.mpr e)
  refine ⟨_, rfl, a, ns, 0, rfl, rfl, SqL.of ha, fun x hx => ?_⟩
  refine ⟨_, rfl, o, C, z.dx, _, _, rfl, hO.o, T.cl, T.nT, ofF_things _ _ _, z.t, _, rfl, .inl (SqL.of hO.t), x, _, rfl, rfl, _, rfl, ?_⟩
  rw [htl]
  refine ite2 (fun d => ?_) (fun d => ?_)
  · have d : (m.things.length : Int) < x := of_decide_eq_true d
    refine ⟨_, rfl, (by show 1 ≤ sizeLine; decide), fun r hr => ?_⟩
    refine no (fun t => ?_) _ r (Same.new hr) upd_same hr
    rcases hx with ⟨hx, _⟩ | ⟨hx, _⟩
    · omega
    · have := t.2 x hx
      omega
  have d : ¬ (m.things.length : Int) < x := fun e => d (decide_eq_true e)
  have ht : m.told ns := ⟨hlen, fun y hy => by
    rcases hx with ⟨_, hx⟩ | ⟨_, hx⟩
    · rw [hx] at hy
      cases hy
    · have := hx y hy
      omega⟩
  have e0 : ns = zi (ns.map Int.toNat) := zi_of hn0
  generalize ns.map Int.toNat = p at e0
  subst e0
  have hpl : p.length = m.claims.length := by rw [← zi_len]; exact hlen
  have hple : ∀ t ∈ p, t ≤ m.things.length := fun t h => by
    have := ht.2 (t : Int) (zi_mem.mpr h)
    omega
  rw [check_zi m p ht] at fin
  refine ⟨_, rfl, _, rfl, o, a, z, m, p, rfl, hO, hm, ha, hpl, hple, fun H1 s1 => ?_⟩
  generalize (List.range p.length).find? (unfitAt m p) = r1 at fin
  cases r1 with
  | some c =>
    refine ⟨_, rfl, rfl, _, rfl, iteT ⟨_, rfl, _, rfl, (by show 2 ≤ sizeLine; decide), fun r hr => ?_⟩⟩
    exact fin _ r (s1.trans (Same.new hr)) upd_same (s1.free hr)
  | none =>
    refine ⟨_, rfl, rfl, _, rfl, iteF ⟨_, rfl, _, rfl, o, a, z, m, p, rfl, hO.same s1, hm, s1 _ _ ha, hpl, hple, fun H2 s2 => ?_⟩⟩
    generalize (List.range p.length).find? (againAt m p) = r2 at fin
    have s12 := s1.trans s2
    cases r2 with
    | some c =>
      refine ⟨_, rfl, rfl, _, rfl, iteT ⟨_, rfl, _, rfl, (by show 2 ≤ sizeLine; decide), fun r hr => ?_⟩⟩
      exact fin _ r (s12.trans (Same.new hr)) upd_same (s12.free hr)
    | none =>
      refine ⟨_, rfl, rfl, _, rfl, iteF ⟨_, rfl, _, rfl, o, a, z, m, p, rfl, hO.same s12, s12 _ _ ha, fun H3 s3 => ?_⟩⟩
      have s123 := s12.trans s3
      refine ⟨_, rfl, _, rfl, o, a, z, m, p, rfl, hO.same s123, hm, s123 _ _ ha, hpl, hple, fun H4 s4 => ?_⟩
      have s1234 := s123.trans s4
      refine ⟨(by show 2 ≤ sizeLine; decide), fun r hr => ?_⟩
      exact fin _ r (s1234.trans (Same.new hr)) upd_same (s1234.free hr)
end
end My
set_option Elab.async false
set_option maxRecDepth 100000
set_option maxHeartbeats 4000000
namespace My
open PySem PySem.Spec PyProof.Rows L2
theorem free_more {m : M} {p l : List Nat} {k x : Nat} (h : l[k]? = some x) : m.free p (l.take (k + 1)) = m.free p (l.take k) ++ if (x == m.things.length || !p.contains x) = true then [x] else [] := by
  unfold M.free
  rw [take_more h, List.filter_append]
  refine congrArg _ ?_
  cases e : (x == m.things.length || !p.contains x) with
  | true => rw [if_pos rfl, List.filter_cons, if_pos e]; rfl
  | false => rw [if_neg (by decide), List.filter_cons, e]; rfl
theorem free_le {m : M} {p l : List Nat} : (m.free p l).length ≤ l.length := List.length_filter_le ..
theorem free_mem {m : M} {p l : List Nat} {t : Nat} (h : t ∈ m.free p l) : t ∈ l := (List.mem_filter.mp h).1
theorem RowsAt.join {H : Hp} {ps qs : List Addr} {ls ks : List (List Int)} (h : RowsAt H ps ls) (g : RowsAt H qs ks) : RowsAt H (ps ++ qs) (ls ++ ks) := by
  refine ⟨by rw [List.length_append, List.length_append, h.1, g.1], fun i p x e1 e2 => ?_⟩
  by_cases c : i < ps.length
  · rw [List.getElem?_append_left c] at e1
    rw [List.getElem?_append_left (by rw [← h.1]; exact c)] at e2
    exact h.2 i p x e1 e2
  · rw [List.getElem?_append_right (by omega)] at e1
    rw [List.getElem?_append_right (by rw [← h.1]; omega), ← h.1] at e2
    exact g.2 _ p x e1 e2
theorem flat_more {α β : Type} {f : α → List β} {l : List α} {i : Nat} {x : α} (h : l[i]? = some x) : (l.take (i + 1)).flatMap f = (l.take i).flatMap f ++ f x := by
  rw [take_more h, List.flatMap_append, List.flatMap_singleton]
theorem flat_six {α β : Type} {f : α → List β} : ∀ {l : List α}, (∀ x ∈ l, (f x).length ≤ 6) → (l.flatMap f).length ≤ 6 * l.length
  | [], _ => Nat.zero_le _
  | a :: l, h => by
    have := flat_six (l := l) fun x hx => h x (List.mem_cons_of_mem _ hx)
    have := h a List.mem_cons_self
    rw [List.flatMap_cons, List.length_append, List.length_cons]
    omega
theorem longer_len {m : M} (k : m.Ok) (c : Nat) (p : List Nat) : (m.longer c p).length ≤ 6 := by
  unfold M.longer
  rw [List.length_map]
  have := free_le (m := m) (p := p) (l := m.numbers c)
  have := numbers_len m c
  have := k.t5
  omega
theorem big6 : 6 * 7776 + 6 < sizeLine := by decide
theorem op_notIn_K {X : Cx} {K : PySem.W.Frag} (hK : X.K = K) : OpR X (compareOp .NotIn) (rIn K true) := hK ▸ op_notIn_seq
section
variable {P : Program} {w : World} {K : PySem.W.Frag} {mg : Str → Option Value} {base : Heap} {C D : Addr}
/-- possible_plans -/
def spPlans (C : Addr) : Sp := fun vs H Q _ => ∃ (o : Addr) (z : Where) (m : M), vs = [.ref o] ∧ OffAt C H o z m ∧ m.Ok ∧
  ∀ (H' : Hp) (r : Addr) (ps : List Addr), Same H H' → H r = none → H' r = some (.lst (ps.map V.ref)) → RowsAt H' ps (m.plans.map zi) → Q (.ref r) H'
theorem ok_plans {f fG fM fE : Addr} {fd fdG fdM fdE : FuncData} (F : Fun K "possible_plans" "possible_plans" sPlans f fd) (T : Txt K mg C D) (FG : Fun K "fitting" "fitting" sFitting fG fdG) (gG : mg "fitting" = some (.ref fG)) (bG : Binds K fdG ["office", "claim"] [])
    (FM : Fun K "may_be" "may_be" sMay fM fdM) (gM : mg "may_be" = some (.ref fM)) (bM : Binds K fdM ["office", "claim", "thing"] [])
    (FE : Fun K "errors_about" "errors_about" sErrors fE fdE) (gE : mg "errors_about" = some (.ref fE)) (bE : Binds K fdE ["claim", "thing"] []) :
    FnOk P w K mg base CX0 4 f fd ["office"] (spPlans C) := by
  have GG : FnOk P w K mg base CX0 3 fG fdG ["office", "claim"] (spFitting C) := ok_fitting FG T FM gM bM FE gE bE
  refine F.ok scPlans (fun vs H Q E h => ?_) (fun cdv A outer s H vs Q E hr h => ⟨_,
    pss_cons (ps_set (i := 1) scPlans.nd rfl (Or.inr rfl) (pe_callB call_len_seq (by rfl) T.len PySem.boot_len (pa_cons (pe_fld (pv 0) rfl) pa_nil)))
    (pss_cons (ps_set (i := 2) scPlans.nd rfl (Or.inl rfl) (pe_lst (pa_cons (pe_lst pa_nil) pa_nil)))
    (pss_cons (ps_for PassesOwn.never rfl (pi_list (pe_fld (pv 0) rfl)) (pg_name (i := 3) scPlans.nd rfl (Or.inl rfl))
      (pss_cons (ps_set (i := 4) scPlans.nd rfl (Or.inl rfl) (pe_op op_cat (pe_call GG hr rfl gG FG.kp bG .nil pass0 (pa_cons (pv 0) (pa_cons (pv 3) pa_nil))) (pe_lst (pa_cons (pv 1) pa_nil))))
      (pss_cons (ps_set (i := 5) scPlans.nd rfl (Or.inl rfl) (pe_lst pa_nil))
      (pss_cons (ps_for PassesOwn.never rfl (pi_list (pv 2)) (pg_name (i := 6) scPlans.nd rfl (Or.inr rfl))
        (pss_cons (ps_setLc (i := 7) (own := [("number", 8)]) rfl scPlans.nd rfl rfl (sw_true rfl rfl rfl (by decide +kernel)) (pi_list (pv 4)) (blkOk_by (N := ["office", "none", "plans", "claim", "numbers", "longer", "plan", "free", "number"]) (sc := defScope sPlans) (by decide +kernel))
          (fun _ _ _ _ _ => pg_nm (i := 8) scPlans.nd rfl (Or.inl rfl) (Or.inr rfl))
          (fun _ _ _ _ _ => pts_one (PW.pt (pw_or (pt_cmpR op_eq (pv 8) (pv 1) (nomark _)) (pw_or1 (pt_cmpR (op_notIn_K (K := K) rfl) (pv 8) (pv 6) (by rfl)))))) (fun _ _ _ _ _ => pv 8))
        (pss_one (ps_expr (pe_bm PySem.F.plainAttrs_list PySem.F.slot_list_extend PySem.F.type_list_extend mt_extend (pv 5) (pa_cons
          (pe_lc (own := [("number", 8)]) (tt := tYes) rfl scPlans.nd (pi_list (pv 7)) (blkOk_by (N := ["office", "none", "plans", "claim", "numbers", "longer", "plan", "free", "number"]) (sc := defScope sPlans) (by decide +kernel))
            (fun _ _ _ _ _ => pg_nm (i := 8) scPlans.nd rfl (Or.inl rfl) (Or.inr rfl)) (fun _ _ _ _ _ => pts_nil) (fun _ _ _ _ _ => pe_op op_cat (pv 6) (pe_lst (pa_cons (pv 8) pa_nil)))) pa_nil))))))
      (pss_one (ps_set (i := 2) scPlans.nd rfl (Or.inl rfl) (pv 5)))))))
    (pss_one (ps_ret (pv 2))))), ?_⟩)
  · obtain ⟨o, z, m, rfl, _⟩ := h
    rfl
  obtain ⟨o, z, m, rfl, hO, hm, k⟩ := h
  have htl : (z.ts.map V.ref).length = m.things.length := by rw [List.length_map]; exact hO.rt.1
  have hcl : (z.cs.map V.ref).length = m.claims.length := by rw [List.length_map]; exact hO.rc.1
  refine ⟨_, rfl, o, C, z.dx, _, _, rfl, hO.o, T.cl, T.nT, ofF_things _ _ _, z.t, _, rfl, .inl (SqL.of hO.t), ?_⟩
  rw [htl]
  refine ⟨(by show 0 ≤ sizeLine; exact Nat.zero_le _), fun e0 he0 => ?_⟩
  have s0 : Same H (upd H e0 (.lst [])) := Same.new he0
  refine ⟨(by show 1 ≤ sizeLine; decide), fun r0 hr0 => ?_⟩
  have s1 := s0.trans (Same.new (o := .lst [.ref e0]) hr0)
  have her : e0 ≠ r0 := fun q => by rw [← q, upd_same] at hr0; cases hr0
  refine ⟨_, rfl, o, C, z.dx, _, _, rfl, s1 _ _ hO.o, T.cl, T.nC, ofF_claims _ _ _, z.c, rfl, ⟨_, SqL.of (s1 _ _ hO.c)⟩, ?_⟩
  refine for_list (K := K) (a := z.c) (xs := z.cs.map V.ref) (fun i σ H' => ∃ (v3 v4 v5 v6 v7 v8 : Option V) (r : Addr) (ps : List Addr), σ = [some (.ref o), some (.int (m.things.length : Int)), some (.ref r), v3, v4, v5, v6, v7, v8] ∧
      Same H H' ∧ H r = none ∧ H' r = some (.lst (ps.map V.ref)) ∧ RowsAt H' ps ((m.level i).map zi)) ?_ (fun i σ H' _ ⟨_, _, _, _, _, _, _, _, _, s1, _⟩ => SqL.of (s1 _ _ hO.c)) ?_ ?_
  · refine ⟨none, none, none, none, none, none, r0, [e0], rfl, s1, s0.free hr0, upd_same, rfl, fun i p l e1 e2 => ?_⟩
    cases i with
    | zero =>
      cases e1
      cases e2
      rw [upd_ne her]
      exact upd_same
    | succ i => cases e1
  · rintro i x σ H1 hx ⟨v3, v4, v5, v6, v7, v8, r, ps, rfl, s1, hrn, hr1, hps⟩
    obtain ⟨q, hq, rfl⟩ := refs_get hx
    obtain ⟨cl, hcl1, hcl2⟩ := hO.rc.at hq
    have hic : i < m.claims.length := (List.getElem?_eq_some_iff.mp hcl1).1
    have hcg : m.claim i = cl := getD_of hcl1
    have hc4 := (hm.cg _ (List.mem_of_getElem? hcl1)).1
    refine ⟨_, rfl, _, rfl, o, q, z, m, cl, rfl, hO.same s1, hm, s1 _ _ hcl2, hc4, fun H2 g s2 hg hg2 => ?_⟩
    refine ⟨_, rfl, (by show 1 ≤ sizeLine; decide), fun b hb => ?_⟩
    have s3 : Same H2 (upd H2 b (.lst [.int (m.things.length : Int)])) := Same.new hb
    refine ⟨g, b, _, _, rfl, rfl, s3 _ _ hg2, upd_same, ?_, fun nb hnb => ?_⟩
    · unfold iv
      rw [List.length_map, zi_len]
      have := fitI_len m.wrong m.things cl m.things.length
      have := hm.t5
      exact Nat.le_trans (m := 6) (by show _ + 1 ≤ 6; omega) (by decide)
    have enum : iv (zi (fitI m.wrong m.things cl m.things.length)) ++ [V.int (m.things.length : Int)] = iv (zi (m.numbers i)) := by
      unfold M.numbers
      rw [hcg, zi_append]
      unfold iv
      rw [List.map_append]
      rfl
    rw [enum]
    have hnl : ∀ t ∈ m.numbers i, t ≤ m.things.length := fun t h => numbers_le h
    have hnlen : (m.numbers i).length ≤ 6 := Nat.le_trans (numbers_len m i) (by have := hm.t5; omega)
    have s4 := s3.trans (Same.new (o := .lst (iv (zi (m.numbers i)))) hnb)
    have s5 : Same H1 _ := s2.trans s4
    have s6 : Same H _ := s1.trans s5
    have hN0 : (upd (upd H2 b (.lst [.int (m.things.length : Int)])) nb (.lst (iv (zi (m.numbers i))))) nb = some (.lst (iv (zi (m.numbers i)))) := upd_same
    generalize (upd (upd H2 b (.lst [.int (m.things.length : Int)])) nb (.lst (iv (zi (m.numbers i))))) = H3 at s4 s5 s6 hN0
    refine ⟨(by show 0 ≤ sizeLine; exact Nat.zero_le _), fun L hL => ?_⟩
    have s7 : Same H3 (upd H3 L (.lst [])) := Same.new hL
    refine ⟨_, rfl, r, rfl, ⟨_, SqL.of (s7 _ _ (s5 _ _ hr1))⟩, ?_⟩
    refine for_list (K := K) (a := r) (xs := ps.map V.ref) (fun j σ H' => ∃ (v6 v7 v8 : Option V) (qs : List Addr), σ = [some (.ref o), some (.int (m.things.length : Int)), some (.ref r), some (.ref q), some (.ref nb), some (.ref L), v6, v7, v8] ∧
      Same H3 H' ∧ H' L = some (.lst (qs.map V.ref)) ∧ RowsAt H' qs ((((m.level i).take j).flatMap (m.longer i)).map zi) ∧ ∀ p ∈ qs, p ≠ L) ?_ (fun j σ H' _ ⟨_, _, _, _, _, s, _⟩ => SqL.of (s _ _ (s5 _ _ hr1))) ?_ ?_
    · exact ⟨v6, v7, v8, [], rfl, s7, upd_same, ⟨rfl, fun _ _ _ h => nomatch h⟩, fun _ h => nomatch h⟩
    · rintro j x σ H4 hx ⟨w6, w7, w8, qs, rfl, s8, hL4, hqs, hqL⟩
      obtain ⟨p, hp, rfl⟩ := refs_get hx
      obtain ⟨l', hl', hpl⟩ := hps.at hp
      rw [List.getElem?_map] at hl'
      obtain ⟨l, hl, rfl⟩ : ∃ l, (m.level i)[j]? = some l ∧ zi l = l' := by
        cases e : (m.level i)[j]? with
        | none => rw [e] at hl'; cases hl'
        | some l => rw [e] at hl'; exact ⟨l, rfl, Option.some.inj hl'⟩
      have hp3 := s5 _ _ hpl
      have hli : l.length = i := (level_mem m (List.mem_of_getElem? hl)).1
      have hc5 := hm.c5
      have hn8 : ∀ (H' : Hp), Same H3 H' → SqL K H' nb (iv (zi (m.numbers i))) := fun H' s => SqL.of (s _ _ hN0)
      have hnv : (iv (zi (m.numbers i))).length = (m.numbers i).length := by unfold iv; rw [List.length_map, zi_len]
      refine ⟨_, rfl, nb, rfl, ⟨_, hn8 _ s8⟩, fun D1 hD1 => ?_⟩
      refine lc_list (K := K) (a := nb) (xs := iv (zi (m.numbers i))) (fun k H' => Same H4 H' ∧ H' D1 = some (.lst (iv (zi (m.free l ((m.numbers i).take k)))))) ⟨Same.new hD1, upd_same⟩ (fun k H' _ ⟨s, _⟩ => hn8 _ (s8.trans s)) ?_ ?_
      · rintro t' x H5 hx ⟨s9, hd⟩
        obtain ⟨n', hn', rfl⟩ := iv_get hx
        obtain ⟨n, hn, rfl⟩ := zi_get hn'
        have em := free_more (m := m) (p := l) hn
        have hp5 := s9 _ _ (s8 _ _ hp3)
        refine ⟨rfl, ?_⟩
        refine ⟨_, rfl, _, rfl, rfl, _, rfl, ?_⟩
        have keep : (n == m.things.length || !l.contains n) = true → ∃ acc, H5 D1 = some (.lst acc) ∧ acc.length < sizeLine ∧ (Same H4 (upd H5 D1 (.lst (acc ++ [.int (n : Int)]))) ∧ (upd H5 D1 (.lst (acc ++ [.int (n : Int)]))) D1 = some (.lst (iv (zi (m.free l ((m.numbers i).take (t' + 1))))))) := fun c => by
          rw [if_pos c] at em
          refine ⟨_, hd, ?_, ?_, ?_⟩
          · unfold iv
            rw [List.length_map, zi_len]
            have := free_le (m := m) (p := l) (l := (m.numbers i).take t')
            rw [List.length_take] at this
            exact Nat.lt_of_le_of_lt (m := 6) (by omega) (by decide)
          · intro b x e
            rw [upd_ne (ne_of_none e hD1)]
            exact s9 _ _ e
          · rw [upd_same, em, zi_append]
            unfold iv
            rw [List.map_append]
            rfl
        refine ite2 (fun c => ?_) (fun c => ?_)
        · have c := of_decide_eq_true c
          injection c with c
          have c : n = m.things.length := by omega
          exact iteT ⟨_, rfl, keep (by rw [c, beq_self_eq_true, Bool.true_or])⟩
        · have c : (n == m.things.length) = false := by
            rw [beq_eq_false_iff_ne]
            exact fun e => c (decide_eq_true (by rw [e]))
          refine ⟨_, rfl, _, rfl, p, _, rfl, .inl (SqL.of hp5), rfl, flat_iv _, _, rfl, ?_⟩
          rw [inV_zi]
          rw [c, Bool.false_or] at keep em
          cases d : l.contains n with
          | true =>
            rw [d, if_neg (by decide), List.append_nil] at em
            refine iteF ⟨s9, ?_⟩
            rw [em]
            exact hd
          | false => exact iteT ⟨_, rfl, keep (by rw [d]; rfl)⟩
      · rintro H5 ⟨s9, hd⟩
        rw [hnv, List.take_length] at hd
        have s10 := s8.trans s9
        have hF : ∀ t ∈ m.free l (m.numbers i), t ∈ m.numbers i := fun t h => free_mem h
        have hF6 : (m.free l (m.numbers i)).length ≤ 6 := Nat.le_trans free_le hnlen
        have hlong : m.longer i l = (m.free l (m.numbers i)).map fun t => l ++ [t] := rfl
        have hmore := flat_more (f := m.longer i) hl
        rw [hlong] at hmore
        generalize m.free l (m.numbers i) = Fr at hd hF hF6 hmore
        have hfv : (iv (zi Fr)).length = Fr.length := by unfold iv; rw [List.length_map, zi_len]
        have hL5 : H5 L = some (.lst (qs.map V.ref)) := s9 _ _ hL4
        refine ⟨_, rfl, Or.inl ⟨rfl, _, Or.inl (Or.inl hL5)⟩, _, rfl, D1, rfl, ⟨_, SqL.of hd⟩, fun D2 hD2 => ?_⟩
        refine lc_list (K := K) (a := D1) (xs := iv (zi Fr)) (fun k H' => ∃ qs2 : List Addr, Same H5 H' ∧ H' D2 = some (.lst (qs2.map V.ref)) ∧ RowsAt H' qs2 (((Fr.take k).map fun t => l ++ [t]).map zi) ∧ ∀ p ∈ qs2, H5 p = none ∧ p ≠ D2)
          ⟨[], Same.new hD2, upd_same, ⟨rfl, fun _ _ _ h => nomatch h⟩, fun _ h => nomatch h⟩ (fun k H' _ ⟨_, s, _⟩ => SqL.of (s _ _ hd)) ?_ ?_
        · rintro t' x H6 hx ⟨qs2, s11, hd2, hrows, hnew⟩
          obtain ⟨n', hn', rfl⟩ := iv_get hx
          obtain ⟨n, hn, rfl⟩ := zi_get hn'
          have hp6 := s11 _ _ (s10 _ _ hp3)
          refine ⟨rfl, _, rfl, _, rfl, (by show 1 ≤ sizeLine; decide), fun b2 hb2 => ?_⟩
          have s12 := s11.trans (Same.new (o := .lst [.int (n : Int)]) hb2)
          refine ⟨p, b2, _, _, rfl, rfl, s12 _ _ (s10 _ _ hp3), upd_same, ?_, fun np hnp => ?_⟩
          · unfold iv
            rw [List.length_map, zi_len, hli]
            exact Nat.le_trans (m := 6) (by show _ + 1 ≤ 6; omega) (by decide)
          have s67 : Same H6 (upd (upd H6 b2 (.lst [.int (n : Int)])) np (.lst (iv (zi l) ++ [.int (n : Int)]))) := (Same.new hb2).trans (Same.new hnp)
          have hnD : np ≠ D2 := fun e => by
            rw [e, upd_ne (ne_of_none hd2 hb2), hd2] at hnp
            cases hnp
          refine ⟨qs2.map V.ref, s67 _ _ hd2, ?_, qs2 ++ [np], ?_, ?_, ?_, ?_⟩
          · rw [List.length_map, hrows.1, List.length_map, List.length_map, List.length_take]
            exact Nat.lt_of_le_of_lt (m := 6) (by omega) (by decide)
          · intro y u e
            rw [upd_ne (ne_of_none e hD2)]
            exact s67 _ _ (s11 _ _ e)
          · rw [upd_same, List.map_append]
            rfl
          · rw [take_more hn, List.map_append, List.map_append]
            refine RowsAt.push (hrows.keep fun y hy u e => ?_) ?_
            · rw [upd_ne (hnew y hy).2]
              exact s67 _ _ e
            · rw [upd_ne hnD, upd_same, zi_append]
              unfold iv
              rw [List.map_append]
              rfl
          · intro y hy
            rcases List.mem_append.mp hy with e | e
            · exact hnew y e
            · cases List.mem_singleton.mp e
              exact ⟨s12.free hnp, hnD⟩
        · rintro H6 ⟨qs2, s11, hd2, hrows, hnew⟩
          rw [hfv, List.take_length] at hrows
          have hq2 : qs2.length ≤ 6 := by
            rw [hrows.1, List.length_map, List.length_map]
            exact hF6
          have hq1 : qs.length ≤ 6 * 7776 := by
            rw [hqs.1, List.length_map]
            refine Nat.le_trans (flat_six fun x _ => longer_len hm i x) (Nat.mul_le_mul_left 6 ?_)
            exact Nat.le_trans (List.length_take_le' ..) (level_len hm (by have := hm.c5; omega))
          refine ⟨L, D2, _, _, rfl, rfl, s11 _ _ hL5, hd2, ?_, ?_⟩
          · rw [List.length_map, List.length_map]
            have := big6
            omega
          · refine ⟨_, _, _, qs ++ qs2, rfl, ?_, ?_, ?_, ?_⟩
            · intro y u e
              rw [upd_ne (ne_of_none e hL)]
              exact s11 _ _ (s10 _ _ e)
            · rw [upd_same, List.map_append]
            · rw [hmore, List.map_append]
              refine RowsAt.join (hqs.keep fun y hy u e => ?_) (hrows.keep fun y hy u e => ?_)
              · rw [upd_ne (hqL y hy)]
                exact s11 _ _ (s9 _ _ e)
              · rw [upd_ne (fun q => by
                  have := (hnew y hy).1
                  rw [q, hL5] at this
                  cases this)]
                exact e
            · intro y hy
              rcases List.mem_append.mp hy with e | e
              · exact hqL y e
              · intro q
                have := (hnew y e).1
                rw [q, hL5] at this
                cases this
    · rintro σ H4 ⟨w6, w7, w8, qs, rfl, s8, hL4, hqs, hqL⟩
      refine ⟨_, rfl, ?_⟩
      have e1 : (ps.map V.ref).length = (m.level i).length := by rw [List.length_map, hps.1, List.length_map]
      rw [e1, List.take_length, ← level_succ] at hqs
      exact ⟨_, _, _, _, _, _, L, qs, rfl, s6.trans s8, s6.free hL, hL4, hqs⟩
  · rintro σ H1 ⟨v3, v4, v5, v6, v7, v8, r, ps, rfl, s1, hrn, hr1, hps⟩
    refine ⟨_, rfl, ?_⟩
    rw [hcl] at hps
    exact k _ r ps s1 hrn hr1 hps
end
end My
set_option Elab.async false
set_option maxRecDepth 100000
set_option maxHeartbeats 4000000
namespace My
open PySem PySem.Spec PyProof.Rows L2
theorem filt_more {α : Type} {q : α → Bool} {l : List α} {k : Nat} {x : α} (h : l[k]? = some x) : (l.take (k + 1)).filter q = (l.take k).filter q ++ if q x = true then [x] else [] := by
  rw [take_more h, List.filter_append]
  refine congrArg _ ?_
  cases e : q x with
  | true => rw [if_pos rfl, List.filter_cons, if_pos e]; rfl
  | false => rw [if_neg (by decide), List.filter_cons, e]; rfl
theorem rows_zi {H : Hp} {ps : List Addr} {L : List (List Nat)} (h : RowsAt H ps (L.map zi)) {i : Nat} {p : Addr} (hp : ps[i]? = some p) : ∃ l, L[i]? = some l ∧ H p = some (.lst (iv (zi l))) := by
  obtain ⟨l', hl', hpl⟩ := h.at hp
  rw [List.getElem?_map] at hl'
  cases e : L[i]? with
  | none => rw [e] at hl'; cases hl'
  | some l =>
    rw [e] at hl'
    cases Option.some.inj hl'
    exact ⟨l, rfl, hpl⟩
theorem iv_zi_len (l : List Nat) : (iv (zi l)).length = l.length := by unfold iv; rw [List.length_map, zi_len]
theorem most_of {m : M} {x : Int} (h1 : x ∈ zi (m.plans.map m.given)) (h2 : ∀ y ∈ zi (m.plans.map m.given), y ≤ x) : ∃ g : Nat, x = (g : Int) ∧ m.Most g := by
  obtain ⟨g, hg, rfl⟩ := List.mem_map.mp h1
  refine ⟨g, rfl, fun p hp => ?_, ?_⟩
  · have := h2 (m.given p : Int) (zi_mem.mpr (List.mem_map_of_mem hp))
    omega
  · obtain ⟨p, hp, e⟩ := List.mem_map.mp hg
    exact ⟨p, hp, e⟩
section
variable {P : Program} {w : World} {K : PySem.W.Frag} {mg : Str → Option Value} {base : Heap} {C D : Addr}
/-- full_plans -/
def spFull (C : Addr) : Sp := fun vs H Q _ => ∃ (o : Addr) (z : Where) (m : M), vs = [.ref o] ∧ OffAt C H o z m ∧ m.Ok ∧
  ∀ (H' : Hp) (r : Addr) (ps : List Addr) (g : Nat), Same H H' → H r = none → H' r = some (.lst (ps.map V.ref)) → m.Most g → RowsAt H' ps ((m.plans.filter fun p => m.given p == g).map zi) → Q (.ref r) H'
theorem ok_full {f fP fV fG fM fE : Addr} {fd fdP fdV fdG fdM fdE : FuncData} (F : Fun K "full_plans" "full_plans" sFull f fd) (T : Txt K mg C D) (FP : Fun K "possible_plans" "possible_plans" sPlans fP fdP) (gP : mg "possible_plans" = some (.ref fP)) (bP : Binds K fdP ["office"] [])
    (FV : Fun K "given_out" "given_out" sGiven fV fdV) (gV : mg "given_out" = some (.ref fV)) (bV : Binds K fdV ["office", "plan"] [])
    (FG : Fun K "fitting" "fitting" sFitting fG fdG) (gG : mg "fitting" = some (.ref fG)) (bG : Binds K fdG ["office", "claim"] [])
    (FM : Fun K "may_be" "may_be" sMay fM fdM) (gM : mg "may_be" = some (.ref fM)) (bM : Binds K fdM ["office", "claim", "thing"] [])
    (FE : Fun K "errors_about" "errors_about" sErrors fE fdE) (gE : mg "errors_about" = some (.ref fE)) (bE : Binds K fdE ["claim", "thing"] []) :
    FnOk P w K mg base CX0 5 f fd ["office"] (spFull C) := by
  have GP : FnOk P w K mg base CX0 4 fP fdP ["office"] (spPlans C) := ok_plans FP T FG gG bG FM gM bM FE gE bE
  have GV : FnOk P w K mg base CX0 1 fV fdV ["office", "plan"] (spGiven C) := ok_given FV T
  refine F.ok scFull (fun vs H Q E h => ?_) (fun cdv A outer s H vs Q E hr h => ⟨_,
    pss_cons (ps_set (i := 1) scFull.nd rfl (Or.inl rfl) (pe_call GP hr rfl gP FP.kp bP .nil pass0 (pa_cons (pv 0) pa_nil)))
    (pss_cons (ps_set (i := 2) scFull.nd rfl (Or.inr rfl) (pe_callB (cr_max rfl) (by rfl) T.max (by decide +kernel) (pa_cons
      (pe_lc (own := [("plan", 3)]) (tt := tYes) rfl scFull.nd (pi_list (pv 1)) (blkOk_by (N := ["office", "plans", "most", "plan"]) (sc := defScope sFull) (by decide +kernel))
        (fun _ _ _ _ _ => pg_nm (i := 3) scFull.nd rfl (Or.inl rfl) (Or.inr rfl)) (fun _ _ _ _ _ => pts_nil) (fun _ _ _ _ _ => pe_call GV (hr.mono (by decide)) rfl gV FV.kp bV .nil pass0 (pa_cons (pv 0) (pa_cons (pv 3) pa_nil)))) pa_nil)))
    (pss_one (ps_ret (pe_lc (own := [("plan", 3)]) rfl scFull.nd (pi_list (pv 1)) (blkOk_by (N := ["office", "plans", "most", "plan"]) (sc := defScope sFull) (by decide +kernel))
        (fun _ _ _ _ _ => pg_nm (i := 3) scFull.nd rfl (Or.inl rfl) (Or.inr rfl)) (fun _ _ _ _ _ => pts_one (pt_cmpR op_eq (pe_call GV (hr.mono (by decide)) rfl gV FV.kp bV .nil pass0 (pa_cons (pv 0) (pa_cons (pv 3) pa_nil))) (pv 2) (nomark _))) (fun _ _ _ _ _ => pv 3))))), ?_⟩)
  · obtain ⟨o, z, m, rfl, _⟩ := h
    rfl
  obtain ⟨o, z, m, rfl, hO, hm, k⟩ := h
  refine ⟨_, rfl, o, z, m, rfl, hO, hm, fun H1 r ps s1 hr1 hr2 hps => ?_⟩
  have hbig : m.plans.length ≤ 7776 := level_len hm hm.c5
  have hpl : (ps.map V.ref).length = m.plans.length := by rw [List.length_map, hps.1, List.length_map]
  refine ⟨_, rfl, r, rfl, ⟨_, SqL.of hr2⟩, fun D1 hD1 => ?_⟩
  refine lc_list (K := K) (a := r) (xs := ps.map V.ref) (fun k H' => Same H1 H' ∧ H' D1 = some (.lst (iv (zi ((m.plans.take k).map m.given))))) ⟨Same.new hD1, upd_same⟩ (fun k H' _ ⟨s, _⟩ => SqL.of (s _ _ hr2)) ?_ ?_
  · rintro i x H2 hx ⟨s2, hd⟩
    obtain ⟨p, hp, rfl⟩ := refs_get hx
    obtain ⟨l, hl, hpl⟩ := rows_zi hps hp
    refine ⟨rfl, ?_⟩
    refine ⟨_, rfl, _, rfl, o, p, z, m, l, rfl, hO.same (s1.trans s2), s2 _ _ hpl, fun H3 s3 => ?_⟩
    refine ⟨_, s3 _ _ hd, ?_, ?_, ?_⟩
    · rw [iv_zi_len, List.length_map, List.length_take]
      exact Nat.lt_of_le_of_lt (m := 7776) (by omega) (by decide)
    · intro y u e
      rw [upd_ne (ne_of_none e hD1)]
      exact s3 _ _ (s2 _ _ e)
    · rw [upd_same, take_more hl, List.map_append, zi_append]
      unfold iv
      rw [List.map_append]
      rfl
  · rintro H2 ⟨s2, hd⟩
    rw [hpl, List.take_length] at hd
    have hpos : 0 < (zi (m.plans.map m.given)).length := by
      rw [zi_len, List.length_map]
      exact List.length_pos_iff.mpr (level_ne m _)
    refine ⟨D1, _, rfl, SqL.of hd, hpos, fun x h1 h2 => ?_⟩
    obtain ⟨g, rfl, hg⟩ := most_of h1 h2
    have hr22 := s2 _ _ hr2
    refine ⟨_, rfl, r, rfl, ⟨_, SqL.of hr22⟩, fun D2 hD2 => ?_⟩
    refine lc_list (K := K) (a := r) (xs := ps.map V.ref) (fun k H' => ∃ qs : List Addr, Same H2 H' ∧ H' D2 = some (.lst (qs.map V.ref)) ∧ RowsAt H' qs (((m.plans.take k).filter fun p => m.given p == g).map zi) ∧ ∀ p ∈ qs, p ≠ D2)
      ⟨[], Same.new hD2, upd_same, ⟨rfl, fun _ _ _ h => nomatch h⟩, fun _ h => nomatch h⟩ (fun k H' _ ⟨_, s, _⟩ => SqL.of (s _ _ hr22)) ?_ ?_
    · rintro i x H3 hx ⟨qs, s3, hd2, hqs, hne⟩
      obtain ⟨p, hp, rfl⟩ := refs_get hx
      obtain ⟨l, hl, hpl⟩ := rows_zi hps hp
      have hp2 := s2 _ _ hpl
      have em := filt_more (q := fun p => m.given p == g) hl
      refine ⟨rfl, ?_⟩
      refine ⟨_, rfl, _, rfl, o, p, z, m, l, rfl, hO.same ((s1.trans s2).trans s3), s3 _ _ hp2, fun H4 s4 => ?_⟩
      refine ⟨_, rfl, rfl, _, rfl, ?_⟩
      refine ite2 (fun c => ?_) (fun c => ?_)
      · have c : (m.given l == g) = true := by
          have c := of_decide_eq_true c
          injection c with c
          rw [beq_iff_eq]
          omega
        rw [if_pos c] at em
        refine ⟨_, rfl, _, s4 _ _ hd2, ?_, qs ++ [p], ?_, ?_, ?_, ?_⟩
        · rw [List.length_map, hqs.1, List.length_map]
          refine Nat.lt_of_le_of_lt (m := 7776) ?_ (by decide)
          refine Nat.le_trans (List.length_filter_le ..) ?_
          rw [List.length_take]
          omega
        · intro y u e
          rw [upd_ne (ne_of_none e hD2)]
          exact s4 _ _ (s3 _ _ e)
        · rw [upd_same, List.map_append]
          rfl
        · rw [em, List.map_append]
          refine RowsAt.push (hqs.keep fun y hy u e => ?_) ?_
          · rw [upd_ne (hne y hy)]
            exact s4 _ _ e
          · rw [upd_ne (ne_of_none hp2 hD2)]
            exact s4 _ _ (s3 _ _ hp2)
        · intro y hy
          rcases List.mem_append.mp hy with e | e
          · exact hne y e
          · cases List.mem_singleton.mp e
            exact ne_of_none hp2 hD2
      · have c : ¬ (m.given l == g) = true := fun e => c (decide_eq_true (by rw [beq_iff_eq.mp e]))
        rw [if_neg c, List.append_nil] at em
        refine ⟨qs, s3.trans s4, s4 _ _ hd2, ?_, hne⟩
        rw [em]
        exact hqs.keep fun y hy u e => s4 _ _ e
    · rintro H3 ⟨qs, s3, hd2, hqs, hne⟩
      rw [hpl, List.take_length] at hqs
      exact k H3 D2 qs g ((s1.trans s2).trans s3) ((s1.trans s2).free hD2) hd2 hg hqs
end
end My
set_option Elab.async false
set_option maxRecDepth 100000
set_option maxHeartbeats 4000000
namespace My
open PySem PySem.Spec PyProof.Rows L2
theorem first_at {α : Type} {f : α → Nat} {e : Nat} : ∀ {F : List α}, e ∈ F.map f → ∃ j r, F[j]? = some r ∧ f r = e ∧ ∀ (i : Nat) (q : α), i < j → F[i]? = some q → f q ≠ e
  | [], h => by cases h
  | a :: F, h => by
    by_cases c : f a = e
    · exact ⟨0, a, rfl, c, fun i q hi _ => absurd hi (Nat.not_lt_zero i)⟩
    · have h2 : e ∈ F.map f := by
        rcases List.mem_cons.mp h with q | q
        · exact absurd q.symm c
        · exact q
      obtain ⟨j, r, h3, h4, h5⟩ := first_at h2
      refine ⟨j + 1, r, by simpa using h3, h4, fun i q hi hq => ?_⟩
      cases i with
      | zero =>
        cases hq
        exact c
      | succ i => exact h5 i q (by omega) (by simpa using hq)
def stepOf (p : Int) (m : M) (ns : List Int) : M × List Int := (m, (Si86Neutral.step m.off [p :: ns]).2)
theorem count_zi (l : List Nat) (e : Nat) : (zi l).count (e : Int) = l.count e := by
  unfold zi
  induction l with
  | nil => rfl
  | cons a l ih =>
    rw [List.map_cons, List.count_cons, List.count_cons, ih]
    refine congrArg _ ?_
    by_cases c : a = e
    · subst c
      simp
    · have c2 : ¬ (a : Int) = (e : Int) := by omega
      rw [if_neg (by simpa using c2), if_neg (by simpa using c)]
theorem eqV_int (a b : Int) : eqV (.int a) (.int b) = (a == b) := rfl
theorem best_told {m : M} (k : m.Ok) {g e j : Nat} {r : List Nat} (hg : m.Most g) (he : ∀ x ∈ (m.plans.filter fun p => m.given p == g).map m.cost, e ≤ x) (hj : (m.plans.filter fun p => m.given p == g)[j]? = some r) (hr : m.cost r = e)
    (hf : ∀ (i : Nat) (q : List Nat), i < j → (m.plans.filter fun p => m.given p == g)[i]? = some q → m.cost q ≠ e) :
    (stepOf 5 m []).2 = [(m.given r : Int), (e : Int), ((((m.plans.filter fun p => m.given p == g).map m.cost).count e : Nat) : Int)] ++ zi r := by
  obtain ⟨t, h1, h2⟩ := best_first hj hr hf
  have hmem : r ∈ m.plans.filter fun p => m.given p == g := List.mem_of_getElem? hj
  have hgr : m.given r = g := eq_of_beq (List.mem_filter.mp hmem).2
  rw [List.filter_filter] at h1
  have h1' : m.plans.filter (fun p => m.given p == g && m.cost p == e) = r :: t := by
    rw [← h1]
    exact List.filter_congr fun p _ => Bool.and_comm _ _
  have hs := step_best k hg (fun p hp hq => he _ (List.mem_map_of_mem (List.mem_filter.mpr ⟨hp, by rw [hq]; exact beq_self_eq_true g⟩))) h1'
  unfold stepOf
  rw [hs, h2, hgr]
  rfl
section
variable {P : Program} {w : World} {K : PySem.W.Frag} {mg : Str → Option Value} {base : Heap} {C D : Addr}
theorem ok_best {f fQ fR fP fV fG fM fE : Addr} {fd fdQ fdR fdP fdV fdG fdM fdE : FuncData} (F : Fun K "best" "best" sBest f fd) (T : Txt K mg C D) (FQ : Fun K "full_plans" "full_plans" sFull fQ fdQ) (gQ : mg "full_plans" = some (.ref fQ)) (bQ : Binds K fdQ ["office"] [])
    (FR : Fun K "errors_of" "errors_of" sErrs fR fdR) (gR : mg "errors_of" = some (.ref fR)) (bR : Binds K fdR ["office", "plan"] [])
    (FP : Fun K "possible_plans" "possible_plans" sPlans fP fdP) (gP : mg "possible_plans" = some (.ref fP)) (bP : Binds K fdP ["office"] [])
    (FV : Fun K "given_out" "given_out" sGiven fV fdV) (gV : mg "given_out" = some (.ref fV)) (bV : Binds K fdV ["office", "plan"] [])
    (FG : Fun K "fitting" "fitting" sFitting fG fdG) (gG : mg "fitting" = some (.ref fG)) (bG : Binds K fdG ["office", "claim"] [])
    (FM : Fun K "may_be" "may_be" sMay fM fdM) (gM : mg "may_be" = some (.ref fM)) (bM : Binds K fdM ["office", "claim", "thing"] [])
    (FE : Fun K "errors_about" "errors_about" sErrors fE fdE) (gE : mg "errors_about" = some (.ref fE)) (bE : Binds K fdE ["claim", "thing"] []) :
    FnOk P w K mg base CX0 6 f fd ["office", "told"] (spOp C 5 (stepOf 5)) := by
  have GQ : FnOk P w K mg base CX0 5 fQ fdQ ["office"] (spFull C) := ok_full FQ T FP gP bP FV gV bV FG gG bG FM gM bM FE gE bE
  have GV : FnOk P w K mg base CX0 1 fV fdV ["office", "plan"] (spGiven C) := ok_given FV T
  have GR : FnOk P w K mg base CX0 2 fR fdR ["office", "plan"] (spErrs C) := ok_errs FR T FE gE bE
  refine F.ok scBest (fun vs H Q E h => ?_) (fun cdv A outer s H vs Q E hr h => ⟨_,
    pss_cons (ps_set (i := 2) scBest.nd rfl (Or.inl rfl) (pe_call GQ hr rfl gQ FQ.kp bQ .nil pass0 (pa_cons (pv 0) pa_nil)))
    (pss_cons (ps_setLc (i := 3) (own := [("plan", 6)]) (tt := tYes) rfl scBest.nd rfl rfl (sw_true rfl rfl rfl (by decide +kernel)) (pi_list (pv 2)) (blkOk_by (N := ["office", "told", "full", "errors", "fewest", "earliest", "plan"]) (sc := defScope sBest) (by decide +kernel))
        (fun _ _ _ _ _ => pg_nm (i := 6) scBest.nd rfl (Or.inl rfl) (Or.inr rfl)) (fun _ _ _ _ _ => pts_nil) (fun _ _ _ _ _ => pe_call GR (hr.mono (by decide)) rfl gR FR.kp bR .nil pass0 (pa_cons (pv 0) (pa_cons (pv 6) pa_nil))))
    (pss_cons (ps_set (i := 4) scBest.nd rfl (Or.inl rfl) (pe_callB (cr_min rfl) (by rfl) T.min (by decide +kernel) (pa_cons (pv 3) pa_nil)))
    (pss_cons (ps_set (i := 5) scBest.nd rfl (Or.inl rfl) (pe_ix ix_list (pv 2) (pe_bm PySem.F.plainAttrs_list PySem.F.slot_list_index PySem.F.type_list_index mt_index (pv 3) (pa_cons (pv 4) pa_nil)) (fun _ _ => rfl)))
    (pss_one (ps_ret (pe_op op_cat (pe_lst (pa_cons (pe_call GV (hr.mono (by decide)) rfl gV FV.kp bV .nil pass0 (pa_cons (pv 0) (pa_cons (pv 5) pa_nil))) (pa_cons (pv 4)
      (pa_cons (pe_bm PySem.F.plainAttrs_list PySem.F.slot_list_count PySem.F.type_list_count mt_lcount (pv 3) (pa_cons (pv 4) pa_nil)) pa_nil)))) (pv 5))))))), ?_⟩)
  · obtain ⟨o, a, z, m, ns, rfl, _⟩ := h
    rfl
  obtain ⟨o, a, z, m, ns, rfl, hO, hm, ha, haf, ok, k⟩ := h
  have hl : ns.length = 0 := by
    have := ok.shape
    unfold shapeOk at this
    dsimp only at this
    omega
  obtain rfl : ns = [] := List.length_eq_zero_iff.mp hl
  have fin : ∀ (H' : Hp) (r : Addr), Same H H' → H' r = some (.lst (iv (stepOf 5 m []).2)) → H r = none → Q (.ref r) H' := fun H' r s e n => spOp.same hO k rfl s e n
  refine ⟨_, rfl, o, z, m, rfl, hO, hm, fun H1 r ps g s1 hr1 hr2 hg hps => ?_⟩
  have hbig : (m.plans.filter fun p => m.given p == g).length ≤ 7776 := Nat.le_trans (List.length_filter_le ..) (level_len hm hm.c5)
  have hne : (m.plans.filter fun p => m.given p == g) ≠ [] := by
    obtain ⟨p, hp, e⟩ := hg.at_
    exact List.ne_nil_of_mem (List.mem_filter.mpr ⟨hp, by rw [e]; exact beq_self_eq_true g⟩)
  have hfm : ∀ l ∈ m.plans.filter (fun p => m.given p == g), l.length = m.claims.length ∧ ∀ t ∈ l, t ≤ m.things.length := fun l h => by
    obtain ⟨h1, h2, _⟩ := level_mem m (List.mem_filter.mp h).1
    exact ⟨h1, h2⟩
  have told := @best_told m hm g
  generalize (m.plans.filter fun p => m.given p == g) = L at hps hbig hne hfm told
  have hpl : (ps.map V.ref).length = L.length := by rw [List.length_map, hps.1, List.length_map]
  refine ⟨_, rfl, r, rfl, ⟨_, SqL.of hr2⟩, fun D1 hD1 => ?_⟩
  refine lc_list (K := K) (a := r) (xs := ps.map V.ref) (fun k H' => Same H1 H' ∧ H' D1 = some (.lst (iv (zi ((L.take k).map m.cost))))) ⟨Same.new hD1, upd_same⟩ (fun k H' _ ⟨s, _⟩ => SqL.of (s _ _ hr2)) ?_ ?_
  · rintro i x H2 hx ⟨s2, hd⟩
    obtain ⟨p, hp, rfl⟩ := refs_get hx
    obtain ⟨l, hl, hpl⟩ := rows_zi hps hp
    obtain ⟨h1, h2⟩ := hfm l (List.mem_of_getElem? hl)
    refine ⟨rfl, ?_⟩
    refine ⟨_, rfl, _, rfl, o, p, z, m, l, rfl, hO.same (s1.trans s2), hm, s2 _ _ hpl, h1, h2, fun H3 s3 => ?_⟩
    refine ⟨_, s3 _ _ hd, ?_, ?_, ?_⟩
    · rw [iv_zi_len, List.length_map, List.length_take]
      exact Nat.lt_of_le_of_lt (m := 7776) (by omega) (by decide)
    · intro y u e
      rw [upd_ne (ne_of_none e hD1)]
      exact s3 _ _ (s2 _ _ e)
    · rw [upd_same, take_more hl, List.map_append, zi_append]
      unfold iv
      rw [List.map_append]
      rfl
  · rintro H2 ⟨s2, hd⟩
    rw [hpl, List.take_length] at hd
    have hpos : 0 < (zi (L.map m.cost)).length := by
      rw [zi_len, List.length_map]
      exact List.length_pos_iff.mpr hne
    refine ⟨_, rfl, D1, _, rfl, SqL.of hd, hpos, fun x h1 h2 => ?_⟩
    obtain ⟨e, he, rfl⟩ := List.mem_map.mp h1
    have hle : ∀ y ∈ L.map m.cost, e ≤ y := fun y hy => by
      have := h2 (y : Int) (zi_mem.mpr hy)
      omega
    obtain ⟨j, l, hj, hle2, hfirst⟩ := first_at he
    obtain ⟨h3, h4⟩ := hfm l (List.mem_of_getElem? hj)
    have hjl : j < ps.length := by
      have := (List.getElem?_eq_some_iff.mp hj).1
      rw [hps.1, List.length_map]
      exact this
    obtain ⟨l2, hl2, hpl2⟩ := rows_zi hps (List.getElem?_eq_getElem hjl)
    rw [hj] at hl2
    cases hl2
    have hz : (iv (zi (L.map m.cost)))[j]? = some (V.int (e : Int)) := by
      unfold iv
      rw [List.getElem?_map, zi_some (n := e) (by rw [List.getElem?_map, hj, ← hle2]; rfl)]
      rfl
    have hr3 := s2 _ _ hr2
    refine ⟨_, rfl, _, rfl, Or.inl ⟨rfl, _, SqL.of hd⟩, _, rfl, D1, _, _, j, _, rfl, rfl, SqL.of hd, rfl, flat_iv _, hz, by rw [eqV_int]; exact beq_self_eq_true _, ?_, ?_⟩
    · intro i z' hi hz'
      obtain ⟨c', hc', rfl⟩ := iv_get hz'
      obtain ⟨c, hc, rfl⟩ := zi_get hc'
      rw [eqV_int, beq_eq_false_iff_ne]
      rw [List.getElem?_map] at hc
      cases hq : L[i]? with
      | none => rw [hq] at hc; cases hc
      | some q =>
        rw [hq] at hc
        have := hfirst i q hi hq
        have hc := Option.some.inj hc
        omega
    refine ⟨r, _, _, _, rfl, rfl, SqL.of hr3, atI_nat (by rw [List.getElem?_map, List.getElem?_eq_getElem hjl]; rfl), ?_⟩
    refine ⟨_, rfl, _, rfl, o, _, z, m, l, rfl, hO.same (s1.trans s2), s2 _ _ hpl2, fun H3 s3 => ?_⟩
    have hd3 := s3 _ _ hd
    refine ⟨_, rfl, _, rfl, Or.inl ⟨rfl, _, SqL.of hd3⟩, _, rfl, D1, _, _, rfl, rfl, SqL.of hd3, (by show 3 ≤ sizeLine; decide), fun b hb => ?_⟩
    have s4 := s3.trans (Same.new (o := .lst [.int (m.given l : Int), .int (e : Int), .int (((zi (L.map m.cost)).count (e : Int) : Nat) : Int)]) hb)
    refine ⟨_, rfl, b, _, _, _, rfl, rfl, upd_same, s4 _ _ (s2 _ _ hpl2), ?_, fun c hc => ?_⟩
    · rw [iv_zi_len, h3]
      have := hm.c5
      exact Nat.le_trans (m := 8) (by show 3 + _ ≤ 8; omega) (by decide)
    · have s5 := (s1.trans (s2.trans s4)).trans (Same.new (o := .lst ([.int (m.given l : Int), .int (e : Int), .int (((zi (L.map m.cost)).count (e : Int) : Nat) : Int)] ++ iv (zi l))) hc)
      refine fin _ c s5 ?_ ((s1.trans (s2.trans s4)).free hc)
      rw [upd_same, told hg hle hj hle2 hfirst, count_zi]
      unfold iv
      rw [List.map_append]
      rfl
end
end My
set_option Elab.async false
set_option maxRecDepth 100000
set_option maxHeartbeats 4000000
namespace My
open PySem PySem.Spec PyProof.Rows L2
theorem ix_list_K {X : Cx} {K : PySem.W.Frag} (hK : X.K = K) : IxR X (rIxL K) := hK ▸ ix_list
theorem has_told {m : M} (k : m.Ok) {g : Nat} (hg : m.Most g) {c : Int} (h0 : inW c) (hc : c < m.claims.length) {ns : List Int} (h1 : ns.Pairwise (· < ·))
    (h2 : ∀ x : Int, x ∈ ns ↔ x ∈ zi ((m.plans.filter fun p => m.given p == g).map fun p => p.getD c.toNat 0)) : (stepOf 6 m [c]).2 = (ns.length : Int) :: ns := by
  have e : ns = zi ((List.range (m.things.length + 1)).filter fun t => m.plans.any fun p => m.given p == g && p.getD c.toNat 0 == t) := by
    refine rising_ext h1 (zi_rising _) fun x => ?_
    rw [h2]
    constructor
    · intro hx
      obtain ⟨t, ht, rfl⟩ := List.mem_map.mp hx
      obtain ⟨p, hp, e⟩ := List.mem_map.mp ht
      obtain ⟨hp1, hp2⟩ := List.mem_filter.mp hp
      obtain ⟨h3, h4, _⟩ := level_mem m hp1
      have hlt : c.toNat < p.length := by
        have := h0.1
        omega
      have := h4 _ (getD_mem (d := 0) hlt)
      refine zi_mem.mpr (List.mem_filter.mpr ⟨List.mem_range.mpr (by omega), List.any_eq_true.mpr ⟨p, hp1, ?_⟩⟩)
      rw [hp2, Bool.true_and, beq_iff_eq]
      exact e
    · intro hx
      obtain ⟨t, ht, rfl⟩ := List.mem_map.mp hx
      obtain ⟨p, hp, e⟩ := List.any_eq_true.mp (List.mem_filter.mp ht).2
      rw [Bool.and_eq_true, beq_iff_eq, beq_iff_eq] at e
      exact zi_mem.mpr (List.mem_map.mpr ⟨p, List.mem_filter.mpr ⟨hp, beq_iff_eq.mpr e.1⟩, e.2⟩)
  have hs := step_has k hg h0 hc rfl
  unfold stepOf
  rw [hs, e, zi_len]
  rfl
section
variable {P : Program} {w : World} {K : PySem.W.Frag} {mg : Str → Option Value} {base : Heap} {C D : Addr}
theorem ok_has {f fQ fP fV fG fM fE : Addr} {fd fdQ fdP fdV fdG fdM fdE : FuncData} (F : Fun K "has" "has" sHas f fd) (T : Txt K mg C D) (FQ : Fun K "full_plans" "full_plans" sFull fQ fdQ) (gQ : mg "full_plans" = some (.ref fQ)) (bQ : Binds K fdQ ["office"] [])
    (FP : Fun K "possible_plans" "possible_plans" sPlans fP fdP) (gP : mg "possible_plans" = some (.ref fP)) (bP : Binds K fdP ["office"] [])
    (FV : Fun K "given_out" "given_out" sGiven fV fdV) (gV : mg "given_out" = some (.ref fV)) (bV : Binds K fdV ["office", "plan"] [])
    (FG : Fun K "fitting" "fitting" sFitting fG fdG) (gG : mg "fitting" = some (.ref fG)) (bG : Binds K fdG ["office", "claim"] [])
    (FM : Fun K "may_be" "may_be" sMay fM fdM) (gM : mg "may_be" = some (.ref fM)) (bM : Binds K fdM ["office", "claim", "thing"] [])
    (FE : Fun K "errors_about" "errors_about" sErrors fE fdE) (gE : mg "errors_about" = some (.ref fE)) (bE : Binds K fdE ["claim", "thing"] []) :
    FnOk P w K mg base CX0 6 f fd ["office", "told"] (spOp C 6 (stepOf 6)) := by
  have GQ : FnOk P w K mg base CX0 5 fQ fdQ ["office"] (spFull C) := ok_full FQ T FP gP bP FV gV bV FG gG bG FM gM bM FE gE bE
  refine F.ok scHas (fun vs H Q E h => ?_) (fun cdv A outer s H vs Q E hr h => ⟨_,
    pss_cons (ps_if (pt_cmpR op_ge (pe_ix ix_list (pv 1) pe_int (fun _ _ => rfl)) (pe_callB call_len_seq (by rfl) T.len PySem.boot_len (pa_cons (pe_fld (pv 0) rfl) pa_nil)) (nomark _)) (pss_one (ps_ret (pe_lst (pa_cons (pe_un un_neg pe_int) pa_nil)))) pss_nil)
    (pss_cons (ps_set (i := 2) scHas.nd rfl (Or.inl rfl) (pe_callB (cr_sortedSet rfl) (by rfl) T.sorted (by decide +kernel) (pa_cons (pe_callTy (cr_setL rfl) (by rfl) T.set (by decide +kernel) (pa_cons
      (pe_lc (own := [("plan", 3)]) (tt := tYes) rfl scHas.nd (pi_list (pe_call GQ hr rfl gQ FQ.kp bQ .nil pass0 (pa_cons (pv 0) pa_nil))) (blkOk_by (N := ["office", "told", "numbers", "plan"]) (sc := defScope sHas) (by decide +kernel))
        (fun _ _ _ _ _ => pg_nm (i := 3) scHas.nd rfl (Or.inl rfl) (Or.inr rfl)) (fun _ _ _ _ _ => pts_nil) (fun _ _ _ _ _ => pe_ix (ix_list_K (K := K) rfl) (pv 3) (pe_ix (ix_list_K (K := K) rfl) (pv 1) pe_int (fun _ _ => rfl)) (fun _ _ => rfl))) pa_nil)) pa_nil)))
    (pss_one (ps_ret (pe_op op_cat (pe_lst (pa_cons (pe_callB call_len_seq (by rfl) T.len PySem.boot_len (pa_cons (pv 2) pa_nil)) pa_nil)) (pv 2))))), ?_⟩)
  · obtain ⟨o, a, z, m, ns, rfl, _⟩ := h
    rfl
  obtain ⟨o, a, z, m, ns, rfl, hO, hm, ha, haf, ok, k⟩ := h
  have hl : ns.length = 1 := by
    have := ok.shape
    unfold shapeOk at this
    dsimp only at this
    omega
  obtain ⟨e, rfl⟩ := len1 hl
  have he := ok.nums e (by simp)
  have ix0 : atI (iv [e]) 0 = some (V.int e) := rfl
  have hcl : (z.cs.map V.ref).length = m.claims.length := by rw [List.length_map]; exact hO.rc.1
  have fin : ∀ (H' : Hp) (r : Addr), Same H H' → H' r = some (.lst (iv (stepOf 6 m [e]).2)) → H r = none → Q (.ref r) H' := fun H' r s e n => spOp.same hO k rfl s e n
  refine ⟨_, rfl, a, iv [e], 0, .int e, rfl, rfl, SqL.of ha, ix0, _, rfl, o, C, z.dx, _, _, rfl, hO.o, T.cl, T.nC, ofF_claims _ _ _, z.c, _, rfl, .inl (SqL.of hO.c), e, _, rfl, rfl, _, rfl, ?_⟩
  rw [hcl]
  refine ite2 (fun c => ?_) (fun c => ?_)
  · have c := of_decide_eq_true c
    refine ⟨_, rfl, (by show 1 ≤ sizeLine; decide), fun r hr => ?_⟩
    refine fin _ r (Same.new hr) ?_ hr
    have hs := step_has_no (m := m) he c
    rw [upd_same]
    unfold stepOf
    rw [hs]
    rfl
  · have c : ¬ (m.claims.length : Int) ≤ e := fun h => c (decide_eq_true h)
    have he0 := he.1
    have hen : e.toNat < m.claims.length := by omega
    refine ⟨_, rfl, o, z, m, rfl, hO, hm, fun H1 r ps g s1 hr1 hr2 hg hps => ?_⟩
    have told := @has_told m hm g hg e he (by omega)
    have hbig : (m.plans.filter fun p => m.given p == g).length ≤ 7776 := Nat.le_trans (List.length_filter_le ..) (level_len hm hm.c5)
    have hfm : ∀ l ∈ m.plans.filter (fun p => m.given p == g), l.length = m.claims.length ∧ ∀ t ∈ l, t ≤ m.things.length := fun l h => by
      obtain ⟨h1, h2, _⟩ := level_mem m (List.mem_filter.mp h).1
      exact ⟨h1, h2⟩
    generalize (m.plans.filter fun p => m.given p == g) = L at hps hbig hfm told
    have hpl : (ps.map V.ref).length = L.length := by rw [List.length_map, hps.1, List.length_map]
    refine ⟨r, rfl, ⟨_, SqL.of hr2⟩, fun D1 hD1 => ?_⟩
    refine lc_list (K := K) (a := r) (xs := ps.map V.ref) (fun k H' => Same H1 H' ∧ H' D1 = some (.lst (iv (zi ((L.take k).map fun p => p.getD e.toNat 0))))) ⟨Same.new hD1, upd_same⟩ (fun k H' _ ⟨s, _⟩ => SqL.of (s _ _ hr2)) ?_ ?_
    · rintro i x H2 hx ⟨s2, hd⟩
      obtain ⟨p, hp, rfl⟩ := refs_get hx
      obtain ⟨l, hl, hpl⟩ := rows_zi hps hp
      obtain ⟨h1, h2⟩ := hfm l (List.mem_of_getElem? hl)
      have hlt : e.toNat < l.length := by omega
      have hat : atI (iv (zi l)) e = some (.int ((l.getD e.toNat 0 : Nat) : Int)) := by
        refine atI_int he0 ?_
        unfold iv
        rw [List.getElem?_map, zi_some (n := l.getD e.toNat 0) (by rw [List.getD_eq_getElem?_getD, List.getElem?_eq_getElem hlt]; rfl)]
        rfl
      refine ⟨rfl, _, rfl, _, rfl, a, _, _, _, rfl, rfl, SqL.of (s2 _ _ (s1 _ _ ha)), ix0, p, _, _, _, rfl, rfl, SqL.of (s2 _ _ hpl), hat, ?_⟩
      refine ⟨_, hd, ?_, ?_, ?_⟩
      · rw [iv_zi_len, List.length_map, List.length_take]
        exact Nat.lt_of_le_of_lt (m := 7776) (by omega) (by decide)
      · intro y u e
        rw [upd_ne (ne_of_none e hD1)]
        exact s2 _ _ e
      · rw [upd_same, take_more hl, List.map_append, zi_append]
        unfold iv
        rw [List.map_append]
        rfl
    · rintro H2 ⟨s2, hd⟩
      rw [hpl, List.take_length] at hd
      have h60 : ∀ x ∈ zi (L.map fun p => p.getD e.toNat 0), 0 ≤ x ∧ x < 60 := fun x hx => by
        obtain ⟨t, ht, rfl⟩ := List.mem_map.mp hx
        obtain ⟨p, hp, rfl⟩ := List.mem_map.mp ht
        obtain ⟨h1, h2⟩ := hfm p hp
        have := h2 _ (getD_mem (d := 0) (show e.toNat < p.length by omega))
        have := hm.t5
        omega
      refine ⟨D1, _, rfl, SqL.of hd, h60, fun b n hb hn => ?_⟩
      refine ⟨b, _, n, rfl, upd_same, hn, fun ns p hns1 hns2 hns3 hp => ?_⟩
      have hns2' : ∀ x : Int, x ∈ ns ↔ x ∈ zi (L.map fun p => p.getD e.toNat 0) := fun x => (hns2 x).trans decide_eq_true_iff
      have told := told hns1 hns2'
      have s3 := s2.trans (Same.new (o := SetO w b (fun j => decide (j ∈ zi (L.map fun p => p.getD e.toNat 0))) n) hb)
      have s4 := s3.trans (Same.new (o := .lst (ns.map V.int)) hp)
      refine ⟨_, rfl, p, _, rfl, .inl (SqL.of upd_same), (by show 1 ≤ sizeLine; decide), fun c hc => ?_⟩
      have s5 := s4.trans (Same.new (o := .lst [.int ((ns.map V.int).length : Int)]) hc)
      have hpc : p ≠ c := ne_of_none upd_same hc
      refine ⟨_, rfl, c, p, _, _, rfl, rfl, upd_same, (upd_ne hpc).trans upd_same, ?_, fun q hq => ?_⟩
      · rw [List.length_map, hns3]
        exact Nat.le_trans (m := 65) (by show 1 + _ ≤ 65; omega) (by decide)
      · refine fin _ q ((s1.trans s5).trans (Same.new hq)) ?_ ((s1.trans s5).free hq)
        rw [upd_same, told, List.length_map]
        rfl
end
end My
set_option Elab.async false
set_option maxRecDepth 100000
set_option maxHeartbeats 4000000
namespace My
open PySem PySem.Spec PyProof.Rows L2
theorem bit_dec (s c : Nat) : decide (V.int (((s : Int) / 2 ^ ((c : Int)).toNat) % 2) = V.int 1) = s.testBit c := by
  rw [← bit_of, Int.toNat_natCast, Int.fmod_eq_emod_of_nonneg _ (by decide)]
  refine decide_eq_decide.mpr ⟨fun e => ?_, fun e => by rw [e]⟩
  injection e
theorem why_told {m : M} (k : m.Ok) {s : Nat} (hs : s < 2 ^ m.claims.length) (h1 : ∀ x, x < 2 ^ m.claims.length → m.short x ≤ m.short s) (h2 : ∀ x, x < s → m.short x < m.short s) :
    (stepOf 7 m []).2 = [(m.short s : Int), (s : Int)] ++ zi (m.reach s) := by
  have e := step_why k hs h1 h2
  unfold stepOf
  rw [e]
  rfl
section
variable {P : Program} {w : World} {K : PySem.W.Frag} {mg : Str → Option Value} {base : Heap} {C D : Addr}
def cref (z : Where) (o : Addr) (l : List Nat) : List V := l.map fun c => V.ref (z.cs.getD c o)
theorem cref_len (z : Where) (o : Addr) (l : List Nat) : (cref z o l).length = l.length := List.length_map _
theorem cref_append (z : Where) (o : Addr) (a b : List Nat) : cref z o (a ++ b) = cref z o a ++ cref z o b := List.map_append
/-- claims_in -/
def spClaimsIn (C : Addr) : Sp := fun vs H Q _ => ∃ (o : Addr) (z : Where) (m : M) (s : Nat), vs = [.ref o, .int (s : Int)] ∧ OffAt C H o z m ∧ m.Ok ∧
  ∀ (H' : Hp) (r : Addr), Same H H' → H r = none → H' r = some (.lst (cref z o (m.members s))) → Q (.ref r) H'
theorem ok_claimsIn {f : Addr} {fd : FuncData} (F : Fun K "claims_in" "claims_in" sClaimsIn f fd) (T : Txt K mg C D) : FnOk P w K mg base CX0 1 f fd ["office", "group"] (spClaimsIn C) := by
  refine F.ok scClaimsIn (fun vs H Q E h => ?_) (fun cdv A outer s H vs Q E hr h => ⟨_,
    pss_one (ps_ret (pe_lc (own := [("number", 2), ("claim", 3)]) rfl scClaimsIn.nd (pi_enum (by rfl) T.enum (pa_cons (pe_fld (pv 0) rfl) pa_nil)) (blkOk_by (N := ["office", "group", "number", "claim"]) (sc := defScope sClaimsIn) (by decide +kernel))
      (fun _ _ _ _ _ => pg_two (K := K) (i := 2) (j := 3) rfl rfl scClaimsIn.nd rfl (Or.inl rfl) (Or.inr rfl) rfl (Or.inl rfl) (Or.inr rfl))
      (fun _ _ _ _ _ => pts_one (pt_cmpR op_eq (pe_op op_mod (pe_op op_shr (pv 1) (pv 2)) pe_int) pe_int (nomark _))) (fun _ _ _ _ _ => pv 3))), ?_⟩)
  · obtain ⟨o, z, m, s, rfl, _⟩ := h
    rfl
  obtain ⟨o, z, m, s, rfl, hO, hm, k⟩ := h
  refine ⟨_, rfl, o, C, z.dx, _, _, rfl, hO.o, T.cl, T.nC, ofF_claims _ _ _, z.c, _, rfl, SqL.of hO.c, fun r hr => ?_⟩
  refine lc_enumL (xs := z.cs.map V.ref) (fun i H' => Same H H' ∧ H' r = some (.lst (cref z o (m.membersTo s i))) ∧ i ≤ m.claims.length) ⟨Same.new hr, upd_same, Nat.zero_le _⟩ (fun i H' ⟨s1, _⟩ => SqL.of (s1 _ _ hO.c)) ?_ ?_
  · rintro i x T' H' hx ⟨s1, h1, hi⟩ hT
    obtain ⟨p, hp, rfl⟩ := refs_get hx
    obtain ⟨l, hl, hpl⟩ := hO.rc.at hp
    have hi2 : i < m.claims.length := (List.getElem?_eq_some_iff.mp hl).1
    have em := membersTo_more m s i
    have s2 : Same H' (upd H' T' (.tup [.int (i : Int), .ref p])) := Same.new hT
    refine ⟨T', _, rfl, SqT.of upd_same, rfl, _, _, rfl, _, _, rfl, rfl, rfl, ?_⟩
    refine ⟨_, rfl, _, rfl, _, _, rfl, rfl, Int.natCast_nonneg i, _, _, rfl, rfl, (by show (0 : Int) < 2; decide), rfl, _, rfl, ?_⟩
    rw [bit_dec]
    have h2 := s2 _ _ h1
    cases b : s.testBit i with
    | true =>
      rw [if_pos b] at em
      refine iteT ⟨_, rfl, _, h2, ?_, ?_, ?_, hi2⟩
      · rw [cref_len]
        have := membersTo_len m s i
        have := hm.c5
        exact Nat.lt_of_le_of_lt (m := 5) (by omega) (by decide)
      · intro b x e
        rw [upd_ne (ne_of_none e hr)]
        exact s2 _ _ (s1 _ _ e)
      · rw [upd_same, em, cref_append]
        refine congrArg (fun q => some (HO.lst (_ ++ q))) ?_
        show _ = [V.ref (z.cs.getD i o)]
        rw [getD_of hp]
    | false =>
      rw [b, if_neg (by decide), List.append_nil] at em
      refine iteF ⟨s1.trans s2, ?_, hi2⟩
      rw [em]
      exact h2
  · rintro H' ⟨s1, h1, hi⟩
    have e : (z.cs.map V.ref).length = m.claims.length := by rw [List.length_map]; exact hO.rc.1
    rw [e] at h1
    exact k H' r s1 hr h1
/-- fitting_one_of -/
def spOneOf (C : Addr) : Sp := fun vs H Q _ => ∃ (o a : Addr) (z : Where) (m : M) (cl : List Nat), vs = [.ref o, .ref a] ∧ OffAt C H o z m ∧ m.Ok ∧ H a = some (.lst (cref z o cl)) ∧ (∀ c ∈ cl, c < m.claims.length) ∧ cl.length ≤ 5 ∧
  ∀ (H' : Hp) (r : Addr), Same H H' → H r = none → H' r = some (.lst (iv (zi (m.reachOf cl m.things.length)))) → Q (.ref r) H'
theorem ok_oneOf {f fM fE : Addr} {fd fdM fdE : FuncData} (F : Fun K "fitting_one_of" "fitting_one_of" sOneOf f fd) (T : Txt K mg C D) (FM : Fun K "may_be" "may_be" sMay fM fdM) (gM : mg "may_be" = some (.ref fM)) (bM : Binds K fdM ["office", "claim", "thing"] [])
    (FE : Fun K "errors_about" "errors_about" sErrors fE fdE) (gE : mg "errors_about" = some (.ref fE)) (bE : Binds K fdE ["claim", "thing"] []) :
    FnOk P w K mg base CX0 3 f fd ["office", "claims"] (spOneOf C) := by
  have GM : FnOk P w K mg base CX0 2 fM fdM ["office", "claim", "thing"] (spMay C) := ok_may FM T FE gE bE
  refine F.ok scOneOf (fun vs H Q E h => ?_) (fun cdv A outer s H vs Q E hr h => ⟨_,
    pss_cons (ps_set (i := 2) scOneOf.nd rfl (Or.inl rfl) (pe_lst pa_nil))
    (pss_cons (ps_for PassesOwn.never rfl (pi_enum (by rfl) T.enum (pa_cons (pe_fld (pv 0) rfl) pa_nil)) (pg_tup rfl (pgs_cons (pg_name (i := 3) scOneOf.nd rfl (Or.inl rfl)) (pgs_cons (pg_name (i := 4) scOneOf.nd rfl (Or.inr rfl)) pgs_nil)))
      (pss_one (ps_if (pt_val (pe_callB (cr_any rfl) (by rfl) T.any (by decide +kernel) (pa_cons
          (pe_lc (own := [("claim", 5)]) (tt := tYes) rfl scOneOf.nd (pi_list (pv 1)) (blkOk_by (N := ["office", "claims", "found", "number", "thing", "claim"]) (sc := defScope sOneOf) (by decide +kernel))
            (fun _ _ _ _ _ => pg_nm (i := 5) scOneOf.nd rfl (Or.inl rfl) (Or.inr rfl)) (fun _ _ _ _ _ => pts_nil) (fun _ _ _ _ _ => pe_call GM hr rfl gM FM.kp bM .nil pass0 (pa_cons (pv 0) (pa_cons (pv 5) (pa_cons (pv 4) pa_nil))))) pa_nil)))
        (pss_one (ps_expr (pe_bm PySem.F.plainAttrs_list PySem.F.slot_list_append PySem.F.type_list_append mt_append (pv 2) (pa_cons (pv 3) pa_nil)))) pss_nil)))
    (pss_one (ps_ret (pv 2)))), ?_⟩)
  · obtain ⟨o, a, z, m, cl, rfl, _⟩ := h
    rfl
  obtain ⟨o, a, z, m, cl, rfl, hO, hm, ha, hcl, hc5, k⟩ := h
  refine ⟨(by show 0 ≤ sizeLine; exact Nat.zero_le _), fun r hr => ?_⟩
  have s0 : Same H (upd H r (.lst [])) := Same.new hr
  refine ⟨_, rfl, o, C, z.dx, _, _, rfl, s0 _ _ hO.o, T.cl, T.nT, ofF_things _ _ _, z.t, _, rfl, SqL.of (s0 _ _ hO.t), ?_⟩
  refine for_enumL (fun i σ H' => ∃ (v3 v4 v5 : Option V), σ = [some (.ref o), some (.ref a), some (.ref r), v3, v4, v5] ∧ Same H H' ∧ H' r = some (.lst (iv (zi (m.reachOf cl i)))) ∧ i ≤ m.things.length)
    ⟨none, none, none, rfl, s0, upd_same, Nat.zero_le _⟩ (fun i σ H' ⟨_, _, _, _, s1, _⟩ => SqL.of (s1 _ _ hO.t)) ?_ ?_
  · rintro i x T' σ H' hx ⟨v3, v4, v5, rfl, s1, h1, hi⟩ hT
    obtain ⟨p, hp, rfl⟩ := refs_get hx
    obtain ⟨l, hl, hpl⟩ := hO.rt.at hp
    have hi2 : i < m.things.length := (List.getElem?_eq_some_iff.mp hl).1
    have hl4 := (hm.tg _ (List.mem_of_getElem? hl)).1
    have em := reachOf_more m cl i
    have s2 : Same H' (upd H' T' (.tup [.int (i : Int), .ref p])) := Same.new hT
    refine ⟨T', _, rfl, SqT.of upd_same, rfl, _, _, rfl, _, _, rfl, rfl, ?_⟩
    generalize upd H' T' (.tup [.int (i : Int), .ref p]) = H2 at s2
    have s3 := s1.trans s2
    have ha2 := s3 _ _ ha
    refine ⟨_, rfl, a, rfl, ⟨_, SqL.of ha2⟩, fun D2 hD2 => ?_⟩
    refine lc_list (K := K) (a := a) (xs := cref z o cl) (fun k H' => Same H2 H' ∧ H' D2 = some (.lst ((cl.take k).map fun c => V.bl (m.fit c i)))) ⟨Same.new hD2, upd_same⟩ (fun k H' _ ⟨s, _⟩ => SqL.of (s _ _ ha2)) ?_ ?_
    · rintro t' x H3 hx ⟨s4, hd⟩
      unfold cref at hx
      rw [List.getElem?_map] at hx
      obtain ⟨c, hc, rfl⟩ : ∃ c, cl[t']? = some c ∧ V.ref (z.cs.getD c o) = x := by
        cases e : cl[t']? with
        | none => rw [e] at hx; cases hx
        | some c => rw [e] at hx; exact ⟨c, rfl, Option.some.inj hx⟩
      have hcc := hcl c (List.mem_of_getElem? hc)
      obtain ⟨q, hq1, hq2⟩ := hO.rc.has hcc
      have hqd : z.cs.getD c o = q := getD_of hq1
      have s5 := s3.trans s4
      refine ⟨rfl, ?_⟩
      refine ⟨_, rfl, _, rfl, _, rfl, o, z.cs.getD c o, p, z, m, m.claims.getD c [], l, rfl, hO.same s5, by rw [hqd]; exact s5 _ _ hq2, s5 _ _ hpl, by rw [hl4, (hm.cg _ (getD_mem hcc)).1], fun H4 s6 => ?_⟩
      refine ⟨_, s6 _ _ hd, ?_, ?_, ?_⟩
      · rw [List.length_map, List.length_take]
        exact Nat.lt_of_le_of_lt (m := 5) (by omega) (by decide)
      · intro y u e
        rw [upd_ne (ne_of_none e hD2)]
        exact s6 _ _ (s4 _ _ e)
      · rw [upd_same, take_more hc, List.map_append]
        refine congrArg (fun q => some (HO.lst (_ ++ q))) ?_
        show _ = [V.bl (m.fit c i)]
        have e : m.fit c i = decide ((errN (m.claims.getD c []) l : Int) ≤ m.wrong) := by
          unfold M.fit M.err M.thing M.claim
          rw [getD_of hl]
        rw [e]
    · rintro H3 ⟨s4, hd⟩
      rw [cref_len, List.take_length] at hd
      have hd' : H3 D2 = some (.lst ((cl.map fun c => m.fit c i).map V.bl)) := by
        rw [hd, List.map_map]
        rfl
      refine ⟨D2, _, rfl, SqL.of hd', _, rfl, ?_⟩
      rw [List.any_map]
      have ea : (cl.any (id ∘ fun c => m.fit c i)) = cl.any fun c => m.fit c i := rfl
      rw [ea]
      have h3 := s4 _ _ (s2 _ _ h1)
      cases b : cl.any fun c => m.fit c i with
      | true =>
        rw [if_pos b] at em
        refine iteT ⟨_, rfl, Or.inl ⟨rfl, _, Or.inl (Or.inl h3)⟩, _, rfl, r, _, _, rfl, rfl, h3, ?_, ?_⟩
        · rw [iv_zi_len]
          have := reachOf_len m cl i
          have := hm.t5
          exact Nat.lt_of_le_of_lt (m := 5) (by omega) (by decide)
        · refine ⟨_, _, _, rfl, ?_, ?_, hi2⟩
          · intro y u e
            rw [upd_ne (ne_of_none e hr)]
            exact s4 _ _ (s3 _ _ e)
          · rw [upd_same, em, zi_append]
            unfold iv
            rw [List.map_append]
            rfl
      | false =>
        rw [b, if_neg (by decide), List.append_nil] at em
        refine iteF ⟨_, _, _, rfl, s3.trans s4, ?_, hi2⟩
        rw [em]
        exact h3
  · rintro σ H' ⟨v3, v4, v5, rfl, s1, h1, hi⟩
    refine ⟨_, rfl, ?_⟩
    have e : (z.ts.map V.ref).length = m.things.length := by rw [List.length_map]; exact hO.rt.1
    rw [e] at h1
    exact k H' r s1 hr h1
end
end My
set_option Elab.async false
set_option maxRecDepth 100000
set_option maxHeartbeats 4000000
namespace My
open PySem PySem.Spec PyProof.Rows L2
section
variable {P : Program} {w : World} {K : PySem.W.Frag} {mg : Str → Option Value} {base : Heap} {C D : Addr}
theorem ok_why {f fI fO fM fE : Addr} {fd fdI fdO fdM fdE : FuncData} (F : Fun K "why" "why" sWhy f fd) (T : Txt K mg C D) (FI : Fun K "claims_in" "claims_in" sClaimsIn fI fdI) (gI : mg "claims_in" = some (.ref fI)) (bI : Binds K fdI ["office", "group"] [])
    (FO : Fun K "fitting_one_of" "fitting_one_of" sOneOf fO fdO) (gO : mg "fitting_one_of" = some (.ref fO)) (bO : Binds K fdO ["office", "claims"] [])
    (FM : Fun K "may_be" "may_be" sMay fM fdM) (gM : mg "may_be" = some (.ref fM)) (bM : Binds K fdM ["office", "claim", "thing"] [])
    (FE : Fun K "errors_about" "errors_about" sErrors fE fdE) (gE : mg "errors_about" = some (.ref fE)) (bE : Binds K fdE ["claim", "thing"] []) :
    FnOk P w K mg base CX0 4 f fd ["office", "told"] (spOp C 7 (stepOf 7)) := by
  have GI : FnOk P w K mg base CX0 1 fI fdI ["office", "group"] (spClaimsIn C) := ok_claimsIn FI T
  have GO : FnOk P w K mg base CX0 3 fO fdO ["office", "claims"] (spOneOf C) := ok_oneOf FO T FM gM bM FE gE bE
  refine F.ok scWhy (fun vs H Q E h => ?_) (fun cdv A outer s H vs Q E hr h => ⟨_,
    pss_cons (ps_set (i := 2) scWhy.nd rfl (Or.inl rfl) pe_int)
    (pss_cons (ps_set (i := 3) scWhy.nd rfl (Or.inl rfl) pe_int)
    (pss_cons (ps_set (i := 4) scWhy.nd rfl (Or.inl rfl) (pe_lst pa_nil))
    (pss_cons (ps_for PassesOwn.never rfl (pi_range1 rfl T.range (pa_cons (pe_op op_shl pe_int (pe_callB call_len_seq (by rfl) T.len PySem.boot_len (pa_cons (pe_fld (pv 0) rfl) pa_nil))) pa_nil)) (pg_name (i := 5) scWhy.nd rfl (Or.inl rfl))
      (pss_cons (ps_set (i := 6) scWhy.nd rfl (Or.inl rfl) (pe_call GI (hr.mono (by decide)) rfl gI FI.kp bI .nil pass0 (pa_cons (pv 0) (pa_cons (pv 5) pa_nil))))
      (pss_cons (ps_set (i := 7) scWhy.nd rfl (Or.inl rfl) (pe_call GO hr rfl gO FO.kp bO .nil pass0 (pa_cons (pv 0) (pa_cons (pv 6) pa_nil))))
      (pss_one (ps_if (pt_cmpR op_gt (pe_op op_sub (pe_callB call_len_seq (by rfl) T.len PySem.boot_len (pa_cons (pv 6) pa_nil)) (pe_callB call_len_seq (by rfl) T.len PySem.boot_len (pa_cons (pv 7) pa_nil))) (pv 2) (nomark _))
        (pss_cons (ps_set (i := 2) scWhy.nd rfl (Or.inl rfl) (pe_op op_sub (pe_callB call_len_seq (by rfl) T.len PySem.boot_len (pa_cons (pv 6) pa_nil)) (pe_callB call_len_seq (by rfl) T.len PySem.boot_len (pa_cons (pv 7) pa_nil))))
        (pss_cons (ps_set (i := 3) scWhy.nd rfl (Or.inl rfl) (pv 5))
        (pss_one (ps_set (i := 4) scWhy.nd rfl (Or.inl rfl) (pv 7))))) pss_nil)))))
    (pss_one (ps_ret (pe_op op_cat (pe_lst (pa_cons (pv 2) (pa_cons (pv 3) pa_nil))) (pv 4))))))), ?_⟩)
  · obtain ⟨o, a, z, m, ns, rfl, _⟩ := h
    rfl
  obtain ⟨o, a, z, m, ns, rfl, hO, hm, ha, haf, ok, k⟩ := h
  have hl : ns.length = 0 := by
    have := ok.shape
    unfold shapeOk at this
    dsimp only at this
    omega
  obtain rfl : ns = [] := List.length_eq_zero_iff.mp hl
  have fin : ∀ (H' : Hp) (r : Addr), Same H H' → H' r = some (.lst (iv (stepOf 7 m []).2)) → H r = none → Q (.ref r) H' := fun H' r s e n => spOp.same hO k rfl s e n
  have hcl : (z.cs.map V.ref).length = m.claims.length := by rw [List.length_map]; exact hO.rc.1
  refine ⟨(by show 0 ≤ sizeLine; exact Nat.zero_le _), fun r0 hr0 => ?_⟩
  have s0 : Same H (upd H r0 (.lst [])) := Same.new hr0
  have hp5 : (2 : Int) ^ m.claims.length ≤ 32 := by
    have : (2 : Nat) ^ m.claims.length ≤ 2 ^ 5 := Nat.pow_le_pow_right (by decide) hm.c5
    exact_mod_cast this
  have hp0 : (0 : Int) < (2 : Int) ^ m.claims.length := by
    have : 0 < (2 : Nat) ^ m.claims.length := Nat.pow_pos (by decide)
    exact_mod_cast this
  refine ⟨_, rfl, o, C, z.dx, _, _, rfl, s0 _ _ hO.o, T.cl, T.nC, ofF_claims _ _ _, z.c, _, rfl, .inl (SqL.of (s0 _ _ hO.c)), _, _, rfl, rfl, ?_, ?_⟩
  · rw [hcl]
    have := hm.c5
    exact ⟨Int.natCast_nonneg _, by omega, by decide⟩
  refine ⟨(2 : Int) ^ m.claims.length, ?_, by omega, by omega, ?_⟩
  · show [V.int (1 * 2 ^ ((z.cs.map V.ref).length : Int).toNat)] = _
    rw [hcl, Int.toNat_natCast, Int.one_mul]
  have etn : ((2 : Int) ^ m.claims.length).toNat = 2 ^ m.claims.length := by
    have : (2 : Int) ^ m.claims.length = ((2 ^ m.claims.length : Nat) : Int) := by rw [Int.natCast_pow]; rfl
    rw [this, Int.toNat_natCast]
  rw [etn]
  refine for_range (lo := 0) (n := 2 ^ m.claims.length) (fun i σ H' => ∃ (s few : Nat) (v5 v6 v7 : Option V), σ = [some (.ref o), some (.ref a), some (.int (m.short s : Int)), some (.int (s : Int)), some (.ref few), v5, v6, v7] ∧ Same H H' ∧
      H' few = some (.lst (iv (zi (m.reach s)))) ∧ (s < i ∨ s = 0) ∧ (∀ x, x < i → m.short x ≤ m.short s) ∧ ∀ x, x < s → m.short x < m.short s) ?_ ?_ ?_
  · refine ⟨0, r0, none, none, none, by rw [short0]; rfl, s0, ?_, Or.inr rfl, fun x hx => absurd hx (Nat.not_lt_zero x), fun x hx => absurd hx (Nat.not_lt_zero x)⟩
    rw [reach0]
    exact upd_same
  · rintro i σ H1 hi ⟨s, few, v5, v6, v7, rfl, s1, hf, hs0, hs1, hs2⟩
    rw [Int.zero_add]
    refine ⟨_, rfl, _, rfl, o, z, m, i, rfl, hO.same s1, hm, fun H2 c s2 hcn hc => ?_⟩
    have s12 := s1.trans s2
    have hml : ∀ c ∈ m.members i, c < m.claims.length := fun c h => M.members_lt h
    have hm5 : (m.members i).length ≤ 5 := Nat.le_trans (membersTo_len m i m.claims.length) hm.c5
    refine ⟨_, rfl, _, rfl, o, c, z, m, m.members i, rfl, hO.same s12, hm, hc, hml, hm5, fun H3 r s3 hrn hr3 => ?_⟩
    have s123 := s12.trans s3
    have hc3 := s3 _ _ hc
    have e1 : (cref z o (m.members i)).length = (m.members i).length := cref_len _ _ _
    have e2 : (iv (zi (m.reachOf (m.members i) m.things.length))).length = (m.reach i).length := iv_zi_len _
    have hr4 : H3 r = some (.lst (iv (zi (m.reach i)))) := hr3
    have esh : m.short i = (m.members i).length - (m.reach i).length := rfl
    refine ⟨_, rfl, c, _, rfl, .inl (SqL.of hc3), _, rfl, r, _, rfl, .inl (SqL.of hr3), _, _, rfl, rfl, _, rfl, _, _, rfl, rfl, _, rfl, ?_⟩
    rw [e1, e2]
    refine ite2 (fun d => ?_) (fun d => ?_)
    · have d : (m.short s : Int) < ((m.members i).length : Int) - ((m.reach i).length : Int) := of_decide_eq_true d
      have es : ((m.members i).length : Int) - ((m.reach i).length : Int) = (m.short i : Int) := by omega
      refine ⟨_, rfl, c, _, rfl, .inl (SqL.of hc3), _, rfl, r, _, rfl, .inl (SqL.of hr3), _, _, rfl, rfl, ?_⟩
      rw [e1, e2]
      refine ⟨_, rfl, _, rfl, i, r, some (.int (i : Int)), some (.ref c), some (.ref r), ?_, s123, hr4, Or.inl (Nat.lt_succ_self i), fun x hx => ?_, fun x hx => ?_⟩
      · show [some (V.ref o), some (V.ref a), some (V.int (((m.members i).length : Int) - ((m.reach i).length : Int))), some (V.int (i : Int)), some (V.ref r), some (V.int (i : Int)), some (V.ref c), some (V.ref r)] = _
        rw [es]
      · by_cases q : x = i
        · rw [q]
          exact Nat.le_refl _
        · have := hs1 x (by omega)
          omega
      · have := hs1 x hx
        omega
    · have d : ¬ (m.short s : Int) < ((m.members i).length : Int) - ((m.reach i).length : Int) := fun e => d (decide_eq_true e)
      refine ⟨s, few, _, _, _, rfl, s123, s3 _ _ (s2 _ _ hf), ?_, fun x hx => ?_, hs2⟩
      · rcases hs0 with q | q
        · exact Or.inl (by omega)
        · exact Or.inr q
      · by_cases q : x = i
        · rw [q]
          omega
        · exact hs1 x (by omega)
  · rintro σ H1 ⟨s, few, v5, v6, v7, rfl, s1, hf, hs0, hs1, hs2⟩
    have hp : 0 < 2 ^ m.claims.length := Nat.pow_pos (by decide)
    have hlt : s < 2 ^ m.claims.length := by
      rcases hs0 with q | q
      · exact q
      · rw [q]
        exact hp
    have told := why_told hm hlt hs1 hs2
    refine ⟨_, rfl, _, rfl, (by show 2 ≤ sizeLine; decide), fun b hb => ?_⟩
    have s2 := s1.trans (Same.new (o := .lst [.int (m.short s : Int), .int (s : Int)]) hb)
    have hfb : few ≠ b := ne_of_none hf hb
    refine ⟨_, rfl, b, few, _, _, rfl, rfl, upd_same, (upd_ne hfb).trans hf, ?_, fun q hq => ?_⟩
    · rw [iv_zi_len]
      have := reachOf_len m (m.members s) m.things.length
      have := hm.t5
      have e : (m.reach s).length = (m.reachOf (m.members s) m.things.length).length := rfl
      exact Nat.le_trans (m := 7) (by show 2 + _ ≤ 7; omega) (by decide)
    · refine fin _ q (s2.trans (Same.new hq)) ?_ (s2.free hq)
      rw [upd_same, told]
      unfold iv
      rw [List.map_append]
      rfl
end
end My
set_option Elab.async false
set_option maxRecDepth 100000
set_option maxHeartbeats 4000000
namespace My
open PySem PySem.Spec PyProof.Rows L2
/-! ### the line, by places -/
theorem flat_append : ∀ (a b : List Q), flat (a ++ b) = flat a ++ flat b
  | [], _ => rfl
  | (p, ns) :: r, b => by
    show p :: (ns.length : Int) :: (ns ++ (0 :: flat (r ++ b))) = (p :: (ns.length : Int) :: (ns ++ (0 :: flat r))) ++ flat b
    rw [flat_append r b]
    simp
theorem flat_one (p : Int) (ns : List Int) (r : List Q) : flat ((p, ns) :: r) = p :: (ns.length : Int) :: (ns ++ (0 :: flat r)) := rfl
theorem flat_len1 (p : Int) (ns : List Int) : (flat [(p, ns)]).length = ns.length + 3 := by
  rw [flat_one]
  simp [flat]
theorem get_mid {α : Type} (pre : List α) (x : α) (r : List α) : (pre ++ x :: r)[pre.length]? = some x := by
  rw [List.getElem?_append_right (Nat.le_refl _), Nat.sub_self]
  rfl
theorem cut_mid (pre ns r : List Int) (i j : Nat) (hi : i = pre.length) (hj : j = pre.length + ns.length) : cutV (iv (pre ++ (ns ++ r))) (some (i : Int)) (some (j : Int)) = iv ns := by
  subst hi hj
  unfold cutV
  rw [HT.sIx_nat, HT.sIx_nat]
  unfold iv
  rw [List.length_map, List.length_append, List.length_append, Nat.min_eq_left (by omega), Nat.min_eq_left (by omega), List.map_append, List.map_append]
  have e1 : pre.length = (pre.map V.int).length := (List.length_map _).symm
  rw [e1, List.drop_left, ← e1, Nat.add_sub_cancel_left]
  have e2 : ns.length = (ns.map V.int).length := (List.length_map _).symm
  rw [e2, List.take_left]
theorem told_append (a b : List (List Int)) : PyFlat.told (a ++ b) = PyFlat.told a ++ PyFlat.told b := by
  unfold PyFlat.told
  rw [List.flatMap_append]
/-- what is due of the rest, from a state -/
def dueFrom (s : Si86.Office) (qs : List Q) : List (List Int) := PyFlat.played Si86Neutral.step s (qs.map row)
theorem dueFrom_cons (s : Si86.Office) (q : Q) (r : List Q) : dueFrom s (q :: r) = (Si86Neutral.step s (row q)).2 :: dueFrom (Si86Neutral.step s (row q)).1 r := rfl
theorem told_cons (a : List Int) (r : List (List Int)) : PyFlat.told (a :: r) = (a.length : Int) :: (a ++ PyFlat.told r) := rfl
section
variable {P : Program} {w : World} {K : PySem.W.Frag} {mg : Str → Option Value} {base : Heap} {C D : Addr}
/-- the defs that the table holds, with their promises -/
def inTab (P : Program) (w : World) (K : PySem.W.Frag) (mg : Str → Option Value) (base : Heap) (C D : Addr) (k : Nat) (gOf : Int → M → List Int → M × List Int) (f : Addr) (sp : Sp) : Prop := ∃ p : Int, KDctI K D p (.ref f) ∧ Held P w K mg base k f sp ∧ sp = spOp C p (gOf p)
def spAns (K : PySem.W.Frag) : Sp := fun vs H Q _ => ∃ (a : Addr) (l : List Int), vs = [.ref a] ∧ SqL K H a (iv l) ∧ PySi86.answers_asked l = true ∧
  ∀ (H' : Hp) (p : Addr), H' p = some (.lst (iv (PySi86.answers l))) → Q (.ref p) H'
def placeOf (σ : List (Option V)) : Nat := match (σ[3]? : Option (Option V)) with
  | some (some (.int p)) => p.toNat
  | _ => 0
theorem ok_ans {k : Nat} {f fI : Addr} {fd fdI : FuncData} (F : Fun K "answers" "answers" sAns f fd) (T : Txt K mg C D) (Mc : Mk K C fI) (FI : Fun K "__init__" "Office.__init__" sInit fI fdI) (bI : Binds K fdI ["self"] [])
    (gOf : Int → M → List Int → M × List Int) (hk : 2 ≤ k)
    (hstep : ∀ p m ns, m.Ok → OkQ (p, ns) → Si86Neutral.step m.off (row (p, ns)) = ((gOf p m ns).1.off, (gOf p m ns).2) ∧ (gOf p m ns).1.Ok)
    (hdict : ∀ p : Int, 0 ≤ p → p ≤ 7 → ∃ f, KDctI K D p (.ref f) ∧ Held P w K mg base k f (spOp C p (gOf p))) :
    FnOk P w K mg base CX0 (k + 1) f fd ["calls"] (spAns K) := by
  have GI : FnOk P w K mg base CX0 1 fI fdI ["self"] (spInit C) := ok_init FI T
  refine F.ok scAns (fun vs H Q E h => ?_) (fun cdv A outer s H vs Q E hr h => ⟨_,
    pss_cons (ps_set (i := 1) scAns.nd rfl (Or.inl rfl) (pe_make0 Mc GI (hr.mono hk) rfl T.gC bI .nil pass0))
    (pss_cons (ps_set (i := 2) scAns.nd rfl (Or.inl rfl) (pe_lst pa_nil))
    (pss_cons (ps_set (i := 3) scAns.nd rfl (Or.inl rfl) pe_int)
    (pss_cons (ps_while PassesOwn.never (pt_cmpR op_lt (pv 3) (pe_callB call_len_seq (by rfl) T.len PySem.boot_len (pa_cons (pv 0) pa_nil)) (nomark _))
      (pss_cons (ps_set (i := 4) scAns.nd rfl (Or.inl rfl) (pe_op op_add (pv 3) pe_int))
      (pss_cons (ps_set (i := 5) scAns.nd rfl (Or.inl rfl) (pe_op op_add (pv 4) (pe_ix ix_list (pv 0) (pe_op op_add (pv 3) pe_int) (fun _ _ => rfl))))
      (pss_cons (ps_set (i := 6) scAns.nd rfl (Or.inl rfl) (pe_callE (S := inTab P w K mg base C D k gOf) (pe_ix ix_kdictI (pe_glob (v := .ref D) rfl T.gD rfl) (pe_ix ix_list (pv 0) (pv 3) (fun _ _ => rfl)) (fun _ _ => rfl))
        (fun f sp ⟨p, h1, h2, h3⟩ => h2) hr (pa_cons (pv 1) (pa_cons (pe_slice sl_list (pv 0) (po_some (pv 4)) (po_some (pv 5))) pa_nil))))
      (pss_cons (ps_expr (pe_bm PySem.F.plainAttrs_list PySem.F.slot_list_append PySem.F.type_list_append mt_append (pv 2) (pa_cons (pe_callB call_len_seq (by rfl) T.len PySem.boot_len (pa_cons (pv 6) pa_nil)) pa_nil)))
      (pss_cons (ps_expr (pe_bm PySem.F.plainAttrs_list PySem.F.slot_list_extend PySem.F.type_list_extend mt_extend (pv 2) (pa_cons (pv 6) pa_nil)))
      (pss_one (ps_set (i := 3) scAns.nd rfl (Or.inl rfl) (pe_op op_add (pv 5) pe_int)))))))))
    (pss_one (ps_ret (pv 2)))))), ?_⟩)
  · obtain ⟨a, l, rfl, _⟩ := h
    rfl
  obtain ⟨a, l, rfl, hS, hask, kk⟩ := h
  obtain ⟨qs, hl, hok, h60, hans, hbig⟩ := asked_inv hask
  intro o dx no nd nod
  refine ⟨o, dx, rfl, upd_same, fun H1 t c hO1 nt nc kp => ⟨rfl, ?_⟩⟩
  have s1 : Same H H1 := Same.made no nd kp
  have nt0 : H t = none := by
    cases q : H t with
    | none => rfl
    | some x =>
      have := kp t x (by rw [upd_ne (ne_of_none q no), upd_ne (ne_of_none q nd)]; exact q) (ne_of_none q no)
      rw [upd_ne (ne_of_none q no), upd_ne (ne_of_none q nd), q] at nt
      cases nt
  have nc0 : H c = none := by
    cases q : H c with
    | none => rfl
    | some x =>
      rw [upd_ne (ne_of_none q no), upd_ne (ne_of_none q nd), q] at nc
      cases nc
  refine ⟨(by show 0 ≤ sizeLine; exact Nat.zero_le _), fun g hg => ?_⟩
  have s2 : Same H1 (upd H1 g (.lst [])) := Same.new hg
  have hg0 : H g = none := s1.free hg
  refine while_by (fun σ H' => ∃ (dn rest : List My.Q) (v4 v5 v6 : Option V) (z : Where) (m : M) (outs : List (List Int)), σ = [some (.ref a), some (.ref o), some (.ref g), some (.int ((flat dn).length : Int)), v4, v5, v6] ∧
      qs = dn ++ rest ∧ Same H H' ∧ OffAt C H' o z m ∧ m.Ok ∧ H' g = some (.lst (iv (PyFlat.told outs))) ∧ due qs = outs ++ dueFrom m.off rest ∧ g ∉ z.foot o ∧ ∀ p ∈ z.foot o, H p = none)
    (fun σ _ => l.length - placeOf σ) ?_ ?_ ?_
  · refine ⟨[], qs, none, none, none, _, _, [], rfl, rfl, s1.trans s2, hO1.same s2, M.init_ok, upd_same, rfl, ?_, ?_⟩
    · intro hm
      obtain ⟨x, hx⟩ := hO1.tracked g hm
      rw [hg] at hx
      cases hx
    · intro p hp
      simp only [Where.foot, List.mem_cons, List.append_nil, List.not_mem_nil, or_false] at hp
      rcases hp with rfl | rfl | rfl
      · exact no
      · exact nt0
      · exact nc0
  · rintro σ H2 ⟨dn, rest, v4, v5, v6, z, m, outs, rfl, hqs, sH, hO, hm, hgv, hdue, hgf, hnew⟩
    refine ⟨_, rfl, _, rfl, a, _, rfl, .inl (sH.seq hS), _, _, rfl, rfl, _, rfl, ?_⟩
    have hlen : (iv l).length = l.length := List.length_map _
    rw [hlen]
    have hl2 : l = flat dn ++ flat rest := by rw [hl, hqs, flat_append]
    cases rest with
    | nil =>
      have hl3 : l = flat dn := by rw [hl2]; show flat dn ++ [] = _; rw [List.append_nil]
      refine ite2 (fun q => ?_) (fun _ => ?_)
      · have q := of_decide_eq_true q
        rw [hl3] at q
        omega
      · refine ⟨_, rfl, kk H2 g ?_⟩
        have e : due qs = outs := by
          rw [hdue]
          show outs ++ [] = outs
          rw [List.append_nil]
        rw [hans, e]
        exact hgv
    | cons q rest =>
      obtain ⟨p, ns⟩ := q
      have okq : OkQ (p, ns) := hok (p, ns) (by rw [hqs]; simp)
      have hpl : 0 ≤ p ∧ p ≤ 7 := by
        have := okq.shape
        unfold shapeOk at this
        dsimp only at this
        omega
      have hl3 : l = flat dn ++ (p :: (ns.length : Int) :: (ns ++ (0 :: flat rest))) := hl2
      have hlt : l.length = (flat dn).length + (ns.length + 3 + (flat rest).length) := by
        rw [hl3]
        simp
        omega
      refine ite2 (fun _ => ?_) (fun c => absurd (decide_eq_true (by omega)) c)
      have hSl := sH.seq hS
      have i0 : atI (iv l) ((flat dn).length : Int) = some (.int p) := by
        refine atI_nat ?_
        unfold iv
        rw [List.getElem?_map, hl3, get_mid]
        rfl
      have i1 : atI (iv l) ((flat dn).length + 1 : Int) = some (.int (ns.length : Int)) := by
        refine atI_nat (j := (flat dn).length + 1) ?_
        unfold iv
        have e : l = (flat dn ++ [p]) ++ ((ns.length : Int) :: (ns ++ (0 :: flat rest))) := by rw [hl3]; simp
        have e2 : (flat dn).length + 1 = (flat dn ++ [p]).length := by simp
        rw [List.getElem?_map, e, e2, get_mid]
        rfl
      have cut : cutV (iv l) (some ((flat dn).length + 2 : Int)) (some ((flat dn).length + 2 + ns.length : Int)) = iv ns := by
        have e : l = (flat dn ++ [p, (ns.length : Int)]) ++ (ns ++ (0 :: flat rest)) := by rw [hl3]; simp
        have := cut_mid (flat dn ++ [p, (ns.length : Int)]) ns (0 :: flat rest) ((flat dn).length + 2) ((flat dn).length + 2 + ns.length) (by simp) (by simp)
        rw [← e] at this
        exact this
      refine ⟨_, rfl, _, _, rfl, rfl, ?_⟩
      refine ⟨_, rfl, _, rfl, _, rfl, _, _, rfl, rfl, a, _, _, _, rfl, rfl, hSl, i1, _, _, rfl, rfl, ?_⟩
      obtain ⟨fp, hd1, hd2⟩ := hdict p hpl.1 hpl.2
      refine ⟨_, rfl, _, rfl, a, _, _, _, rfl, rfl, hSl, i0, D, p, _, rfl, rfl, hd1, fp, spOp C p (gOf p), rfl, ⟨p, hd1, hd2, rfl⟩, ?_⟩
      refine ⟨_, rfl, _, rfl, _, rfl, _, rfl, _, rfl, _, rfl, a, _, rfl, hSl, fun b hb => ?_⟩
      have e2 : ((flat dn).length : Int) + 2 + (ns.length : Int) = ((flat dn).length + 2 + ns.length : Int) := rfl
      rw [cut]
      have s3 : Same H2 (upd H2 b (.lst (iv ns))) := Same.new hb
      have hbf : b ∉ z.foot o := fun q => by
        obtain ⟨x, hx⟩ := hO.tracked b q
        rw [hb] at hx
        cases hx
      obtain ⟨hs1, hs2⟩ := hstep p m ns hm okq
      refine ⟨o, b, z, m, ns, rfl, hO.same s3, hm, upd_same, hbf, okq, fun H3 r z' hO3 hr3 hrn kp3 ft3 => ?_⟩
      have hgo : g ≠ o := fun q => hgf (by simp [Where.foot, q])
      have hgt : g ≠ z.t := fun q => hgf (by simp [Where.foot, q])
      have hgc : g ≠ z.c := fun q => hgf (by simp [Where.foot, q])
      have hg3 : H3 g = some (.lst (iv (PyFlat.told outs))) := kp3 g _ (s3 _ _ hgv) hgo hgt hgc
      have hrg : r ≠ g := fun q => by
        rw [q, s3 _ _ hgv] at hrn
        cases hrn
      have hgb : g ≠ b := ne_of_none hgv hb
      have hgf3 : g ∉ z'.foot o := fun q => by
        rcases ft3 g q with q | q | q
        · exact hgf q
        · exact hgb q
        · rw [s3 _ _ hgv] at q
          cases q
      have sH3 : Same H H3 := fun b' x hx => by
        have notf : b' ∉ z.foot o := fun q => by
          rw [hnew b' q] at hx
          cases hx
        exact kp3 b' x (s3 _ _ (sH _ _ hx)) (fun q => notf (by simp [Where.foot, q])) (fun q => notf (by simp [Where.foot, q])) (fun q => notf (by simp [Where.foot, q]))
      have hnew3 : ∀ p ∈ z'.foot o, H p = none := fun q hq => by
        rcases ft3 q hq with e | e | e
        · exact hnew q e
        · rw [e]
          exact sH.free hb
        · exact sH.free (s3.free e)
      have hdue2 : due qs = (outs ++ [(gOf p m ns).2]) ++ dueFrom (gOf p m ns).1.off rest := by
        rw [hdue, dueFrom_cons, hs1, List.append_assoc]
        rfl
      have htold : PyFlat.told (outs ++ [(gOf p m ns).2]) = PyFlat.told outs ++ (((gOf p m ns).2.length : Int) :: (gOf p m ns).2) := by
        rw [told_append, told_cons]
        show _ = _ ++ (_ :: _)
        rw [show PyFlat.told [] = [] from rfl, List.append_nil]
      have hsz : (PyFlat.told outs).length + ((gOf p m ns).2.length + 1) ≤ 10000000 := by
        have h1 := hbig
        rw [hdue2, told_append, List.length_append, htold, List.length_append, List.length_cons] at h1
        omega
      have hsl : (10000000 : Nat) < sizeLine := by decide
      have hivl : ∀ x : List Int, (iv x).length = x.length := fun x => List.length_map _
      refine ⟨_, rfl, Or.inl ⟨rfl, _, Or.inl (Or.inl hg3)⟩, _, rfl, r, _, rfl, .inl (SqL.of hr3), g, _, _, rfl, rfl, hg3, ?_, ?_⟩
      · rw [hivl]
        omega
      rw [hivl]
      refine ⟨_, rfl, Or.inl ⟨rfl, _, Or.inl (Or.inl upd_same)⟩, _, rfl, g, r, _, _, rfl, rfl, upd_same, (upd_ne hrg).trans hr3, ?_, ?_⟩
      · rw [List.length_append, hivl, hivl]
        show _ + 1 + _ ≤ _
        omega
      refine ⟨_, rfl, _, _, rfl, rfl, ?_⟩
      have e5 : (flat (dn ++ [(p, ns)])).length = (flat dn).length + (ns.length + 3) := by rw [flat_append, List.length_append, flat_len1]
      have stay : ∀ b' x, H3 b' = some x → b' ≠ g → upd (upd H3 g (.lst (iv (PyFlat.told outs) ++ [.int ((gOf p m ns).2.length : Int)]))) g (.lst (iv (PyFlat.told outs) ++ [.int ((gOf p m ns).2.length : Int)] ++ iv (gOf p m ns).2)) b' = some x := fun b' x hx hne => by
        rw [upd_ne hne, upd_ne hne]
        exact hx
      refine ⟨⟨dn ++ [(p, ns)], rest, some (.int (((flat dn).length : Int) + 2)), some (.int (((flat dn).length : Int) + 2 + (ns.length : Int))), some (.ref r), z', (gOf p m ns).1, outs ++ [(gOf p m ns).2], ?_, by rw [hqs, List.append_assoc]; rfl, ?_, ?_, hs2, ?_, hdue2, hgf3, hnew3⟩, ?_⟩
      · rw [e5]
        have e6 : (((flat dn).length + (ns.length + 3) : Nat) : Int) = ((flat dn).length : Int) + 2 + (ns.length : Int) + 1 := by omega
        rw [e6]
        rfl
      · intro b' x hx
        exact stay b' x (sH3 _ _ hx) (fun q => by rw [q, hg0] at hx; cases hx)
      · exact hO3.keep fun q hq x hx => stay q x hx fun e => hgf3 (e ▸ hq)
      · rw [upd_same, htold]
        refine congrArg (fun q => some (HO.lst q)) ?_
        rw [iv_append, List.append_assoc]
        rfl
      · have e7 : placeOf [some (V.ref a), some (.ref o), some (.ref g), some (.int ((flat dn).length : Int)), v4, v5, v6] = (flat dn).length := rfl
        have e8 : ∀ (y4 y5 y6 : Option V) (n : Int), placeOf [some (V.ref a), some (.ref o), some (.ref g), some (.int n), y4, y5, y6] = n.toNat := fun _ _ _ _ => rfl
        show l.length - placeOf [some (V.ref a), some (.ref o), some (.ref g), some (.int (((flat dn).length : Int) + 2 + (ns.length : Int) + 1)), _, _, _] < l.length - placeOf _
        rw [e8, e7]
        omega
  · rintro σ H' Q1 Q2 hm ⟨x, h1, y, h2, p, ys, h3, h4, i, j, h5, h6, b, h7, h8⟩
    exact ⟨x, h1, y, h2, p, ys, h3, h4, i, j, h5, h6, b, h7, hm _ _ h8⟩
end
end My
set_option Elab.async false
set_option maxRecDepth 100000
set_option maxHeartbeats 4000000
namespace My
open PySem PySem.Spec PyProof.Rows L2
open PySem.W (Codec)
def gOf (p : Int) (m : M) (ns : List Int) : M × List Int := if p = 0 then gBegins m ns else if p = 1 then gThing m ns else if p = 2 then gClaim m ns else if p = 3 then gFits m ns else if p = 4 then gCheck m ns else stepOf p m ns
theorem len0 {ns : List Int} (h : ns.length = 0) : ns = [] := List.length_eq_zero_iff.mp h
theorem step_all (p : Int) (m : M) (ns : List Int) (k : m.Ok) (h : OkQ (p, ns)) : Si86Neutral.step m.off (row (p, ns)) = ((gOf p m ns).1.off, (gOf p m ns).2) ∧ (gOf p m ns).1.Ok := by
  have hn := h.nums
  have hs := h.shape
  unfold shapeOk at hs
  dsimp only at hs hn
  rcases hs with ⟨rfl, hl⟩ | ⟨rfl, hl⟩ | ⟨rfl, hl⟩ | ⟨rfl, hl⟩ | ⟨rfl, hl⟩ | ⟨rfl, hl⟩ | ⟨rfl, hl⟩ | ⟨rfl, hl⟩
  · obtain ⟨e, rfl⟩ := len1 hl
    have he := hn e (by simp)
    exact ⟨step_begins he, begins_ok k he⟩
  · exact ⟨step_thing k hl hn, takesT_ok k hl hn⟩
  · exact ⟨step_claim k hl hn, takesC_ok k hl hn⟩
  · obtain ⟨e, rfl⟩ := len1 hl
    exact ⟨step_fits k (hn e (by simp)), k⟩
  · exact ⟨step_check k hn hl, k⟩
  · obtain rfl := len0 hl
    exact ⟨rfl, k⟩
  · obtain ⟨e, rfl⟩ := len1 hl
    refine ⟨Prod.ext ?_ rfl, k⟩
    show (Si86.step m.off (.has e.toNat)).1 = m.off
    by_cases c : m.off.claims.length ≤ e.toNat
    · exact congrArg Prod.fst (if_pos c)
    · exact congrArg Prod.fst (if_neg c)
  · obtain rfl := len0 hl
    exact ⟨rfl, k⟩
theorem all_mk {P : Program} {w : World} {K : PySem.W.Frag} {h : Heap} {mg : Str → Option Value} {fa C D : Addr} (X : K.In h) (G : h.Ns mainGlobals mg) (hfa : mg "answers" = some (.ref fa))
    {fI fBg fBh fT fC fE fG fF fA fM fV fR fU fW fK fP fQ fB fH fN fO fY : Addr} {nd : Nat} {t4 t5 t9 t10 k0 k1 k2 k3 k4 k5 k6 k7 : Tok}
    {od0 an0 od1 an1 od2 an2 od3 an3 od4 an4 od5 an5 od6 an6 od7 an7 od8 an8 od9 an9 od10 an10 od11 an11 od12 an12 od13 an13 od14 an14 od15 an15 od16 an16 od17 an17 od18 an18 od19 an19 od20 an20 od21 an21 : Option Addr} {sl0 sl1 sl2 sl3 sl4 sl5 sl6 sl7 sl8 sl9 sl10 sl11 sl12 sl13 sl14 sl15 sl16 sl17 sl18 sl19 sl20 sl21 : Array (Option Value)}
    {oc0 kV0 dc0 pm0 cd0 ct0 oc1 kV1 dc1 pm1 cd1 ct1 oc2 kV2 dc2 pm2 cd2 ct2 oc3 kV3 dc3 pm3 cd3 ct3 oc4 kV4 dc4 pm4 cd4 ct4 oc5 kV5 dc5 pm5 cd5 ct5 oc6 kV6 dc6 pm6 cd6 ct6 oc7 kV7 dc7 pm7 cd7 ct7 oc8 kV8 dc8 pm8 cd8 ct8 oc9 kV9 dc9 pm9 cd9 ct9 oc10 kV10 dc10 pm10 cd10 ct10 oc11 kV11 dc11 pm11 cd11 ct11 oc12 kV12 dc12 pm12 cd12 ct12 oc13 kV13 dc13 pm13 cd13 ct13 oc14 kV14 dc14 pm14 cd14 ct14 oc15 kV15 dc15 pm15 cd15 ct15 oc16 kV16 dc16 pm16 cd16 ct16 oc17 kV17 dc17 pm17 cd17 ct17 oc18 kV18 dc18 pm18 cd18 ct18 oc19 kV19 dc19 pm19 cd19 ct19 oc20 kV20 dc20 pm20 cd20 ct20 oc21 kV21 dc21 pm21 cd21 ct21 : Value}
    (aC : PySem.W.nsIn K mainGlobals "Office" = some (some (.ref C)))
    (aD : PySem.W.nsIn K mainGlobals "CALLS" = some (some (.ref D)))
    (x4 : PySem.W.nsIn K mainGlobals "MOST_WRONG" = some (some (.int 4 t4)))
    (x5 : PySem.W.nsIn K mainGlobals "MOST_KEPT" = some (some (.int 5 t5)))
    (x9 : PySem.W.nsIn K mainGlobals "HIGHEST_VALUE" = some (some (.int 9 t9)))
    (x10 : PySem.W.nsIn K mainGlobals "LEFT_OUT" = some (some (.int 10 t10)))
    (xl : PySem.W.nsIn K mainGlobals "len" = some none)
    (xm : PySem.W.nsIn K mainGlobals "max" = some none)
    (xz : PySem.W.nsIn K mainGlobals "zip" = some none)
    (xe : PySem.W.nsIn K mainGlobals "enumerate" = some none)
    (xn : PySem.W.nsIn K mainGlobals "min" = some none)
    (xs : PySem.W.nsIn K mainGlobals "set" = some none)
    (xo : PySem.W.nsIn K mainGlobals "sorted" = some none)
    (xa : PySem.W.nsIn K mainGlobals "any" = some none)
    (xr : PySem.W.nsIn K mainGlobals "range" = some none)
    (a0 : PySem.W.findIn K (.ref C) "__init__" = some (some (.ref fI)))
    (i0 : PySem.W.isFn K (.ref fI) = true)
    (l0 : K.lookup fI = some ⟨oc0, od0, .func (PySem.W.fnOf "__init__" "Office.__init__" (defArgs sInit) (defBody sInit) (defScope sInit) .none kV0 dc0 pm0 an0 cd0 ct0), sl0⟩)
    (c0 : PySem.W.codeIn K cd0 "Office.__init__" = true)
    (q0 : PySem.W.keepIn K (.ref fI) = true)
    (a1 : PySem.W.nsIn K mainGlobals "begins" = some (some (.ref fBg)))
    (l1 : K.lookup fBg = some ⟨oc1, od1, .func (PySem.W.fnOf "begins" "begins" (defArgs sBegins) (defBody sBegins) (defScope sBegins) .none kV1 dc1 pm1 an1 cd1 ct1), sl1⟩)
    (c1 : PySem.W.codeIn K cd1 "begins" = true)
    (q1 : PySem.W.keepIn K (.ref fBg) = true)
    (a2 : PySem.W.nsIn K mainGlobals "number_behind" = some (some (.ref fBh)))
    (l2 : K.lookup fBh = some ⟨oc2, od2, .func (PySem.W.fnOf "number_behind" "number_behind" (defArgs sBehind) (defBody sBehind) (defScope sBehind) .none kV2 dc2 pm2 an2 cd2 ct2), sl2⟩)
    (c2 : PySem.W.codeIn K cd2 "number_behind" = true)
    (q2 : PySem.W.keepIn K (.ref fBh) = true)
    (a3 : PySem.W.nsIn K mainGlobals "takes_thing" = some (some (.ref fT)))
    (l3 : K.lookup fT = some ⟨oc3, od3, .func (PySem.W.fnOf "takes_thing" "takes_thing" (defArgs sThing) (defBody sThing) (defScope sThing) .none kV3 dc3 pm3 an3 cd3 ct3), sl3⟩)
    (c3 : PySem.W.codeIn K cd3 "takes_thing" = true)
    (q3 : PySem.W.keepIn K (.ref fT) = true)
    (a4 : PySem.W.nsIn K mainGlobals "takes_claim" = some (some (.ref fC)))
    (l4 : K.lookup fC = some ⟨oc4, od4, .func (PySem.W.fnOf "takes_claim" "takes_claim" (defArgs sClaim) (defBody sClaim) (defScope sClaim) .none kV4 dc4 pm4 an4 cd4 ct4), sl4⟩)
    (c4 : PySem.W.codeIn K cd4 "takes_claim" = true)
    (q4 : PySem.W.keepIn K (.ref fC) = true)
    (a5 : PySem.W.nsIn K mainGlobals "errors_about" = some (some (.ref fE)))
    (l5 : K.lookup fE = some ⟨oc5, od5, .func (PySem.W.fnOf "errors_about" "errors_about" (defArgs sErrors) (defBody sErrors) (defScope sErrors) .none kV5 dc5 pm5 an5 cd5 ct5), sl5⟩)
    (c5 : PySem.W.codeIn K cd5 "errors_about" = true)
    (q5 : PySem.W.keepIn K (.ref fE) = true)
    (a6 : PySem.W.nsIn K mainGlobals "fitting" = some (some (.ref fG)))
    (l6 : K.lookup fG = some ⟨oc6, od6, .func (PySem.W.fnOf "fitting" "fitting" (defArgs sFitting) (defBody sFitting) (defScope sFitting) .none kV6 dc6 pm6 an6 cd6 ct6), sl6⟩)
    (c6 : PySem.W.codeIn K cd6 "fitting" = true)
    (q6 : PySem.W.keepIn K (.ref fG) = true)
    (a7 : PySem.W.nsIn K mainGlobals "fits" = some (some (.ref fF)))
    (l7 : K.lookup fF = some ⟨oc7, od7, .func (PySem.W.fnOf "fits" "fits" (defArgs sFits) (defBody sFits) (defScope sFits) .none kV7 dc7 pm7 an7 cd7 ct7), sl7⟩)
    (c7 : PySem.W.codeIn K cd7 "fits" = true)
    (q7 : PySem.W.keepIn K (.ref fF) = true)
    (a8 : PySem.W.nsIn K mainGlobals "answers" = some (some (.ref fA)))
    (l8 : K.lookup fA = some ⟨oc8, od8, .func (PySem.W.fnOf "answers" "answers" (defArgs sAns) (defBody sAns) (defScope sAns) .none kV8 dc8 pm8 an8 cd8 ct8), sl8⟩)
    (c8 : PySem.W.codeIn K cd8 "answers" = true)
    (q8 : PySem.W.keepIn K (.ref fA) = true)
    (a9 : PySem.W.nsIn K mainGlobals "may_be" = some (some (.ref fM)))
    (l9 : K.lookup fM = some ⟨oc9, od9, .func (PySem.W.fnOf "may_be" "may_be" (defArgs sMay) (defBody sMay) (defScope sMay) .none kV9 dc9 pm9 an9 cd9 ct9), sl9⟩)
    (c9 : PySem.W.codeIn K cd9 "may_be" = true)
    (q9 : PySem.W.keepIn K (.ref fM) = true)
    (a10 : PySem.W.nsIn K mainGlobals "given_out" = some (some (.ref fV)))
    (l10 : K.lookup fV = some ⟨oc10, od10, .func (PySem.W.fnOf "given_out" "given_out" (defArgs sGiven) (defBody sGiven) (defScope sGiven) .none kV10 dc10 pm10 an10 cd10 ct10), sl10⟩)
    (c10 : PySem.W.codeIn K cd10 "given_out" = true)
    (q10 : PySem.W.keepIn K (.ref fV) = true)
    (a11 : PySem.W.nsIn K mainGlobals "errors_of" = some (some (.ref fR)))
    (l11 : K.lookup fR = some ⟨oc11, od11, .func (PySem.W.fnOf "errors_of" "errors_of" (defArgs sErrs) (defBody sErrs) (defScope sErrs) .none kV11 dc11 pm11 an11 cd11 ct11), sl11⟩)
    (c11 : PySem.W.codeIn K cd11 "errors_of" = true)
    (q11 : PySem.W.keepIn K (.ref fR) = true)
    (a12 : PySem.W.nsIn K mainGlobals "first_unfit" = some (some (.ref fU)))
    (l12 : K.lookup fU = some ⟨oc12, od12, .func (PySem.W.fnOf "first_unfit" "first_unfit" (defArgs sUnfit) (defBody sUnfit) (defScope sUnfit) .none kV12 dc12 pm12 an12 cd12 ct12), sl12⟩)
    (c12 : PySem.W.codeIn K cd12 "first_unfit" = true)
    (q12 : PySem.W.keepIn K (.ref fU) = true)
    (a13 : PySem.W.nsIn K mainGlobals "first_twice" = some (some (.ref fW)))
    (l13 : K.lookup fW = some ⟨oc13, od13, .func (PySem.W.fnOf "first_twice" "first_twice" (defArgs sTwice) (defBody sTwice) (defScope sTwice) .none kV13 dc13 pm13 an13 cd13 ct13), sl13⟩)
    (c13 : PySem.W.codeIn K cd13 "first_twice" = true)
    (q13 : PySem.W.keepIn K (.ref fW) = true)
    (a14 : PySem.W.nsIn K mainGlobals "check" = some (some (.ref fK)))
    (l14 : K.lookup fK = some ⟨oc14, od14, .func (PySem.W.fnOf "check" "check" (defArgs sCheck) (defBody sCheck) (defScope sCheck) .none kV14 dc14 pm14 an14 cd14 ct14), sl14⟩)
    (c14 : PySem.W.codeIn K cd14 "check" = true)
    (q14 : PySem.W.keepIn K (.ref fK) = true)
    (a15 : PySem.W.nsIn K mainGlobals "possible_plans" = some (some (.ref fP)))
    (l15 : K.lookup fP = some ⟨oc15, od15, .func (PySem.W.fnOf "possible_plans" "possible_plans" (defArgs sPlans) (defBody sPlans) (defScope sPlans) .none kV15 dc15 pm15 an15 cd15 ct15), sl15⟩)
    (c15 : PySem.W.codeIn K cd15 "possible_plans" = true)
    (q15 : PySem.W.keepIn K (.ref fP) = true)
    (a16 : PySem.W.nsIn K mainGlobals "full_plans" = some (some (.ref fQ)))
    (l16 : K.lookup fQ = some ⟨oc16, od16, .func (PySem.W.fnOf "full_plans" "full_plans" (defArgs sFull) (defBody sFull) (defScope sFull) .none kV16 dc16 pm16 an16 cd16 ct16), sl16⟩)
    (c16 : PySem.W.codeIn K cd16 "full_plans" = true)
    (q16 : PySem.W.keepIn K (.ref fQ) = true)
    (a17 : PySem.W.nsIn K mainGlobals "best" = some (some (.ref fB)))
    (l17 : K.lookup fB = some ⟨oc17, od17, .func (PySem.W.fnOf "best" "best" (defArgs sBest) (defBody sBest) (defScope sBest) .none kV17 dc17 pm17 an17 cd17 ct17), sl17⟩)
    (c17 : PySem.W.codeIn K cd17 "best" = true)
    (q17 : PySem.W.keepIn K (.ref fB) = true)
    (a18 : PySem.W.nsIn K mainGlobals "has" = some (some (.ref fH)))
    (l18 : K.lookup fH = some ⟨oc18, od18, .func (PySem.W.fnOf "has" "has" (defArgs sHas) (defBody sHas) (defScope sHas) .none kV18 dc18 pm18 an18 cd18 ct18), sl18⟩)
    (c18 : PySem.W.codeIn K cd18 "has" = true)
    (q18 : PySem.W.keepIn K (.ref fH) = true)
    (a19 : PySem.W.nsIn K mainGlobals "claims_in" = some (some (.ref fN)))
    (l19 : K.lookup fN = some ⟨oc19, od19, .func (PySem.W.fnOf "claims_in" "claims_in" (defArgs sClaimsIn) (defBody sClaimsIn) (defScope sClaimsIn) .none kV19 dc19 pm19 an19 cd19 ct19), sl19⟩)
    (c19 : PySem.W.codeIn K cd19 "claims_in" = true)
    (q19 : PySem.W.keepIn K (.ref fN) = true)
    (a20 : PySem.W.nsIn K mainGlobals "fitting_one_of" = some (some (.ref fO)))
    (l20 : K.lookup fO = some ⟨oc20, od20, .func (PySem.W.fnOf "fitting_one_of" "fitting_one_of" (defArgs sOneOf) (defBody sOneOf) (defScope sOneOf) .none kV20 dc20 pm20 an20 cd20 ct20), sl20⟩)
    (c20 : PySem.W.codeIn K cd20 "fitting_one_of" = true)
    (q20 : PySem.W.keepIn K (.ref fO) = true)
    (a21 : PySem.W.nsIn K mainGlobals "why" = some (some (.ref fY)))
    (l21 : K.lookup fY = some ⟨oc21, od21, .func (PySem.W.fnOf "why" "why" (defArgs sWhy) (defBody sWhy) (defScope sWhy) .none kV21 dc21 pm21 an21 cd21 ct21), sl21⟩)
    (c21 : PySem.W.codeIn K cd21 "why" = true)
    (q21 : PySem.W.keepIn K (.ref fY) = true)
    (lD : K.lookup D = some ⟨.type "dict", none, .dict #[⟨0, .int 0 k0, .ref fBg⟩, ⟨1, .int 1 k1, .ref fT⟩, ⟨2, .int 2 k2, .ref fC⟩, ⟨3, .int 3 k3, .ref fF⟩, ⟨4, .int 4 k4, .ref fK⟩, ⟨5, .int 5 k5, .ref fB⟩, ⟨6, .int 6 k6, .ref fH⟩, ⟨7, .int 7 k7, .ref fY⟩] nd, #[]⟩)
    (pg : PySem.W.plainGet K C Str.empty = true)
    (hd : PySem.W.hasDictIn K C = true)
    (po : PySem.W.plainOver K C = true)
    (sa : PySem.W.findIn K (.ref C) "__setattr__" = some (some (.builtin "object.__setattr__")))
    (mk : PySem.W.makesIn K C = true)
    (kc : PySem.W.keepIn K (.ref C) = true)
    (nW : PySem.W.findIn K (.ref C) "wrong" = some none)
    (nT : PySem.W.findIn K (.ref C) "things" = some none)
    (nC : PySem.W.findIn K (.ref C) "claims" = some none) :
    ∃ fd : FuncData, (∀ (s : Shared) (us : List Value), us.length = (["calls"] : List Str).length → BindsTo s fd ⟨us, []⟩ ((["calls"] : List Str).zip us)) ∧ ∀ base : Heap, K.In base → base.Ns mainGlobals mg → FnOk P w K mg base CX0 7 fa fd ["calls"] (spAns K) := by
  have e := hfa.symm.trans (PySem.W.mg_of X G a8)
  cases e
  have T : Txt K mg C D := ⟨⟨pg, hd, po, sa⟩, nW, nT, nC, PySem.W.mg_of X G aC, PySem.W.mg_of X G aD, ⟨_, PySem.W.mg_of X G x4⟩, ⟨_, PySem.W.mg_of X G x5⟩, ⟨_, PySem.W.mg_of X G x9⟩, ⟨_, PySem.W.mg_of X G x10⟩,
    PySem.W.mg_none_of X G xl, PySem.W.mg_none_of X G xm, PySem.W.mg_none_of X G xz, PySem.W.mg_none_of X G xe, PySem.W.mg_none_of X G xn, PySem.W.mg_none_of X G xs, PySem.W.mg_none_of X G xo, PySem.W.mg_none_of X G xa, PySem.W.mg_none_of X G xr⟩
  have F0 := fun_mk (st := sInit) l0 c0 q0
  have F1 := fun_mk (st := sBegins) l1 c1 q1
  have F2 := fun_mk (st := sBehind) l2 c2 q2
  have F3 := fun_mk (st := sThing) l3 c3 q3
  have F4 := fun_mk (st := sClaim) l4 c4 q4
  have F5 := fun_mk (st := sErrors) l5 c5 q5
  have F6 := fun_mk (st := sFitting) l6 c6 q6
  have F7 := fun_mk (st := sFits) l7 c7 q7
  have F8 := fun_mk (st := sAns) l8 c8 q8
  have F9 := fun_mk (st := sMay) l9 c9 q9
  have F10 := fun_mk (st := sGiven) l10 c10 q10
  have F11 := fun_mk (st := sErrs) l11 c11 q11
  have F12 := fun_mk (st := sUnfit) l12 c12 q12
  have F13 := fun_mk (st := sTwice) l13 c13 q13
  have F14 := fun_mk (st := sCheck) l14 c14 q14
  have F15 := fun_mk (st := sPlans) l15 c15 q15
  have F16 := fun_mk (st := sFull) l16 c16 q16
  have F17 := fun_mk (st := sBest) l17 c17 q17
  have F18 := fun_mk (st := sHas) l18 c18 q18
  have F19 := fun_mk (st := sClaimsIn) l19 c19 q19
  have F20 := fun_mk (st := sOneOf) l20 c20 q20
  have F21 := fun_mk (st := sWhy) l21 c21 q21
  have b0 := F0.binds (ps := ["self"]) fun _ _ _ _ _ _ us hl => match us, hl with | [_], _ => rfl
  have b1 := F1.binds (ps := ["office", "told"]) fun _ _ _ _ _ _ us hl => match us, hl with | [_, _], _ => rfl
  have b2 := F2.binds (ps := ["kept", "features", "highest"]) fun _ _ _ _ _ _ us hl => match us, hl with | [_, _, _], _ => rfl
  have b3 := F3.binds (ps := ["office", "told"]) fun _ _ _ _ _ _ us hl => match us, hl with | [_, _], _ => rfl
  have b4 := F4.binds (ps := ["office", "told"]) fun _ _ _ _ _ _ us hl => match us, hl with | [_, _], _ => rfl
  have b5 := F5.binds (ps := ["claim", "thing"]) fun _ _ _ _ _ _ us hl => match us, hl with | [_, _], _ => rfl
  have b6 := F6.binds (ps := ["office", "claim"]) fun _ _ _ _ _ _ us hl => match us, hl with | [_, _], _ => rfl
  have b7 := F7.binds (ps := ["office", "told"]) fun _ _ _ _ _ _ us hl => match us, hl with | [_, _], _ => rfl
  have b9 := F9.binds (ps := ["office", "claim", "thing"]) fun _ _ _ _ _ _ us hl => match us, hl with | [_, _, _], _ => rfl
  have b10 := F10.binds (ps := ["office", "plan"]) fun _ _ _ _ _ _ us hl => match us, hl with | [_, _], _ => rfl
  have b11 := F11.binds (ps := ["office", "plan"]) fun _ _ _ _ _ _ us hl => match us, hl with | [_, _], _ => rfl
  have b12 := F12.binds (ps := ["office", "plan"]) fun _ _ _ _ _ _ us hl => match us, hl with | [_, _], _ => rfl
  have b13 := F13.binds (ps := ["office", "plan"]) fun _ _ _ _ _ _ us hl => match us, hl with | [_, _], _ => rfl
  have b14 := F14.binds (ps := ["office", "told"]) fun _ _ _ _ _ _ us hl => match us, hl with | [_, _], _ => rfl
  have b15 := F15.binds (ps := ["office"]) fun _ _ _ _ _ _ us hl => match us, hl with | [_], _ => rfl
  have b16 := F16.binds (ps := ["office"]) fun _ _ _ _ _ _ us hl => match us, hl with | [_], _ => rfl
  have b17 := F17.binds (ps := ["office", "told"]) fun _ _ _ _ _ _ us hl => match us, hl with | [_, _], _ => rfl
  have b18 := F18.binds (ps := ["office", "told"]) fun _ _ _ _ _ _ us hl => match us, hl with | [_, _], _ => rfl
  have b19 := F19.binds (ps := ["office", "group"]) fun _ _ _ _ _ _ us hl => match us, hl with | [_, _], _ => rfl
  have b20 := F20.binds (ps := ["office", "claims"]) fun _ _ _ _ _ _ us hl => match us, hl with | [_, _], _ => rfl
  have b21 := F21.binds (ps := ["office", "told"]) fun _ _ _ _ _ _ us hl => match us, hl with | [_, _], _ => rfl
  have g1 := PySem.W.mg_of X G a1
  have g2 := PySem.W.mg_of X G a2
  have g3 := PySem.W.mg_of X G a3
  have g4 := PySem.W.mg_of X G a4
  have g5 := PySem.W.mg_of X G a5
  have g6 := PySem.W.mg_of X G a6
  have g7 := PySem.W.mg_of X G a7
  have g9 := PySem.W.mg_of X G a9
  have g10 := PySem.W.mg_of X G a10
  have g11 := PySem.W.mg_of X G a11
  have g12 := PySem.W.mg_of X G a12
  have g13 := PySem.W.mg_of X G a13
  have g14 := PySem.W.mg_of X G a14
  have g15 := PySem.W.mg_of X G a15
  have g16 := PySem.W.mg_of X G a16
  have g17 := PySem.W.mg_of X G a17
  have g18 := PySem.W.mg_of X G a18
  have g19 := PySem.W.mg_of X G a19
  have g20 := PySem.W.mg_of X G a20
  have g21 := PySem.W.mg_of X G a21
  have keys : ∀ e ∈ ([⟨0, .int 0 k0, .ref fBg⟩, ⟨1, .int 1 k1, .ref fT⟩, ⟨2, .int 2 k2, .ref fC⟩, ⟨3, .int 3 k3, .ref fF⟩, ⟨4, .int 4 k4, .ref fK⟩, ⟨5, .int 5 k5, .ref fB⟩, ⟨6, .int 6 k6, .ref fH⟩, ⟨7, .int 7 k7, .ref fY⟩] : List PySem.DictEntry), ∃ k t, e.key = .int k t ∧ e.hash = hashInt k := by
    intro e he
    simp only [List.mem_cons, List.not_mem_nil, or_false] at he
    rcases he with rfl | rfl | rfl | rfl | rfl | rfl | rfl | rfl
    · exact ⟨0, k0, rfl, (by decide +kernel : (0 : Int) = hashInt 0)⟩
    · exact ⟨1, k1, rfl, (by decide +kernel : (1 : Int) = hashInt 1)⟩
    · exact ⟨2, k2, rfl, (by decide +kernel : (2 : Int) = hashInt 2)⟩
    · exact ⟨3, k3, rfl, (by decide +kernel : (3 : Int) = hashInt 3)⟩
    · exact ⟨4, k4, rfl, (by decide +kernel : (4 : Int) = hashInt 4)⟩
    · exact ⟨5, k5, rfl, (by decide +kernel : (5 : Int) = hashInt 5)⟩
    · exact ⟨6, k6, rfl, (by decide +kernel : (6 : Int) = hashInt 6)⟩
    · exact ⟨7, k7, rfl, (by decide +kernel : (7 : Int) = hashInt 7)⟩
  refine ⟨PySem.W.fnOf "answers" "answers" (defArgs sAns) (defBody sAns) (defScope sAns) .none kV8 dc8 pm8 an8 cd8 ct8, fun s us hu => match us, hu with | [_], _ => .of_eq rfl, fun base _ _ => ok_ans (k := 6) F8 T ⟨mk, a0, i0, kc⟩ F0 b0 gOf (by decide) step_all ?_⟩
  intro p h0 h7
  have hp : p = 0 ∨ p = 1 ∨ p = 2 ∨ p = 3 ∨ p = 4 ∨ p = 5 ∨ p = 6 ∨ p = 7 := by omega
  rcases hp with rfl | rfl | rfl | rfl | rfl | rfl | rfl | rfl
  · exact ⟨_, ⟨_, _, _, lD, keys, rfl, rfl⟩, ⟨_, _, (ok_begins F1 T).mono (by decide), F1.kp, b1⟩⟩
  · exact ⟨_, ⟨_, _, _, lD, keys, rfl, rfl⟩, ⟨_, _, (ok_thing F3 T F2 g2 b2).mono (by decide), F3.kp, b3⟩⟩
  · exact ⟨_, ⟨_, _, _, lD, keys, rfl, rfl⟩, ⟨_, _, (ok_claim F4 T F2 g2 b2).mono (by decide), F4.kp, b4⟩⟩
  · exact ⟨_, ⟨_, _, _, lD, keys, rfl, rfl⟩, ⟨_, _, (ok_fits F7 T F6 g6 b6 F9 g9 b9 F5 g5 b5).mono (by decide), F7.kp, b7⟩⟩
  · exact ⟨_, ⟨_, _, _, lD, keys, rfl, rfl⟩, ⟨_, _, (ok_check F14 T F12 g12 b12 F13 g13 b13 F10 g10 b10 F11 g11 b11 F9 g9 b9 F5 g5 b5).mono (by decide), F14.kp, b14⟩⟩
  · exact ⟨_, ⟨_, _, _, lD, keys, rfl, rfl⟩, ⟨_, _, (ok_best F17 T F16 g16 b16 F11 g11 b11 F15 g15 b15 F10 g10 b10 F6 g6 b6 F9 g9 b9 F5 g5 b5).mono (by decide), F17.kp, b17⟩⟩
  · exact ⟨_, ⟨_, _, _, lD, keys, rfl, rfl⟩, ⟨_, _, (ok_has F18 T F16 g16 b16 F15 g15 b15 F10 g10 b10 F6 g6 b6 F9 g9 b9 F5 g5 b5).mono (by decide), F18.kp, b18⟩⟩
  · exact ⟨_, ⟨_, _, _, lD, keys, rfl, rfl⟩, ⟨_, _, (ok_why F21 T F19 g19 b19 F20 g20 b20 F9 g9 b9 F5 g5 b5).mono (by decide), F21.kp, b21⟩⟩
end My
open PySem PySem.W PyProof.Rows
theorem PySem.Challenge.cw_lostthings_s01_answers_holds : PySem.Challenge.rw_lostthings_s01_answers.Holds := by
  w_on; k_headS; (case hw => exact ⟨[.list [.int 5, .int 0, .int 0]], by decide +kernel, by decide +kernel⟩)
  k_fillS
  refine L2.walk_specK (r := PySem.Challenge.rw_lostthings_s01_answers) (k := 7) (CX := L2.CX0) (ps := ["calls"]) (sp := My.spAns) (by decide +kernel) rfl rfl ⟨rfl, by decide, by decide⟩ (fun w h Y => PySem.W.kIn_of Y) ?F ?S (fun _ _ _ _ z => z)
  case F =>
    intro w mg fa h Y KX G hmg
    refine' My.all_mk KX G hmg ?aC ?aD ?x4 ?x5 ?x9 ?x10 ?xl ?xm ?xz ?xe ?xn ?xs ?xo ?xa ?xr ?a0 ?i0 ?l0 ?c0 ?q0 ?a1 ?l1 ?c1 ?q1 ?a2 ?l2 ?c2 ?q2 ?a3 ?l3 ?c3 ?q3 ?a4 ?l4 ?c4 ?q4 ?a5 ?l5 ?c5 ?q5 ?a6 ?l6 ?c6 ?q6 ?a7 ?l7 ?c7 ?q7 ?a8 ?l8 ?c8 ?q8 ?a9 ?l9 ?c9 ?q9 ?a10 ?l10 ?c10 ?q10 ?a11 ?l11 ?c11 ?q11 ?a12 ?l12 ?c12 ?q12 ?a13 ?l13 ?c13 ?q13 ?a14 ?l14 ?c14 ?q14 ?a15 ?l15 ?c15 ?q15 ?a16 ?l16 ?c16 ?q16 ?a17 ?l17 ?c17 ?q17 ?a18 ?l18 ?c18 ?q18 ?a19 ?l19 ?c19 ?q19 ?a20 ?l20 ?c20 ?q20 ?a21 ?l21 ?c21 ?q21 ?lD ?pg ?hd ?po ?sa ?mk ?kc ?nW ?nT ?nC
    (case aC => k_is)
    (case aD => k_is)
    (case x4 => k_is)
    (case x5 => k_is)
    (case x9 => k_is)
    (case x10 => k_is)
    (case xl => k_is)
    (case xm => k_is)
    (case xz => k_is)
    (case xe => k_is)
    (case xn => k_is)
    (case xs => k_is)
    (case xo => k_is)
    (case xa => k_is)
    (case xr => k_is)
    (case a0 => k_is)
    (case i0 => k_is)
    (case l0 => k_is)
    (case c0 => k_is)
    (case q0 => k_is)
    (case a1 => k_is)
    (case l1 => k_is)
    (case c1 => k_is)
    (case q1 => k_is)
    (case a2 => k_is)
    (case l2 => k_is)
    (case c2 => k_is)
    (case q2 => k_is)
    (case a3 => k_is)
    (case l3 => k_is)
    (case c3 => k_is)
    (case q3 => k_is)
    (case a4 => k_is)
    (case l4 => k_is)
    (case c4 => k_is)
    (case q4 => k_is)
    (case a5 => k_is)
    (case l5 => k_is)
    (case c5 => k_is)
    (case q5 => k_is)
    (case a6 => k_is)
    (case l6 => k_is)
    (case c6 => k_is)
    (case q6 => k_is)
    (case a7 => k_is)
    (case l7 => k_is)
    (case c7 => k_is)
    (case q7 => k_is)
    (case a8 => k_is)
    (case l8 => k_is)
    (case c8 => k_is)
    (case q8 => k_is)
    (case a9 => k_is)
    (case l9 => k_is)
    (case c9 => k_is)
    (case q9 => k_is)
    (case a10 => k_is)
    (case l10 => k_is)
    (case c10 => k_is)
    (case q10 => k_is)
    (case a11 => k_is)
    (case l11 => k_is)
    (case c11 => k_is)
    (case q11 => k_is)
    (case a12 => k_is)
    (case l12 => k_is)
    (case c12 => k_is)
    (case q12 => k_is)
    (case a13 => k_is)
    (case l13 => k_is)
    (case c13 => k_is)
    (case q13 => k_is)
    (case a14 => k_is)
    (case l14 => k_is)
    (case c14 => k_is)
    (case q14 => k_is)
    (case a15 => k_is)
    (case l15 => k_is)
    (case c15 => k_is)
    (case q15 => k_is)
    (case a16 => k_is)
    (case l16 => k_is)
    (case c16 => k_is)
    (case q16 => k_is)
    (case a17 => k_is)
    (case l17 => k_is)
    (case c17 => k_is)
    (case q17 => k_is)
    (case a18 => k_is)
    (case l18 => k_is)
    (case c18 => k_is)
    (case q18 => k_is)
    (case a19 => k_is)
    (case l19 => k_is)
    (case c19 => k_is)
    (case q19 => k_is)
    (case a20 => k_is)
    (case l20 => k_is)
    (case c20 => k_is)
    (case q20 => k_is)
    (case a21 => k_is)
    (case l21 => k_is)
    (case c21 => k_is)
    (case q21 => k_is)
    (case lD => k_is)
    (case pg => k_is)
    (case hd => k_is)
    (case po => k_is)
    (case sa => k_is)
    (case mk => k_is)
    (case kc => k_is)
    (case nW => k_is)
    (case nT => k_is)
    (case nC => k_is)
  case S =>
    intro K H xs a hO hwi hask hx
    cases hx with
    | cons h1 h2 =>
      cases h2
      cases h1 with
      | lst hs ha =>
        have e := L2.ints_dw a.1 _ ha
        subst e
        exact ⟨_, a.1, rfl, hs, hask, fun H' p hp => .lst (L2.SqL.of hp) (L2.dw_ints _)⟩
