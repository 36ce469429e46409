import PyProof.Rows.All
import Wide.All
import OpenK.AllK
import Wide.FinOn
import HandS.ForMost
import HandS.TupAny
import HandS.TupMul
import HandS.TupLe
import HandS.IsInst
import PyProof.ListMulRoad
import PyProof.FactsAll.tuple_2
import HandS.Defaults
import PyProof.ReprRoads
import PySem.Challenge.RW_tworivals_k11_whole_rows_by_their_letter
set_option Elab.async false
set_option linter.all false
set_option maxRecDepth 100000
set_option maxHeartbeats 8000000
namespace DL
open PySem L2

/-! ### values as data -/
inductive Dat where
  | non | bl (b : Bool) | int (i : Int) | str (x : Str) | tup (xs : List Dat) | lst (xs : List Dat) | cell (k : Nat)
abbrev As := List (Option Addr)
abbrev Mu := List (Option (List Dat))
abbrev Ro := List (Option Dat)
def hid (A : As) (H : Hp) : Hp := fun b => if some b ∈ A then none else H b
theorem hid_of {A : As} {H : Hp} {b : Addr} {o : HO} (h : hid A H b = some o) : H b = some o ∧ some b ∉ A := by
  unfold hid at h
  by_cases c : some b ∈ A
  · rw [if_pos c] at h; cases h
  · rw [if_neg c] at h; exact ⟨h, c⟩
theorem hid_to {A : As} {H : Hp} {b : Addr} {o : HO} (h : H b = some o) (c : some b ∉ A) : hid A H b = some o := by
  unfold hid; rw [if_neg c]; exact h
mutual
inductive Dn (K : PySem.W.Frag) (A : As) (H : Hp) : V → Dat → Prop
  | non : Dn K A H .non .non
  | bl (b : Bool) : Dn K A H (.bl b) (.bl b)
  | int (i : Int) : Dn K A H (.int i) (.int i)
  | str (x : Str) : Dn K A H (.str x) (.str x)
  | tup {a : Addr} {xs : List V} {ds : List Dat} : SqT K (hid A H) a xs → Dns K A H xs ds → Dn K A H (.ref a) (.tup ds)
  | lst {a : Addr} {xs : List V} {ds : List Dat} : SqL K (hid A H) a xs → Dns K A H xs ds → Dn K A H (.ref a) (.lst ds)
  | cell {a : Addr} {k : Nat} : A[k]? = some (some a) → Dn K A H (.ref a) (.cell k)
inductive Dns (K : PySem.W.Frag) (A : As) (H : Hp) : List V → List Dat → Prop
  | nil : Dns K A H [] []
  | cons {v : V} {vs : List V} {d : Dat} {ds : List Dat} : Dn K A H v d → Dns K A H vs ds → Dns K A H (v :: vs) (d :: ds)
end
structure Ext (A : As) (H : Hp) (A' : As) (H' : Hp) : Prop where
  keep : ∀ a o, hid A H a = some o → hid A' H' a = some o
  cells : ∀ (k : Nat) (a : Addr), A[k]? = some (some a) → A'[k]? = some (some a)
theorem Ext.refl (A : As) (H : Hp) : Ext A H A H := ⟨fun _ _ h => h, fun _ _ h => h⟩
theorem Ext.trans {A A1 A2 : As} {H H1 H2 : Hp} (x : Ext A H A1 H1) (y : Ext A1 H1 A2 H2) : Ext A H A2 H2 := ⟨fun a o h => y.keep a o (x.keep a o h), fun k a h => y.cells k a (x.cells k a h)⟩
theorem Ext.rd {A A' : As} {H H' : Hp} (e : Ext A H A' H') {a : Addr} {u : HO} (h : Rd (hid A H) a u) : Rd (hid A' H') a u := by
  rcases h with h | ⟨o, h⟩
  · exact Or.inl (e.keep a _ h)
  · exact Or.inr ⟨o, e.keep a _ h⟩
theorem Ext.sqL {K : PySem.W.Frag} {A A' : As} {H H' : Hp} (e : Ext A H A' H') {a : Addr} {xs : List V} (h : SqL K (hid A H) a xs) : SqL K (hid A' H') a xs := by
  rcases h with h | h
  · exact Or.inl (e.rd h)
  · exact Or.inr h
theorem Ext.sqT {K : PySem.W.Frag} {A A' : As} {H H' : Hp} (e : Ext A H A' H') {a : Addr} {xs : List V} (h : SqT K (hid A H) a xs) : SqT K (hid A' H') a xs := by
  rcases h with h | h
  · exact Or.inl (e.rd h)
  · exact Or.inr h
mutual
theorem Dn.mono {K : PySem.W.Frag} {A A' : As} {H H' : Hp} (e : Ext A H A' H') : ∀ {v : V} {d : Dat}, Dn K A H v d → Dn K A' H' v d
  | _, _, .non => .non
  | _, _, .bl b => .bl b
  | _, _, .int i => .int i
  | _, _, .str x => .str x
  | _, _, .tup h t => .tup (e.sqT h) (Dns.mono e t)
  | _, _, .lst h t => .lst (e.sqL h) (Dns.mono e t)
  | _, _, .cell h => .cell (e.cells _ _ h)
theorem Dns.mono {K : PySem.W.Frag} {A A' : As} {H H' : Hp} (e : Ext A H A' H') : ∀ {vs : List V} {ds : List Dat}, Dns K A H vs ds → Dns K A' H' vs ds
  | _, _, .nil => .nil
  | _, _, .cons h t => .cons (Dn.mono e h) (Dns.mono e t)
end
theorem Dns.length {K : PySem.W.Frag} {A : As} {H : Hp} : ∀ {vs : List V} {ds : List Dat}, Dns K A H vs ds → vs.length = ds.length
  | _, _, .nil => rfl
  | _, _, .cons _ t => by rw [List.length_cons, List.length_cons, Dns.length t]
theorem Dns.get {K : PySem.W.Frag} {A : As} {H : Hp} : ∀ {vs : List V} {ds : List Dat} {i : Nat} {d : Dat}, Dns K A H vs ds → ds[i]? = some d → ∃ v, vs[i]? = some v ∧ Dn K A H v d
  | _, _, _, _, .nil, e => by simp at e
  | _, _, 0, _, .cons r _, e => by simp at e; subst e; exact ⟨_, rfl, r⟩
  | _, _, i + 1, x, .cons _ t, e => by
    obtain ⟨u, h1, h2⟩ := Dns.get (i := i) (d := x) t (by simpa using e)
    exact ⟨u, by simpa using h1, h2⟩
theorem Dns.getV {K : PySem.W.Frag} {A : As} {H : Hp} {vs : List V} {ds : List Dat} {i : Nat} {v : V} (h : Dns K A H vs ds) (e : vs[i]? = some v) : ∃ d, ds[i]? = some d ∧ Dn K A H v d := by
  have hl := h.length
  have hi : i < ds.length := by rw [← hl]; exact (List.getElem?_eq_some_iff.mp e).1
  obtain ⟨u, h1, h2⟩ := h.get (i := i) (d := ds[i]) (by simp [hi])
  rw [e] at h1; cases h1
  exact ⟨_, by simp [hi], h2⟩
theorem Dns.append {K : PySem.W.Frag} {A : As} {H : Hp} : ∀ {vs ws : List V} {ds es : List Dat}, Dns K A H vs ds → Dns K A H ws es → Dns K A H (vs ++ ws) (ds ++ es)
  | _, _, _, _, .nil, h => h
  | _, _, _, _, .cons a t, h => .cons a (Dns.append t h)
theorem Dns.take {K : PySem.W.Frag} {A : As} {H : Hp} : ∀ (n : Nat) {vs : List V} {ds : List Dat}, Dns K A H vs ds → Dns K A H (vs.take n) (ds.take n)
  | 0, _, _, _ => .nil
  | _ + 1, _, _, .nil => .nil
  | n + 1, _, _, .cons a t => .cons a (Dns.take n t)
theorem Dns.drop {K : PySem.W.Frag} {A : As} {H : Hp} : ∀ (n : Nat) {vs : List V} {ds : List Dat}, Dns K A H vs ds → Dns K A H (vs.drop n) (ds.drop n)
  | 0, _, _, h => h
  | _ + 1, _, _, .nil => .nil
  | n + 1, _, _, .cons _ t => Dns.drop n t
theorem Dns.set {K : PySem.W.Frag} {A : As} {H : Hp} {v : V} {d : Dat} (h : Dn K A H v d) : ∀ (n : Nat) {vs : List V} {ds : List Dat}, Dns K A H vs ds → Dns K A H (vs.set n v) (ds.set n d)
  | _, _, _, .nil => .nil
  | 0, _, _, .cons _ t => .cons h t
  | n + 1, _, _, .cons a t => .cons a (Dns.set h n t)
theorem Dns.rep {K : PySem.W.Frag} {A : As} {H : Hp} {vs : List V} {ds : List Dat} (h : Dns K A H vs ds) : ∀ (n : Nat), Dns K A H (List.replicate n vs).flatten (List.replicate n ds).flatten
  | 0 => .nil
  | n + 1 => by
    rw [List.replicate_succ, List.replicate_succ, List.flatten_cons, List.flatten_cons]
    exact h.append (Dns.rep h n)
theorem Dns.snoc {K : PySem.W.Frag} {A : As} {H : Hp} {vs : List V} {ds : List Dat} {v : V} {d : Dat} (h : Dns K A H vs ds) (x : Dn K A H v d) : Dns K A H (vs ++ [v]) (ds ++ [d]) := h.append (.cons x .nil)

/-! ### data without cells -/
mutual
def noCell : Dat → Bool
  | .tup xs => noCells xs
  | .lst xs => noCells xs
  | .cell _ => false
  | _ => true
def noCells : List Dat → Bool
  | [] => true
  | d :: ds => noCell d && noCells ds
end
theorem noCells_iff : ∀ {ds : List Dat}, noCells ds = true ↔ ∀ d ∈ ds, noCell d = true
  | [] => by simp [noCells]
  | d :: ds => by rw [noCells, Bool.and_eq_true, noCells_iff (ds := ds)]; simp
theorem noCells_append {xs ys : List Dat} (h : noCells xs = true) (g : noCells ys = true) : noCells (xs ++ ys) = true := noCells_iff.mpr fun d m => by
  rcases List.mem_append.mp m with m | m
  · exact noCells_iff.mp h d m
  · exact noCells_iff.mp g d m
theorem noCells_set {xs : List Dat} {k : Nat} {d : Dat} (h : noCells xs = true) (g : noCell d = true) : noCells (xs.set k d) = true := noCells_iff.mpr fun e m => by
  rcases List.mem_or_eq_of_mem_set m with m | m
  · exact noCells_iff.mp h e m
  · subst m; exact g
mutual
theorem Dn.mono0 {K : PySem.W.Frag} {A A' : As} {H H' : Hp} (e : ∀ a o, hid A H a = some o → hid A' H' a = some o) : ∀ {v : V} {d : Dat}, noCell d = true → Dn K A H v d → Dn K A' H' v d
  | _, _, _, .non => .non
  | _, _, _, .bl b => .bl b
  | _, _, _, .int i => .int i
  | _, _, _, .str x => .str x
  | _, _, n, .tup h t => .tup (by
        rcases h with (h | ⟨o, h⟩) | h
        · exact .inl (.inl (e _ _ h))
        · exact .inl (.inr ⟨o, e _ _ h⟩)
        · exact .inr h) (Dns.mono0 e (by rw [noCell] at n; exact n) t)
  | _, _, n, .lst h t => .lst (by
        rcases h with (h | ⟨o, h⟩) | h
        · exact .inl (.inl (e _ _ h))
        · exact .inl (.inr ⟨o, e _ _ h⟩)
        · exact .inr h) (Dns.mono0 e (by rw [noCell] at n; exact n) t)
  | _, _, n, .cell h => by simp [noCell] at n
theorem Dns.mono0 {K : PySem.W.Frag} {A A' : As} {H H' : Hp} (e : ∀ a o, hid A H a = some o → hid A' H' a = some o) : ∀ {vs : List V} {ds : List Dat}, noCells ds = true → Dns K A H vs ds → Dns K A' H' vs ds
  | _, _, _, .nil => .nil
  | _, _, n, .cons h t => .cons (Dn.mono0 e (by rw [noCells, Bool.and_eq_true] at n; exact n.1) h) (Dns.mono0 e (by rw [noCells, Bool.and_eq_true] at n; exact n.2) t)
end

/-! ### the store and the slots -/
structure Sto (K : PySem.W.Frag) (A : As) (H : Hp) (μ : Mu) : Prop where
  len : A.length = μ.length
  nc : ∀ (k : Nat) (ds : List Dat), μ[k]? = some (some ds) → noCells ds = true
  at_ : ∀ (k : Nat) (a : Addr), A[k]? = some (some a) → ∃ xs ds, H a = some (.lst xs) ∧ μ[k]? = some (some ds) ∧ Dns K A H xs ds
  inj : ∀ (j k : Nat) (a : Addr), A[j]? = some (some a) → A[k]? = some (some a) → j = k
def Env (K : PySem.W.Frag) (A : As) (H : Hp) (σ : St) (ρ : Ro) : Prop := σ.length = ρ.length ∧ ∀ (i : Nat) (d : Dat), ρ[i]? = some (some d) → ∃ v, σ[i]? = some (some v) ∧ Dn K A H v d
theorem Env.mono {K : PySem.W.Frag} {A A' : As} {H H' : Hp} {σ : St} {ρ : Ro} (e : Ext A H A' H') (h : Env K A H σ ρ) : Env K A' H' σ ρ :=
  ⟨h.1, fun i d q => let ⟨v, a, b⟩ := h.2 i d q; ⟨v, a, b.mono e⟩⟩
theorem Env.set {K : PySem.W.Frag} {A : As} {H : Hp} {σ : St} {ρ : Ro} {v : V} {d : Dat} (i : Nat) (h : Env K A H σ ρ) (x : Dn K A H v d) : Env K A H (σ.set i (some v)) (ρ.set i (some d)) := by
  refine ⟨by rw [List.length_set, List.length_set, h.1], fun j e q => ?_⟩
  by_cases c : i = j
  · subst c
    have hi : i < ρ.length := by
      have := (List.getElem?_eq_some_iff.mp q).1
      rwa [List.length_set] at this
    rw [List.getElem?_set_self hi] at q
    cases q
    exact ⟨v, List.getElem?_set_self (by rw [h.1]; exact hi), x⟩
  · rw [List.getElem?_set_ne c] at q
    obtain ⟨u, a, b⟩ := h.2 j e q
    exact ⟨u, by rw [List.getElem?_set_ne c]; exact a, b⟩
/-- a new tracked object -/
theorem ext_new {A : As} {H : Hp} {p : Addr} {o : HO} (h : H p = none) : Ext A H A (upd H p o) := ⟨fun a u e => by
  obtain ⟨e1, c⟩ := hid_of e
  exact hid_to (by rw [upd_ne (ne_of_none e1 h)]; exact e1) c, fun _ _ e => e⟩
theorem Sto.fresh {K : PySem.W.Frag} {A : As} {H : Hp} {μ : Mu} (s : Sto K A H μ) {p : Addr} (h : H p = none) : some p ∉ A := fun m => by
  obtain ⟨k, hk⟩ := List.mem_iff_getElem?.mp m
  obtain ⟨xs, ds, e, _⟩ := s.at_ k p hk
  rw [h] at e; cases e
theorem Sto.new {K : PySem.W.Frag} {A : As} {H : Hp} {μ : Mu} (s : Sto K A H μ) {p : Addr} {o : HO} (h : H p = none) : Sto K A (upd H p o) μ :=
  ⟨s.len, s.nc, fun k a e => by
    obtain ⟨xs, ds, e1, e2, e3⟩ := s.at_ k a e
    exact ⟨xs, ds, by rw [upd_ne (ne_of_none e1 h)]; exact e1, e2, e3.mono (ext_new h)⟩, s.inj⟩
/-- what is in the hidden heap is in the heap -/
theorem sqT_hid {K : PySem.W.Frag} {A : As} {H : Hp} {a : Addr} {xs : List V} (h : SqT K (hid A H) a xs) : SqT K H a xs := by
  rcases h with (h | ⟨o, h⟩) | h
  · exact .inl (.inl (hid_of h).1)
  · exact .inl (.inr ⟨o, (hid_of h).1⟩)
  · exact .inr h
theorem sqL_hid {K : PySem.W.Frag} {A : As} {H : Hp} {a : Addr} {xs : List V} (h : SqL K (hid A H) a xs) : SqL K H a xs := by
  rcases h with (h | ⟨o, h⟩) | h
  · exact .inl (.inl (hid_of h).1)
  · exact .inl (.inr ⟨o, (hid_of h).1⟩)
  · exact .inr h
theorem Dn.newT {K : PySem.W.Frag} {A : As} {H : Hp} {μ : Mu} (s : Sto K A H μ) {p : Addr} {xs : List V} {ds : List Dat} (h : H p = none) (x : Dns K A H xs ds) : Dn K A (upd H p (.tup xs)) (.ref p) (.tup ds) :=
  .tup (.inl (.inl (hid_to upd_same (s.fresh h)))) (x.mono (ext_new h))
theorem Dn.newL {K : PySem.W.Frag} {A : As} {H : Hp} {μ : Mu} (s : Sto K A H μ) {p : Addr} {xs : List V} {ds : List Dat} (h : H p = none) (x : Dns K A H xs ds) : Dn K A (upd H p (.lst xs)) (.ref p) (.lst ds) :=
  .lst (.inl (.inl (hid_to upd_same (s.fresh h)))) (x.mono (ext_new h))
/-- a cell is written -/
theorem ext_cell {A : As} {H : Hp} {a : Addr} {k : Nat} {o : HO} (h : A[k]? = some (some a)) : Ext A H A (upd H a o) := ⟨fun b u e => by
  obtain ⟨e1, c⟩ := hid_of e
  have : b ≠ a := fun z => c (by rw [z]; exact List.mem_of_getElem? h)
  exact hid_to (by rw [upd_ne this]; exact e1) c, fun _ _ e => e⟩
theorem Sto.write {K : PySem.W.Frag} {A : As} {H : Hp} {μ : Mu} (s : Sto K A H μ) {a : Addr} {k : Nat} {xs : List V} {ds : List Dat} (h : A[k]? = some (some a)) (x : Dns K A H xs ds) (n : noCells ds = true) : Sto K A (upd H a (.lst xs)) (μ.set k (some ds)) := by
  have hk : k < μ.length := by rw [← s.len]; exact (List.getElem?_eq_some_iff.mp h).1
  refine ⟨by rw [List.length_set]; exact s.len, fun j es e => ?_, fun j b e => ?_, s.inj⟩
  · by_cases c : k = j
    · subst c; rw [List.getElem?_set_self hk] at e; cases e; exact n
    · rw [List.getElem?_set_ne c] at e; exact s.nc j es e
  by_cases c : b = a
  · subst c
    have := s.inj k j b h e
    subst this
    exact ⟨xs, ds, upd_same, by rw [List.getElem?_set_self hk], x.mono (ext_cell h)⟩
  · obtain ⟨ys, es, e1, e2, e3⟩ := s.at_ j b e
    have hj : k ≠ j := fun z => c (by subst z; rw [h] at e; cases e; rfl)
    exact ⟨ys, es, by rw [upd_ne c]; exact e1, by rw [List.getElem?_set_ne hj]; exact e2, e3.mono (ext_cell h)⟩
/-- a new cell -/
theorem ext_open {A : As} {H : Hp} {p : Addr} {o : HO} (h : H p = none) : Ext A H (A ++ [some p]) (upd H p o) := ⟨fun a u e => by
  obtain ⟨e1, c⟩ := hid_of e
  have ne := ne_of_none e1 h
  refine hid_to (by rw [upd_ne ne]; exact e1) fun m => ?_
  rcases List.mem_append.mp m with m | m
  · exact c m
  · exact ne (Option.some.inj (List.mem_singleton.mp m)), fun k a e => by
    rw [List.getElem?_append_left (List.getElem?_eq_some_iff.mp e).1]; exact e⟩
theorem Sto.open {K : PySem.W.Frag} {A : As} {H : Hp} {μ : Mu} (s : Sto K A H μ) {p : Addr} {xs : List V} {ds : List Dat} (h : H p = none) (x : Dns K A H xs ds) (n : noCells ds = true) : Sto K (A ++ [some p]) (upd H p (.lst xs)) (μ ++ [some ds]) := by
  have cl : ∀ (k : Nat) (a : Addr), (A ++ [some p])[k]? = some (some a) → (A[k]? = some (some a) ∧ a ≠ p) ∨ (k = A.length ∧ a = p) := fun k a e => by
    by_cases c : k < A.length
    · rw [List.getElem?_append_left c] at e
      refine .inl ⟨e, fun z => ?_⟩
      subst z
      exact s.fresh h (List.mem_of_getElem? e)
    · rw [List.getElem?_append_right (by omega)] at e
      have : k - A.length = 0 := by
        have := (List.getElem?_eq_some_iff.mp e).1
        simp at this; omega
      rw [this] at e
      simp at e
      exact .inr ⟨by omega, e.symm⟩
  refine ⟨by simp [s.len], fun k es e => ?_, fun k a e => ?_, fun j k a e1 e2 => ?_⟩
  · by_cases c : k < μ.length
    · rw [List.getElem?_append_left c] at e; exact s.nc k es e
    · rw [List.getElem?_append_right (by omega)] at e
      have : k - μ.length = 0 := by
        have := (List.getElem?_eq_some_iff.mp e).1
        simp at this; omega
      rw [this] at e
      simp at e; subst e; exact n
  · rcases cl k a e with ⟨e', ne⟩ | ⟨rfl, rfl⟩
    · obtain ⟨ys, es, q1, q2, q3⟩ := s.at_ k a e'
      exact ⟨ys, es, by rw [upd_ne ne]; exact q1, by rw [List.getElem?_append_left (List.getElem?_eq_some_iff.mp q2).1]; exact q2, q3.mono (ext_open h)⟩
    · exact ⟨xs, ds, upd_same, by rw [s.len]; simp, x.mono (ext_open h)⟩
  · rcases cl j a e1 with ⟨e1', ne⟩ | ⟨rfl, rfl⟩
    · rcases cl k a e2 with ⟨e2', _⟩ | ⟨_, rfl⟩
      · exact s.inj j k a e1' e2'
      · exact absurd rfl ne
    · rcases cl k a e2 with ⟨_, ne⟩ | ⟨rfl, _⟩
      · exact absurd rfl ne
      · rfl
end DL
namespace DL
open PySem L2
abbrev PD := Dat → Mu → Prop
/-- an expression's reading, by data -/
def EW (K : PySem.W.Frag) (te : TE) (ρ : Ro) (μ : Mu) (P : PD) : Prop := ∀ (A : As) (σ : St) (H : Hp), Sto K A H μ → DL.Env K A H σ ρ → ∀ Q : VK,
  (∀ A' H' v d μ', Ext A H A' H' → Sto K A' H' μ' → Dn K A' H' v d → P d μ' → Q v H') → te σ H Q
def TW (K : PySem.W.Frag) (tt : TT) (ρ : Ro) (μ : Mu) (P : Bool → Mu → Prop) : Prop := ∀ (A : As) (σ : St) (H : Hp), Sto K A H μ → DL.Env K A H σ ρ → ∀ Q : Bool → Hp → Prop,
  (∀ A' H' b μ', Ext A H A' H' → Sto K A' H' μ' → P b μ' → Q b H') → tt σ H Q
def AW (K : PySem.W.Frag) (ta : TA) (ρ : Ro) (μ : Mu) (P : List Dat → Mu → Prop) : Prop := ∀ (A : As) (σ : St) (H : Hp), Sto K A H μ → DL.Env K A H σ ρ → ∀ Q : List V → Hp → Prop,
  (∀ A' H' vs ds μ', Ext A H A' H' → Sto K A' H' μ' → Dns K A' H' vs ds → P ds μ' → Q vs H') → ta σ H Q
def OW (K : PySem.W.Frag) (to : TO) (ρ : Ro) (μ : Mu) (P : Option Int → Mu → Prop) : Prop := ∀ (A : As) (σ : St) (H : Hp), Sto K A H μ → DL.Env K A H σ ρ → ∀ Q : Option Int → Hp → Prop,
  (∀ A' H' o μ', Ext A H A' H' → Sto K A' H' μ' → P o μ' → Q o H') → to σ H Q
/-- two-place operations, calls, on data -/
def RW (K : PySem.W.Frag) (r : R2) (d e : Dat) (μ : Mu) (P : PD) : Prop := ∀ (A : As) (H : Hp) (x y : V), Sto K A H μ → Dn K A H x d → Dn K A H y e → ∀ Q : VK,
  (∀ A' H' v f μ', Ext A H A' H' → Sto K A' H' μ' → Dn K A' H' v f → P f μ' → Q v H') → r x y H Q
def UW (K : PySem.W.Frag) (r : V → Hp → VK → Prop) (d : Dat) (μ : Mu) (P : PD) : Prop := ∀ (A : As) (H : Hp) (x : V), Sto K A H μ → Dn K A H x d → ∀ Q : VK,
  (∀ A' H' v f μ', Ext A H A' H' → Sto K A' H' μ' → Dn K A' H' v f → P f μ' → Q v H') → r x H Q
def CW (K : PySem.W.Frag) (r : List V → Hp → VK → Prop) (ds : List Dat) (μ : Mu) (P : PD) : Prop := ∀ (A : As) (H : Hp) (xs : List V), Sto K A H μ → Dns K A H xs ds → ∀ Q : VK,
  (∀ A' H' v f μ', Ext A H A' H' → Sto K A' H' μ' → Dn K A' H' v f → P f μ' → Q v H') → r xs H Q
structure DE where
  nx : Ro → Mu → Prop
  rt : PD
  bk : Ro → Mu → Prop := fun _ _ => False
  ct : Ro → Mu → Prop := fun _ _ => False
/-- the ends as a body's reading has them -/
structure Ends (K : PySem.W.Frag) (A : As) (H : Hp) (D : L2.Ends) (E : DE) : Prop where
  nx : ∀ A' H' σ' ρ' μ', Ext A H A' H' → Sto K A' H' μ' → DL.Env K A' H' σ' ρ' → E.nx ρ' μ' → D.nx σ' H'
  rt : ∀ A' H' v d μ', Ext A H A' H' → Sto K A' H' μ' → Dn K A' H' v d → E.rt d μ' → D.rt v H'
  bk : ∀ A' H' σ' ρ' μ', Ext A H A' H' → Sto K A' H' μ' → DL.Env K A' H' σ' ρ' → E.bk ρ' μ' → D.bk σ' H'
  ct : ∀ A' H' σ' ρ' μ', Ext A H A' H' → Sto K A' H' μ' → DL.Env K A' H' σ' ρ' → E.ct ρ' μ' → D.ct σ' H'
def SW (K : PySem.W.Frag) (ts : TS) (ρ : Ro) (μ : Mu) (E : DE) : Prop := ∀ (A : As) (σ : St) (H : Hp) (D : L2.Ends), Sto K A H μ → DL.Env K A H σ ρ → Ends K A H D E → ts D σ H

section
variable {K : PySem.W.Frag} {ρ : Ro} {μ : Mu} {P : PD} {ta tb tc te : TE} {d e : Dat} {r : R2}
theorem ew_var {i : Nat} (h : ρ[i]? = some (some d)) (p : P d μ) : EW K (tVar i) ρ μ P := fun A σ H s v Q q =>
  let ⟨u, a, b⟩ := v.2 i d h; ⟨u, a, q A H u d μ (Ext.refl A H) s b p⟩
theorem ew_c {v : V} (h : ∀ A H, Dn K A H v d) (p : P d μ) : EW K (tC v) ρ μ P := fun A σ H s _ Q q => q A H v d μ (Ext.refl A H) s (h A H) p
theorem ew_int {i : Int} (p : P (.int i) μ) : EW K (tC (.int i)) ρ μ P := ew_c (fun _ _ => .int i) p
theorem ew_bl {b : Bool} (p : P (.bl b) μ) : EW K (tC (.bl b)) ρ μ P := ew_c (fun _ _ => .bl b) p
theorem ew_non (p : P .non μ) : EW K (tC .non) ρ μ P := ew_c (fun _ _ => .non) p
theorem ew_str {x : Str} (p : P (.str x) μ) : EW K (tC (.str x)) ρ μ P := ew_c (fun _ _ => .str x) p
theorem ew_op (h : EW K ta ρ μ fun d μ1 => EW K tb ρ μ1 fun e μ2 => RW K r d e μ2 P) : EW K (tOp r ta tb) ρ μ P := fun A σ H s v Q q =>
  h A σ H s v _ fun A1 H1 x d μ1 e1 s1 x1 p1 => p1 A1 σ H1 s1 (v.mono e1) _ fun A2 H2 y e μ2 e2 s2 y2 p2 => p2 A2 H2 x y s2 (x1.mono e2) y2 Q fun A3 H3 z f μ3 e3 s3 z3 p3 => q A3 H3 z f μ3 ((e1.trans e2).trans e3) s3 z3 p3
theorem ew_un {r : V → Hp → VK → Prop} (h : EW K ta ρ μ fun d μ1 => UW K r d μ1 P) : EW K (tUn r ta) ρ μ P := fun A σ H s v Q q =>
  h A σ H s v _ fun A1 H1 x d μ1 e1 s1 x1 p1 => p1 A1 H1 x s1 x1 Q fun A3 H3 z f μ3 e3 s3 z3 p3 => q A3 H3 z f μ3 (e1.trans e3) s3 z3 p3
theorem EW.imp {P' : PD} (h : EW K te ρ μ P) (g : ∀ d m, P d m → P' d m) : EW K te ρ μ P' := fun A σ H s v Q q => h A σ H s v Q fun A' H' u d m a b c p => q A' H' u d m a b c (g d m p)

theorem rw_I0 {g : Int → Int → V} {f : Int → Int → Dat} {i j : Int} (hg : ∀ A H, Dn K A H (g i j) (f i j)) (p : P (f i j) μ) : RW K (rI0 g) (.int i) (.int j) μ P := fun A H x y s a b Q q => by
  cases a; cases b
  exact ⟨i, j, rfl, rfl, q A H _ _ μ (Ext.refl A H) s (hg A H) p⟩
theorem rw_I {C : Int → Int → Prop} {g : Int → Int → V} {f : Int → Int → Dat} {i j : Int} (hc : C i j) (hg : ∀ A H, Dn K A H (g i j) (f i j)) (p : P (f i j) μ) : RW K (rI C g) (.int i) (.int j) μ P := fun A H x y s a b Q q => by
  cases a; cases b
  exact ⟨i, j, rfl, rfl, hc, q A H _ _ μ (Ext.refl A H) s (hg A H) p⟩
theorem rw_add {i j : Int} (p : P (.int (i + j)) μ) : RW K (rI0 fun i j => .int (i + j)) (.int i) (.int j) μ P := rw_I0 (f := fun i j => .int (i + j)) (fun _ _ => .int _) p
theorem rw_sub {i j : Int} (p : P (.int (i - j)) μ) : RW K (rI0 fun i j => .int (i - j)) (.int i) (.int j) μ P := rw_I0 (f := fun i j => .int (i - j)) (fun _ _ => .int _) p
theorem rw_mul {i j : Int} (hc : CMul i j) (p : P (.int (i * j)) μ) : RW K (rI CMul fun i j => .int (i * j)) (.int i) (.int j) μ P := rw_I (f := fun i j => .int (i * j)) hc (fun _ _ => .int _) p
theorem rw_mod {i j : Int} (hc : 0 < j) (p : P (.int (i % j)) μ) : RW K (rI (fun _ j => 0 < j) fun i j => .int (i % j)) (.int i) (.int j) μ P := rw_I (f := fun i j => .int (i % j)) hc (fun _ _ => .int _) p
theorem rw_fdiv {i j : Int} (hc : CDiv i j) (p : P (.int (i / j)) μ) : RW K (rI CDiv fun i j => .int (i / j)) (.int i) (.int j) μ P := rw_I (f := fun i j => .int (i / j)) hc (fun _ _ => .int _) p
theorem rw_pow {i j : Int} (hc : CPow i j) (p : P (.int (i ^ j.toNat)) μ) : RW K (rI CPow fun i j => .int (i ^ j.toNat)) (.int i) (.int j) μ P := rw_I (f := fun i j => .int (i ^ j.toNat)) hc (fun _ _ => .int _) p
theorem rw_lt {i j : Int} (p : P (.bl (decide (i < j))) μ) : RW K (rI0 fun i j => .bl (decide (i < j))) (.int i) (.int j) μ P := rw_I0 (f := fun i j => .bl (decide (i < j))) (fun _ _ => .bl _) p
theorem rw_le {i j : Int} (p : P (.bl (decide (i ≤ j))) μ) : RW K (rI0 fun i j => .bl (decide (i ≤ j))) (.int i) (.int j) μ P := rw_I0 (f := fun i j => .bl (decide (i ≤ j))) (fun _ _ => .bl _) p
theorem rw_gt {i j : Int} (p : P (.bl (decide (j < i))) μ) : RW K (rI0 fun i j => .bl (decide (j < i))) (.int i) (.int j) μ P := rw_I0 (f := fun i j => .bl (decide (j < i))) (fun _ _ => .bl _) p
theorem rw_ge {i j : Int} (p : P (.bl (decide (j ≤ i))) μ) : RW K (rI0 fun i j => .bl (decide (j ≤ i))) (.int i) (.int j) μ P := rw_I0 (f := fun i j => .bl (decide (j ≤ i))) (fun _ _ => .bl _) p
/-- == and != of flat things (None, ints, truths, texts) -/
def fl : Dat → V
  | .non => .non | .bl b => .bl b | .int i => .int i | .str x => .str x | _ => .flt 0
theorem Dn.flat {A : As} {H : Hp} {v : V} (h : Dn K A H v d) (n : (fl d) ≠ .flt 0) : v = fl d := by
  cases h <;> first | rfl | exact absurd rfl n
theorem rw_eq (hs : scal (fl d) (fl e) = true) (p : P (.bl (decide (fl d = fl e))) μ) : RW K rEq d e μ P := fun A H x y s a b Q q => by
  have n1 : fl d ≠ .flt 0 := fun z => by rw [z] at hs; cases e <;> simp [fl, scal] at hs
  have n2 : fl e ≠ .flt 0 := fun z => by rw [z] at hs; cases d <;> simp [fl, scal] at hs
  rw [a.flat n1, b.flat n2]
  exact ⟨hs, q A H _ _ μ (Ext.refl A H) s (.bl _) p⟩
theorem rw_ne (hs : scal (fl d) (fl e) = true) (p : P (.bl (!decide (fl d = fl e))) μ) : RW K rNe d e μ P := fun A H x y s a b Q q => by
  have n1 : fl d ≠ .flt 0 := fun z => by rw [z] at hs; cases e <;> simp [fl, scal] at hs
  have n2 : fl e ≠ .flt 0 := fun z => by rw [z] at hs; cases d <;> simp [fl, scal] at hs
  rw [a.flat n1, b.flat n2]
  exact ⟨hs, q A H _ _ μ (Ext.refl A H) s (.bl _) p⟩
/-- is None, is not None -/
theorem nonV {A : As} {H : Hp} {v : V} (h : Dn K A H v d) : decide (v = .non) = (match d with | .non => true | _ => false) := by
  cases h <;> simp
def rIsN : R2 := fun x y H Q => y = .non ∧ Q (.bl (decide (x = .non))) H
def rNotN : R2 := fun x y H Q => y = .non ∧ Q (.bl (!decide (x = .non))) H
theorem op_isN' {X : Cx} : OpR X (compareOp .Is) rIsN := op_isN
theorem op_notN' {X : Cx} : OpR X (compareOp .IsNot) rNotN := op_notN
def isNon : Dat → Bool | .non => true | _ => false
theorem rw_isN (p : P (.bl (isNon d)) μ) : RW K rIsN d .non μ P := fun A H x y s a b Q q => by
  cases b
  refine ⟨rfl, ?_⟩
  have : decide (x = V.non) = isNon d := by cases a <;> simp [isNon]
  rw [this]
  exact q A H _ _ μ (Ext.refl A H) s (.bl _) p
theorem rw_notN (p : P (.bl (!isNon d)) μ) : RW K rNotN d .non μ P := fun A H x y s a b Q q => by
  cases b
  refine ⟨rfl, ?_⟩
  have : decide (x = V.non) = isNon d := by cases a <;> simp [isNon]
  rw [this]
  exact q A H _ _ μ (Ext.refl A H) s (.bl _) p
def rIsB : R2 := fun x y H Q => ∃ a b, x = .bl a ∧ y = .bl b ∧ Q (.bl (decide (a = b))) H
def rNotB : R2 := fun x y H Q => ∃ a b, x = .bl a ∧ y = .bl b ∧ Q (.bl (!decide (a = b))) H
theorem op_isB {X : Cx} : OpR X (compareOp .Is) rIsB := op_is_bl
theorem op_notB {X : Cx} : OpR X (compareOp .IsNot) rNotB := op_isnot_bl
theorem rw_isB {a b : Bool} (p : P (.bl (decide (a = b))) μ) : RW K rIsB (.bl a) (.bl b) μ P := fun A H x y s u v Q q => by
  cases u; cases v
  exact ⟨a, b, rfl, rfl, q A H _ _ μ (Ext.refl A H) s (.bl _) p⟩
theorem rw_notB {a b : Bool} (p : P (.bl (!decide (a = b))) μ) : RW K rNotB (.bl a) (.bl b) μ P := fun A H x y s u v Q q => by
  cases u; cases v
  exact ⟨a, b, rfl, rfl, q A H _ _ μ (Ext.refl A H) s (.bl _) p⟩
/-- tuple + tuple -/
theorem rw_cat {xs ys : List Dat} (hz : xs.length + ys.length ≤ sizeLine) (p : P (.tup (xs ++ ys)) μ) : RW K (rCatA K) (.tup xs) (.tup ys) μ P := fun A H x y s u v Q q => by
  cases u with
  | @tup a vs _ h1 t1 =>
    cases v with
    | @tup b ws _ h2 t2 =>
      have l1 := t1.length
      have l2 := t2.length
      refine ⟨a, b, vs, ws, rfl, rfl, sqT_hid h1, sqT_hid h2, by omega, fun z => ?_, fun _ z => ?_, fun _ _ c hc => ?_⟩
      · subst z
        have : xs = [] := List.eq_nil_of_length_eq_zero (by simpa using l1.symm)
        subst this
        exact q A H _ _ μ (Ext.refl A H) s (.tup h2 t2) p
      · subst z
        have : ys = [] := List.eq_nil_of_length_eq_zero (by simpa using l2.symm)
        subst this
        rw [List.append_nil] at p
        exact q A H _ _ μ (Ext.refl A H) s (.tup h1 t1) p
      · exact q A _ _ _ μ (ext_new hc) (s.new hc) (Dn.newT s hc (t1.append t2)) p
/-- list + list (both tracked ones) is not carried here -/
theorem rw_ixT {xs : List Dat} {i : Int} {f : Dat} (h : atI xs i = some f) (p : P f μ) : RW K (rIxT K) (.tup xs) (.int i) μ P := fun A H x y s u v Q q => by
  cases v
  cases u with
  | @tup a vs _ h1 t1 =>
    have hl := t1.length
    have h' := h
    unfold atI at h'
    cases hn : ixN xs.length i with
    | none => rw [hn] at h'; cases h'
    | some j =>
      rw [hn] at h'
      obtain ⟨w, e1, e2⟩ := t1.get (i := j) (d := f) h'
      refine ⟨a, vs, i, w, rfl, rfl, sqT_hid h1, ?_, q A H _ _ μ (Ext.refl A H) s e2 p⟩
      unfold atI
      rw [hl, hn]
      exact e1
theorem rw_ixL {xs : List Dat} {i : Int} {f : Dat} (h : atI xs i = some f) (p : P f μ) : RW K (rIxL K) (.lst xs) (.int i) μ P := fun A H x y s u v Q q => by
  cases v
  cases u with
  | @lst a vs _ h1 t1 =>
    have hl := t1.length
    have h' := h
    unfold atI at h'
    cases hn : ixN xs.length i with
    | none => rw [hn] at h'; cases h'
    | some j =>
      rw [hn] at h'
      obtain ⟨w, e1, e2⟩ := t1.get (i := j) (d := f) h'
      refine ⟨a, vs, i, w, rfl, rfl, sqL_hid h1, ?_, q A H _ _ μ (Ext.refl A H) s e2 p⟩
      unfold atI
      rw [hl, hn]
      exact e1
theorem Sto.cell {A : As} {H : Hp} {v : V} {k : Nat} {xs : List Dat} (s : Sto K A H μ) (h : Dn K A H v (.cell k)) (hm : μ[k]? = some (some xs)) : ∃ a vs, v = .ref a ∧ A[k]? = some (some a) ∧ H a = some (.lst vs) ∧ Dns K A H vs xs := by
  cases h with
  | @cell a _ hk =>
    obtain ⟨ys, es, q1, q2, q3⟩ := s.at_ k a hk
    rw [hm] at q2
    cases q2
    exact ⟨a, ys, rfl, hk, q1, q3⟩
theorem rw_ixC {k : Nat} {xs : List Dat} {i : Int} {f : Dat} (hm : μ[k]? = some (some xs)) (h : atI xs i = some f) (p : P f μ) : RW K (rIxL K) (.cell k) (.int i) μ P := fun A H x y s u v Q q => by
  cases v
  obtain ⟨a, vs, rfl, hk, ho, t1⟩ := s.cell u hm
  have hl := t1.length
  have h' := h
  unfold atI at h'
  cases hn : ixN xs.length i with
  | none => rw [hn] at h'; cases h'
  | some j =>
    rw [hn] at h'
    obtain ⟨w, e1, e2⟩ := t1.get (i := j) (d := f) h'
    refine ⟨a, vs, i, w, rfl, rfl, .inl (.inl ho), ?_, q A H _ _ μ (Ext.refl A H) s e2 p⟩
    unfold atI
    rw [hl, hn]
    exact e1
theorem flat_rep {α : Type} (l : List α) : ∀ n : Nat, (List.replicate n l).flatten.length = n * l.length
  | 0 => by simp
  | n + 1 => by rw [List.replicate_succ, List.flatten_cons, List.length_append, flat_rep l n, Nat.succ_mul, Nat.add_comm]
end
end DL
namespace DL
open PySem PySem.Spec PyProof.Rows L2
theorem tuple_mulW1 (l : Addr) (items : Array Value) (n : Nat) (dd : Option Addr) (sl : Array (Option Value)) (x : Int) (u : Tok) (c0 : (decide (x < -(2 ^ 63)) || decide (x ≥ 2 ^ 63)) = false) (c1 : (items.isEmpty || x == 1) = true) :
    Meets (Builtin.«tuple.__mul__» ⟨[.ref l, .int x u], []⟩) (fun _ R s => s.heap.get? l = some { cls := .type "tuple", dict := dd, data := .seq items n, slots := sl } ∧
      R (.ok (.ret (Value.ref l))) s) :=
  .of_wp fun prog w A R s h => by
    obtain ⟨hp, g, d, tk, os⟩ := s
    obtain ⟨hl, h⟩ := h
    have f1 := AutoSeq1.idx_int
    wp_walk using wpAny_loadPart' hl
    repeat (first
      | (refine wpAny_ite_false (decide_eq_false (by rw [c0]; exact Bool.false_ne_true)) ?_; wp_walk using wpAny_loadPart' hl)
      | (refine wpAny_ite_true (decide_eq_true (by rw [c1])) ?_; wp_walk using wpAny_loadPart' hl))
    exact ⟨_, rfl, h⟩
/-- t * 1 is t; t * k else a new one -/
def rRepA (K : PySem.W.Frag) : R2 := fun x y H Q => ∃ l k xs, x = .ref l ∧ y = .int k ∧ SqT K H l xs ∧ xs ≠ [] ∧ 1 ≤ k ∧ k ≤ 1000 ∧ xs.length ≤ 1000 ∧ (k = 1 → Q (.ref l) H) ∧ (2 ≤ k → ∀ p, H p = none → Q (.ref p) (upd H p (.tup (List.replicate k.toNat xs).flatten)))
section
variable {X : Cx}
theorem op_repA : OpR X (binaryOp .Mult) (rRepA X.K) := by
  intro pins s σ H x y v u Q I rx ry h
  obtain ⟨l, k, xs, rfl, rfl, hT, hne, h1, h2, hz, q1, q2⟩ := h
  by_cases hk : k = 1
  · subst hk
    cases rx
    obtain ⟨t, rfl⟩ := ry
    obtain ⟨its, r, ⟨⟨cls, dd, data, sl⟩, ho, hc, n, hd⟩, hs⟩ := I.tuple hT
    simp only at hc hd
    subst hc hd
    refine wpAny_binaryOp_repeat_ref (T := "tuple") (U := "int") (by decide) ⟨_, ho, rfl⟩ (fun s' => typeIs_int s' 1 t) noFill_tuple_mul F.fills_int_mul F.slot_int_rmul repeat_tuple F.slot_int_index.lookup
      (call_meets F.slot_int_rmul (typeIs_int s 1 t) F.entry_int_rmul (F.args_int_rmul_2 _ _) (int_rmul_tuple 1 t l its.toArray n dd sl)
        ⟨ho, rfl, ⟨_, ho, rfl⟩, call_meets F.slot_tuple_mul ⟨_, ho, rfl⟩ F.entry_tuple_mul (F.args_tuple_mul_2 _ _) (tuple_mulW1 l its.toArray n dd sl 1 t (by decide) (by simp)) ⟨ho, ?_⟩⟩)
    exact ⟨.ref l, _, I, rfl, q1 rfl⟩
  · exact op_repT pins s σ H _ _ v u Q I rx ry ⟨l, k, xs, rfl, rfl, hT, hne, by omega, h2, hz, q2 (by omega)⟩
end
section
variable {K : PySem.W.Frag} {μ : Mu} {P : PD}
theorem rw_rep {xs : List Dat} {k : Int} (hne : xs ≠ []) (h1 : 1 ≤ k) (h2 : k ≤ 1000) (hz : xs.length ≤ 1000) (p : P (.tup (List.replicate k.toNat xs).flatten) μ) : RW K (rRepA K) (.tup xs) (.int k) μ P := fun A H x y s u v Q q => by
  cases v
  cases u with
  | @tup a vs _ h1' t1 =>
    have l1 := t1.length
    refine ⟨a, k, vs, rfl, rfl, sqT_hid h1', fun z => hne ?_, h1, h2, by omega, fun z => ?_, fun _ c hc => ?_⟩
    · subst z; exact List.eq_nil_of_length_eq_zero (by simpa using l1.symm)
    · subst z
      have e : (List.replicate (Int.toNat 1) xs).flatten = xs := by simp
      rw [e] at p
      exact q A H _ _ μ (Ext.refl A H) s (.tup h1' t1) p
    · exact q A _ _ _ μ (ext_new hc) (s.new hc) (Dn.newT s hc (t1.rep _)) p
end
end DL
namespace DL
open PySem PySem.Spec PyProof.Rows L2
section
variable {K : PySem.W.Frag} {ρ : Ro} {μ : Mu} {P : PD} {ta tb tc te : TE} {d e : Dat} {r : R2}
/-! ### arguments, displays, slices -/
theorem aw_nil {P : List Dat → Mu → Prop} (p : P [] μ) : AW K tNil ρ μ P := fun A σ H s _ Q q => q A H [] [] μ (Ext.refl A H) s .nil p
theorem aw_cons {tr : TA} {P : List Dat → Mu → Prop} (h : EW K ta ρ μ fun d m => AW K tr ρ m fun ds m2 => P (d :: ds) m2) : AW K (tCons ta tr) ρ μ P := fun A σ H s v Q q =>
  h A σ H s v _ fun A1 H1 x d m1 e1 s1 x1 p1 => p1 A1 σ H1 s1 (v.mono e1) _ fun A2 H2 xs ds m2 e2 s2 x2 p2 => q A2 H2 (x :: xs) (d :: ds) m2 (e1.trans e2) s2 (.cons (x1.mono e2) x2) p2
theorem ew_tup {t : TA} (h : AW K t ρ μ fun ds m => ds.length ≤ sizeLine ∧ P (.tup ds) m) : EW K (tTup t) ρ μ P := fun A σ H s v Q q =>
  h A σ H s v _ fun A1 H1 xs ds m1 e1 s1 x1 ⟨hl, p⟩ => ⟨by rw [x1.length]; exact hl, fun a ha => q A1 _ _ _ m1 (e1.trans (ext_new ha)) (s1.new ha) (Dn.newT s1 ha x1) p⟩
theorem ew_lst {t : TA} (h : AW K t ρ μ fun ds m => ds.length ≤ sizeLine ∧ P (.lst ds) m) : EW K (tLst t) ρ μ P := fun A σ H s v Q q =>
  h A σ H s v _ fun A1 H1 xs ds m1 e1 s1 x1 ⟨hl, p⟩ => ⟨by rw [x1.length]; exact hl, fun a ha => q A1 _ _ _ m1 (e1.trans (ext_new ha)) (s1.new ha) (Dn.newL s1 ha x1) p⟩
/-- a new list that will be changed -/
theorem ew_lstC {t : TA} (h : AW K t ρ μ fun ds m => ds.length ≤ sizeLine ∧ noCells ds = true ∧ P (.cell m.length) (m ++ [some ds])) : EW K (tLst t) ρ μ P := fun A σ H s v Q q =>
  h A σ H s v _ fun A1 H1 xs ds m1 e1 s1 x1 ⟨hl, n, p⟩ => ⟨by rw [x1.length]; exact hl, fun a ha => q (A1 ++ [some a]) _ _ _ (m1 ++ [some ds]) (e1.trans (ext_open ha)) (s1.open ha x1 n) (.cell (by rw [← s1.len]; simp)) p⟩
theorem ow_none {P : Option Int → Mu → Prop} (p : P none μ) : OW K tNoPart ρ μ P := fun A σ H s _ Q q => q A H none μ (Ext.refl A H) s p
theorem ow_some {P : Option Int → Mu → Prop} (h : EW K te ρ μ fun d m => ∃ i, d = .int i ∧ P (some i) m) : OW K (tPart te) ρ μ P := fun A σ H s v Q q =>
  h A σ H s v _ fun A1 H1 x d m1 e1 s1 x1 ⟨i, hd, p⟩ => by
    subst hd
    cases x1
    exact ⟨i, rfl, q A1 H1 (some i) m1 e1 s1 p⟩
def cut {α : Type} (xs : List α) (lo hi : Option Int) : List α := (xs.drop (HT.sIx xs.length 0 lo)).take (HT.sIx xs.length xs.length hi - HT.sIx xs.length 0 lo)
theorem Dns.cut {A : As} {H : Hp} {vs : List V} {ds : List Dat} (h : Dns K A H vs ds) (lo hi : Option Int) : Dns K A H (cutV vs lo hi) (cut ds lo hi) := by
  unfold cutV DL.cut
  rw [h.length]
  exact (h.drop _).take _
theorem ew_slT {tl th : TO} (h : EW K te ρ μ fun d m1 => OW K tl ρ m1 fun lo m2 => OW K th ρ m2 fun hi m3 => ∃ xs, d = .tup xs ∧ P (.tup (cut xs lo hi)) m3) : EW K (tSl (rSlA K) te tl th) ρ μ P := fun A σ H s v Q q =>
  h A σ H s v _ fun A1 H1 x d m1 e1 s1 x1 p1 => p1 A1 σ H1 s1 (v.mono e1) _ fun A2 H2 lo m2 e2 s2 p2 => p2 A2 σ H2 s2 (v.mono (e1.trans e2)) _ fun A3 H3 hi m3 e3 s3 ⟨xs, hd, p⟩ => by
    subst hd
    cases x1.mono (e2.trans e3) with
    | @tup a vs _ h1 t1 =>
      have l1 := t1.length
      refine ⟨a, vs, rfl, sqT_hid h1, fun w => ?_, fun _ b hb => ?_⟩
      · have e : DL.cut xs lo hi = xs := by
          unfold DL.cut
          rw [← l1, w.1, w.2, List.drop_zero, Nat.sub_zero, l1, List.take_length]
        rw [e] at p
        exact q A3 H3 _ _ m3 ((e1.trans e2).trans e3) s3 (.tup h1 t1) p
      · exact q A3 _ _ _ m3 (((e1.trans e2).trans e3).trans (ext_new hb)) (s3.new hb) (Dn.newT s3 hb (t1.cut lo hi)) p
theorem ew_slL {tl th : TO} (h : EW K te ρ μ fun d m1 => OW K tl ρ m1 fun lo m2 => OW K th ρ m2 fun hi m3 => ∃ xs, d = .lst xs ∧ P (.lst (cut xs lo hi)) m3) : EW K (tSl (rSlL K) te tl th) ρ μ P := fun A σ H s v Q q =>
  h A σ H s v _ fun A1 H1 x d m1 e1 s1 x1 p1 => p1 A1 σ H1 s1 (v.mono e1) _ fun A2 H2 lo m2 e2 s2 p2 => p2 A2 σ H2 s2 (v.mono (e1.trans e2)) _ fun A3 H3 hi m3 e3 s3 ⟨xs, hd, p⟩ => by
    subst hd
    cases x1.mono (e2.trans e3) with
    | @lst a vs _ h1 t1 =>
      exact ⟨a, vs, rfl, sqL_hid h1, fun b hb => q A3 _ _ _ m3 (((e1.trans e2).trans e3).trans (ext_new hb)) (s3.new hb) (Dn.newL s3 hb (t1.cut lo hi)) p⟩

/-! ### calls of built-ins -/
theorem ew_cb {r : List V → Hp → VK → Prop} {t : TA} (h : AW K t ρ μ fun ds m => CW K r ds m P) : EW K (tCB r t) ρ μ P := fun A σ H s v Q q =>
  h A σ H s v _ fun A1 H1 xs ds m1 e1 s1 x1 p => p A1 H1 xs s1 x1 Q fun A2 H2 u f m2 e2 s2 y pf => q A2 H2 u f m2 (e1.trans e2) s2 y pf
def rLen (K : PySem.W.Frag) : List V → Hp → VK → Prop := fun xs H Q => ∃ p ys, xs = [.ref p] ∧ (SqL K H p ys ∨ SqT K H p ys) ∧ Q (.int ys.length) H
theorem call_lenS {X : Cx} : CallR X (.builtin "len") (rLen X.K) := call_len_seq
theorem cw_lenT {xs : List Dat} (p : P (.int (xs.length : Int)) μ) : CW K (rLen K) [.tup xs] μ P := fun A H us s x Q q => by
  cases x with
  | cons a t => cases t; cases a with
    | @tup b vs _ h1 t1 => exact ⟨b, vs, rfl, .inr (sqT_hid h1), q A H _ (.int (xs.length : Int)) μ (Ext.refl A H) s (by rw [t1.length]; exact .int _) p⟩
theorem cw_lenL {xs : List Dat} (p : P (.int (xs.length : Int)) μ) : CW K (rLen K) [.lst xs] μ P := fun A H us s x Q q => by
  cases x with
  | cons a t => cases t; cases a with
    | @lst b vs _ h1 t1 => exact ⟨b, vs, rfl, .inl (sqL_hid h1), q A H _ (.int (xs.length : Int)) μ (Ext.refl A H) s (by rw [t1.length]; exact .int _) p⟩
theorem cw_lenC {k : Nat} {xs : List Dat} (hm : μ[k]? = some (some xs)) (p : P (.int (xs.length : Int)) μ) : CW K (rLen K) [.cell k] μ P := fun A H us s x Q q => by
  cases x with
  | cons a t =>
    cases t
    obtain ⟨b, vs, rfl, hk, ho, t1⟩ := s.cell a hm
    exact ⟨b, vs, rfl, .inl (.inl (.inl ho)), q A H _ (.int (xs.length : Int)) μ (Ext.refl A H) s (by rw [t1.length]; exact .int _) p⟩
def rMax2 : List V → Hp → VK → Prop := fun xs H Q => ∃ i j, xs = [.int i, .int j] ∧ Q (.int (if j > i then j else i)) H
theorem call_max2' {X : Cx} (hc : X.calm = true) : CallR X (.builtin "max") rMax2 := call_max2 hc
theorem cw_max2 {i j : Int} (p : P (.int (if j > i then j else i)) μ) : CW K rMax2 [.int i, .int j] μ P := fun A H us s x Q q => by
  cases x with
  | cons a t => cases t with
    | cons b t => cases t; cases a; cases b; exact ⟨i, j, rfl, q A H _ _ μ (Ext.refl A H) s (.int _) p⟩
def rAbs : List V → Hp → VK → Prop := fun xs H Q => ∃ i, xs = [.int i] ∧ Q (.int (if i < 0 then -i else i)) H
theorem call_abs' {X : Cx} : CallR X (.builtin "abs") rAbs := call_abs
theorem cw_abs {i : Int} (p : P (.int (if i < 0 then -i else i)) μ) : CW K rAbs [.int i] μ P := fun A H us s x Q q => by
  cases x with
  | cons a t => cases t; cases a; exact ⟨i, rfl, q A H _ _ μ (Ext.refl A H) s (.int _) p⟩
def rInt1 : List V → Hp → VK → Prop := fun xs H Q => (∃ i, xs = [.int i] ∧ Q (.int i) H) ∨ ∃ k, xs = [.bl k] ∧ Q (.int (if k then 1 else 0)) H
theorem call_int1' {X : Cx} : CallR X (.type "int") rInt1 := call_int1
theorem cw_int1 {i : Int} (p : P (.int i) μ) : CW K rInt1 [.int i] μ P := fun A H us s x Q q => by
  cases x with
  | cons a t => cases t; cases a; exact .inl ⟨i, rfl, q A H _ _ μ (Ext.refl A H) s (.int _) p⟩
def rDm : List V → Hp → VK → Prop := fun xs H Q => ∃ i j, xs = [.int i, .int j] ∧ CDiv i j ∧ ∀ p, H p = none → Q (.ref p) (upd H p (.tup [.int (i / j), .int (i % j)]))
theorem call_dm {X : Cx} : CallR X (.builtin "divmod") rDm := call_divmod
theorem cw_dm {i j : Int} (hc : CDiv i j) (p : P (.tup [.int (i / j), .int (i % j)]) μ) : CW K rDm [.int i, .int j] μ P := fun A H us s x Q q => by
  cases x with
  | cons a t => cases t with
    | cons b t =>
      cases t; cases a; cases b
      exact ⟨i, j, rfl, hc, fun c hc => q A _ _ _ μ (ext_new hc) (s.new hc) (Dn.newT s hc (.cons (.int _) (.cons (.int _) .nil))) p⟩
def rTupOf (K : PySem.W.Frag) : List V → Hp → VK → Prop := fun xs H Q => ∃ p ys, xs = [.ref p] ∧ ((SqL K H p ys ∧ ∀ l, H l = none → Q (.ref l) (upd H l (.tup ys))) ∨ (SqT K H p ys ∧ Q (.ref p) H))
theorem call_tupOf {X : Cx} : CallR X (.type "tuple") (rTupOf X.K) := call_tuple_of
theorem cw_tupL {xs : List Dat} (p : P (.tup xs) μ) : CW K (rTupOf K) [.lst xs] μ P := fun A H us s x Q q => by
  cases x with
  | cons a t => cases t; cases a with
    | @lst b vs _ h1 t1 => exact ⟨b, vs, rfl, .inl ⟨sqL_hid h1, fun c hc => q A _ _ _ μ (ext_new hc) (s.new hc) (Dn.newT s hc t1) p⟩⟩
theorem cw_tupT {xs : List Dat} (p : P (.tup xs) μ) : CW K (rTupOf K) [.tup xs] μ P := fun A H us s x Q q => by
  cases x with
  | cons a t => cases t; cases a with
    | @tup b vs _ h1 t1 => exact ⟨b, vs, rfl, .inr ⟨sqT_hid h1, q A H _ _ μ (Ext.refl A H) s (.tup h1 t1) p⟩⟩
def unB : Dat → Bool | .bl b => b | _ => false
theorem dns_bl {A : As} {H : Hp} : ∀ {vs : List V} {bs : List Bool}, Dns K A H vs (bs.map Dat.bl) → vs = bs.map V.bl
  | _, [], .nil => rfl
  | _, b :: bs, .cons h t => by cases h; rw [dns_bl t]; rfl
theorem cw_all {bs : List Bool} (p : P (.bl (bs.all id)) μ) : CW K (rAll K) [.lst (bs.map Dat.bl)] μ P := fun A H us s x Q q => by
  cases x with
  | cons a t =>
    cases t
    generalize hd : List.map Dat.bl bs = ds at a
    cases a with
    | @lst b vs _ h1 t1 =>
      subst hd
      have := dns_bl t1
      subst this
      exact ⟨b, bs, rfl, sqL_hid h1, q A H _ _ μ (Ext.refl A H) s (.bl _) p⟩

/-! ### isinstance -/
theorem TyX.hid {A : As} {H : Hp} {v : V} {t : Value} (h : Dn K A H v d) (ht : match d with | .non => t = .type "NoneType" | .bl _ => t = .type "bool" | .int _ => t = .type "int" | .str _ => t = .type "str" | _ => False) : TyX K H v t := by
  cases h <;> first | (cases ht; exact .base (by constructor)) | exact ht.elim
end
end DL
namespace DL
open PySem PySem.Spec PyProof.Rows L2
section
variable {K : PySem.W.Frag} {ρ : Ro} {μ : Mu} {P : PD} {ta tb tc te : TE} {d e : Dat} {r : R2}
def tyN : Dat → String
  | .non => "NoneType" | .bl _ => "bool" | .int _ => "int" | .str _ => "str" | .tup _ => "tuple" | .lst _ => "list" | .cell _ => "list"
theorem ty_of {A : As} {H : Hp} {v : V} (s : Sto K A H μ) (h : Dn K A H v d) : TyX K H v (.type (tyN d)) := by
  cases h with
  | non => exact .base .non
  | bl b => exact .base (.bl b)
  | int i => exact .base (.int i)
  | str x => exact .base (.str x)
  | tup h t =>
    rcases sqT_hid h with (h | ⟨o, h⟩) | ⟨o, _, _, h, c, _⟩
    · exact .base (.tup h)
    · exact .fTuple h
    · exact .kTuple h c
  | lst h t =>
    rcases sqL_hid h with (h | ⟨o, h⟩) | ⟨o, _, _, h, c, _⟩
    · exact .base (.lst h)
    · exact .base (.frz h)
    · exact .kList h c
  | cell h =>
    obtain ⟨xs, ds, e, _⟩ := s.at_ _ _ h
    exact .base (.lst e)
theorem ew_isi {T : String} (h : EW K ta ρ μ fun d m => ∃ b, kitB (tyN d) T = some b ∧ P (.bl b) m) : EW K (tCB (rIsi K) (tCons ta (tCons (tC (.ty T)) tNil))) ρ μ P := fun A σ H s v Q q =>
  h A σ H s v _ fun A1 H1 x d m e1 s1 x1 ⟨b, hb, p⟩ => ⟨x, .ty T, .type (tyN d), .type T, b, rfl, .ty T, ty_of s1 x1, kit_ty hb, q A1 H1 _ _ m e1 s1 (.bl b) p⟩
theorem Dn.up {A : As} {H : Hp} {v : V} {p : Addr} {o : HO} (h : H p = none) (x : Dn K A H v d) : Dn K A (upd H p o) v d := x.mono (ext_new h)
theorem ew_isi2 {T U : String} (h : EW K ta ρ μ fun d m => ∃ b c, kitB (tyN d) T = some b ∧ kitB (tyN d) U = some c ∧ P (.bl (b || c)) m) :
    EW K (tCB (rIsiT K) (tCons ta (tCons (tTup (tCons (tC (.ty T)) (tCons (tC (.ty U)) tNil))) tNil))) ρ μ P := fun A σ H s v Q q =>
  h A σ H s v _ fun A1 H1 x d m e1 s1 x1 ⟨b, c, hb, hc, p⟩ => ⟨by show 2 ≤ sizeLine; decide, fun a ha => by
    refine ⟨x, a, _, .type (tyN d), [.type T, .type U], b || c, rfl, upd_same, .cons (.ty T) (.cons (.ty U) .nil), ty_of (s1.new ha) (x1.up ha), ?_, q A1 _ _ _ m (e1.trans (ext_new ha)) (s1.new ha) (.bl _) p⟩
    have h1 := kit_ty (K := K) hb
    have h2 := kit_ty (K := K) hc
    unfold PySem.W.kitAny
    rw [h1]
    cases b with
    | true => rfl
    | false =>
      show PySem.W.kitAny K (.type (tyN d)) [.type U] = some (false || c)
      unfold PySem.W.kitAny
      rw [h2]
      cases c <;> rfl⟩

/-! ### tests -/
theorem tw_test {t : TE} {P : Bool → Mu → Prop} (h : EW K t ρ μ fun d m => ∃ b, d = .bl b ∧ P b m) : TW K (tTest t) ρ μ P := fun A σ H s v Q q =>
  h A σ H s v _ fun A1 H1 x d m e1 s1 x1 ⟨b, hd, p⟩ => by subst hd; cases x1; exact ⟨b, rfl, q A1 H1 b m e1 s1 p⟩
theorem tw_B {t : TE} {P : Bool → Mu → Prop} (h : EW K t ρ μ fun d m => ∃ b, d = .bl b ∧ P b m) : TW K (tB t) ρ μ P := fun A σ H s v Q q =>
  h A σ H s v _ fun A1 H1 x d m e1 s1 x1 ⟨b, hd, p⟩ => by subst hd; cases x1; exact ⟨b, rfl, q A1 H1 b m e1 s1 p⟩
theorem tw_and {t u : TT} {P : Bool → Mu → Prop} (h : TW K t ρ μ fun b m => if b = true then TW K u ρ m P else P false m) : TW K (tAnd t u) ρ μ P := fun A σ H s v Q q =>
  h A σ H s v _ fun A1 H1 b m e1 s1 p => by
    cases b with
    | true => exact p A1 σ H1 s1 (v.mono e1) Q fun A2 H2 c m2 e2 s2 p2 => q A2 H2 c m2 (e1.trans e2) s2 p2
    | false => exact q A1 H1 false m e1 s1 p
theorem tw_or {t u : TT} {P : Bool → Mu → Prop} (h : TW K t ρ μ fun b m => if b = true then P true m else TW K u ρ m P) : TW K (tOr t u) ρ μ P := fun A σ H s v Q q =>
  h A σ H s v _ fun A1 H1 b m e1 s1 p => by
    cases b with
    | true => exact q A1 H1 true m e1 s1 p
    | false => exact p A1 σ H1 s1 (v.mono e1) Q fun A2 H2 c m2 e2 s2 p2 => q A2 H2 c m2 (e1.trans e2) s2 p2
theorem tw_not {t : TT} {P : Bool → Mu → Prop} (h : TW K t ρ μ fun b m => P (!b) m) : TW K (tNot t) ρ μ P := fun A σ H s v Q q =>
  h A σ H s v _ fun A1 H1 b m e1 s1 p => q A1 H1 (!b) m e1 s1 p
def tTru (K : PySem.W.Frag) (ta : TE) : TT := fun σ H Q => ta σ H fun x H' => ∃ k, TruV K x H' k ∧ Q k H'
def tru (μ : Mu) : Dat → Option Bool
  | .non => some false | .bl b => some b | .int i => some (i != 0) | .tup xs => some (!xs.isEmpty) | .lst xs => some (!xs.isEmpty) | .cell k => (match μ[k]? with | some (some xs) => some (!xs.isEmpty) | _ => none) | .str _ => none
theorem isEmpty_dns {A : As} {H : Hp} {vs : List V} {ds : List Dat} (h : Dns K A H vs ds) : vs.isEmpty = ds.isEmpty := by
  cases h <;> rfl
theorem tw_tru {P : Bool → Mu → Prop} (h : EW K ta ρ μ fun d m => ∃ b, tru m d = some b ∧ P b m) : TW K (tTru K ta) ρ μ P := fun A σ H s v Q q =>
  h A σ H s v _ fun A1 H1 x d m e1 s1 x1 ⟨b, hb, p⟩ => by
    refine ⟨b, ?_, q A1 H1 b m e1 s1 p⟩
    cases x1 with
    | non => cases hb; exact rfl
    | bl c => cases hb; exact rfl
    | int i => cases hb; exact rfl
    | str x => cases hb
    | tup h t => cases hb; exact .inr (.inl ⟨_, sqT_hid h, by rw [isEmpty_dns t]⟩)
    | lst h t => cases hb; exact .inl ⟨_, sqL_hid h, by rw [isEmpty_dns t]⟩
    | cell h =>
      obtain ⟨xs, ds, e, em, t⟩ := s1.at_ _ _ h
      simp only [tru, em] at hb
      cases hb
      exact .inl ⟨xs, .inl (.inl e), by rw [isEmpty_dns t]⟩
theorem ew_if {t : TT} (h : TW K t ρ μ fun b m => if b = true then EW K ta ρ m P else EW K tb ρ m P) : EW K (tIf t ta tb) ρ μ P := fun A σ H s v Q q =>
  h A σ H s v _ fun A1 H1 b m e1 s1 p => by
    cases b with
    | true => exact p A1 σ H1 s1 (v.mono e1) Q fun A2 H2 u f m2 e2 s2 y p2 => q A2 H2 u f m2 (e1.trans e2) s2 y p2
    | false => exact p A1 σ H1 s1 (v.mono e1) Q fun A2 H2 u f m2 e2 s2 y p2 => q A2 H2 u f m2 (e1.trans e2) s2 y p2
theorem ew_andV (h : EW K ta ρ μ fun d m => ∃ b, d = .bl b ∧ if b = true then EW K tb ρ m P else P (.bl false) m) : EW K (tAndV ta tb) ρ μ P := fun A σ H s v Q q =>
  h A σ H s v _ fun A1 H1 x d m e1 s1 x1 ⟨b, hd, p⟩ => by
    subst hd
    cases x1
    refine ⟨b, rfl, ?_⟩
    cases b with
    | true => exact p A1 σ H1 s1 (v.mono e1) Q fun A2 H2 u f m2 e2 s2 y p2 => q A2 H2 u f m2 (e1.trans e2) s2 y p2
    | false => exact q A1 H1 _ _ m e1 s1 (.bl false) p
theorem ew_orV (h : EW K ta ρ μ fun d m => ∃ b, d = .bl b ∧ if b = true then P (.bl true) m else EW K tb ρ m P) : EW K (tOrV ta tb) ρ μ P := fun A σ H s v Q q =>
  h A σ H s v _ fun A1 H1 x d m e1 s1 x1 ⟨b, hd, p⟩ => by
    subst hd
    cases x1
    refine ⟨b, rfl, ?_⟩
    cases b with
    | true => exact q A1 H1 _ _ m e1 s1 (.bl true) p
    | false => exact p A1 σ H1 s1 (v.mono e1) Q fun A2 H2 u f m2 e2 s2 y p2 => q A2 H2 u f m2 (e1.trans e2) s2 y p2
theorem ew_notV (h : EW K ta ρ μ fun d m => ∃ b, d = .bl b ∧ P (.bl (!b)) m) : EW K (tNotV ta) ρ μ P := fun A σ H s v Q q =>
  h A σ H s v _ fun A1 H1 x d m e1 s1 x1 ⟨b, hd, p⟩ => by subst hd; cases x1; exact ⟨b, rfl, q A1 H1 _ _ m e1 s1 (.bl _) p⟩
theorem ew_chain {r r' : R2} (h : EW K ta ρ μ fun d m => EW K tb ρ m fun e m1 => RW K r d e m1 fun z m2 => ∃ k, z = .bl k ∧ if k = true then EW K tc ρ m2 fun f m3 => RW K r' e f m3 P else P (.bl false) m2) : EW K (tChain r r' ta tb tc) ρ μ P := fun A σ H s v Q q =>
  h A σ H s v _ fun A1 H1 x d m e1 s1 x1 p1 => p1 A1 σ H1 s1 (v.mono e1) _ fun A2 H2 y e m2 e2 s2 y2 p2 => p2 A2 H2 x y s2 (x1.mono e2) y2 _ fun A3 H3 z f m3 e3 s3 z3 ⟨k, hk, p3⟩ => by
    subst hk
    cases z3
    refine ⟨k, rfl, ?_⟩
    cases k with
    | true =>
      exact p3 A3 σ H3 s3 (v.mono ((e1.trans e2).trans e3)) _ fun A4 H4 w g m4 e4 s4 w4 p4 => p4 A4 H4 y w s4 (y2.mono (e3.trans e4)) w4 Q fun A5 H5 u f5 m5 e5 s5 u5 p5 => q A5 H5 u f5 m5 ((((e1.trans e2).trans e3).trans e4).trans e5) s5 u5 p5
    | false => exact q A3 H3 _ _ m3 ((e1.trans e2).trans e3) s3 (.bl false) p3

/-! ### statements -/
variable {E : DE} {t u : TS} {tt : TT}
theorem Ends.mono {A A' : As} {H H' : Hp} {D : L2.Ends} (x : Ext A H A' H') (h : Ends K A H D E) : Ends K A' H' D E :=
  ⟨fun A1 H1 a b c e s v p => h.nx A1 H1 a b c (x.trans e) s v p, fun A1 H1 a b c e s v p => h.rt A1 H1 a b c (x.trans e) s v p, fun A1 H1 a b c e s v p => h.bk A1 H1 a b c (x.trans e) s v p, fun A1 H1 a b c e s v p => h.ct A1 H1 a b c (x.trans e) s v p⟩
theorem sw_seq (h : SW K t ρ μ { E with nx := fun ρ' m => SW K u ρ' m E }) : SW K (tSeq t u) ρ μ E := fun A σ H D s v g =>
  h A σ H { D with nx := u D } s v ⟨fun A1 H1 σ1 ρ1 m1 e s1 v1 p => p A1 σ1 H1 D s1 v1 (g.mono e), g.rt, g.bk, g.ct⟩
theorem sw_next (p : E.nx ρ μ) : SW K tNext ρ μ E := fun A σ H D s v g => g.nx A H σ ρ μ (Ext.refl A H) s v p
theorem sw_ret (h : EW K te ρ μ E.rt) : SW K (tRet te) ρ μ E := fun A σ H D s v g =>
  h A σ H s v _ fun A1 H1 x d m e s1 x1 p => g.rt A1 H1 x d m e s1 x1 p
theorem sw_retN (p : E.rt .non μ) : SW K tRetN ρ μ E := fun A σ H D s v g => g.rt A H .non .non μ (Ext.refl A H) s .non p
theorem sw_drop (h : EW K te ρ μ fun _ m => E.nx ρ m) : SW K (tDrop te) ρ μ E := fun A σ H D s v g =>
  h A σ H s v _ fun A1 H1 x d m e s1 x1 p => g.nx A1 H1 σ ρ m e s1 (v.mono e) p
theorem sw_if (h : TW K tt ρ μ fun b m => if b = true then SW K t ρ m E else SW K u ρ m E) : SW K (tIfS tt t u) ρ μ E := fun A σ H D s v g =>
  h A σ H s v _ fun A1 H1 b m e s1 p => by
    cases b with
    | true => exact p A1 σ H1 D s1 (v.mono e) (g.mono e)
    | false => exact p A1 σ H1 D s1 (v.mono e) (g.mono e)
theorem sw_brk (p : E.bk ρ μ) : SW K tBreak ρ μ E := fun A σ H D s v g => g.bk A H σ ρ μ (Ext.refl A H) s v p
theorem sw_cont (p : E.ct ρ μ) : SW K tCont ρ μ E := fun A σ H D s v g => g.ct A H σ ρ μ (Ext.refl A H) s v p
/-- targets -/
def GW (K : PySem.W.Frag) (g : TG) (d : Dat) (ρ : Ro) (μ : Mu) (R : Ro → Mu → Prop) : Prop := ∀ (A : As) (σ : L2.St) (H : Hp) (v : V), Sto K A H μ → DL.Env K A H σ ρ → Dn K A H v d → ∀ Q : L2.St → Hp → Prop,
  (∀ A' H' σ' ρ' μ', Ext A H A' H' → Sto K A' H' μ' → DL.Env K A' H' σ' ρ' → R ρ' μ' → Q σ' H') → g v σ H Q
def GsW (K : PySem.W.Frag) (g : TGs) (ds : List Dat) (ρ : Ro) (μ : Mu) (R : Ro → Mu → Prop) : Prop := ∀ (A : As) (σ : L2.St) (H : Hp) (vs : List V), Sto K A H μ → DL.Env K A H σ ρ → Dns K A H vs ds → ∀ Q : L2.St → Hp → Prop,
  (∀ A' H' σ' ρ' μ', Ext A H A' H' → Sto K A' H' μ' → DL.Env K A' H' σ' ρ' → R ρ' μ' → Q σ' H') → g vs σ H Q
variable {R : Ro → Mu → Prop}
theorem gw_name {i : Nat} (p : R (ρ.set i (some d)) μ) : GW K (gName i) d ρ μ R := fun A σ H v s ev x Q q => q A H _ _ μ (Ext.refl A H) s (ev.set i x) p
theorem gs_nil (p : R ρ μ) : GsW K gNil [] ρ μ R := fun A σ H vs s ev x Q q => by cases x; exact ⟨rfl, q A H σ ρ μ (Ext.refl A H) s ev p⟩
theorem gs_cons {g : TG} {gs : TGs} {ds : List Dat} (h : GW K g d ρ μ fun ρ1 m1 => GsW K gs ds ρ1 m1 R) : GsW K (gCons g gs) (d :: ds) ρ μ R := fun A σ H vs s ev x Q q => by
  cases x with
  | cons x1 x2 => exact ⟨_, _, rfl, h A σ H _ s ev x1 _ fun A1 H1 σ1 ρ1 m1 e s1 v1 p => p A1 σ1 H1 _ s1 v1 (x2.mono e) Q fun A2 H2 σ2 ρ2 m2 e2 s2 v2 p2 => q A2 H2 σ2 ρ2 m2 (e.trans e2) s2 v2 p2⟩
theorem gw_tup {gs : TGs} {n : Nat} {ds : List Dat} (hn : ds.length = n) (h : GsW K gs ds ρ μ R) : GW K (gTup K n gs) (.tup ds) ρ μ R := fun A σ H v s ev x Q q => by
  cases x with
  | @tup a vs _ h1 t1 => exact ⟨a, vs, rfl, sqT_hid h1, by rw [t1.length]; exact hn, h A σ H vs s ev t1 Q q⟩
theorem gw_sub {to ti : TE} (hn : noCell d = true) (h : EW K to ρ μ fun o m1 => EW K ti ρ m1 fun ix m2 => ∃ k i j xs, o = .cell k ∧ ix = .int i ∧ m2[k]? = some (some xs) ∧ ixN xs.length i = some j ∧ R ρ (m2.set k (some (xs.set j d)))) :
    GW K (gSub to ti rSetL) d ρ μ R := fun A σ H v s ev x Q q =>
  h A σ H s ev _ fun A1 H1 o od m1 e1 s1 o1 p1 => p1 A1 σ H1 s1 (ev.mono e1) _ fun A2 H2 ix id m2 e2 s2 i2 ⟨k, i, j, xs, hd, hi, hm, hj, p⟩ => by
    subst hd hi
    cases i2
    obtain ⟨a, vs, rfl, hk, ho, t1⟩ := s2.cell (o1.mono e2) hm
    have w := t1.set (x.mono (e1.trans e2)) j
    have nx : noCells (xs.set j d) = true := noCells_set (s2.nc _ _ hm) hn
    exact ⟨a, vs, i, j, rfl, rfl, ho, by rw [t1.length]; exact hj, q A2 _ σ ρ _ ((e1.trans e2).trans (ext_cell hk)) (s2.write hk w nx) (ev.mono ((e1.trans e2).trans (ext_cell hk))) p⟩
theorem sw_asg {g : TG} (h : EW K te ρ μ fun d m => GW K g d ρ m E.nx) : SW K (tAsg te g) ρ μ E := fun A σ H D s v gg =>
  h A σ H s v _ fun A1 H1 x d m e s1 x1 p => p A1 σ H1 x s1 (v.mono e) x1 _ fun A2 H2 σ2 ρ2 m2 e2 s2 v2 p2 => gg.nx A2 H2 σ2 ρ2 m2 (e.trans e2) s2 v2 p2
theorem sw_set {i : Nat} (h : EW K te ρ μ fun d m => E.nx (ρ.set i (some d)) m) : SW K (tAsg te (gName i)) ρ μ E := sw_asg (h.imp fun d m p => gw_name p)
theorem sw_par {i j : Nat} {t : TA} (h : AW K t ρ μ fun ds m => ∃ a b, ds = [a, b] ∧ E.nx ((ρ.set i (some a)).set j (some b)) m) : SW K (tPar i j t) ρ μ E := fun A σ H D s v g =>
  h A σ H s v _ fun A1 H1 vs ds m e s1 x ⟨a, b, hd, p⟩ => by
    subst hd
    cases x with
    | cons x1 x => cases x with
      | cons x2 x =>
        cases x
        exact ⟨_, _, rfl, g.nx A1 H1 _ _ m e s1 (((v.mono e).set i x1).set j x2) p⟩
theorem sw_aug {i : Nat} {f : Int → Int → Int} {a : Int} (ha : ρ[i]? = some (some (.int a))) (h : EW K te ρ μ fun d m => ∃ b, d = .int b ∧ E.nx (ρ.set i (some (.int (f a b)))) m) : SW K (tAug i te (ipI f)) ρ μ E := fun A σ H D s v g => by
  obtain ⟨x, hx, dx⟩ := v.2 i _ ha
  cases dx
  exact ⟨.int a, hx, h A σ H s v _ fun A1 H1 y d m e s1 y1 ⟨b, hd, p⟩ => by
    subst hd
    cases y1
    exact ⟨a, b, rfl, rfl, g.nx A1 H1 _ _ m e s1 ((v.mono e).set i (.int _)) p⟩⟩

/-! ### loops -/
/-- an invariant, as the heap's -/
def Hd (K : PySem.W.Frag) (A : As) (H : Hp) (I : Ro → Mu → Prop) : L2.St → Hp → Prop := fun σ' H' => ∃ A' ρ' μ', Ext A H A' H' ∧ Sto K A' H' μ' ∧ DL.Env K A' H' σ' ρ' ∧ I ρ' μ'
theorem Hd.ends {A A' : As} {H H' : Hp} {D : L2.Ends} (x : Ext A H A' H') (g : Ends K A H D E) (I : Ro → Mu → Prop) :
    Ends K A' H' { D with nx := Hd K A H I, ct := Hd K A H I, bk := D.nx } { E with nx := I, ct := I, bk := E.nx } :=
  ⟨fun A1 H1 σ1 ρ1 m1 e s v p => ⟨A1, ρ1, m1, x.trans e, s, v, p⟩, fun A1 H1 a b c e s v p => g.rt A1 H1 a b c (x.trans e) s v p, fun A1 H1 a b c e s v p => g.nx A1 H1 a b c (x.trans e) s v p, fun A1 H1 σ1 ρ1 m1 e s v p => ⟨A1, ρ1, m1, x.trans e, s, v, p⟩⟩
theorem sw_forR1 {ta : TA} {g : TG} {tb : TS} (h : AW K ta ρ μ fun ds m => ∃ n : Int, ds = [.int n] ∧ -(2 ^ 62) ≤ n ∧ n < 2 ^ 62 ∧ ∃ I : Nat → Ro → Mu → Prop, I 0 ρ m ∧
      (∀ i ρ' m', i < n.toNat → I i ρ' m' → GW K g (.int (i : Nat)) ρ' m' fun ρ2 m2 => SW K tb ρ2 m2 { E with nx := I (i + 1), ct := I (i + 1), bk := E.nx }) ∧ ∀ ρ' m', I n.toNat ρ' m' → E.nx ρ' m') : SW K (tFor (iRng1 ta) g tb) ρ μ E := fun A σ H D s v gg =>
  h A σ H s v _ fun A1 H1 vs ds m e s1 x ⟨n, hd, b1, b2, I, i0, hs, hd'⟩ => by
    subst hd
    cases x with
    | cons x1 x =>
      cases x
      cases x1
      refine ⟨n, rfl, b1, b2, for_range (lo := 0) (n := n.toNat) (fun i => Hd K A1 H1 (I i)) ⟨A1, ρ, m, Ext.refl _ _, s1, v.mono e, i0⟩ (fun i σ' H' hi ⟨A2, ρ2, m2, e2, s2, v2, p2⟩ => ?_) (fun σ' H' ⟨A2, ρ2, m2, e2, s2, v2, p2⟩ => gg.nx A2 H' σ' ρ2 m2 (e.trans e2) s2 v2 (hd' ρ2 m2 p2))⟩
      have z : (0 : Int) + (i : Int) = ((i : Nat) : Int) := Int.zero_add _
      rw [z]
      exact hs i ρ2 m2 hi p2 A2 σ' H' _ s2 v2 (.int _) _ fun A3 H3 σ3 ρ3 m3 e3 s3 v3 p3 => p3 A3 σ3 H3 _ s3 v3 (Hd.ends (e2.trans e3) (gg.mono e) (I (i + 1)))
theorem sw_forR2 {ta : TA} {g : TG} {tb : TS} (h : AW K ta ρ μ fun ds m => ∃ lo n : Int, ds = [.int lo, .int n] ∧ (-(2 ^ 62) ≤ lo ∧ lo < 2 ^ 62 ∧ -(2 ^ 62) ≤ n ∧ n < 2 ^ 62) ∧ ∃ I : Nat → Ro → Mu → Prop, I 0 ρ m ∧
      (∀ i ρ' m', i < (n - lo).toNat → I i ρ' m' → GW K g (.int (lo + (i : Nat))) ρ' m' fun ρ2 m2 => SW K tb ρ2 m2 { E with nx := I (i + 1), ct := I (i + 1), bk := E.nx }) ∧ ∀ ρ' m', I (n - lo).toNat ρ' m' → E.nx ρ' m') : SW K (tFor (iRng2 ta) g tb) ρ μ E := fun A σ H D s v gg =>
  h A σ H s v _ fun A1 H1 vs ds m e s1 x ⟨lo, n, hd, b, I, i0, hs, hd'⟩ => by
    subst hd
    cases x with
    | cons x1 x => cases x with
      | cons x2 x =>
        cases x
        cases x1
        cases x2
        refine ⟨lo, n, rfl, b, for_range (lo := lo) (n := (n - lo).toNat) (fun i => Hd K A1 H1 (I i)) ⟨A1, ρ, m, Ext.refl _ _, s1, v.mono e, i0⟩ (fun i σ' H' hi ⟨A2, ρ2, m2, e2, s2, v2, p2⟩ => ?_) (fun σ' H' ⟨A2, ρ2, m2, e2, s2, v2, p2⟩ => gg.nx A2 H' σ' ρ2 m2 (e.trans e2) s2 v2 (hd' ρ2 m2 p2))⟩
        exact hs i ρ2 m2 hi p2 A2 σ' H' _ s2 v2 (.int _) _ fun A3 H3 σ3 ρ3 m3 e3 s3 v3 p3 => p3 A3 σ3 H3 _ s3 v3 (Hd.ends (e2.trans e3) (gg.mono e) (I (i + 1)))
theorem sw_forT {g : TG} {tb : TS} (h : EW K te ρ μ fun d m => ∃ xs, d = .tup xs ∧ ∃ I : Nat → Ro → Mu → Prop, I 0 ρ m ∧
      (∀ i x ρ' m', xs[i]? = some x → I i ρ' m' → GW K g x ρ' m' fun ρ2 m2 => SW K tb ρ2 m2 { E with nx := I (i + 1), ct := I (i + 1), bk := E.nx }) ∧ ∀ ρ' m', I xs.length ρ' m' → E.nx ρ' m') : SW K (tFor (iTup K te) g tb) ρ μ E := fun A σ H D s v gg =>
  h A σ H s v _ fun A1 H1 x d m e s1 x1 ⟨xs, hd, I, i0, hs, hd'⟩ => by
    subst hd
    cases x1 with
    | @tup a vs _ h1 t1 =>
      have hl := t1.length
      refine ⟨a, rfl, ⟨vs, sqT_hid h1⟩, for_tup (K := K) (a := a) (xs := vs) (fun i => Hd K A1 H1 (I i)) ⟨A1, ρ, m, Ext.refl _ _, s1, v.mono e, i0⟩ (fun i σ' H' _ ⟨A2, ρ2, m2, e2, s2, v2, p2⟩ => sqT_hid (e2.sqT h1)) (fun i y σ' H' hy ⟨A2, ρ2, m2, e2, s2, v2, p2⟩ => ?_)
        (fun σ' H' ⟨A2, ρ2, m2, e2, s2, v2, p2⟩ => gg.nx A2 H' σ' ρ2 m2 (e.trans e2) s2 v2 (hd' ρ2 m2 (by rw [← hl]; exact p2)))⟩
      obtain ⟨dd, q1, q2⟩ := t1.getV hy
      exact hs i dd ρ2 m2 q1 p2 A2 σ' H' y s2 v2 (q2.mono e2) _ fun A3 H3 σ3 ρ3 m3 e3 s3 v3 p3 => p3 A3 σ3 H3 _ s3 v3 (Hd.ends (e2.trans e3) (gg.mono e) (I (i + 1)))
theorem sw_forL {g : TG} {tb : TS} (h : EW K te ρ μ fun d m => ∃ xs, d = .lst xs ∧ ∃ I : Nat → Ro → Mu → Prop, I 0 ρ m ∧
      (∀ i x ρ' m', xs[i]? = some x → I i ρ' m' → GW K g x ρ' m' fun ρ2 m2 => SW K tb ρ2 m2 { E with nx := I (i + 1), ct := I (i + 1), bk := E.nx }) ∧ ∀ ρ' m', I xs.length ρ' m' → E.nx ρ' m') : SW K (tFor (iList K te) g tb) ρ μ E := fun A σ H D s v gg =>
  h A σ H s v _ fun A1 H1 x d m e s1 x1 ⟨xs, hd, I, i0, hs, hd'⟩ => by
    subst hd
    cases x1 with
    | @lst a vs _ h1 t1 =>
      have hl := t1.length
      refine ⟨a, rfl, ⟨vs, sqL_hid h1⟩, for_list (K := K) (a := a) (xs := vs) (fun i => Hd K A1 H1 (I i)) ⟨A1, ρ, m, Ext.refl _ _, s1, v.mono e, i0⟩ (fun i σ' H' _ ⟨A2, ρ2, m2, e2, s2, v2, p2⟩ => sqL_hid (e2.sqL h1)) (fun i y σ' H' hy ⟨A2, ρ2, m2, e2, s2, v2, p2⟩ => ?_)
        (fun σ' H' ⟨A2, ρ2, m2, e2, s2, v2, p2⟩ => gg.nx A2 H' σ' ρ2 m2 (e.trans e2) s2 v2 (hd' ρ2 m2 (by rw [← hl]; exact p2)))⟩
      obtain ⟨dd, q1, q2⟩ := t1.getV hy
      exact hs i dd ρ2 m2 q1 p2 A2 σ' H' y s2 v2 (q2.mono e2) _ fun A3 H3 σ3 ρ3 m3 e3 s3 v3 p3 => p3 A3 σ3 H3 _ s3 v3 (Hd.ends (e2.trans e3) (gg.mono e) (I (i + 1)))
theorem sw_while {c : TT} {tb : TS} (I : Nat → Ro → Mu → Prop) (h0 : ∃ n, I n ρ μ) (hs : ∀ n ρ' m', I n ρ' m' → TW K c ρ' m' fun b m2 => if b = true then SW K tb ρ' m2 { E with nx := fun ρ3 m3 => ∃ n', n' < n ∧ I n' ρ3 m3, ct := fun ρ3 m3 => ∃ n', n' < n ∧ I n' ρ3 m3, bk := E.nx } else E.nx ρ' m2) :
    SW K (tWhile c tb) ρ μ E := fun A σ H D s v gg => by
  obtain ⟨n, i0⟩ := h0
  refine ⟨fun n => Hd K A H (I n), ⟨n, A, ρ, μ, Ext.refl _ _, s, v, i0⟩, fun n σ' H' ⟨A2, ρ2, m2, e2, s2, v2, p2⟩ => ?_⟩
  refine hs n ρ2 m2 p2 A2 σ' H' s2 v2 _ fun A3 H3 b m3 e3 s3 p3 => ?_
  cases b with
  | true => exact ⟨Hd K A H fun ρ3 m3 => ∃ n', n' < n ∧ I n' ρ3 m3, fun σ4 H4 ⟨A4, ρ4, m4, e4, s4, v4, n', l, p4⟩ => ⟨n', l, A4, ρ4, m4, e4, s4, v4, p4⟩, p3 A3 σ' H3 _ s3 (v2.mono e3) (Hd.ends (e2.trans e3) gg _)⟩
  | false => exact gg.nx A3 H3 σ' ρ2 m3 (e2.trans e3) s3 (v2.mono e3) p3
end
end DL
namespace DL
open PySem PySem.Spec PyProof.Rows L2
section
variable {K : PySem.W.Frag} {ρ : Ro} {μ : Mu} {P : PD} {ta tb tc te : TE} {d e : Dat} {r : R2}
/-! ### comprehensions whose elements change nothing -/
def wipeD (ρ : Ro) (j : Nat) : Ro := ρ.set j none
theorem Env.wipe {A : As} {H : Hp} {σ : L2.St} {ρ : Ro} (h : DL.Env K A H σ ρ) (j : Nat) : DL.Env K A H (L2.wipe σ [j]) (wipeD ρ j) := by
  refine ⟨by show (σ.set j none).length = (ρ.set j none).length; rw [List.length_set, List.length_set]; exact h.1, fun i d q => ?_⟩
  unfold wipeD at q
  by_cases c : j = i
  · subst c
    have hi : j < ρ.length := by
      have := (List.getElem?_eq_some_iff.mp q).1
      rwa [List.length_set] at this
    rw [List.getElem?_set_self hi] at q
    cases q
  · rw [List.getElem?_set_ne c] at q
    obtain ⟨v, a, b⟩ := h.2 i d q
    exact ⟨v, by show (σ.set j none)[i]? = _; rw [List.getElem?_set_ne c]; exact a, b⟩
theorem wipe_set (σ : L2.St) (j : Nat) (x : Option V) : L2.wipe ((L2.wipe σ [j]).set j x) [j] = L2.wipe σ [j] := by
  show (((σ.set j none).set j x).set j none) = σ.set j none
  rw [List.set_set, List.set_set]
/-- the comprehension's list, hidden while it grows -/
structure Grow (K : PySem.W.Frag) (A : As) (H : Hp) (m : Mu) (D : Addr) (acc : List Dat) (H' : Hp) : Prop where
  ex : ∃ A', Ext (A ++ [some D]) (upd H D (.lst [])) A' H' ∧ Sto K A' H' (m ++ [some acc]) ∧ A'[m.length]? = some (some D)
theorem Grow.start {A : As} {H : Hp} {m : Mu} {D : Addr} (s : Sto K A H m) (h : H D = none) : Grow K A H m D [] (upd H D (.lst [])) :=
  ⟨A ++ [some D], Ext.refl _ _, s.open h .nil rfl, by rw [← s.len]; simp⟩
theorem Grow.done {A : As} {H H' : Hp} {m : Mu} {D : Addr} {acc : List Dat} (s : Sto K A H m) (h : H D = none) (g : Grow K A H m D acc H') : ∃ A', Ext A H A' H' ∧ Sto K A' H' m ∧ Dn K A' H' (.ref D) (.lst acc) := by
  obtain ⟨A2, e2, s2, hD⟩ := g.ex
  have hl : A2.length = m.length + 1 := by rw [s2.len]; simp
  have k0 : ∀ a o, hid A2 H' a = some o → hid (A2.take m.length) H' a = some o := fun a o q => by
    obtain ⟨q1, q2⟩ := hid_of q
    exact hid_to q1 fun z => q2 (List.mem_of_mem_take z)
  have cl : ∀ (k : Nat) (a : Addr), (A2.take m.length)[k]? = some (some a) → A2[k]? = some (some a) ∧ k < m.length := fun k a q => by
    have hk : k < m.length := by
      have := (List.getElem?_eq_some_iff.mp q).1
      rw [List.length_take] at this; omega
    rw [List.getElem?_take_of_lt hk] at q
    exact ⟨q, hk⟩
  have nD : some D ∉ A2.take m.length := fun z => by
    obtain ⟨k, hk⟩ := List.mem_iff_getElem?.mp z
    obtain ⟨q, hk'⟩ := cl k D hk
    have := s2.inj k m.length D q hD
    omega
  have accOk : noCells acc = true := s2.nc m.length acc (by simp)
  refine ⟨A2.take m.length, ⟨fun a o q => ?_, fun k a q => ?_⟩, ⟨by rw [List.length_take]; omega, s.nc, fun k a q => ?_, fun j k a q1 q2 => s2.inj j k a (cl j a q1).1 (cl k a q2).1⟩, ?_⟩
  · exact k0 a o (e2.keep a o ((ext_open h).keep a o q))
  · have hk : k < m.length := by rw [← s.len]; exact (List.getElem?_eq_some_iff.mp q).1
    rw [List.getElem?_take_of_lt hk]
    exact e2.cells k a ((ext_open (o := .lst []) h).cells k a q)
  · obtain ⟨q1, hk⟩ := cl k a q
    obtain ⟨xs, ds, o1, o2, o3⟩ := s2.at_ k a q1
    rw [List.getElem?_append_left hk] at o2
    exact ⟨xs, ds, o1, o2, o3.mono0 k0 (s.nc k ds o2)⟩
  · obtain ⟨xs, ds, o1, o2, o3⟩ := s2.at_ m.length D hD
    simp at o2
    subst o2
    exact .lst (.inl (.inl (hid_to o1 nD))) (o3.mono0 k0 accOk)
/-- one turn: the value goes to the list's end -/
theorem Grow.turn {A A3 : As} {H H4 : Hp} {m : Mu} {D : Addr} {acc : List Dat} {y : V} (e : Ext (A ++ [some D]) (upd H D (.lst [])) A3 H4) (s3 : Sto K A3 H4 (m ++ [some acc])) (hD : A3[m.length]? = some (some D)) (hy : Dn K A3 H4 y d) (hn : noCell d = true) (hz : acc.length < sizeLine) :
    ∃ ac : List V, H4 D = some (.lst ac) ∧ ac.length < sizeLine ∧ Grow K A H m D (acc ++ [d]) (upd H4 D (.lst (ac ++ [y]))) := by
  obtain ⟨xs, ds, o1, o2, o3⟩ := s3.at_ m.length D hD
  simp at o2
  subst o2
  refine ⟨xs, o1, by rw [o3.length]; exact hz, A3, e.trans (ext_cell hD), ?_, hD⟩
  have w := s3.write hD (o3.snoc hy) (noCells_append (s3.nc m.length acc (by simp)) (by simp [noCells, hn]))
  have : (m ++ [some acc]).set m.length (some (acc ++ [d])) = m ++ [some (acc ++ [d])] := by
    rw [List.set_append_right _ _ (Nat.le_refl _)]; simp
  rwa [this] at w
/-- what one turn's test and element make of the item x: kept (some) or not -/
def TurnW (K : PySem.W.Frag) (tt : TT) (te : TE) (ρ : Ro) (m : Mu) (f : Option Dat) : Prop :=
  TW K tt ρ m fun b m1 => if b = true then EW K te ρ m1 fun d m2 => m2 = m ∧ noCell d = true ∧ f = some d else m1 = m ∧ f = none
theorem tw_yes {P : Bool → Mu → Prop} (h : P true μ) : TW K tYes ρ μ P := fun A σ H s _ Q q => q A H true μ (Ext.refl A H) s h
theorem turn_yes {f : Dat} (hn : noCell f = true) (h : EW K te ρ μ fun d m2 => d = f ∧ m2 = μ) : TurnW K tYes te ρ μ (some f) := tw_yes (by
  show if true = true then _ else _
  rw [if_pos rfl]
  exact h.imp fun d m ⟨a, b⟩ => by subst a b; exact ⟨rfl, hn, rfl⟩)
theorem turn_run {A A2 : As} {H H2 : Hp} {m : Mu} {D : Addr} {acc : List Dat} {tt : TT} {σ2 : L2.St} {ρ2 : Ro} {f : Option Dat} (t : TurnW K tt te ρ2 (m ++ [some acc]) f) (e : Ext (A ++ [some D]) (upd H D (.lst [])) A2 H2) (s : Sto K A2 H2 (m ++ [some acc]))
    (hD : A2[m.length]? = some (some D)) (v : DL.Env K A2 H2 σ2 ρ2) (hz : acc.length < sizeLine) (Nx : Hp → Prop) (hN : ∀ H', Grow K A H m D (acc ++ f.toList) H' → Nx H') :
    tt σ2 H2 fun b H3 => if b = true then te σ2 H3 fun y H4 => ∃ ac : List V, H4 D = some (.lst ac) ∧ ac.length < sizeLine ∧ Nx (upd H4 D (.lst (ac ++ [y]))) else Nx H3 :=
  t A2 σ2 H2 s v _ fun A3 H3 b m3 e3 s3 p3 => by
    cases b with
    | true =>
      have p3' : EW K te ρ2 m3 fun d m2 => m2 = m ++ [some acc] ∧ noCell d = true ∧ f = some d := p3
      exact p3' A3 σ2 H3 s3 (v.mono e3) _ fun A4 H4 y d m4 e4 s4 y4 ⟨hm, hn, hf⟩ => by
        subst hm hf
        obtain ⟨ac, o1, o2, o3⟩ := Grow.turn ((e.trans e3).trans e4) s4 (e4.cells _ _ (e3.cells _ _ hD)) y4 hn hz
        exact ⟨ac, o1, o2, hN _ o3⟩
    | false =>
      obtain ⟨hm, hf⟩ := (show m3 = m ++ [some acc] ∧ f = none from p3)
      subst hm hf
      exact hN _ ⟨A3, e.trans e3, by simpa using s3, e3.cells _ _ hD⟩
theorem ew_lcR1 {ta : TA} {j : Nat} {tt : TT} (h : AW K ta ρ μ fun ds m => ∃ n : Int, ds = [.int n] ∧ -(2 ^ 62) ≤ n ∧ n < 2 ^ 62 ∧ n < 1000000 ∧ ∃ f : Nat → Option Dat,
      (∀ i acc, i < n.toNat → acc = (List.range i).filterMap f → TurnW K tt te ((wipeD ρ j).set j (some (.int (i : Nat)))) (m ++ [some acc]) (f i)) ∧ P (.lst ((List.range n.toNat).filterMap f)) m) : EW K (tLc (iRng1 ta) (gName j) tt te [j]) ρ μ P := fun A σ H s v Q q =>
  h A σ H s v _ fun A1 H1 vs ds m e s1 x ⟨n, hd, b1, b2, b3, f, hf, p⟩ => by
    subst hd
    cases x with
    | cons x1 x =>
      cases x
      cases x1
      refine ⟨n, rfl, b1, b2, fun D hD => lc_range (lo := 0) (n := n.toNat) (fun i H' => i ≤ n.toNat ∧ Grow K A1 H1 m D ((List.range i).filterMap f) H') ⟨Nat.zero_le _, Grow.start s1 hD⟩ (fun i H2 hi ⟨_, g⟩ => ?_) (fun H2 ⟨_, g⟩ => ?_)⟩
      · obtain ⟨A2, e2, s2, hD2⟩ := g.ex
        refine ⟨wipe_set σ j _, ?_⟩
        have z : (0 : Int) + (i : Int) = ((i : Nat) : Int) := Int.zero_add _
        rw [z]
        have lz : ((List.range i).filterMap f).length < sizeLine := Nat.lt_of_le_of_lt (List.length_filterMap_le _ _) (by rw [List.length_range, sizeLine_eq]; omega)
        refine turn_run (hf i _ hi rfl) e2 s2 hD2 (((v.mono ((e.trans (ext_open hD)).trans e2)).wipe j).set j (.int _)) lz _ fun H' g' => ⟨hi, ?_⟩
        rw [List.range_succ, List.filterMap_append]
        have : (List.filterMap f [i]) = (f i).toList := by cases q : f i <;> simp [q]
        rw [this]
        exact g'
      · obtain ⟨A2, e2, s2, d2⟩ := Grow.done s1 hD g
        exact q A2 H2 _ _ m (e.trans e2) s2 d2 p
theorem ew_lcT {j : Nat} {tt : TT} (h : EW K ta ρ μ fun d m => ∃ xs, d = .tup xs ∧ xs.length < sizeLine ∧ ∃ f : Dat → Option Dat,
      (∀ x acc, x ∈ xs → TurnW K tt te ((wipeD ρ j).set j (some x)) (m ++ [some acc]) (f x)) ∧ P (.lst (xs.filterMap f)) m) : EW K (tLc (iTup K ta) (gName j) tt te [j]) ρ μ P := fun A σ H s v Q q =>
  h A σ H s v _ fun A1 H1 y d m e s1 y1 ⟨xs, hd, hz, f, hf, p⟩ => by
    subst hd
    cases y1 with
    | @tup a vs _ h1 t1 =>
      have hl := t1.length
      refine ⟨a, rfl, ⟨vs, sqT_hid h1⟩, fun D hD => lc_tup (K := K) (a := a) (xs := vs) (fun i H' => i ≤ vs.length ∧ Grow K A1 H1 m D ((xs.take i).filterMap f) H') ⟨Nat.zero_le _, by simpa using Grow.start s1 hD⟩ (fun i H' _ ⟨_, g⟩ => ?_) (fun i y H2 hy ⟨_, g⟩ => ?_) (fun H2 ⟨_, g⟩ => ?_)⟩
      · obtain ⟨A2, e2, _, _⟩ := g.ex
        exact sqT_hid (e2.sqT ((ext_open hD).sqT h1))
      · obtain ⟨A2, e2, s2, hD2⟩ := g.ex
        refine ⟨wipe_set σ j _, ?_⟩
        obtain ⟨dd, q1, q2⟩ := t1.getV hy
        have hiv : i < vs.length := (List.getElem?_eq_some_iff.mp hy).1
        have lz : ((xs.take i).filterMap f).length < sizeLine := Nat.lt_of_le_of_lt (List.length_filterMap_le _ _) (by rw [List.length_take]; omega)
        refine turn_run (hf dd _ (List.mem_of_getElem? q1)) e2 s2 hD2 (((v.mono ((e.trans (ext_open hD)).trans e2)).wipe j).set j (q2.mono ((ext_open hD).trans e2))) lz _ fun H' g' => ⟨hiv, ?_⟩
        have tk : xs.take (i + 1) = xs.take i ++ [dd] := by
          rw [List.take_succ, q1]; rfl
        rw [tk, List.filterMap_append]
        have : (List.filterMap f [dd]) = (f dd).toList := by cases q : f dd <;> simp [q]
        rw [this]
        exact g'
      · obtain ⟨A2, e2, s2, d2⟩ := Grow.done s1 hD g
        rw [hl, List.take_length] at d2
        exact q A2 H2 _ _ m (e.trans e2) s2 d2 p
theorem ew_lcL {j : Nat} {tt : TT} (h : EW K ta ρ μ fun d m => ∃ xs, d = .lst xs ∧ xs.length < sizeLine ∧ ∃ f : Dat → Option Dat,
      (∀ x acc, x ∈ xs → TurnW K tt te ((wipeD ρ j).set j (some x)) (m ++ [some acc]) (f x)) ∧ P (.lst (xs.filterMap f)) m) : EW K (tLc (iList K ta) (gName j) tt te [j]) ρ μ P := fun A σ H s v Q q =>
  h A σ H s v _ fun A1 H1 y d m e s1 y1 ⟨xs, hd, hz, f, hf, p⟩ => by
    subst hd
    cases y1 with
    | @lst a vs _ h1 t1 =>
      have hl := t1.length
      refine ⟨a, rfl, ⟨vs, sqL_hid h1⟩, fun D hD => lc_list (K := K) (a := a) (xs := vs) (fun i H' => i ≤ vs.length ∧ Grow K A1 H1 m D ((xs.take i).filterMap f) H') ⟨Nat.zero_le _, by simpa using Grow.start s1 hD⟩ (fun i H' _ ⟨_, g⟩ => ?_) (fun i y H2 hy ⟨_, g⟩ => ?_) (fun H2 ⟨_, g⟩ => ?_)⟩
      · obtain ⟨A2, e2, _, _⟩ := g.ex
        exact sqL_hid (e2.sqL ((ext_open hD).sqL h1))
      · obtain ⟨A2, e2, s2, hD2⟩ := g.ex
        refine ⟨wipe_set σ j _, ?_⟩
        obtain ⟨dd, q1, q2⟩ := t1.getV hy
        have hiv : i < vs.length := (List.getElem?_eq_some_iff.mp hy).1
        have lz : ((xs.take i).filterMap f).length < sizeLine := Nat.lt_of_le_of_lt (List.length_filterMap_le _ _) (by rw [List.length_take]; omega)
        refine turn_run (hf dd _ (List.mem_of_getElem? q1)) e2 s2 hD2 (((v.mono ((e.trans (ext_open hD)).trans e2)).wipe j).set j (q2.mono ((ext_open hD).trans e2))) lz _ fun H' g' => ⟨hiv, ?_⟩
        have tk : xs.take (i + 1) = xs.take i ++ [dd] := by
          rw [List.take_succ, q1]; rfl
        rw [tk, List.filterMap_append]
        have : (List.filterMap f [dd]) = (f dd).toList := by cases q : f dd <;> simp [q]
        rw [this]
        exact g'
      · obtain ⟨A2, e2, s2, d2⟩ := Grow.done s1 hD g
        rw [hl, List.take_length] at d2
        exact q A2 H2 _ _ m (e.trans e2) s2 d2 p
theorem ew_lcR2 {ta : TA} {j : Nat} {tt : TT} (h : AW K ta ρ μ fun ds m => ∃ lo n : Int, ds = [.int lo, .int n] ∧ (-(2 ^ 62) ≤ lo ∧ lo < 2 ^ 62 ∧ -(2 ^ 62) ≤ n ∧ n < 2 ^ 62) ∧ n - lo < 1000000 ∧ ∃ f : Nat → Option Dat,
      (∀ i acc, i < (n - lo).toNat → acc = (List.range i).filterMap f → TurnW K tt te ((wipeD ρ j).set j (some (.int (lo + (i : Nat))))) (m ++ [some acc]) (f i)) ∧ P (.lst ((List.range (n - lo).toNat).filterMap f)) m) : EW K (tLc (iRng2 ta) (gName j) tt te [j]) ρ μ P := fun A σ H s v Q q =>
  h A σ H s v _ fun A1 H1 vs ds m e s1 x ⟨lo, n, hd, b, b3, f, hf, p⟩ => by
    subst hd
    cases x with
    | cons x1 x => cases x with
     | cons x2 x =>
      cases x
      cases x1
      cases x2
      refine ⟨lo, n, rfl, b, fun D hD => lc_range (lo := lo) (n := (n - lo).toNat) (fun i H' => i ≤ (n - lo).toNat ∧ Grow K A1 H1 m D ((List.range i).filterMap f) H') ⟨Nat.zero_le _, Grow.start s1 hD⟩ (fun i H2 hi ⟨_, g⟩ => ?_) (fun H2 ⟨_, g⟩ => ?_)⟩
      · obtain ⟨A2, e2, s2, hD2⟩ := g.ex
        refine ⟨wipe_set σ j _, ?_⟩
        have lz : ((List.range i).filterMap f).length < sizeLine := Nat.lt_of_le_of_lt (List.length_filterMap_le _ _) (by rw [List.length_range, sizeLine_eq]; omega)
        refine turn_run (hf i _ hi rfl) e2 s2 hD2 (((v.mono ((e.trans (ext_open hD)).trans e2)).wipe j).set j (.int _)) lz _ fun H' g' => ⟨hi, ?_⟩
        rw [List.range_succ, List.filterMap_append]
        have : (List.filterMap f [i]) = (f i).toList := by cases q : f i <;> simp [q]
        rw [this]
        exact g'
      · obtain ⟨A2, e2, s2, d2⟩ := Grow.done s1 hD g
        exact q A2 H2 _ _ m (e.trans e2) s2 d2 p
end
end DL
namespace DL
open PySem PySem.Spec PyProof.Rows L2
/-! ### defs by data -/
abbrev FW := List Dat → Mu → PD → Prop
def spD (K : PySem.W.Frag) (F : FW) : Sp := fun vs H Q _ => ∃ A μ ds P, Sto K A H μ ∧ Dns K A H vs ds ∧ F ds μ P ∧ ∀ A' H' v d μ', Ext A H A' H' → Sto K A' H' μ' → Dn K A' H' v d → P d μ' → Q v H'
section
variable {K : PySem.W.Frag} {ρ : Ro} {μ : Mu} {P : PD} {F : FW}
theorem ew_call {E : XK} {t : TA} (h : AW K t ρ μ fun ds m => F ds m P) : EW K (tCall (spD K F) [] E t) ρ μ P := fun A σ H s v Q q =>
  h A σ H s v _ fun A1 H1 vs ds m e s1 x p => ⟨A1, m, ds, P, s1, by rw [List.append_nil]; exact x, p, fun A2 H2 u d m2 e2 s2 y pf => q A2 H2 u d m2 (e.trans e2) s2 y pf⟩
/-- keywords alone, or behind values: gD tells the parameters' sequence -/
theorem ew_callN {n k : Nat} {E : XK} {t tk : TA} {gV : List V → List V → List V} (gD : List Dat → List Dat → List Dat) (hg : ∀ A H vs ds ws es, Dns K A H vs ds → Dns K A H ws es → ds.length = n → es.length = k → Dns K A H (gV vs ws) (gD ds es))
    (h : AW K t ρ μ fun ds m => AW K tk ρ m fun es m2 => ds.length = n ∧ es.length = k ∧ F (gD ds es) m2 P) : EW K (tCallN n k (spD K F) gV E t tk) ρ μ P := fun A σ H s v Q q =>
  h A σ H s v _ fun A1 H1 vs ds m e s1 x p => p A1 σ H1 s1 (v.mono e) _ fun A2 H2 ws es m2 e2 s2 y ⟨l1, l2, pf⟩ => ⟨by rw [x.length]; exact l1, by rw [y.length]; exact l2, A2, m2, gD ds es, P, s2, hg A2 H2 vs ds ws es (x.mono e2) y l1 l2, pf,
    fun A3 H3 u d m3 e3 s3 z pz => q A3 H3 u d m3 ((e.trans e2).trans e3) s3 z pz⟩
def startD (n : Nat) (ds : List Dat) : Ro := ds.map some ++ List.replicate (n - ds.length) none
theorem env_start {A : As} {H : Hp} {vs : List V} {ds : List Dat} (N : List Str) (x : Dns K A H vs ds) : DL.Env K A H (L2.start N vs) (startD N.length ds) := by
  have hl := x.length
  refine ⟨by unfold L2.start startD; simp [hl], fun i d q => ?_⟩
  unfold startD at q
  by_cases c : i < ds.length
  · rw [List.getElem?_append_left (by simpa using c), List.getElem?_map] at q
    cases e : ds[i]? with
    | none => rw [e] at q; cases q
    | some d' =>
      rw [e] at q
      cases q
      obtain ⟨v, h1, h2⟩ := x.get e
      refine ⟨v, ?_, h2⟩
      unfold L2.start
      rw [List.getElem?_append_left (by rw [List.length_map, hl]; exact c), List.getElem?_map, h1]
      rfl
  · rw [List.getElem?_append_right (by simpa using c)] at q
    have := List.mem_of_getElem? q
    have := List.eq_of_mem_replicate this
    cases this
/-- a body's reading, from its data's -/
theorem body_of {N : List Str} {t : TS} {vs : List V} {H : Hp} {Q : VK} {E : XK} (h : spD K F vs H Q E) (b : ∀ ds m P, F ds m P → SW K t (startD N.length ds) m { nx := fun _ m => P .non m, rt := P }) :
    t { nx := fun _ H' => Q .non H', rt := Q } (L2.start N vs) H := by
  obtain ⟨A, m, ds, P, s, x, f, q⟩ := h
  refine b ds m P f A (L2.start N vs) H _ s (env_start N x) ⟨fun A1 H1 σ1 ρ1 m1 e s1 v1 p => q A1 H1 .non .non m1 e s1 .non p, fun A1 H1 v d m1 e s1 y p => q A1 H1 v d m1 e s1 y p, fun _ _ _ _ _ _ _ _ z => z.elim, fun _ _ _ _ _ _ _ _ z => z.elim⟩
theorem sp_len {n : Nat} (hF : ∀ ds m P, F ds m P → ds.length = n) {vs : List V} {H : Hp} {Q : VK} {E : XK} (h : spD K F vs H Q E) : vs.length = n := by
  obtain ⟨A, m, ds, P, s, x, f, q⟩ := h
  rw [x.length]; exact hF ds m P f

/-! ### == of data -/
mutual
def toPy : Dat → PyData
  | .non => .none | .bl b => .bool b | .int i => .int i | .str x => .str x | .tup xs => .tuple (toPys xs) | .lst xs => .list (toPys xs) | .cell _ => .none
def toPys : List Dat → List PyData
  | [] => [] | d :: ds => toPy d :: toPys ds
end
mutual
theorem Dn.py {A : As} {H : Hp} : ∀ {v : V} {d : Dat}, noCell d = true → Dn K A H v d → Dp K H v (toPy d)
  | _, _, _, .non => by rw [toPy]; exact .non
  | _, _, _, .bl b => by rw [toPy]; exact .bl b
  | _, _, _, .int i => by rw [toPy]; exact .int i
  | _, _, _, .str x => by rw [toPy]; exact .str x
  | _, _, n, .tup h t => by rw [toPy]; exact .tup (sqT_hid h) (Dns.py (by rw [noCell] at n; exact n) t)
  | _, _, n, .lst h t => by rw [toPy]; exact .lst (sqL_hid h) (Dns.py (by rw [noCell] at n; exact n) t)
  | _, _, n, .cell h => by simp [noCell] at n
theorem Dns.py {A : As} {H : Hp} : ∀ {vs : List V} {ds : List Dat}, noCells ds = true → Dns K A H vs ds → DpAll K H vs (toPys ds)
  | _, _, _, .nil => by rw [toPys]; exact .nil
  | _, _, n, .cons h t => by rw [noCells, Bool.and_eq_true] at n; rw [toPys]; exact .cons (Dn.py n.1 h) (Dns.py n.2 t)
end
/- data without texts, cells -/
mutual
def okD : Dat → Bool
  | .tup xs => okDs xs | .lst xs => okDs xs | .cell _ => false | .str _ => false | .non => true | .bl _ => true | .int _ => true
def okDs : List Dat → Bool
  | [] => true
  | d :: ds => okD d && okDs ds
end
mutual
def dep : Dat → Nat
  | .tup xs => deps xs + 1 | .lst xs => deps xs + 1 | .cell _ => 0 | .str _ => 0 | .non => 0 | .bl _ => 0 | .int _ => 0
def deps : List Dat → Nat
  | [] => 0
  | d :: ds => max (dep d) (deps ds)
end
mutual
theorem ok_shape : ∀ (d : Dat), okD d = true → (toPy d).canLay0 = true ∧ (toPy d).depth = dep d ∧ noCell d = true
  | .non, _ => by simp [toPy, PyData.canLay0, PyData.depth, noCell, dep]
  | .bl b, _ => by simp [toPy, PyData.canLay0, PyData.depth, noCell, dep]
  | .int i, _ => by simp [toPy, PyData.canLay0, PyData.depth, noCell, dep]
  | .str x, h => by simp [okD] at h
  | .cell k, h => by simp [okD] at h
  | .tup xs, h => by
    rw [okD] at h
    have := ok_shapes xs h
    simp only [toPy, PyData.canLay0, PyData.depth, noCell, dep]
    exact ⟨this.1, by omega, this.2.2⟩
  | .lst xs, h => by
    rw [okD] at h
    have := ok_shapes xs h
    simp only [toPy, PyData.canLay0, PyData.depth, noCell, dep]
    exact ⟨this.1, by omega, this.2.2⟩
theorem ok_shapes : ∀ (ds : List Dat), okDs ds = true → PyData.canLayAll0 (toPys ds) = true ∧ PyData.depthAll (toPys ds) = deps ds ∧ noCells ds = true
  | [], _ => by simp [toPys, PyData.canLayAll0, PyData.depthAll, noCells, deps]
  | d :: ds, h => by
    rw [okDs, Bool.and_eq_true] at h
    have h1 := ok_shape d h.1
    have h2 := ok_shapes ds h.2
    simp only [toPys, PyData.canLayAll0, PyData.depthAll, noCells, h1.1, h2.1, h1.2.2, h2.2.2, Bool.and_self, true_and, deps]
    exact ⟨by omega, trivial⟩
end
def shp (d : Dat) : Bool := okD d && decide (dep d ≤ 64)
theorem shp_nc {d : Dat} (h : shp d = true) : noCell d = true := (ok_shape d (Bool.and_eq_true_iff.mp h).1).2.2
theorem shaped_of {d : Dat} (h : shp d = true) : SeqAt.shaped (toPy d) = true := by
  have h' := Bool.and_eq_true_iff.mp h
  have := ok_shape d h'.1
  unfold SeqAt.shaped
  rw [this.1, Bool.true_and, this.2.1]
  exact h'.2
def eqD (d e : Dat) : Bool := PyData.eqv (toPy d) (toPy e)
theorem rw_eqD {d e : Dat} (hd : shp d = true) (he : shp e = true) (p : P (.bl (eqD d e)) μ) : RW K (rEqD K) d e μ P := fun A H x y s a b Q q =>
  ⟨toPy d, toPy e, a.py (shp_nc hd), b.py (shp_nc he), shaped_of hd, shaped_of he, q A H _ _ μ (Ext.refl A H) s (.bl _) p⟩
theorem rw_neD {d e : Dat} (hd : shp d = true) (he : shp e = true) (p : P (.bl (!eqD d e)) μ) : RW K (rNeD K) d e μ P := fun A H x y s a b Q q =>
  ⟨toPy d, toPy e, a.py (shp_nc hd), b.py (shp_nc he), shaped_of hd, shaped_of he, q A H _ _ μ (Ext.refl A H) s (.bl _) p⟩
/-! ### words: tuples, lists of whole numbers -/
def wi (l : List Int) : List Dat := l.map Dat.int
abbrev tw (l : List Int) : Dat := .tup (wi l)
theorem ok_wi : ∀ l : List Int, okDs (wi l) = true
  | [] => by simp [wi, okDs]
  | i :: l => by
    show okDs (.int i :: wi l) = true
    rw [okDs, ok_wi l]; simp [okD]
theorem dep_wi : ∀ l : List Int, deps (wi l) = 0
  | [] => by simp [wi, deps]
  | i :: l => by
    show deps (.int i :: wi l) = 0
    rw [deps, dep_wi l]; simp [dep]
theorem nc_wi (l : List Int) : noCells (wi l) = true := (ok_shapes _ (ok_wi l)).2.2
theorem eqv_wi : ∀ l m : List Int, PyData.eqvAll (toPys (wi l)) (toPys (wi m)) = decide (l = m)
  | [], [] => by simp [wi, toPys, PyData.eqvAll]
  | [], _ :: _ => by simp [wi, toPys, PyData.eqvAll]
  | _ :: _, [] => by simp [wi, toPys, PyData.eqvAll]
  | i :: l, j :: m => by
    have ih := eqv_wi l m
    show PyData.eqvAll (toPy (.int i) :: toPys (wi l)) (toPy (.int j) :: toPys (wi m)) = _
    rw [PyData.eqvAll, ih, toPy, toPy, PyData.eqv]
    by_cases h : i = j <;> by_cases h2 : l = m <;> simp [h, h2]
theorem shp_tw (l : List Int) : shp (tw l) = true := by simp [shp, tw, okD, ok_wi, dep, dep_wi]
theorem shp_li (l : List Int) : shp (.lst (wi l)) = true := by simp [shp, okD, ok_wi, dep, dep_wi]
theorem eqD_tw (l m : List Int) : eqD (tw l) (tw m) = decide (l = m) := by
  unfold eqD tw; rw [toPy, toPy, PyData.eqv, eqv_wi]
theorem eqD_li (l m : List Int) : eqD (.lst (wi l)) (.lst (wi m)) = decide (l = m) := by
  unfold eqD; rw [toPy, toPy, PyData.eqv, eqv_wi]
/-- rows: pairs of words -/
abbrev rw_ (B A : List Int) : Dat := .tup [tw B, tw A]
theorem shp_row (B A : List Int) : shp (rw_ B A) = true := by simp [shp, rw_, tw, okD, okDs, ok_wi, dep, deps, dep_wi]
theorem eqD_row (B A B' A' : List Int) : eqD (rw_ B A) (rw_ B' A') = decide (B = B' ∧ A = A') := by
  have h1 := eqD_tw B B'
  have h2 := eqD_tw A A'
  unfold eqD at *
  unfold rw_
  rw [toPy, toPy, PyData.eqv, toPys, toPys, toPys, toPys, toPys, toPys, PyData.eqvAll, PyData.eqvAll, PyData.eqvAll, h1, h2]
  by_cases a : B = B' <;> by_cases b : A = A' <;> simp [a, b]
end
end DL
namespace DL
open PySem PySem.Spec PyProof.Rows L2
/-! ### defs that are called where no repr is under way -/
structure FnG (P : Program) (w : World) (K : PySem.W.Frag) (mg : Str → Option Value) (base : Heap) (k : Nat) (f : Addr) (fd : FuncData) (ps : List Str) (sp : Sp) : Prop where
  len : ∀ vs H Q E, sp vs H Q E → vs.length = ps.length
  go : ∀ (A : Around) (outer : List PySem.Env) (s : Shared) (H : Hp) (args : Args) (us : List Value) (vs : List V) (Q : VK) (E : XK), A.guards = some [] → Room k A → Env0 P w K mg base A outer s H →
    BindsTo s fd args (ps.zip us) → Vals vs us → sp vs H Q E → codeAny (model P w) A (.call (.ref f) args) (CR CX0 outer P w H s Q E) s
theorem FnG.of {P : Program} {w : World} {K : PySem.W.Frag} {mg : Str → Option Value} {base : Heap} {k : Nat} {f : Addr} {fd : FuncData} {ps : List Str} {sp : Sp} (F : FnOk P w K mg base CX0 k f fd ps sp) : FnG P w K mg base k f fd ps sp :=
  ⟨F.len, fun A outer s H args us vs Q E _ => F.run A outer s H args us vs Q E⟩
section
variable {P : Program} {w : World} {K : PySem.W.Frag} {mg : Str → Option Value} {base : Heap}
theorem okG {x qual : Str} {st : Stmt} {f : Addr} {fd : FuncData} {N ps : List Str} {k : Nat} {sp : Sp} (F : Fun K x qual st f fd) (S : FnScope N ps (defScope st)) (len : ∀ vs H Q E, sp vs H Q E → vs.length = ps.length)
    (body : ∀ (cdv : Value) (A : Around) (outer : List PySem.Env) (s : Shared) (H : Hp) (vs : List V) (Q : VK) (E : XK), A.guards = some [] → Room k (A.deeper (envOfC qual (defScope st) s.heap.objs.size f cdv)) → sp vs H Q E →
      ∃ t, PSs (cxOf CX0 P w K mg base N qual (defScope st) f cdv A outer s H E).nox (defBody st) t ∧ t { nx := fun _ H' => Q .non H', rt := Q } (L2.start N vs) H) : FnG P w K mg base (k + 1) f fd ps sp := by
  obtain ⟨oc, od, kV, doc, pm, an, cdv, ct, osl, rfl, lk, hcd⟩ := F.ex
  refine ⟨len, ?_⟩
  intro A outer s H args us vs Q E hG hr e0 hb rv hsp
  have inK : K.In s.heap := by
    refine e0.mod.kin.keeps ?_
    intro b o e
    exact (e0.bs b o e).1
  have noLim : s.heap.NoLimit := by
    refine e0.mod.nolimit.keeps ?_
    intro b o e
    exact (e0.bs b o e).1
  have locOrCell : ∀ y ∈ ps.zip us, (defScope st).names.lookup y.1 = some .local ∨ ((defScope st).names.lookup y.1 = some .cell ∧ ((cellsFrom (s.heap.objs.size + 1) (defScope st).names []).lookup y.1).isSome = true) := by
    rintro ⟨nm, u⟩ hy
    cases S.par nm (List.of_mem_zip hy).1 with
    | inl q => exact Or.inl q
    | inr q => exact Or.inr (And.intro q (PySem.W.cellsFrom_some _ _ _ (Or.inl q)))
  apply codeAny_call_function hr.depth (inK _ _ lk) rfl S.co S.gen rfl (PySem.W.codeRec_of inK hcd)
  apply hb
  apply wpAny_newFunctionEnv_cells S.kind locOrCell
  intro env he s1 x
  subst he
  refine And.intro (noLim.keeps x.toInCall.keep) (codeAny_func ?_)
  obtain ⟨t, ht, hq⟩ := body cdv A outer s H vs Q E hG (hr.deeper _) hsp
  have start0 := inv_start (CX := CX0) (N := N) (f := f) (E := E) S hr.hd e0 (len _ _ _ _ hsp) rv x
  refine wpAny_mono (ht.nox.run [] s1 (L2.start N vs) H _ start0 hq) ?_ (fun _ _ z => z)
  intro fl s' z
  cases fl with
  | ret u =>
    obtain ⟨v, σ', H', J, r2, q⟩ := z
    exact ⟨v, H', J.os, J.bare, J.base, J.hok, r2, q⟩
  | next =>
    obtain ⟨σ', H', J, q⟩ := z
    exact ⟨V.non, H', J.os, J.bare, J.base, J.hok, rfl, q⟩
  | brk => exact z.elim fun _ z => z.elim fun _ z => z.2.elim
  | cont => exact z.elim fun _ z => z.elim fun _ z => z.2.elim
end
section
variable {X : Cx} {k : Nat} {f : Addr} {fd : FuncData} {ps : List Str} {sp : Sp} {x : Str} {p pos : Pos} {e : PySem.Expr} {es : List PySem.Expr} {t : TA}
/-- f(e, ..), no defaults -/
theorem pe_callG (F : FnG X.prog X.w X.K X.mg X.base k f fd ps sp) (hG : X.A.guards = some []) (hr : Room k X.A) (hg : Gl X x) (hm : X.mg x = some (.ref f)) (hk : PySem.W.keepIn X.K (.ref f) = true) (hb : Binds X.K fd ps []) (ha : PA X (e :: es) t)
    (hdb : (x == ("__debug__" : Str)) = false := by decide) (he : starEach (e :: es) X.env = (false, eval e X.env) :: starEach es X.env := by rfl) (hpl : (backTo pos (starEach es X.env)).any (·.1) = false := by rfl) :
    PE X (.Call (.Name x p) (e :: es) [] pos) (tCall sp [] E0 t) := by
  constructor
  intro pins s σ H Q I h
  apply wpAny_Call_Name_kw
  refine ld_glob I hg hm ?_ hdb
  refine PySem.W.callWith_K (h₀ := X.base) I.ok.mod.kin hk ?_ he hpl
  refine thn (ha.run pos pins s σ H _ I h) ?_
  rintro us s1 ⟨vs, H1, I1, rv, q⟩
  refine ⟨I1.kIn, wpAny_call ?_⟩
  have q0 : sp vs H1 Q E0 := by
    have := q
    rwa [List.append_nil] at this
  have bd : BindsTo s1 fd ⟨us, []⟩ (ps.zip us) := by
    have := hb s1 us I1.kIn (by rw [List.append_nil, ← rv.length]; exact F.len _ _ _ _ q0)
    rwa [List.append_nil] at this
  refine codeAny_mono (F.go X.A X.stack s1 H1 ⟨us, []⟩ us vs Q E0 hG hr I1.env0 bd rv q0) ?_
  intro r s' z
  cases r with
  | error er => exact z.elim
  | ok fl =>
    cases fl with
    | ret u => exact I1.after z
    | next => exact z.elim
    | brk => exact z.elim
    | cont => exact z.elim

/-! ### repr -/
def rRepr (K : PySem.W.Frag) : List V → Hp → VK → Prop := fun xs H Q => ∃ a d, xs = [.ref a] ∧ Dp K H (.ref a) d ∧ d.showable = true ∧ d.hasDict = false ∧ d.shown.length ≤ sizeLine ∧ d.depth ≤ 60 ∧ Q (.str d.shown) H
theorem call_repr (hG : X.A.guards = some []) (hu : X.A.units + 64 < cLine) : CallR X (.builtin "repr") (rRepr X.K) := by
  intro pins s σ H xs us Q I rv h
  obtain ⟨a, d, rfl, hd, hs, hn, hz, hdep, q⟩ := h
  obtain ⟨u, rfl, rx⟩ := vals1 rv
  obtain ⟨as, rd⟩ := hd.reads I d (.ref a) u rx
  cases rx
  refine repr_of_reads' rd hs (fun z => by rw [hn] at z; cases z) hG (by omega) (fun _ _ z => z) ?_ hz
  intro h' u tk hk
  exact ⟨.str d.shown, H, I.kept hk, ⟨u, rfl⟩, q⟩
/-- for x in (a tuple or a list) -/
def iSeq (K : PySem.W.Frag) (tl : TE) : TI := fun σ H R => iTup K tl σ H R ∨ iList K tl σ H R
theorem pi_seq {tg : PySem.Expr} {l : PySem.Expr} {tl : TE} (hl : PE X l tl) : PI X tg l (iSeq X.K tl) := ⟨fun pins s σ H R I h => by
  cases h with
  | inl h => exact (pi_tup hl).run pins s σ H R I h
  | inr h => exact (pi_list hl).run pins s σ H R I h⟩
end
section
variable {K : PySem.W.Frag} {ρ : Ro} {μ : Mu} {P : PD} {ta tb tc te : TE} {d e : Dat} {r : R2}
theorem lc_seq {wi wi' : TI} {g : TG} {tt : TT} {vs : List Nat} {σ : L2.St} {H : Hp} {Q : VK} (h : ∀ R, wi σ H R → wi' σ H R) (q : tLc wi g tt te vs σ H Q) : tLc wi' g tt te vs σ H Q := h _ q
/-- the walked thing is a name's -/
theorem ew_lcS {i j : Nat} {xs : List Dat} {tt : TT} (hd : ρ[i]? = some (some (.tup xs)) ∨ ρ[i]? = some (some (.lst xs))) (hz : xs.length < sizeLine) (f : Dat → Option Dat)
    (hf : ∀ x acc, x ∈ xs → TurnW K tt te ((wipeD ρ j).set j (some x)) (μ ++ [some acc]) (f x)) (p : P (.lst (xs.filterMap f)) μ) : EW K (tLc (iSeq K (tVar i)) (gName j) tt te [j]) ρ μ P := by
  cases hd with
  | inl h =>
    have z : EW K (tLc (iTup K (tVar i)) (gName j) tt te [j]) ρ μ P := ew_lcT (ew_var h ⟨xs, rfl, hz, f, hf, p⟩)
    exact fun A σ H s v Q q => lc_seq (fun R r => .inl r) (z A σ H s v Q q)
  | inr h =>
    have z : EW K (tLc (iList K (tVar i)) (gName j) tt te [j]) ρ μ P := ew_lcL (ew_var h ⟨xs, rfl, hz, f, hf, p⟩)
    exact fun A σ H s v Q q => lc_seq (fun R r => .inr r) (z A σ H s v Q q)
theorem cw_repr {d : Dat} (hd : shp d = true) (hr : match d with | .tup _ => true | .lst _ => true | _ => false) (hs : (toPy d).showable = true) (hn : (toPy d).hasDict = false) (hz : (toPy d).shown.length ≤ sizeLine) (hdep : dep d ≤ 60) (p : P (.str (toPy d).shown) μ) : CW K (rRepr K) [d] μ P := fun A H us s x Q q => by
  cases x with
  | cons a t =>
    cases t
    have hp := a.py (shp_nc hd)
    have hdd : (toPy d).depth ≤ 60 := by rw [(ok_shape d (Bool.and_eq_true_iff.mp hd).1).2.1]; exact hdep
    cases a with
    | tup h t => exact ⟨_, _, rfl, hp, hs, hn, hz, hdd, q A H _ _ μ (Ext.refl A H) s (.str _) p⟩
    | lst h t => exact ⟨_, _, rfl, hp, hs, hn, hz, hdd, q A H _ _ μ (Ext.refl A H) s (.str _) p⟩
    | _ => cases hr
end
end DL
namespace DL
open PySem PySem.Spec PyProof.Rows L2
section
variable {X : Cx} {CX : CXT} {k n : Nat} {f : Addr} {fd : FuncData} {ps ks : List Str} {sp : Sp} {E : XK} {x : Str} {p pos : Pos} {kws : List Keyword} {tk : TA} {g : List Value → List Value → List Value} {gV : List V → List V → List V}
/-- f(k = v, ..) -/
theorem pe_callN0 (F : FnOk X.prog X.w X.K X.mg X.base CX k f fd ps sp) (hr : Room k X.A) (hg : Gl X x) (hm : X.mg x = some (.ref f)) (hk : PySem.W.keepIn X.K (.ref f) = true) (hb : KBn X.K fd ps 0 ks g gV) (hx : Passes CX X E) (hkw : PK X kws tk)
    (hall : (backToKw pos (keywordEach kws X.env)).all (·.1.isSome) = true := by rfl) (hks : (backToKw pos (keywordEach kws X.env)).filterMap (·.1) = ks := by rfl) (hdb : (x == ("__debug__" : Str)) = false := by decide)
    (hpl : ((backTo pos (starEach [] X.env)).any (·.1) || (backToKw pos (keywordEach kws X.env)).any (·.1.isNone)) = false := by rfl) : PE X (.Call (.Name x p) [] kws pos) (tCallN 0 ks.length sp gV E tNil tk) := by
  constructor
  intro pins s σ H Q I h
  apply wpAny_Call_Name_kw
  refine ld_glob I hg hm ?_ hdb
  refine PySem.W.callWith_KW0 (h₀ := X.base) I.ok.mod.kin hk hall ?_ hpl
  refine thn (hkw.run pos pins s σ H _ I h) ?_
  rintro ws s2 ⟨zs, H2, I2, rz, l1, l2, q2⟩
  refine And.intro I2.kIn ?_
  rw [hks]
  exact run_fnN (us := []) (vs := []) F hr hb hx I2 .nil rz rfl l2 q2
end
/-- the law's call where no repr is under way -/
theorem enterG {P : Program} {w : World} {K : PySem.W.Frag} {mg mb : Str → Option Value} {k : Nat} {fa a : Addr} {fd : FuncData} {x : Str} {sp : Sp} {s : Shared} {vs : List Value} {ns : List Int}
    (inK : K.In s.heap) (hns : s.heap.Ns mainGlobals mg) (hb : s.heap.Ns builtinsNs mb) (hbb : ∀ y : Str, y ≠ "__name__" → mb y = bootBuiltins y) (hlim : s.heap.NoLimit) (hgens : s.gens = #[])
    (ha : s.heap.get? a = some { cls := .type "list", data := .seq vs.toArray }) (hi : IntsAre vs ns) (hl : ns.length ≤ sizeLine) (hr : Room k callerA)
    (F : ∀ base : Heap, K.In base → base.Ns mainGlobals mg → FnG P w K mg base k fa fd [x] sp) (hbind : ∀ (s : Shared) (u : Value), BindsTo s fd ⟨[u], []⟩ [(x, u)])
    (hsp : ∀ H : Hp, SqL K H a (ns.map V.int) → sp [.ref a] H (fun v _ => v = .bl true) E0) :
    codeAny (model P w) callerA (.call (.ref fa) ⟨[.ref a], []⟩) (fun r s' => r = .ok (.ret (.bool true)) ∧ OldK s.heap s'.heap ∧ s'.os = s.os ∧ AllBare s'.gens) s := by
  have rv := vals_ints hi
  have lenV := hi.length
  -- which heap is tracked: the script alone, or nothing where it is the module's own
  obtain ⟨H, hH, hS, hok, hA, hK⟩ : ∃ H : Hp, (∀ b u, H b = some u → ∃ o xs, u = .frz o (.lst xs)) ∧ SqL K H a (ns.map V.int) ∧ HOk P w H s.heap ∧ (∀ b, H b ≠ none → b = a) ∧ (H a ≠ none → K.lookup a = none) := by
    by_cases hk : K.lookup a = none
    · let ob : Obj := { cls := .type "list", data := .seq vs.toArray }
      have at_ : ∀ b u, (if b = a then some (HO.frz ob (.lst (ns.map V.int))) else none) = some u → b = a ∧ u = .frz ob (.lst (ns.map V.int)) := by
        intro b u z
        by_cases c : b = a
        · rw [if_pos c] at z
          exact ⟨c, (Option.some.inj z).symm⟩
        · rw [if_neg c] at z
          cases z
      refine ⟨fun b => if b = a then some (.frz ob (.lst (ns.map V.int))) else none, ?_, Or.inl (Or.inr ⟨ob, if_pos rfl⟩), ?_, ?_, fun _ => hk⟩
      · intro b u z
        exact ⟨_, _, (at_ b u z).2⟩
      · intro b u z
        obtain ⟨rfl, rfl⟩ := at_ b u z
        exact ⟨ha, by rw [List.length_map]; exact hl, vs, _, rv, ha⟩
      · intro b z
        by_cases c : b = a
        · exact c
        · exact absurd (if_neg c) z
    · obtain ⟨o, e⟩ := Option.ne_none_iff_exists'.mp hk
      have q := inK a o e
      rw [ha] at q
      cases q
      refine ⟨fun _ => none, ?_, Or.inr ⟨_, vs.toArray, _, e, rfl, rfl, rfl, ?_, ?_⟩, ?_, ?_, ?_⟩
      · intro b u z
        cases (show (none : Option HO) = some u from z)
      · rw [List.size_toArray, lenV]; exact hl
      · simpa using rv
      · intro b u z
        cases (show (none : Option HO) = some u from z)
      · exact fun b z => absurd rfl z
      · exact fun z => absurd rfl z
  have see : ∀ {b : Addr} {o : Obj}, s.heap.get? b = some o → H b = none → (hidT s.heap H).get? b = some o := hidT_get
  have noDict : ∀ {b : Addr} {o : Obj} {es : Array DictEntry} {ep : Nat}, s.heap.get? b = some o → o.data = .dict es ep → H b = none := by
    intro b o es ep e d
    cases q : H b with
    | none => rfl
    | some u =>
      have c : b = a := hA b (by rw [q]; exact Option.some_ne_none u)
      subst c
      rw [ha] at e
      cases e
      cases d
  have nsB : ∀ {b : Addr} {m : Str → Option Value}, s.heap.Ns b m → (hidT s.heap H).Ns b m := by
    rintro b m ⟨o, es, ep, e, d, r⟩
    exact ⟨o, es, ep, see e (noDict e d), d, r⟩
  have kB : K.In (hidT s.heap H) := by
    intro b o e
    refine see (inK b o e) ?_
    cases q : H b with
    | none => rfl
    | some u =>
      have c : b = a := hA b (by rw [q]; exact Option.some_ne_none u)
      subst c
      rw [hK (by rw [q]; exact Option.some_ne_none u)] at e
      cases e
  obtain ⟨mc, lim1, lim2⟩ := hlim
  have hM : Mod K mg (hidT s.heap H) := ⟨kB, nsB hns, ⟨mb, nsB hb, hbb⟩, ⟨mc, nsB lim1, lim2⟩⟩
  have e0 : Env0 P w K mg (hidT s.heap H) callerA [] s H :=
    ⟨rfl, hM, fun b o e => of_hidT e, Nat.le_of_eq (hidT_size _ _), trivial, fun b z => absurd (show b ∈ ([] : List Addr) from z) (by simp), hok, .of_eq hgens⟩
  have run := (F _ kB (nsB hns)).go callerA [] s H ⟨[.ref a], []⟩ [.ref a] [.ref a] _ _ rfl hr e0 (hbind s (.ref a)) (.cons rfl .nil) (hsp H hS)
  refine codeAny_mono run ?_
  intro r s' z
  cases r with
  | error er => exact z.elim
  | ok fl =>
    cases fl with
    | next => exact z.elim
    | brk => exact z.elim
    | cont => exact z.elim
    | ret u =>
      obtain ⟨v, H', os, bare, un, hok', r2, q⟩ := z
      cases (show v = .bl true from q)
      cases (show u = Value.bool true from r2)
      refine ⟨rfl, OldK.of_keep ?_, os, bare⟩
      intro b o e
      cases q : H b with
      | none => exact un.keep b o e q (fun z => absurd (show b ∈ ([] : List Addr) from z) (by simp)) (by simp)
      | some u =>
        obtain ⟨ob, xs, rfl⟩ := hH b u q
        have z2 := un.frzs b ob _ q
        obtain ⟨e1, _⟩ := hok b _ q
        obtain ⟨e2, _⟩ := hok' b _ z2
        rw [e] at e1
        cases e1
        exact e2
/-- the end, as walk_of, of a law that is a FnG -/
theorem walkG {l : PySem.W.OpenLaw} {n k : Nat} {q : Program} {loose : List Str} {XP : (Str → Option Value) → Heap → Prop} {YP : World → Heap → Prop} {d : DefRec} {K : Params → PySem.W.Frag} {F0 : PySem.W.Frag → FW} {x : Str}
    (hn : l.most = some n) (hn2 : n ≤ sizeLine) (hdf : d.params.defaults = []) (hr : Room k callerA) (hY : ∀ (w : World) (h : Heap), YP w h → (K w.params).In h)
    (F : ∀ (w : World) (mg : Str → Option Value) (fa : Addr) (h : Heap), (K w.params).In h → h.Ns mainGlobals mg → mg d.name = some (.ref fa) →
      ∃ fd : FuncData, (∀ (s : Shared) (u : Value), BindsTo s fd ⟨[u], []⟩ [(x, u)]) ∧ ∀ base : Heap, (K w.params).In base → base.Ns mainGlobals mg → FnG l.prog w (K w.params) mg base k fa fd [x] (spD (K w.params) (F0 (K w.params))))
    (hF : ∀ (K : PySem.W.Frag) (ns : List Int), ns.length ≤ n → F0 K [.lst (wi ns)] [] fun d _ => d = .bl true) :
    PySem.W.WalkO q loose XP YP l.row.toRowW d [] (fun f vs => PySem.call f vs) := by
  refine Att.attach_call hn hdf ?_
  intro w s0 s1 mg mb fa o pm cd doc a vs ns G Y ho hd hcd hmg hobj hints hlen hgens
  have inK := hY w _ Y
  obtain ⟨fd, hb, hF'⟩ := F w mg fa _ inK G.T.g hmg
  refine enterG inK G.T.g G.T.b G.T.builtins G.T.nolimit hgens hobj hints (Nat.le_trans hlen hn2) hr hF' hb ?_
  intro H hS
  have dn : ∀ ms : List Int, Dns (K w.params) [] H (ms.map V.int) (wi ms) := by
    intro ms
    induction ms with
    | nil => exact .nil
    | cons i ms ih => exact .cons (.int i) ih
  have hS' : SqL (K w.params) (hid [] H) a (ns.map V.int) := by
    have e : hid [] H = H := by
      funext b
      unfold hid
      rw [if_neg (by simp)]
    rw [e]; exact hS
  refine ⟨[], [], [.lst (wi ns)], _, ⟨rfl, fun k ds e => by simp at e, fun k b e => by simp at e, fun j k b e => by simp at e⟩, .cons (.lst hS' (dn ns)) .nil, hF _ ns hlen, ?_⟩
  intro A' H' v d m' e' s' hv hd2
  subst hd2
  cases hv
  rfl
end DL
namespace DL
open PySem PySem.Spec PyProof.Rows L2
section
variable {K : PySem.W.Frag} {ρ : Ro} {μ : Mu} {P : PD} {ta tb tc te : TE} {d e : Dat} {r : R2} {t u : TS} {tt : TT} {nx bk ct : Ro → Mu → Prop} {rt : PD}
/-! ### the statements' rules, the ends written out -/
theorem s_seq (h : SW K t ρ μ (.mk (fun ρ' m => SW K u ρ' m (.mk nx rt bk ct)) rt bk ct)) : SW K (tSeq t u) ρ μ (.mk nx rt bk ct) := sw_seq h
theorem s_next (p : nx ρ μ) : SW K tNext ρ μ (.mk nx rt bk ct) := sw_next p
theorem s_ret (h : EW K te ρ μ rt) : SW K (tRet te) ρ μ (.mk nx rt bk ct) := sw_ret h
theorem s_retN (p : rt .non μ) : SW K tRetN ρ μ (.mk nx rt bk ct) := sw_retN p
theorem s_drop (h : EW K te ρ μ fun _ m => nx ρ m) : SW K (tDrop te) ρ μ (.mk nx rt bk ct) := sw_drop h
theorem s_if (h : TW K tt ρ μ fun b m => if b = true then SW K t ρ m (.mk nx rt bk ct) else SW K u ρ m (.mk nx rt bk ct)) : SW K (tIfS tt t u) ρ μ (.mk nx rt bk ct) := sw_if h
theorem s_brk (p : bk ρ μ) : SW K tBreak ρ μ (.mk nx rt bk ct) := sw_brk p
theorem s_cont (p : ct ρ μ) : SW K tCont ρ μ (.mk nx rt bk ct) := sw_cont p
theorem s_asg {g : TG} (h : EW K te ρ μ fun d m => GW K g d ρ m nx) : SW K (tAsg te g) ρ μ (.mk nx rt bk ct) := sw_asg h
theorem s_set {i : Nat} (h : EW K te ρ μ fun d m => nx (ρ.set i (some d)) m) : SW K (tAsg te (gName i)) ρ μ (.mk nx rt bk ct) := sw_set h
theorem s_par {i j : Nat} {t : TA} (h : AW K t ρ μ fun ds m => ∃ a b, ds = [a, b] ∧ nx ((ρ.set i (some a)).set j (some b)) m) : SW K (tPar i j t) ρ μ (.mk nx rt bk ct) := sw_par h
theorem s_aug {i : Nat} {f : Int → Int → Int} {a : Int} (ha : ρ[i]? = some (some (.int a))) (h : EW K te ρ μ fun d m => ∃ b, d = .int b ∧ nx (ρ.set i (some (.int (f a b)))) m) : SW K (tAug i te (ipI f)) ρ μ (.mk nx rt bk ct) := sw_aug ha h
theorem s_forR1 {ta : TA} {g : TG} {tb : TS} (h : AW K ta ρ μ fun ds m => ∃ n : Int, ds = [.int n] ∧ -(2 ^ 62) ≤ n ∧ n < 2 ^ 62 ∧ ∃ I : Nat → Ro → Mu → Prop, I 0 ρ m ∧
      (∀ i ρ' m', i < n.toNat → I i ρ' m' → GW K g (.int (i : Nat)) ρ' m' fun ρ2 m2 => SW K tb ρ2 m2 (.mk (I (i + 1)) rt nx (I (i + 1)))) ∧ ∀ ρ' m', I n.toNat ρ' m' → nx ρ' m') : SW K (tFor (iRng1 ta) g tb) ρ μ (.mk nx rt bk ct) := sw_forR1 h
theorem s_forR2 {ta : TA} {g : TG} {tb : TS} (h : AW K ta ρ μ fun ds m => ∃ lo n : Int, ds = [.int lo, .int n] ∧ (-(2 ^ 62) ≤ lo ∧ lo < 2 ^ 62 ∧ -(2 ^ 62) ≤ n ∧ n < 2 ^ 62) ∧ ∃ I : Nat → Ro → Mu → Prop, I 0 ρ m ∧
      (∀ i ρ' m', i < (n - lo).toNat → I i ρ' m' → GW K g (.int (lo + (i : Nat))) ρ' m' fun ρ2 m2 => SW K tb ρ2 m2 (.mk (I (i + 1)) rt nx (I (i + 1)))) ∧ ∀ ρ' m', I (n - lo).toNat ρ' m' → nx ρ' m') : SW K (tFor (iRng2 ta) g tb) ρ μ (.mk nx rt bk ct) := sw_forR2 h
theorem s_forT {g : TG} {tb : TS} (h : EW K te ρ μ fun d m => ∃ xs, d = .tup xs ∧ ∃ I : Nat → Ro → Mu → Prop, I 0 ρ m ∧
      (∀ i x ρ' m', xs[i]? = some x → I i ρ' m' → GW K g x ρ' m' fun ρ2 m2 => SW K tb ρ2 m2 (.mk (I (i + 1)) rt nx (I (i + 1)))) ∧ ∀ ρ' m', I xs.length ρ' m' → nx ρ' m') : SW K (tFor (iTup K te) g tb) ρ μ (.mk nx rt bk ct) := sw_forT h
theorem s_forL {g : TG} {tb : TS} (h : EW K te ρ μ fun d m => ∃ xs, d = .lst xs ∧ ∃ I : Nat → Ro → Mu → Prop, I 0 ρ m ∧
      (∀ i x ρ' m', xs[i]? = some x → I i ρ' m' → GW K g x ρ' m' fun ρ2 m2 => SW K tb ρ2 m2 (.mk (I (i + 1)) rt nx (I (i + 1)))) ∧ ∀ ρ' m', I xs.length ρ' m' → nx ρ' m') : SW K (tFor (iList K te) g tb) ρ μ (.mk nx rt bk ct) := sw_forL h
theorem s_while {c : TT} {tb : TS} (I : Nat → Ro → Mu → Prop) (h0 : ∃ n, I n ρ μ) (hs : ∀ n ρ' m', I n ρ' m' → TW K c ρ' m' fun b m2 => if b = true then SW K tb ρ' m2 (.mk (fun ρ3 m3 => ∃ n', n' < n ∧ I n' ρ3 m3) rt nx (fun ρ3 m3 => ∃ n', n' < n ∧ I n' ρ3 m3)) else nx ρ' m2) :
    SW K (tWhile c tb) ρ μ (.mk nx rt bk ct) := sw_while I h0 hs
/-! ### flat equality of ints; a bool's leaf -/
theorem rw_eqI {i j : Int} (p : P (.bl (decide (i = j))) μ) : RW K rEq (.int i) (.int j) μ P := rw_eq rfl (by
  have : decide (fl (.int i) = fl (.int j)) = decide (i = j) := by simp [fl]
  rw [this]; exact p)
theorem rw_neI {i j : Int} (p : P (.bl (!decide (i = j))) μ) : RW K rNe (.int i) (.int j) μ P := rw_ne rfl (by
  have : decide (fl (.int i) = fl (.int j)) = decide (i = j) := by simp [fl]
  rw [this]; exact p)
theorem leaf_bl {b : Bool} {Q : Bool → Prop} (h : Q b) : ∃ c, Dat.bl b = .bl c ∧ Q c := ⟨b, rfl, h⟩
theorem leaf_int {b : Int} {Q : Int → Prop} (h : Q b) : ∃ c, Dat.int b = .int c ∧ Q c := ⟨b, rfl, h⟩
theorem leaf_tup {b : List Dat} {Q : List Dat → Prop} (h : Q b) : ∃ c, Dat.tup b = .tup c ∧ Q c := ⟨b, rfl, h⟩
theorem leaf_two {a b : Dat} {Q : Dat → Dat → Prop} (h : Q a b) : ∃ c d, [a, b] = [c, d] ∧ Q c d := ⟨a, b, rfl, h⟩
theorem if_t {A B : Prop} (h : A) : if true = true then A else B := by rw [if_pos rfl]; exact h
theorem if_f {A B : Prop} (h : B) : if false = true then A else B := by rw [if_neg Bool.false_ne_true]; exact h
theorem if_d {c : Prop} [Decidable c] {A B : Prop} (h1 : c → A) (h2 : ¬ c → B) : if decide c = true then A else B := by
  by_cases h : c
  · rw [if_pos (decide_eq_true h)]; exact h1 h
  · rw [if_neg (by rw [decide_eq_false h]; exact Bool.false_ne_true)]; exact h2 h
theorem if_nd {c : Prop} [Decidable c] {A B : Prop} (h1 : ¬ c → A) (h2 : c → B) : if (!decide c) = true then A else B := by
  by_cases h : c
  · rw [decide_eq_true h]; exact if_f (h2 h)
  · rw [decide_eq_false h]; exact if_t (h1 h)
theorem if_b {b : Bool} {A B : Prop} (h1 : b = true → A) (h2 : b = false → B) : if b = true then A else B := by
  cases b with
  | true => exact if_t (h1 rfl)
  | false => exact if_f (h2 rfl)
end
end DL
namespace DL
open PySem PySem.Spec PyProof.Rows L2
/-! ### how keywords come to parameters -/
def k01 {α : Type} : List α → List α → List α := fun us ws => match us, ws with
  | [], [a] => [a]
  | _, _ => []
def k02 {α : Type} : List α → List α → List α := fun us ws => match us, ws with
  | [], [a, b] => [a, b]
  | _, _ => []
def k02s {α : Type} : List α → List α → List α := fun us ws => match us, ws with
  | [], [a, b] => [b, a]
  | _, _ => []
theorem pr01 {α β : Type} {R : α → β → Prop} : ∀ {us : List α} {vs : List β} {ws : List α} {zs : List β}, Paired R us vs → Paired R ws zs → Paired R (k01 us ws) (k01 vs zs)
  | _, _, _, _, .nil, .nil => .nil
  | _, _, _, _, .nil, .cons a .nil => .cons a .nil
  | _, _, _, _, .nil, .cons _ (.cons _ _) => .nil
  | _, _, _, _, .cons _ _, _ => .nil
theorem pr02 {α β : Type} {R : α → β → Prop} : ∀ {us : List α} {vs : List β} {ws : List α} {zs : List β}, Paired R us vs → Paired R ws zs → Paired R (k02 us ws) (k02 vs zs)
  | _, _, _, _, .nil, .nil => .nil
  | _, _, _, _, .nil, .cons a .nil => .nil
  | _, _, _, _, .nil, .cons a (.cons b .nil) => .cons a (.cons b .nil)
  | _, _, _, _, .nil, .cons _ (.cons _ (.cons _ _)) => .nil
  | _, _, _, _, .cons _ _, _ => .nil
theorem pr02s {α β : Type} {R : α → β → Prop} : ∀ {us : List α} {vs : List β} {ws : List α} {zs : List β}, Paired R us vs → Paired R ws zs → Paired R (k02s us ws) (k02s vs zs)
  | _, _, _, _, .nil, .nil => .nil
  | _, _, _, _, .nil, .cons a .nil => .nil
  | _, _, _, _, .nil, .cons a (.cons b .nil) => .cons b (.cons a .nil)
  | _, _, _, _, .nil, .cons _ (.cons _ (.cons _ _)) => .nil
  | _, _, _, _, .cons _ _, _ => .nil
section
variable {K : PySem.W.Frag} {ρ : Ro} {μ : Mu} {P : PD} {F : FW}
theorem dn_pair {A : As} {H : Hp} : ∀ {vs : List V} {ds : List Dat}, Dns K A H vs ds → Paired (Dn K A H) vs ds
  | _, _, .nil => .nil
  | _, _, .cons a t => .cons a (dn_pair t)
theorem pair_dn {A : As} {H : Hp} : ∀ {vs : List V} {ds : List Dat}, Paired (Dn K A H) vs ds → Dns K A H vs ds
  | _, _, .nil => .nil
  | _, _, .cons a t => .cons a (pair_dn t)
/-- f(k = v), f(k = v, l = w), in the parameters' sequence or the other way about -/
theorem ew_k01 {E : XK} {a : Str} {tk : TA} (h : AW K tk ρ μ fun es m2 => es.length = 1 ∧ F (k01 [] es) m2 P) : EW K (tCallN 0 [a].length (spD K F) k01 E tNil tk) ρ μ P :=
  ew_callN k01 (fun A H vs ds ws es a b _ _ => pair_dn (pr01 (dn_pair a) (dn_pair b))) (aw_nil (fun A σ H s v Q q => h A σ H s v Q fun A' H' vs ds m e s' x ⟨a, b⟩ => q A' H' vs ds m e s' x ⟨rfl, a, b⟩))
theorem ew_k02 {E : XK} {a b : Str} {tk : TA} (h : AW K tk ρ μ fun es m2 => es.length = 2 ∧ F (k02 [] es) m2 P) : EW K (tCallN 0 [a, b].length (spD K F) k02 E tNil tk) ρ μ P :=
  ew_callN k02 (fun A H vs ds ws es a b _ _ => pair_dn (pr02 (dn_pair a) (dn_pair b))) (aw_nil (fun A σ H s v Q q => h A σ H s v Q fun A' H' vs ds m e s' x ⟨a, b⟩ => q A' H' vs ds m e s' x ⟨rfl, a, b⟩))
theorem ew_k02s {E : XK} {a b : Str} {tk : TA} (h : AW K tk ρ μ fun es m2 => es.length = 2 ∧ F (k02s [] es) m2 P) : EW K (tCallN 0 [a, b].length (spD K F) k02s E tNil tk) ρ μ P :=
  ew_callN k02s (fun A H vs ds ws es a b _ _ => pair_dn (pr02s (dn_pair a) (dn_pair b))) (aw_nil (fun A σ H s v Q q => h A σ H s v Q fun A' H' vs ds m e s' x ⟨a, b⟩ => q A' H' vs ds m e s' x ⟨rfl, a, b⟩))
end
/-! ### what defs of the text have -/
structure Df (K : PySem.W.Frag) (mg : Str → Option Value) (x : Str) (st : Stmt) (ps : List Str) where
  f : Addr
  fd : FuncData
  F : Fun K x x st f fd
  g : mg x = some (.ref f)
  b : Binds K fd ps []
/-! ### what isinstance says -/
def tI : Dat → Bool | .int _ => true | .bl _ => true | _ => false
def tBo : Dat → Bool | .bl _ => true | _ => false
def tLi : Dat → Bool | .lst _ => true | .cell _ => true | _ => false
def tTu : Dat → Bool | .tup _ => true | _ => false
def tSt : Dat → Bool | .str _ => true | _ => false
theorem kb_int (d : Dat) : kitB (tyN d) "int" = some (tI d) := by
  cases d with
  | non => show kitB "NoneType" "int" = some false; decide +kernel
  | bl b => show kitB "bool" "int" = some true; decide +kernel
  | int i => show kitB "int" "int" = some true; decide +kernel
  | str x => show kitB "str" "int" = some false; decide +kernel
  | tup xs => show kitB "tuple" "int" = some false; decide +kernel
  | lst xs => show kitB "list" "int" = some false; decide +kernel
  | cell k => show kitB "list" "int" = some false; decide +kernel
theorem kb_bool (d : Dat) : kitB (tyN d) "bool" = some (tBo d) := by
  cases d with
  | non => show kitB "NoneType" "bool" = some false; decide +kernel
  | bl b => show kitB "bool" "bool" = some true; decide +kernel
  | int i => show kitB "int" "bool" = some false; decide +kernel
  | str x => show kitB "str" "bool" = some false; decide +kernel
  | tup xs => show kitB "tuple" "bool" = some false; decide +kernel
  | lst xs => show kitB "list" "bool" = some false; decide +kernel
  | cell k => show kitB "list" "bool" = some false; decide +kernel
theorem kb_list (d : Dat) : kitB (tyN d) "list" = some (tLi d) := by
  cases d with
  | non => show kitB "NoneType" "list" = some false; decide +kernel
  | bl b => show kitB "bool" "list" = some false; decide +kernel
  | int i => show kitB "int" "list" = some false; decide +kernel
  | str x => show kitB "str" "list" = some false; decide +kernel
  | tup xs => show kitB "tuple" "list" = some false; decide +kernel
  | lst xs => show kitB "list" "list" = some true; decide +kernel
  | cell k => show kitB "list" "list" = some true; decide +kernel
theorem kb_tuple (d : Dat) : kitB (tyN d) "tuple" = some (tTu d) := by
  cases d with
  | non => show kitB "NoneType" "tuple" = some false; decide +kernel
  | bl b => show kitB "bool" "tuple" = some false; decide +kernel
  | int i => show kitB "int" "tuple" = some false; decide +kernel
  | str x => show kitB "str" "tuple" = some false; decide +kernel
  | tup xs => show kitB "tuple" "tuple" = some true; decide +kernel
  | lst xs => show kitB "list" "tuple" = some false; decide +kernel
  | cell k => show kitB "list" "tuple" = some false; decide +kernel
/-! ### signs, cuts, words -/
section
variable {K : PySem.W.Frag} {ρ : Ro} {μ : Mu} {P : PD}
theorem uw_neg {i : Int} (p : P (.int (-i)) μ) : UW K (rU fun i => .int (-i)) (.int i) μ P := fun A H x s a Q q => by
  cases a
  exact ⟨i, rfl, q A H _ _ μ (Ext.refl A H) s (.int _) p⟩
end
theorem cut_to {α : Type} {xs : List α} {k : Int} (h : 0 ≤ k) : cut xs none (some k) = xs.take k.toNat := by
  obtain ⟨n, rfl⟩ : ∃ n : Nat, k = (n : Int) := ⟨k.toNat, by omega⟩
  unfold cut
  rw [HT.sIx_nat, HT.sIx_none, List.drop_zero, Nat.sub_zero, Int.toNat_natCast]
  by_cases c : n ≤ xs.length
  · rw [Nat.min_eq_left c]
  · rw [Nat.min_eq_right (by omega), List.take_length, List.take_of_length_le (by omega)]
theorem cut_from {α : Type} {xs : List α} {k : Int} (h : 0 ≤ k) : cut xs (some k) none = xs.drop k.toNat := by
  obtain ⟨n, rfl⟩ : ∃ n : Nat, k = (n : Int) := ⟨k.toNat, by omega⟩
  unfold cut
  rw [HT.sIx_nat, HT.sIx_none, Int.toNat_natCast]
  by_cases c : n ≤ xs.length
  · rw [Nat.min_eq_left c, List.take_of_length_le (by rw [List.length_drop]; omega)]
  · rw [Nat.min_eq_right (by omega), List.drop_length, List.drop_of_length_le (by omega)]; simp
theorem cut_mid {α : Type} {xs : List α} {a b : Int} (h : 0 ≤ a) (g : 0 ≤ b) : cut xs (some a) (some b) = (xs.drop a.toNat).take (b.toNat - a.toNat) := by
  obtain ⟨n, rfl⟩ : ∃ n : Nat, a = (n : Int) := ⟨a.toNat, by omega⟩
  obtain ⟨m, rfl⟩ : ∃ n : Nat, b = (n : Int) := ⟨b.toNat, by omega⟩
  unfold cut
  rw [HT.sIx_nat, HT.sIx_nat, Int.toNat_natCast, Int.toNat_natCast]
  by_cases c : n ≤ xs.length
  · rw [Nat.min_eq_left c]
    by_cases d : m ≤ xs.length
    · rw [Nat.min_eq_left d]
    · rw [Nat.min_eq_right (by omega), List.take_of_length_le (by rw [List.length_drop]; omega), List.take_of_length_le (by rw [List.length_drop]; omega)]
  · rw [Nat.min_eq_right (show xs.length ≤ n by omega), List.drop_length, List.drop_of_length_le (by omega)]; simp
theorem six_m1 (n d : Nat) : HT.sIx n d (some (-1)) = n - 1 := by
  show (if (-1 : Int) < 0 then ((-1 : Int) + (n : Int)).toNat else min (Int.toNat (-1)) n) = n - 1
  rw [if_pos (by omega)]
  omega
theorem cut_m1 {α : Type} {xs : List α} : cut xs none (some (-1)) = xs.dropLast := by
  unfold cut
  rw [six_m1, HT.sIx_none, List.drop_zero, Nat.sub_zero, List.dropLast_eq_take]
theorem cut_l1 {α : Type} {xs : List α} : cut xs (some (-1)) none = xs.drop (xs.length - 1) := by
  unfold cut
  rw [six_m1, HT.sIx_none, List.take_of_length_le (by rw [List.length_drop]; omega)]
theorem wi_len (l : List Int) : (wi l).length = l.length := List.length_map ..
theorem wi_take (l : List Int) (k : Nat) : (wi l).take k = wi (l.take k) := by unfold wi; rw [List.map_take]
theorem wi_drop (l : List Int) (k : Nat) : (wi l).drop k = wi (l.drop k) := by unfold wi; rw [List.map_drop]
theorem wi_app (l m : List Int) : wi l ++ wi m = wi (l ++ m) := by unfold wi; rw [List.map_append]
theorem wi_dropLast (l : List Int) : (wi l).dropLast = wi l.dropLast := by unfold wi; rw [List.map_dropLast]
theorem wi_rep (l : List Int) : ∀ k : Nat, (List.replicate k (wi l)).flatten = wi (List.replicate k l).flatten
  | 0 => by simp [wi]
  | k + 1 => by rw [List.replicate_succ, List.replicate_succ, List.flatten_cons, List.flatten_cons, wi_rep l k, wi_app]
theorem wi_ne {l : List Int} (h : l ≠ []) : wi l ≠ [] := fun e => h (by
  have := congrArg List.length e
  rw [wi_len] at this
  exact List.eq_nil_of_length_eq_zero this)
theorem wi_one (c : Int) : [Dat.int c] = wi [c] := rfl
theorem atI_wi {l : List Int} {p : Int} (h : 0 ≤ p) (g : p < l.length) : atI (wi l) p = some (.int (l.getD p.toNat 0)) := by
  obtain ⟨n, rfl⟩ : ∃ n : Nat, p = (n : Int) := ⟨p.toNat, by omega⟩
  have hn : n < l.length := by omega
  refine atI_nat ?_
  unfold wi
  rw [List.getElem?_map, List.getElem?_eq_getElem hn, Int.toNat_natCast, List.getD_eq_getElem?_getD, List.getElem?_eq_getElem hn]
  rfl
theorem atI_wi1 {l : List Int} (g : l ≠ []) : atI (wi l) (-1) = some (.int (l.getD (l.length - 1) 0)) := by
  have hn : 0 < l.length := List.length_pos_iff.mpr g
  unfold atI ixN
  rw [if_neg (by omega), wi_len, if_pos (by omega)]
  have e : ((-1 : Int) + (l.length : Int)).toNat = l.length - 1 := by omega
  show (wi l)[((-1 : Int) + (l.length : Int)).toNat]? = _
  rw [e]
  unfold wi
  rw [List.getElem?_map, List.getElem?_eq_getElem (by omega), List.getD_eq_getElem?_getD, List.getElem?_eq_getElem (by omega)]
  rfl
section
variable {X : Cx} {a : PySem.Expr} {ta : TE}
theorem pt_tru (ha : PE X a ta) (he : ∀ whole, isTrue a X.env whole = (do let v ← whole; standAt a.pos; holding [v] (truthy v))) : PT X a (tTru X.K ta) := pt_truth ha he
end
theorem emod_nat (a b : Nat) (c : Int) (h : c = (b : Int)) : (a : Int) % c = ((a % b : Nat) : Int) := by rw [h, Int.natCast_emod]
theorem ediv_nat (a b : Nat) (c : Int) (h : c = (b : Int)) : (a : Int) / c = ((a / b : Nat) : Int) := by rw [h, Int.natCast_ediv]
theorem sz0 {P : Prop} (h : P) : ([] : List Dat).length ≤ sizeLine ∧ P := ⟨by decide, h⟩
theorem sz1 {a : Dat} {P : Prop} (h : P) : [a].length ≤ sizeLine ∧ P := ⟨by show 1 ≤ sizeLine; decide, h⟩
theorem sz2 {a b : Dat} {P : Prop} (h : P) : [a, b].length ≤ sizeLine ∧ P := ⟨by show 2 ≤ sizeLine; decide, h⟩
theorem sz3 {a b c : Dat} {P : Prop} (h : P) : [a, b, c].length ≤ sizeLine ∧ P := ⟨by show 3 ≤ sizeLine; decide, h⟩
theorem sz4 {a b c d : Dat} {P : Prop} (h : P) : [a, b, c, d].length ≤ sizeLine ∧ P := ⟨by show 4 ≤ sizeLine; decide, h⟩
theorem leaf_lst {b : List Dat} {Q : List Dat → Prop} (h : Q b) : ∃ c, Dat.lst b = .lst c ∧ Q c := ⟨b, rfl, h⟩
section
variable {K : PySem.W.Frag} {ρ : Ro} {μ : Mu} {P : PD}
/-- a new list, made again and again -/
theorem rw_repC {k : Nat} {xs : List Dat} {n : Int} (hm : μ[k]? = some (some xs)) (h1 : 0 ≤ n) (h2 : n ≤ 1000) (hz : xs.length ≤ 1000) (p : P (.lst (List.replicate n.toNat xs).flatten) μ) : RW K rRep (.cell k) (.int n) μ P := fun A H x y s u v Q q => by
  cases v
  obtain ⟨a, vs, rfl, hk, ho, t1⟩ := s.cell u hm
  have hl := t1.length
  have hb : vs.length * n.toNat ≤ 1000 * 1000 := Nat.mul_le_mul (by omega) (by omega)
  exact ⟨a, n, vs, rfl, rfl, ho, by omega, by omega, by rw [sizeLine_eq]; omega, fun b hb => q A _ _ _ μ (ext_new hb) (s.new hb) (Dn.newL s hb (t1.rep _)) p⟩
theorem rw_eqB {a b : Bool} (p : P (.bl (decide (a = b))) μ) : RW K rEq (.bl a) (.bl b) μ P := rw_eq rfl (by
  have : decide (fl (.bl a) = fl (.bl b)) = decide (a = b) := by simp [fl]
  rw [this]; exact p)
theorem rw_neS {a b : Str} (p : P (.bl (!decide (a = b))) μ) : RW K rNe (.str a) (.str b) μ P := rw_ne rfl (by
  have : decide (fl (.str a) = fl (.str b)) = decide (a = b) := by simp [fl]
  rw [this]; exact p)
end
section
variable {K : PySem.W.Frag} {ρ : Ro} {μ : Mu} {t : TS} {nx bk ct : Ro → Mu → Prop} {rt : PD}
/-- what holds behind a statement, said once -/
theorem s_cut (J : Ro → Mu → Prop) (h : SW K t ρ μ (.mk J rt bk ct)) (g : ∀ ρ' m', J ρ' m' → nx ρ' m') : SW K t ρ μ (.mk nx rt bk ct) := fun A σ H D s v e =>
  h A σ H D s v ⟨fun A1 H1 σ1 ρ1 m1 x s1 v1 p => e.nx A1 H1 σ1 ρ1 m1 x s1 v1 (g ρ1 m1 p), e.rt, e.bk, e.ct⟩
end
theorem if_nt {A B : Prop} (h : B) : if (!true) = true then A else B := if_f h
theorem if_nf {A B : Prop} (h : A) : if (!false) = true then A else B := if_t h
end DL
namespace KM
/-! endless rows that go round, as functions of the place -/
def seq (B A : List Int) (i : Nat) : Int := if i < B.length then B.getD i 0 else A.getD ((i - B.length) % A.length) 0
def Per (x : Nat → Int) (m s : Nat) : Prop := ∀ i, m ≤ i → x (i + s) = x i
structure IsN (x : Nat → Int) (m s : Nat) : Prop where
  per : Per x m s
  pos : 1 ≤ s
  least : ∀ m' s', 1 ≤ s' → Per x m' s' → m ≤ m' ∧ s ≤ s'
def pre (x : Nat → Int) (m : Nat) : List Int := (List.range m).map x
def cyc (x : Nat → Int) (m s : Nat) : List Int := (List.range s).map fun i => x (m + i)
def NR (x : Nat → Int) (B A : List Int) : Prop := ∃ m s, IsN x m s ∧ B = pre x m ∧ A = cyc x m s
theorem NR.unique {x : Nat → Int} {B A B' A' : List Int} (h : NR x B A) (g : NR x B' A') : B = B' ∧ A = A' := by
  obtain ⟨m, s, h1, rfl, rfl⟩ := h
  obtain ⟨m', s', g1, rfl, rfl⟩ := g
  have a := h1.least m' s' g1.pos g1.per
  have b := g1.least m s h1.pos h1.per
  have e1 : m = m' := by omega
  have e2 : s = s' := by omega
  subst e1 e2
  exact ⟨rfl, rfl⟩
theorem per_seq {B A : List Int} : Per (seq B A) B.length A.length := fun i hi => by
  unfold seq
  rw [if_neg (by omega), if_neg (by omega)]
  have : i + A.length - B.length = (i - B.length) + A.length := by omega
  rw [this, Nat.add_mod_right]
theorem per_mul {x : Nat → Int} {m s : Nat} (h : Per x m s) : ∀ k, Per x m (s * k)
  | 0 => fun i _ => by simp
  | k + 1 => fun i hi => by
    rw [Nat.mul_succ, ← Nat.add_assoc, h _ (by omega)]
    exact per_mul h k i hi
theorem per_mix {x : Nat → Int} {m s m' s' : Nat} (h : Per x m s) (g : Per x m' s') (hs : 1 ≤ s) : Per x m s' := fun i hi => by
  have big : m' ≤ i + s * m' := by
    have := Nat.mul_le_mul_right m' hs
    omega
  have e1 := per_mul h m' (i + s') (by omega)
  have e2 := per_mul h m' i hi
  have e3 := g (i + s * m') big
  have c : i + s' + s * m' = i + s * m' + s' := by omega
  rw [← e1, c, e3, e2]
theorem per_sub {x : Nat → Int} {m s t : Nat} (h : Per x m s) (g : Per x m t) (l : s ≤ t) : Per x m (t - s) := fun i hi => by
  have e1 := h (i + (t - s)) (by omega)
  have e2 := g i hi
  have c : i + (t - s) + s = i + t := by omega
  rw [c] at e1
  rw [← e1, e2]
theorem per_mod {x : Nat → Int} {m s t : Nat} (h : Per x m s) (g : Per x m t) : Per x m (t % s) := by
  have e : t % s = t - s * (t / s) := by
    have := Nat.div_add_mod t s
    omega
  rw [e]
  exact per_sub (per_mul h _) g (Nat.mul_div_le t s)
theorem per_gcd {x : Nat → Int} {m : Nat} : ∀ s t : Nat, Per x m s → Per x m t → Per x m (Nat.gcd s t) := fun s t =>
  Nat.gcd.induction (P := fun s t => Per x m s → Per x m t → Per x m (Nat.gcd s t)) s t (fun n _ h => by rw [Nat.gcd_zero_left]; exact h) fun a b _ ih h g => by
    rw [Nat.gcd_rec]
    exact ih (per_mod h g) h
/-! ### the shortest round -/
/-- the first l letters, again and again, are all of A -/
def Rnd (A : List Int) (l : Nat) : Prop := 1 ≤ l ∧ A.length % l = 0 ∧ ∀ i, i < A.length → A.getD i 0 = A.getD (i % l) 0
theorem rnd_per {B A : List Int} {l : Nat} (h : Rnd A l) (hA : A ≠ []) : Per (seq B A) B.length l := fun i hi => by
  obtain ⟨h1, h2, h3⟩ := h
  have hn : 0 < A.length := List.length_pos_iff.mpr hA
  unfold seq
  rw [if_neg (by omega), if_neg (by omega)]
  have e : i + l - B.length = (i - B.length) + l := by omega
  rw [e, h3 _ (Nat.mod_lt _ hn), h3 ((i - B.length) % A.length) (Nat.mod_lt _ hn)]
  have d : l ∣ A.length := Nat.dvd_of_mod_eq_zero h2
  rw [Nat.mod_mod_of_dvd _ d, Nat.mod_mod_of_dvd _ d, Nat.add_mod_right]
theorem per_rnd {B A : List Int} {l : Nat} (h : Per (seq B A) B.length l) (h1 : 1 ≤ l) (h2 : A.length % l = 0) : Rnd A l := by
  refine ⟨h1, h2, fun i hi => ?_⟩
  have e := per_mul h (i / l) (B.length + i % l) (by omega)
  have c : B.length + i % l + l * (i / l) = B.length + i := by
    have := Nat.div_add_mod i l
    omega
  rw [c] at e
  unfold seq at e
  rw [if_neg (by omega), if_neg (by omega)] at e
  have q1 : (B.length + i - B.length) % A.length = i := by rw [Nat.add_sub_cancel_left]; exact Nat.mod_eq_of_lt hi
  have q2 : (B.length + i % l - B.length) % A.length = i % l := by
    rw [Nat.add_sub_cancel_left]
    exact Nat.mod_eq_of_lt (Nat.lt_of_le_of_lt (Nat.mod_le i l) hi)
  rw [q1, q2] at e
  exact e
/-- the least round is the least period -/
theorem least_round {B A : List Int} {p m' s' : Nat} (hA : A ≠ []) (hp : ∀ l, l < p → ¬ Rnd A l) (hs : 1 ≤ s') (h : Per (seq B A) m' s') : p ≤ s' := by
  have hn : 1 ≤ A.length := List.length_pos_iff.mpr hA
  have h1 : Per (seq B A) B.length s' := per_mix per_seq h hn
  have h2 := per_gcd _ _ h1 (per_seq (B := B) (A := A))
  have gp : 1 ≤ Nat.gcd s' A.length := Nat.gcd_pos_of_pos_left _ hs
  have gl : Nat.gcd s' A.length ≤ s' := Nat.gcd_le_left _ hs
  have r := per_rnd h2 gp (Nat.mod_eq_zero_of_dvd (Nat.gcd_dvd_right _ _))
  by_cases c : p ≤ s'
  · exact c
  · exact absurd r (hp _ (by omega))
theorem seq_rnd {B A : List Int} {l : Nat} (h : Rnd A l) (hA : A ≠ []) (hl : l ≤ A.length) : seq B (A.take l) = seq B A := by
  funext i
  obtain ⟨h1, h2, h3⟩ := h
  have hn : 0 < A.length := List.length_pos_iff.mpr hA
  unfold seq
  by_cases c : i < B.length
  · rw [if_pos c, if_pos c]
  · rw [if_neg c, if_neg c]
    have tl : (A.take l).length = l := by rw [List.length_take]; omega
    rw [tl, h3 _ (Nat.mod_lt _ hn), Nat.mod_mod_of_dvd _ (Nat.dvd_of_mod_eq_zero h2)]
    rw [List.getD_eq_getElem?_getD, List.getD_eq_getElem?_getD, List.getElem?_take_of_lt (Nat.mod_lt _ (by omega))]
theorem rep_get (w : List Int) : ∀ (k i : Nat), i < k * w.length → (List.replicate k w).flatten.getD i 0 = w.getD (i % w.length) 0
  | 0, i, h => by simp at h
  | k + 1, i, h => by
    rw [List.replicate_succ, List.flatten_cons]
    by_cases c : i < w.length
    · rw [Nat.mod_eq_of_lt c, List.getD_eq_getElem?_getD, List.getD_eq_getElem?_getD, List.getElem?_append_left c]
    · have e : i % w.length = (i - w.length) % w.length := by
        have : i = (i - w.length) + w.length := by omega
        conv => lhs; rw [this]
        rw [Nat.add_mod_right]
      rw [e, ← rep_get w k (i - w.length) (by rw [Nat.succ_mul] at h; omega)]
      rw [List.getD_eq_getElem?_getD, List.getD_eq_getElem?_getD, List.getElem?_append_right (by omega)]
theorem rep_len (w : List Int) : ∀ k : Nat, (List.replicate k w).flatten.length = k * w.length
  | 0 => by simp
  | k + 1 => by rw [List.replicate_succ, List.flatten_cons, List.length_append, rep_len w k, Nat.succ_mul, Nat.add_comm]
theorem ext_getD {a b : List Int} (hl : a.length = b.length) (h : ∀ i, i < a.length → a.getD i 0 = b.getD i 0) : a = b := by
  apply List.ext_getElem hl
  intro i h1 h2
  have := h i h1
  rw [List.getD_eq_getElem?_getD, List.getD_eq_getElem?_getD, List.getElem?_eq_getElem h1, List.getElem?_eq_getElem h2] at this
  simpa using this
/-- what the program asks of a length -/
theorem rnd_iff {A : List Int} {l : Nat} (h1 : 1 ≤ l) (hl : l ≤ A.length) : Rnd A l ↔ A.length % l = 0 ∧ (List.replicate (A.length / l) (A.take l)).flatten = A := by
  have tl : (A.take l).length = l := by rw [List.length_take]; omega
  have tg : ∀ i, (A.take l).getD (i % l) 0 = A.getD (i % l) 0 := fun i => by
    rw [List.getD_eq_getElem?_getD, List.getD_eq_getElem?_getD, List.getElem?_take_of_lt (Nat.mod_lt _ (by omega))]
  have dv : A.length % l = 0 → A.length / l * l = A.length := fun h => Nat.div_mul_cancel (Nat.dvd_of_mod_eq_zero h)
  constructor
  · rintro ⟨_, h2, h3⟩
    refine ⟨h2, ext_getD (by rw [rep_len, tl, dv h2]) fun i hi => ?_⟩
    rw [rep_len, tl] at hi
    rw [rep_get _ _ _ (by rw [tl]; exact hi), tl, tg, ← h3 i (by rw [dv h2] at hi; exact hi)]
  · rintro ⟨h2, h3⟩
    refine ⟨h1, h2, fun i hi => ?_⟩
    have e := rep_get (A.take l) (A.length / l) i (by rw [tl, dv h2]; exact hi)
    rw [h3, tl, tg] at e
    exact e
theorem rnd_self {A : List Int} (h : A ≠ []) : Rnd A A.length := ⟨List.length_pos_iff.mpr h, Nat.mod_self _, fun i hi => by rw [Nat.mod_eq_of_lt hi]⟩
/-! ### the letter that goes from begin's end to again's front -/
theorem rot_seq (B A : List Int) (c : Int) : seq (B ++ [c]) (A ++ [c]) = seq B (c :: A) := by
  funext i
  unfold seq
  rw [List.length_append, List.length_append, List.length_singleton, List.length_cons]
  by_cases h : i < B.length
  · rw [if_pos h, if_pos (by omega), List.getD_eq_getElem?_getD, List.getD_eq_getElem?_getD, List.getElem?_append_left h]
  · rw [if_neg h]
    by_cases g : i < B.length + 1
    · have e : i = B.length := by omega
      subst e
      rw [if_pos g, Nat.sub_self, Nat.zero_mod, List.getD_eq_getElem?_getD, List.getElem?_append_right (Nat.le_refl _), Nat.sub_self]
      rfl
    · rw [if_neg g]
      have e : i - B.length = (i - (B.length + 1)) + 1 := by omega
      rw [e]
      generalize i - (B.length + 1) = j
      have key : ∀ q, q < A.length + 1 → (A ++ [c]).getD q 0 = (c :: A).getD ((q + 1) % (A.length + 1)) 0 := fun q hq => by
        by_cases z : q = A.length
        · subst z
          rw [Nat.mod_self, List.getD_eq_getElem?_getD, List.getElem?_append_right (Nat.le_refl _), Nat.sub_self]
          rfl
        · rw [Nat.mod_eq_of_lt (by omega), List.getD_eq_getElem?_getD, List.getElem?_append_left (by omega), List.getD_cons_succ, List.getD_eq_getElem?_getD]
      rw [key _ (Nat.mod_lt _ (by omega)), Nat.mod_add_mod]
theorem pre_seq (B A : List Int) : pre (seq B A) B.length = B := by
  apply ext_getD
  · simp [pre]
  · intro i hi
    have hi' : i < B.length := by simpa [pre] using hi
    unfold pre
    rw [List.getD_eq_getElem?_getD, List.getElem?_map, List.getElem?_range hi']
    show (some (seq B A i)).getD 0 = _
    unfold seq
    rw [if_pos hi']
    rfl
theorem cyc_seq (B A : List Int) : cyc (seq B A) B.length A.length = A := by
  apply ext_getD
  · simp [cyc]
  · intro i hi
    have hi' : i < A.length := by simpa [cyc] using hi
    unfold cyc
    rw [List.getD_eq_getElem?_getD, List.getElem?_map, List.getElem?_range hi']
    show (some (seq B A (B.length + i))).getD 0 = _
    unfold seq
    rw [if_neg (by omega), Nat.add_sub_cancel_left, Nat.mod_eq_of_lt hi']
    rfl
/-- the program's end: shortest again, begin that does not end as again does -/
theorem nr_of {B A : List Int} {x : Nat → Int} (e : seq B A = x) (hA : A ≠ []) (hp : ∀ m' s', 1 ≤ s' → Per x m' s' → A.length ≤ s') (hl : B = [] ∨ B.getD (B.length - 1) 0 ≠ A.getD (A.length - 1) 0) : NR x B A := by
  subst e
  have hn : 1 ≤ A.length := List.length_pos_iff.mpr hA
  refine ⟨B.length, A.length, ⟨per_seq, hn, fun m' s' hs h => ⟨?_, hp m' s' hs h⟩⟩, (pre_seq B A).symm, (cyc_seq B A).symm⟩
  by_cases c : B.length ≤ m'
  · exact c
  · rcases hl with rfl | hl
    · simp
    · have q : Per (seq B A) m' A.length := per_mix h per_seq hs
      have z := q (B.length - 1) (by omega)
      refine absurd ?_ hl
      unfold seq at z
      rw [if_neg (by omega), if_pos (by omega)] at z
      have : (B.length - 1 + A.length - B.length) % A.length = A.length - 1 := by
        have : B.length - 1 + A.length - B.length = A.length - 1 := by omega
        rw [this]
        exact Nat.mod_eq_of_lt (by omega)
      rw [this] at z
      exact z.symm
theorem nr_seq {x : Nat → Int} {B A : List Int} (h : NR x B A) : seq B A = x := by
  obtain ⟨m, s, h, rfl, rfl⟩ := h
  funext i
  have l1 : (pre x m).length = m := by simp [pre]
  have l2 : (cyc x m s).length = s := by simp [cyc]
  unfold seq
  rw [l1, l2]
  by_cases c : i < m
  · rw [if_pos c]
    unfold pre
    rw [List.getD_eq_getElem?_getD, List.getElem?_map, List.getElem?_range c]
    rfl
  · rw [if_neg c]
    have hs := h.pos
    unfold cyc
    rw [List.getD_eq_getElem?_getD, List.getElem?_map, List.getElem?_range (Nat.mod_lt _ hs)]
    show x (m + (i - m) % s) = x i
    have e := per_mul h.per ((i - m) / s) (m + (i - m) % s) (by omega)
    have c2 : m + (i - m) % s + s * ((i - m) / s) = i := by
      have := Nat.div_add_mod (i - m) s
      omega
    rw [c2] at e
    exact e.symm
theorem nr_same {x y : Nat → Int} {B A B' A' : List Int} (h : NR x B A) (g : NR y B' A') : (B = B' ∧ A = A') ↔ ∀ i, x i = y i := by
  constructor
  · rintro ⟨rfl, rfl⟩ i
    rw [← nr_seq h, ← nr_seq g]
  · intro e
    have : x = y := funext e
    subst this
    exact h.unique g
/-! ### the law's search -/
/-- the windows that the law compares -/
def Win (x : Nat → Int) (b n m s : Nat) : Prop := ∀ i, i < b + n + 1 - m → x (m + i) = x (m + s + i)
theorem win_per {x : Nat → Int} {b n m s : Nat} (h : Per x b n) (hm : m ≤ b) (hn : 1 ≤ n) : Win x b n m s ↔ Per x m s := by
  constructor
  · intro w i
    induction i using Nat.strongRecOn with
    | ind i ih =>
      intro hi
      by_cases c : i < b + n + 1
      · have := w (i - m) (by omega)
        have e1 : m + (i - m) = i := by omega
        have e2 : m + s + (i - m) = i + s := by omega
        rw [e1, e2] at this
        exact this.symm
      · have e1 := h (i - n + s) (by omega)
        have e2 := h (i - n) (by omega)
        have c1 : i - n + s + n = i + s := by omega
        have c2 : i - n + n = i := by omega
        rw [c1] at e1
        rw [c2] at e2
        rw [e1, e2]
        exact ih (i - n) (by omega) (by omega)
  · intro p i _
    have := p (m + i) (by omega)
    have e : m + i + s = m + s + i := by omega
    rw [e] at this
    exact this.symm
theorem found {x : Nat → Int} {b n m s : Nat} (h : Per x b n) (hn : 1 ≤ n) (hs : 1 ≤ s) (hm : m ≤ b) (p : Per x m s) (h1 : ∀ m' s', m' < m → 1 ≤ s' → s' ≤ n → ¬ Per x m' s') (h2 : ∀ s', 1 ≤ s' → s' < s → ¬ Per x m s') : IsN x m s := by
  refine ⟨p, hs, fun m' s' hs' q => ⟨?_, ?_⟩⟩
  · by_cases c : m ≤ m'
    · exact c
    · exact absurd (per_mix q h hs') (h1 m' n (by omega) hn (Nat.le_refl _))
  · by_cases c : s ≤ s'
    · exact c
    · exact absurd (per_mix p q hs) (h2 s' hs' (by omega))
/-! ### first unlike places -/
def FD (x y : Nat → Int) : Option Nat → Prop
  | none => ∀ i, x i = y i
  | some p => x p ≠ y p ∧ ∀ i, i < p → x i = y i
theorem FD.unique {x y : Nat → Int} : ∀ {a b : Option Nat}, FD x y a → FD x y b → a = b
  | none, none, _, _ => rfl
  | none, some q, h, g => absurd (h q) g.1
  | some p, none, h, g => absurd (g p) h.1
  | some p, some q, h, g => by
    have a : ¬ p < q := fun c => h.1 (g.2 p c)
    have b : ¬ q < p := fun c => g.1 (h.2 q c)
    have : p = q := by omega
    rw [this]
theorem FD.symm {x y : Nat → Int} : ∀ {a : Option Nat}, FD x y a → FD y x a
  | none, h => fun i => (h i).symm
  | some p, h => ⟨fun e => h.1 e.symm, fun i c => (h.2 i c).symm⟩
theorem agree_sum {x y : Nat → Int} {M n n' : Nat} (h : Per x M n) (g : Per y M n') (hn : 1 ≤ n) (hn' : 1 ≤ n') (w : ∀ i, i < M + n + n' → x i = y i) : ∀ i, x i = y i := fun i => by
  induction i using Nat.strongRecOn with
  | ind i ih =>
    by_cases c : i < M + n + n'
    · exact w i c
    · have a1 := h (i - n) (by omega)
      have a2 := h (i - n - n') (by omega)
      have b1 := g (i - n') (by omega)
      have b2 := g (i - n - n') (by omega)
      have c1 : i - n + n = i := by omega
      have c2 : i - n - n' + n = i - n' := by omega
      have c3 : i - n' + n' = i := by omega
      have c4 : i - n - n' + n' = i - n := by omega
      rw [c1] at a1
      rw [c2] at a2
      rw [c3] at b1
      rw [c4] at b2
      rw [a1, b1, ih (i - n) (by omega), b2, ← ih (i - n - n') (by omega), ← a2, ih (i - n') (by omega)]
theorem agree_prod {x y : Nat → Int} {M n n' : Nat} (h : Per x M n) (g : Per y M n') (hn : 1 ≤ n) (hn' : 1 ≤ n') (w : ∀ i, i < M + n * n' → x i = y i) : ∀ i, x i = y i := fun i => by
  have hp : 1 ≤ n * n' := Nat.mul_pos hn hn'
  induction i using Nat.strongRecOn with
  | ind i ih =>
    by_cases c : i < M + n * n'
    · exact w i c
    · have a1 := per_mul h n' (i - n * n') (by omega)
      have b1 := per_mul g n (i - n * n') (by omega)
      rw [Nat.mul_comm n' n] at b1
      have c1 : i - n * n' + n * n' = i := by omega
      rw [c1] at a1 b1
      rw [a1, b1]
      exact ih _ (by omega)
theorem per_more {x : Nat → Int} {m m' s : Nat} (h : Per x m s) (l : m ≤ m') : Per x m' s := fun i hi => h i (by omega)
/-! ### turned on -/
theorem drop_seq (B A : List Int) (k : Nat) (h : k ≤ B.length) : seq (B.drop k) A = fun i => seq B A (i + k) := by
  funext i
  unfold seq
  rw [List.length_drop]
  by_cases c : i < B.length - k
  · rw [if_pos c, if_pos (by omega), List.getD_eq_getElem?_getD, List.getD_eq_getElem?_getD, List.getElem?_drop, Nat.add_comm]
  · rw [if_neg c, if_neg (by omega)]
    have : i - (B.length - k) = i + k - B.length := by omega
    rw [this]
theorem spin_seq (B A : List Int) (k g : Nat) (h : B.length ≤ k) (hA : A ≠ []) (hg : g = (k - B.length) % A.length) : seq [] (A.drop g ++ A.take g) = fun i => seq B A (i + k) := by
  have hn : 0 < A.length := List.length_pos_iff.mpr hA
  have gl : g < A.length := hg ▸ Nat.mod_lt _ hn
  funext i
  unfold seq
  have l : (A.drop g ++ A.take g).length = A.length := by
    rw [List.length_append, List.length_drop, List.length_take]; omega
  rw [if_neg (by simp), if_neg (by omega), l]
  have e : (i + k - B.length) % A.length = (i % A.length + g) % A.length := by
    have : i + k - B.length = i + (k - B.length) := by omega
    rw [this, hg, ← Nat.add_mod]
  rw [e]
  show (A.drop g ++ A.take g).getD ((i - 0) % A.length) 0 = _
  rw [Nat.sub_zero]
  have hj : i % A.length < A.length := Nat.mod_lt _ hn
  generalize i % A.length = j at hj
  by_cases c : j < A.length - g
  · rw [Nat.mod_eq_of_lt (by omega), List.getD_eq_getElem?_getD, List.getD_eq_getElem?_getD, List.getElem?_append_left (by rw [List.length_drop]; exact c), List.getElem?_drop, Nat.add_comm]
  · have e2 : (j + g) % A.length = j + g - A.length := by
      have : j + g = (j + g - A.length) + A.length := by omega
      conv => lhs; rw [this]
      rw [Nat.add_mod_right]
      exact Nat.mod_eq_of_lt (by omega)
    rw [e2, List.getD_eq_getElem?_getD, List.getD_eq_getElem?_getD, List.getElem?_append_right (by rw [List.length_drop]; omega), List.length_drop, List.getElem?_take_of_lt (by omega)]
    congr 2
    omega
/-! ### rows that are let -/
structure Ok (L : Int) (B A : List Int) : Prop where
  lb : B.length ≤ 40
  la : A.length ≤ 40
  ne : A ≠ []
  b : ∀ c ∈ B, 0 ≤ c ∧ c < L
  a : ∀ c ∈ A, 0 ≤ c ∧ c < L
theorem getD_ok {L : Int} {l : List Int} (h : ∀ c ∈ l, 0 ≤ c ∧ c < L) {i : Nat} (hi : i < l.length) : 0 ≤ l.getD i 0 ∧ l.getD i 0 < L := by
  rw [List.getD_eq_getElem?_getD, List.getElem?_eq_getElem hi]
  exact h _ (List.getElem_mem hi)
theorem Ok.at {L : Int} {B A : List Int} (h : Ok L B A) (i : Nat) : 0 ≤ seq B A i ∧ seq B A i < L := by
  unfold seq
  by_cases c : i < B.length
  · rw [if_pos c]; exact getD_ok h.b c
  · rw [if_neg c]; exact getD_ok h.a (Nat.mod_lt _ (List.length_pos_iff.mpr h.ne))
theorem Ok.nr {L : Int} {B A B' A' : List Int} (h : Ok L B A) (g : NR (seq B A) B' A') : Ok L B' A' ∧ B'.length ≤ B.length ∧ A'.length ≤ A.length := by
  obtain ⟨m, s, n, rfl, rfl⟩ := g
  have hn : 1 ≤ A.length := List.length_pos_iff.mpr h.ne
  have l := n.least _ _ hn (per_seq (B := B) (A := A))
  have l1 : (pre (seq B A) m).length = m := by simp [pre]
  have l2 : (cyc (seq B A) m s).length = s := by simp [cyc]
  have h1 := h.lb
  have h2 := h.la
  refine ⟨⟨by omega, by omega, fun z => ?_, fun c hc => ?_, fun c hc => ?_⟩, by omega, by omega⟩
  · have := n.pos
    rw [z] at l2
    simp at l2
    omega
  · obtain ⟨i, _, rfl⟩ := List.mem_map.mp hc
    exact h.at i
  · obtain ⟨i, _, rfl⟩ := List.mem_map.mp hc
    exact h.at _
theorem Ok.mono {L L' : Int} {B A : List Int} (h : Ok L B A) (l : L ≤ L') : Ok L' B A := ⟨h.lb, h.la, h.ne, fun c m => ⟨(h.b c m).1, Int.lt_of_lt_of_le (h.b c m).2 l⟩, fun c m => ⟨(h.a c m).1, Int.lt_of_lt_of_le (h.a c m).2 l⟩⟩
end KM
namespace L11
open PySem PySem.Spec PyProof.Rows L2 DL KM
def top (i : Nat) : Stmt := PySem.Challenge.pw_tworivals_k11_whole_rows_by_their_letter.main.body.getD i (.Pass ⟨0, 0, 0, 0⟩)
abbrev s_is_integer : Stmt := top 1
abbrev N_is_integer : List Str := ["value"]
theorem sc_is_integer : FnScope N_is_integer ["value"] (defScope s_is_integer) := ⟨rfl, rfl, rfl, by decide +kernel, rfl, by decide +kernel, by decide +kernel⟩
abbrev s_is_count : Stmt := top 2
abbrev N_is_count : List Str := ["value"]
theorem sc_is_count : FnScope N_is_count ["value"] (defScope s_is_count) := ⟨rfl, rfl, rfl, by decide +kernel, rfl, by decide +kernel, by decide +kernel⟩
abbrev s_is_below : Stmt := top 3
abbrev N_is_below : List Str := ["value", "bound"]
theorem sc_is_below : FnScope N_is_below ["value", "bound"] (defScope s_is_below) := ⟨rfl, rfl, rfl, by decide +kernel, rfl, by decide +kernel, by decide +kernel⟩
abbrev s_is_list : Stmt := top 4
abbrev N_is_list : List Str := ["value"]
theorem sc_is_list : FnScope N_is_list ["value"] (defScope s_is_list) := ⟨rfl, rfl, rfl, by decide +kernel, rfl, by decide +kernel, by decide +kernel⟩
abbrev s_is_pair : Stmt := top 5
abbrev N_is_pair : List Str := ["value"]
theorem sc_is_pair : FnScope N_is_pair ["value"] (defScope s_is_pair) := ⟨rfl, rfl, rfl, by decide +kernel, rfl, by decide +kernel, by decide +kernel⟩
abbrev s_is_word : Stmt := top 15
abbrev N_is_word : List Str := ["letters", "value", "letter"]
theorem sc_is_word : FnScope N_is_word ["letters", "value"] (defScope s_is_word) := ⟨rfl, rfl, rfl, by decide +kernel, rfl, by decide +kernel, by decide +kernel⟩
abbrev s_is_row_of : Stmt := top 16
abbrev N_is_row_of : List Str := ["letters", "value"]
theorem sc_is_row_of : FnScope N_is_row_of ["letters", "value"] (defScope s_is_row_of) := ⟨rfl, rfl, rfl, by decide +kernel, rfl, by decide +kernel, by decide +kernel⟩
abbrev s_check_letters : Stmt := top 17
abbrev N_check_letters : List Str := ["letters"]
theorem sc_check_letters : FnScope N_check_letters ["letters"] (defScope s_check_letters) := ⟨rfl, rfl, rfl, by decide +kernel, rfl, by decide +kernel, by decide +kernel⟩
abbrev s_check_row : Stmt := top 18
abbrev N_check_row : List Str := ["letters", "row"]
theorem sc_check_row : FnScope N_check_row ["letters", "row"] (defScope s_check_row) := ⟨rfl, rfl, rfl, by decide +kernel, rfl, by decide +kernel, by decide +kernel⟩
abbrev s_check_place : Stmt := top 19
abbrev N_check_place : List Str := ["place", "most"]
theorem sc_check_place : FnScope N_check_place ["place", "most"] (defScope s_check_place) := ⟨rfl, rfl, rfl, by decide +kernel, rfl, by decide +kernel, by decide +kernel⟩
abbrev s_check_many : Stmt := top 20
abbrev N_check_many : List Str := ["many", "most"]
theorem sc_check_many : FnScope N_check_many ["many", "most"] (defScope s_check_many) := ⟨rfl, rfl, rfl, by decide +kernel, rfl, by decide +kernel, by decide +kernel⟩
abbrev s_is_row : Stmt := top 24
abbrev N_is_row : List Str := ["letters", "value"]
theorem sc_is_row : FnScope N_is_row ["letters", "value"] (defScope s_is_row) := ⟨rfl, rfl, rfl, by decide +kernel, rfl, by decide +kernel, by decide +kernel⟩
abbrev s_letter_at : Stmt := top 25
abbrev N_letter_at : List Str := ["row", "place"]
theorem sc_letter_at : FnScope N_letter_at ["row", "place"] (defScope s_letter_at) := ⟨rfl, rfl, rfl, by decide +kernel, rfl, by decide +kernel, by decide +kernel⟩
abbrev s_spelled : Stmt := top 26
abbrev N_spelled : List Str := ["row", "many", "place"]
theorem sc_spelled : FnScope N_spelled ["row", "many"] (defScope s_spelled) := ⟨rfl, rfl, rfl, by decide +kernel, rfl, by decide +kernel, by decide +kernel⟩
abbrev s_normal_row : Stmt := top 27
abbrev N_normal_row : List Str := ["row"]
theorem sc_normal_row : FnScope N_normal_row ["row"] (defScope s_normal_row) := ⟨rfl, rfl, rfl, by decide +kernel, rfl, by decide +kernel, by decide +kernel⟩
abbrev s_are_same : Stmt := top 28
abbrev N_are_same : List Str := ["row", "other"]
theorem sc_are_same : FnScope N_are_same ["row", "other"] (defScope s_are_same) := ⟨rfl, rfl, rfl, by decide +kernel, rfl, by decide +kernel, by decide +kernel⟩
abbrev s_first_unlike : Stmt := top 29
abbrev N_first_unlike : List Str := ["row", "other", "enough", "place"]
theorem sc_first_unlike : FnScope N_first_unlike ["row", "other"] (defScope s_first_unlike) := ⟨rfl, rfl, rfl, by decide +kernel, rfl, by decide +kernel, by decide +kernel⟩
abbrev s_turned_on : Stmt := top 30
abbrev N_turned_on : List Str := ["row", "many", "begin", "again", "gone"]
theorem sc_turned_on : FnScope N_turned_on ["row", "many"] (defScope s_turned_on) := ⟨rfl, rfl, rfl, by decide +kernel, rfl, by decide +kernel, by decide +kernel⟩
abbrev s__letter : Stmt := top 31
abbrev N__letter : List Str := ["row", "place", "begin", "again"]
theorem sc__letter : FnScope N__letter ["row", "place"] (defScope s__letter) := ⟨rfl, rfl, rfl, by decide +kernel, rfl, by decide +kernel, by decide +kernel⟩
abbrev s__shortest_round : Stmt := top 32
abbrev N__shortest_round : List Str := ["again", "length"]
theorem sc__shortest_round : FnScope N__shortest_round ["again"] (defScope s__shortest_round) := ⟨rfl, rfl, rfl, by decide +kernel, rfl, by decide +kernel, by decide +kernel⟩
abbrev s_normal_of : Stmt := top 33
abbrev N_normal_of : List Str := ["row", "begin", "again", "alike", "back"]
theorem sc_normal_of : FnScope N_normal_of ["row"] (defScope s_normal_of) := ⟨rfl, rfl, rfl, by decide +kernel, rfl, by decide +kernel, by decide +kernel⟩
abbrev s__law_pot : Stmt := top 35
abbrev N__law_pot : List Str := ["_law_script", "_law_k", "_law_cell"]
theorem sc__law_pot : FnScope N__law_pot ["_law_script", "_law_k"] (defScope s__law_pot) := ⟨rfl, rfl, rfl, by decide +kernel, rfl, by decide +kernel, by decide +kernel⟩
abbrev s__law_draw : Stmt := top 36
abbrev N__law_draw : List Str := ["_law_pot_here", "_law_size", "_law_digit"]
theorem sc__law_draw : FnScope N__law_draw ["_law_pot_here", "_law_size"] (defScope s__law_draw) := ⟨rfl, rfl, rfl, by decide +kernel, rfl, by decide +kernel, by decide +kernel⟩
abbrev s__law_word : Stmt := top 37
abbrev N__law_word : List Str := ["_law_pot_here", "_law_letters", "_law_least", "_law_most", "_law_found", "_law_turn"]
theorem sc__law_word : FnScope N__law_word ["_law_pot_here", "_law_letters", "_law_least", "_law_most"] (defScope s__law_word) := ⟨rfl, rfl, rfl, by decide +kernel, rfl, by decide +kernel, by decide +kernel⟩
abbrev s__law_row : Stmt := top 38
abbrev N__law_row : List Str := ["_law_pot_here", "_law_letters", "_law_most", "_law_begin", "_law_again", "_law_way"]
theorem sc__law_row : FnScope N__law_row ["_law_pot_here", "_law_letters", "_law_most"] (defScope s__law_row) := ⟨rfl, rfl, rfl, by decide +kernel, rfl, by decide +kernel, by decide +kernel⟩
abbrev s__law_at : Stmt := top 39
abbrev N__law_at : List Str := ["_law_row_here", "_law_place", "_law_begin", "_law_again"]
theorem sc__law_at : FnScope N__law_at ["_law_row_here", "_law_place"] (defScope s__law_at) := ⟨rfl, rfl, rfl, by decide +kernel, rfl, by decide +kernel, by decide +kernel⟩
abbrev s__law_spelled : Stmt := top 40
abbrev N__law_spelled : List Str := ["_law_row_here", "_law_many", "_law_place"]
theorem sc__law_spelled : FnScope N__law_spelled ["_law_row_here", "_law_many"] (defScope s__law_spelled) := ⟨rfl, rfl, rfl, by decide +kernel, rfl, by decide +kernel, by decide +kernel⟩
abbrev s__law_normal : Stmt := top 41
abbrev N__law_normal : List Str := ["_law_letters", "_law_begun", "_law_long", "_law_many", "_law_step"]
theorem sc__law_normal : FnScope N__law_normal ["_law_letters", "_law_begun", "_law_long"] (defScope s__law_normal) := ⟨rfl, rfl, rfl, by decide +kernel, rfl, by decide +kernel, by decide +kernel⟩
abbrev s__law_normal_of : Stmt := top 42
abbrev N__law_normal_of : List Str := ["_law_row_here", "_law_begin", "_law_again"]
theorem sc__law_normal_of : FnScope N__law_normal_of ["_law_row_here"] (defScope s__law_normal_of) := ⟨rfl, rfl, rfl, by decide +kernel, rfl, by decide +kernel, by decide +kernel⟩
abbrev s__law_first_unlike : Stmt := top 43
abbrev N__law_first_unlike : List Str := ["_law_row_here", "_law_other", "_law_far", "_law_place"]
theorem sc__law_first_unlike : FnScope N__law_first_unlike ["_law_row_here", "_law_other"] (defScope s__law_first_unlike) := ⟨rfl, rfl, rfl, by decide +kernel, rfl, by decide +kernel, by decide +kernel⟩
abbrev s__law_otherwise : Stmt := top 44
abbrev N__law_otherwise : List Str := ["_law_pot_here", "_law_row_here", "_law_begin", "_law_again", "_law_turn"]
theorem sc__law_otherwise : FnScope N__law_otherwise ["_law_pot_here", "_law_row_here"] (defScope s__law_otherwise) := ⟨rfl, rfl, rfl, by decide +kernel, rfl, by decide +kernel, by decide +kernel⟩
abbrev s__law_bent : Stmt := top 45
abbrev N__law_bent : List Str := ["_law_pot_here", "_law_letters", "_law_row_here", "_law_at_here", "_law_letter"]
theorem sc__law_bent : FnScope N__law_bent ["_law_pot_here", "_law_letters", "_law_row_here"] (defScope s__law_bent) := ⟨rfl, rfl, rfl, by decide +kernel, rfl, by decide +kernel, by decide +kernel⟩
abbrev s__law_alone_right : Stmt := top 46
abbrev N__law_alone_right : List Str := ["_law_pot_here", "_law_letters", "_law_row_here", "_law_due", "_law_many", "_law_place"]
theorem sc__law_alone_right : FnScope N__law_alone_right ["_law_pot_here", "_law_letters", "_law_row_here"] (defScope s__law_alone_right) := ⟨rfl, rfl, rfl, by decide +kernel, rfl, by decide +kernel, by decide +kernel⟩
abbrev s__law_turned_right : Stmt := top 47
abbrev N__law_turned_right : List Str := ["_law_pot_here", "_law_row_here", "_law_many", "_law_more", "_law_left", "_law_turn", "_law_due", "_law_far"]
theorem sc__law_turned_right : FnScope N__law_turned_right ["_law_pot_here", "_law_row_here"] (defScope s__law_turned_right) := ⟨rfl, rfl, rfl, by decide +kernel, rfl, by decide +kernel, by decide +kernel⟩
abbrev s__law_two_right : Stmt := top 48
abbrev N__law_two_right : List Str := ["_law_row_here", "_law_other", "_law_due"]
theorem sc__law_two_right : FnScope N__law_two_right ["_law_row_here", "_law_other"] (defScope s__law_two_right) := ⟨rfl, rfl, rfl, by decide +kernel, rfl, by decide +kernel, by decide +kernel⟩
abbrev s_law : Stmt := top 49
abbrev N_law : List Str := ["_law_script", "_law_pot_here", "_law_letters", "_law_row_here", "_law_same"]
theorem sc_law : FnScope N_law ["_law_script"] (defScope s_law) := ⟨rfl, rfl, rfl, by decide +kernel, rfl, by decide +kernel, by decide +kernel⟩
structure All (K : PySem.W.Frag) (mg : Str → Option Value) where
  d_is_integer : Df K mg "is_integer" s_is_integer ["value"]
  d_is_count : Df K mg "is_count" s_is_count ["value"]
  d_is_below : Df K mg "is_below" s_is_below ["value", "bound"]
  d_is_list : Df K mg "is_list" s_is_list ["value"]
  d_is_pair : Df K mg "is_pair" s_is_pair ["value"]
  d_is_word : Df K mg "is_word" s_is_word ["letters", "value"]
  d_is_row_of : Df K mg "is_row_of" s_is_row_of ["letters", "value"]
  d_check_letters : Df K mg "check_letters" s_check_letters ["letters"]
  d_check_row : Df K mg "check_row" s_check_row ["letters", "row"]
  d_check_place : Df K mg "check_place" s_check_place ["place", "most"]
  d_check_many : Df K mg "check_many" s_check_many ["many", "most"]
  d_is_row : Df K mg "is_row" s_is_row ["letters", "value"]
  d_letter_at : Df K mg "letter_at" s_letter_at ["row", "place"]
  d_spelled : Df K mg "spelled" s_spelled ["row", "many"]
  d_normal_row : Df K mg "normal_row" s_normal_row ["row"]
  d_are_same : Df K mg "are_same" s_are_same ["row", "other"]
  d_first_unlike : Df K mg "first_unlike" s_first_unlike ["row", "other"]
  d_turned_on : Df K mg "turned_on" s_turned_on ["row", "many"]
  d__letter : Df K mg "_letter" s__letter ["row", "place"]
  d__shortest_round : Df K mg "_shortest_round" s__shortest_round ["again"]
  d_normal_of : Df K mg "normal_of" s_normal_of ["row"]
  d__law_pot : Df K mg "_law_pot" s__law_pot ["_law_script", "_law_k"]
  d__law_draw : Df K mg "_law_draw" s__law_draw ["_law_pot_here", "_law_size"]
  d__law_word : Df K mg "_law_word" s__law_word ["_law_pot_here", "_law_letters", "_law_least", "_law_most"]
  d__law_row : Df K mg "_law_row" s__law_row ["_law_pot_here", "_law_letters", "_law_most"]
  d__law_at : Df K mg "_law_at" s__law_at ["_law_row_here", "_law_place"]
  d__law_spelled : Df K mg "_law_spelled" s__law_spelled ["_law_row_here", "_law_many"]
  d__law_normal : Df K mg "_law_normal" s__law_normal ["_law_letters", "_law_begun", "_law_long"]
  d__law_normal_of : Df K mg "_law_normal_of" s__law_normal_of ["_law_row_here"]
  d__law_first_unlike : Df K mg "_law_first_unlike" s__law_first_unlike ["_law_row_here", "_law_other"]
  d__law_otherwise : Df K mg "_law_otherwise" s__law_otherwise ["_law_pot_here", "_law_row_here"]
  d__law_bent : Df K mg "_law_bent" s__law_bent ["_law_pot_here", "_law_letters", "_law_row_here"]
  d__law_alone_right : Df K mg "_law_alone_right" s__law_alone_right ["_law_pot_here", "_law_letters", "_law_row_here"]
  d__law_turned_right : Df K mg "_law_turned_right" s__law_turned_right ["_law_pot_here", "_law_row_here"]
  d__law_two_right : Df K mg "_law_two_right" s__law_two_right ["_law_row_here", "_law_other"]
  d_law : Df K mg "law" s_law ["_law_script"]
  c_FARTHEST : ∃ u, mg "FARTHEST" = some u ∧ RelV (.int 999999) u
  c_LONGEST : ∃ u, mg "LONGEST" = some u ∧ RelV (.int 40) u
  c_MOST_LETTERS : ∃ u, mg "MOST_LETTERS" = some u ∧ RelV (.int 4) u
  c_MOST_SPELLED : ∃ u, mg "MOST_SPELLED" = some u ∧ RelV (.int 400) u
  z_abs : mg "abs" = none
  z_all : mg "all" = none
  z_bool : mg "bool" = none
  z_divmod : mg "divmod" = none
  z_int : mg "int" = none
  z_isinstance : mg "isinstance" = none
  z_len : mg "len" = none
  z_list : mg "list" = none
  z_max : mg "max" = none
  z_range : mg "range" = none
  z_repr : mg "repr" = none
  z_tuple : mg "tuple" = none
theorem kb_normal_row_0_row {K : PySem.W.Frag} {mg : Str → Option Value} (D : Df K mg "normal_row" s_normal_row ["row"]) : KBn K D.fd ["row"] 0 ["row"] k01 k01 := by
  obtain ⟨oc, od, kV, doc, pm, an, cdv, ct, osl, e, lk, hcd⟩ := D.F.ex
  rw [e]
  exact ⟨fun s us ws _ hu hw => match us, ws, hu, hw with | [], [w0], _, _ => .of_eq rfl, fun r1 r2 => pr01 r1 r2⟩
theorem kb_spelled_0_many_row {K : PySem.W.Frag} {mg : Str → Option Value} (D : Df K mg "spelled" s_spelled ["row", "many"]) : KBn K D.fd ["row", "many"] 0 ["many", "row"] k02s k02s := by
  obtain ⟨oc, od, kV, doc, pm, an, cdv, ct, osl, e, lk, hcd⟩ := D.F.ex
  rw [e]
  exact ⟨fun s us ws _ hu hw => match us, ws, hu, hw with | [], [w0, w1], _, _ => .of_eq rfl, fun r1 r2 => pr02s r1 r2⟩
theorem kb_letter_at_0_place_row {K : PySem.W.Frag} {mg : Str → Option Value} (D : Df K mg "letter_at" s_letter_at ["row", "place"]) : KBn K D.fd ["row", "place"] 0 ["place", "row"] k02s k02s := by
  obtain ⟨oc, od, kV, doc, pm, an, cdv, ct, osl, e, lk, hcd⟩ := D.F.ex
  rw [e]
  exact ⟨fun s us ws _ hu hw => match us, ws, hu, hw with | [], [w0, w1], _, _ => .of_eq rfl, fun r1 r2 => pr02s r1 r2⟩
theorem kb_turned_on_0_many_row {K : PySem.W.Frag} {mg : Str → Option Value} (D : Df K mg "turned_on" s_turned_on ["row", "many"]) : KBn K D.fd ["row", "many"] 0 ["many", "row"] k02s k02s := by
  obtain ⟨oc, od, kV, doc, pm, an, cdv, ct, osl, e, lk, hcd⟩ := D.F.ex
  rw [e]
  exact ⟨fun s us ws _ hu hw => match us, ws, hu, hw with | [], [w0, w1], _, _ => .of_eq rfl, fun r1 r2 => pr02s r1 r2⟩
theorem kb_first_unlike_0_other_row {K : PySem.W.Frag} {mg : Str → Option Value} (D : Df K mg "first_unlike" s_first_unlike ["row", "other"]) : KBn K D.fd ["row", "other"] 0 ["other", "row"] k02s k02s := by
  obtain ⟨oc, od, kV, doc, pm, an, cdv, ct, osl, e, lk, hcd⟩ := D.F.ex
  rw [e]
  exact ⟨fun s us ws _ hu hw => match us, ws, hu, hw with | [], [w0, w1], _, _ => .of_eq rfl, fun r1 r2 => pr02s r1 r2⟩
theorem kb_are_same_0_other_row {K : PySem.W.Frag} {mg : Str → Option Value} (D : Df K mg "are_same" s_are_same ["row", "other"]) : KBn K D.fd ["row", "other"] 0 ["other", "row"] k02s k02s := by
  obtain ⟨oc, od, kV, doc, pm, an, cdv, ct, osl, e, lk, hcd⟩ := D.F.ex
  rw [e]
  exact ⟨fun s us ws _ hu hw => match us, ws, hu, hw with | [], [w0, w1], _, _ => .of_eq rfl, fun r1 r2 => pr02s r1 r2⟩
end L11
namespace L11
open PySem PySem.Spec PyProof.Rows L2 DL KM
section
variable {P : Program} {w : World} {K : PySem.W.Frag} {mg : Str → Option Value} {base : Heap}
/- one rule a construct; what asks for a fact is left -/
local macro_rules | `(tactic| walk_at "dl") => `(tactic| repeat (first
  | ((with_reducible refine' ew_var ?hv ?_); (case hv => exact rfl))
  | with_reducible refine ew_int ?_
  | with_reducible refine ew_bl ?_
  | with_reducible refine ew_non ?_
  | with_reducible refine ew_str ?_
  | with_reducible refine aw_nil ?_
  | with_reducible refine aw_cons ?_
  | with_reducible refine ew_isi ?_
  | with_reducible refine ew_isi2 ?_
  | with_reducible refine ew_op ?_
  | with_reducible refine ew_un ?_
  | with_reducible refine uw_neg ?_
  | with_reducible refine ew_cb ?_
  | with_reducible refine ew_call ?_
  | with_reducible refine ew_k01 ?_
  | with_reducible refine ew_k02 ?_
  | with_reducible refine ew_k02s ?_
  | with_reducible refine ew_chain ?_
  | with_reducible refine ew_andV ?_
  | with_reducible refine ew_orV ?_
  | with_reducible refine ew_notV ?_
  | with_reducible refine ew_if ?_
  | with_reducible refine ew_slT ?_
  | with_reducible refine ew_slL ?_
  | with_reducible refine ow_none ?_
  | with_reducible refine ow_some ?_
  | with_reducible refine tw_test ?_
  | with_reducible refine tw_B ?_
  | with_reducible refine tw_and ?_
  | with_reducible refine tw_or ?_
  | with_reducible refine tw_not ?_
  | with_reducible refine tw_tru ?_
  | with_reducible refine s_seq ?_
  | with_reducible refine s_set ?_
  | with_reducible refine s_asg ?_
  | with_reducible refine s_ret ?_
  | with_reducible refine s_retN ?_
  | with_reducible refine s_if ?_
  | with_reducible refine s_drop ?_
  | with_reducible refine s_par ?_
  | with_reducible refine s_next ?_
  | with_reducible refine gw_tup rfl ?_
  | with_reducible refine gs_cons ?_
  | with_reducible refine gs_nil ?_
  | with_reducible refine gw_name ?_
  | with_reducible refine rw_add ?_
  | with_reducible refine rw_sub ?_
  | with_reducible refine rw_lt ?_
  | with_reducible refine rw_le ?_
  | with_reducible refine rw_gt ?_
  | with_reducible refine rw_ge ?_
  | with_reducible refine rw_eqI ?_
  | with_reducible refine rw_neI ?_
  | with_reducible refine rw_eqB ?_
  | with_reducible refine rw_neS ?_
  | with_reducible refine rw_isN ?_
  | with_reducible refine rw_notN ?_
  | with_reducible refine rw_isB ?_
  | with_reducible refine rw_notB ?_
  | ((with_reducible refine' rw_ixT ?hi ?_); (case hi => exact rfl))
  | ((with_reducible refine' rw_ixL ?hi ?_); (case hi => exact rfl))
  | with_reducible refine cw_lenT ?_
  | with_reducible refine cw_lenL ?_
  | with_reducible refine cw_tupL ?_
  | with_reducible refine cw_max2 ?_
  | with_reducible refine cw_abs ?_
  | with_reducible refine cw_int1 ?_
  | with_reducible refine leaf_bl ?_
  | with_reducible refine leaf_int ?_
  | with_reducible refine leaf_tup ?_
  | with_reducible refine leaf_lst ?_
  | with_reducible refine leaf_two ?_
  | with_reducible refine ew_tup ?_
  | with_reducible refine sz0 ?_
  | with_reducible refine sz1 ?_
  | with_reducible refine sz2 ?_
  | with_reducible refine sz3 ?_
  | with_reducible refine sz4 ?_
  | with_reducible refine if_t ?_
  | with_reducible refine if_f ?_
  | with_reducible refine if_nt ?_
  | with_reducible refine if_nf ?_))
/- one rule a construct; what asks for a fact is left -/
local macro_rules | `(tactic| walk_at "de") => `(tactic| repeat (first
  | ((with_reducible refine' ew_var ?hv ?_); (case hv => exact rfl))
  | with_reducible refine ew_int ?_
  | with_reducible refine ew_bl ?_
  | with_reducible refine ew_non ?_
  | with_reducible refine ew_str ?_
  | with_reducible refine aw_nil ?_
  | with_reducible refine aw_cons ?_
  | with_reducible refine ew_isi ?_
  | with_reducible refine ew_isi2 ?_
  | with_reducible refine ew_op ?_
  | with_reducible refine ew_un ?_
  | with_reducible refine uw_neg ?_
  | with_reducible refine ew_cb ?_
  | with_reducible refine ew_call ?_
  | with_reducible refine ew_k01 ?_
  | with_reducible refine ew_k02 ?_
  | with_reducible refine ew_k02s ?_
  | with_reducible refine ew_chain ?_
  | with_reducible refine ew_andV ?_
  | with_reducible refine ew_orV ?_
  | with_reducible refine ew_notV ?_
  | with_reducible refine ew_if ?_
  | with_reducible refine ew_slT ?_
  | with_reducible refine ew_slL ?_
  | with_reducible refine ow_none ?_
  | with_reducible refine ow_some ?_
  | with_reducible refine tw_test ?_
  | with_reducible refine tw_B ?_
  | with_reducible refine tw_and ?_
  | with_reducible refine tw_or ?_
  | with_reducible refine tw_not ?_
  | with_reducible refine tw_tru ?_
  | with_reducible refine gw_tup rfl ?_
  | with_reducible refine gs_cons ?_
  | with_reducible refine gs_nil ?_
  | with_reducible refine gw_name ?_
  | with_reducible refine rw_add ?_
  | with_reducible refine rw_sub ?_
  | with_reducible refine rw_lt ?_
  | with_reducible refine rw_le ?_
  | with_reducible refine rw_gt ?_
  | with_reducible refine rw_ge ?_
  | with_reducible refine rw_eqI ?_
  | with_reducible refine rw_neI ?_
  | with_reducible refine rw_eqB ?_
  | with_reducible refine rw_neS ?_
  | with_reducible refine rw_isN ?_
  | with_reducible refine rw_notN ?_
  | with_reducible refine rw_isB ?_
  | with_reducible refine rw_notB ?_
  | ((with_reducible refine' rw_ixT ?hi ?_); (case hi => exact rfl))
  | ((with_reducible refine' rw_ixL ?hi ?_); (case hi => exact rfl))
  | with_reducible refine cw_lenT ?_
  | with_reducible refine cw_lenL ?_
  | with_reducible refine cw_tupL ?_
  | with_reducible refine cw_max2 ?_
  | with_reducible refine cw_abs ?_
  | with_reducible refine cw_int1 ?_
  | with_reducible refine leaf_bl ?_
  | with_reducible refine leaf_int ?_
  | with_reducible refine leaf_tup ?_
  | with_reducible refine leaf_lst ?_
  | with_reducible refine leaf_two ?_
  | with_reducible refine ew_tup ?_
  | with_reducible refine sz0 ?_
  | with_reducible refine sz1 ?_
  | with_reducible refine sz2 ?_
  | with_reducible refine sz3 ?_
  | with_reducible refine sz4 ?_
  | with_reducible refine if_t ?_
  | with_reducible refine if_f ?_
  | with_reducible refine if_nt ?_
  | with_reducible refine if_nf ?_))

/-! ### kinds of values -/
def isI : Dat → Bool | .int _ => true | _ => false
def isC : Dat → Bool | .int i => decide (0 ≤ i) | _ => false
def isB (b : Int) : Dat → Bool | .int i => decide (0 ≤ i) && decide (i < b) | _ => false
def isL : Dat → Bool | .tup _ => true | .lst _ => true | .cell _ => true | _ => false
def isP : Dat → Bool | .tup xs => decide ((xs.length : Int) = 2) | _ => false
def f1 (g : Dat → Dat) : FW := fun ds m P => ∃ d, ds = [d] ∧ P (g d) m
def f_is_below : FW := fun ds m P => ∃ d b, ds = [d, .int b] ∧ P (.bl (isB b d)) m
theorem ok_is_integer (T : All K mg) : FnOk P w K mg base CX0 1 T.d_is_integer.f T.d_is_integer.fd ["value"] (spD K (f1 fun d => .bl (isI d))) := by
  refine T.d_is_integer.F.ok sc_is_integer (fun vs H Q E h => sp_len (by intro ds m P f; obtain ⟨_, h⟩ := f; first | (obtain ⟨rfl, _⟩ := h; rfl) | (obtain ⟨_, rfl, _⟩ := h; rfl) | (obtain ⟨_, _, rfl, _⟩ := h; rfl) | (obtain ⟨_, _, _, rfl, _⟩ := h; rfl) | (obtain ⟨_, _, _, _, rfl, _⟩ := h; rfl) | (obtain ⟨_, _, _, _, _, rfl, _⟩ := h; rfl)) h) (fun cdv A outer s H vs Q E hr h => ?_)
  refine ⟨_, (pss_one (ps_ret (pe_and (pe_callB call_isi (by rfl) T.z_isinstance (by decide +kernel) (pa_cons (pv 0) (pa_cons (pe_bltn (v := .ty "int") (u := .type "int") (by rfl) T.z_int (by decide +kernel) rfl) pa_nil))) (pe_one (pe_not (pe_callB call_isi (by rfl) T.z_isinstance (by decide +kernel) (pa_cons (pv 0) (pa_cons (pe_bltn (v := .ty "bool") (u := .type "bool") (by rfl) T.z_bool (by decide +kernel) rfl) pa_nil)))))))), body_of h fun ds m P f => ?_⟩
  try dsimp only [cxOf, Cx.nox, Cx.wish, Cx.blk]
  obtain ⟨d, rfl, p⟩ := f
  walk_at "dl"
  refine ⟨_, kb_int d, leaf_bl ?_⟩
  cases d with
  | int i =>
    refine if_t ?_
    walk_at "dl"
    exact ⟨_, kb_bool _, leaf_bl p⟩
  | bl b =>
    refine if_t ?_
    walk_at "dl"
    exact ⟨_, kb_bool _, leaf_bl p⟩
  | _ => exact if_f p
theorem ok_is_count (T : All K mg) : FnOk P w K mg base CX0 2 T.d_is_count.f T.d_is_count.fd ["value"] (spD K (f1 fun d => .bl (isC d))) := by
  refine T.d_is_count.F.ok sc_is_count (fun vs H Q E h => sp_len (by intro ds m P f; obtain ⟨_, h⟩ := f; first | (obtain ⟨rfl, _⟩ := h; rfl) | (obtain ⟨_, rfl, _⟩ := h; rfl) | (obtain ⟨_, _, rfl, _⟩ := h; rfl) | (obtain ⟨_, _, _, rfl, _⟩ := h; rfl) | (obtain ⟨_, _, _, _, rfl, _⟩ := h; rfl) | (obtain ⟨_, _, _, _, _, rfl, _⟩ := h; rfl)) h) (fun cdv A outer s H vs Q E hr h => ?_)
  refine ⟨_, (pss_one (ps_ret (pe_and (pe_call (ok_is_integer T) (hr.mono (by decide)) rfl T.d_is_integer.g T.d_is_integer.F.kp T.d_is_integer.b .nil pass0 (pa_cons (pv 0) pa_nil)) (pe_one (pe_cmpR op_ge (pv 0) pe_int (nomark _)))))), body_of h fun ds m P f => ?_⟩
  try dsimp only [cxOf, Cx.nox, Cx.wish, Cx.blk]
  obtain ⟨d, rfl, p⟩ := f
  walk_at "dl"
  refine ⟨d, rfl, leaf_bl ?_⟩
  cases d with
  | int i =>
    refine if_t ?_
    walk_at "dl"
    exact p
  | _ => exact if_f p
theorem ok_is_below (T : All K mg) : FnOk P w K mg base CX0 3 T.d_is_below.f T.d_is_below.fd ["value", "bound"] (spD K f_is_below) := by
  refine T.d_is_below.F.ok sc_is_below (fun vs H Q E h => sp_len (by intro ds m P f; obtain ⟨_, h⟩ := f; first | (obtain ⟨rfl, _⟩ := h; rfl) | (obtain ⟨_, rfl, _⟩ := h; rfl) | (obtain ⟨_, _, rfl, _⟩ := h; rfl) | (obtain ⟨_, _, _, rfl, _⟩ := h; rfl) | (obtain ⟨_, _, _, _, rfl, _⟩ := h; rfl) | (obtain ⟨_, _, _, _, _, rfl, _⟩ := h; rfl)) h) (fun cdv A outer s H vs Q E hr h => ?_)
  refine ⟨_, (pss_one (ps_ret (pe_and (pe_call (ok_is_count T) (hr.mono (by decide)) rfl T.d_is_count.g T.d_is_count.F.kp T.d_is_count.b .nil pass0 (pa_cons (pv 0) pa_nil)) (pe_one (pe_cmpR op_lt (pv 0) (pv 1) (nomark _)))))), body_of h fun ds m P f => ?_⟩
  try dsimp only [cxOf, Cx.nox, Cx.wish, Cx.blk]
  obtain ⟨d, b, rfl, p⟩ := f
  walk_at "dl"
  refine ⟨d, rfl, leaf_bl ?_⟩
  cases d with
  | int i =>
    refine if_d (fun h => ?_) (fun h => ?_)
    · walk_at "dl"
      have : isB b (.int i) = decide (i < b) := by simp [isB, h]
      rw [this] at p
      exact p
    · have : isB b (.int i) = false := by simp [isB, h]
      rw [this] at p
      exact p
  | _ => exact if_f p
theorem ok_is_list (T : All K mg) : FnOk P w K mg base CX0 1 T.d_is_list.f T.d_is_list.fd ["value"] (spD K (f1 fun d => .bl (isL d))) := by
  refine T.d_is_list.F.ok sc_is_list (fun vs H Q E h => sp_len (by intro ds m P f; obtain ⟨_, h⟩ := f; first | (obtain ⟨rfl, _⟩ := h; rfl) | (obtain ⟨_, rfl, _⟩ := h; rfl) | (obtain ⟨_, _, rfl, _⟩ := h; rfl) | (obtain ⟨_, _, _, rfl, _⟩ := h; rfl) | (obtain ⟨_, _, _, _, rfl, _⟩ := h; rfl) | (obtain ⟨_, _, _, _, _, rfl, _⟩ := h; rfl)) h) (fun cdv A outer s H vs Q E hr h => ?_)
  refine ⟨_, (pss_one (ps_ret (pe_callB call_isiT (by rfl) T.z_isinstance (by decide +kernel) (pa_cons (pv 0) (pa_cons (pe_tup (pa_cons (pe_bltn (v := .ty "list") (u := .type "list") (by rfl) T.z_list (by decide +kernel) rfl) (pa_cons (pe_bltn (v := .ty "tuple") (u := .type "tuple") (by rfl) T.z_tuple (by decide +kernel) rfl) pa_nil))) pa_nil))))), body_of h fun ds m P f => ?_⟩
  try dsimp only [cxOf, Cx.nox, Cx.wish, Cx.blk]
  obtain ⟨d, rfl, p⟩ := f
  walk_at "dl"
  refine ⟨_, _, kb_list d, kb_tuple d, ?_⟩
  have : (tLi d || tTu d) = isL d := by cases d <;> rfl
  rw [this]
  exact p
theorem ok_is_pair (T : All K mg) : FnOk P w K mg base CX0 1 T.d_is_pair.f T.d_is_pair.fd ["value"] (spD K (f1 fun d => .bl (isP d))) := by
  refine T.d_is_pair.F.ok sc_is_pair (fun vs H Q E h => sp_len (by intro ds m P f; obtain ⟨_, h⟩ := f; first | (obtain ⟨rfl, _⟩ := h; rfl) | (obtain ⟨_, rfl, _⟩ := h; rfl) | (obtain ⟨_, _, rfl, _⟩ := h; rfl) | (obtain ⟨_, _, _, rfl, _⟩ := h; rfl) | (obtain ⟨_, _, _, _, rfl, _⟩ := h; rfl) | (obtain ⟨_, _, _, _, _, rfl, _⟩ := h; rfl)) h) (fun cdv A outer s H vs Q E hr h => ?_)
  refine ⟨_, (pss_one (ps_ret (pe_and (pe_callB call_isi (by rfl) T.z_isinstance (by decide +kernel) (pa_cons (pv 0) (pa_cons (pe_bltn (v := .ty "tuple") (u := .type "tuple") (by rfl) T.z_tuple (by decide +kernel) rfl) pa_nil))) (pe_one (pe_cmpR op_eq (pe_callB call_lenS (by rfl) T.z_len (by decide +kernel) (pa_cons (pv 0) pa_nil)) pe_int (nomark _)))))), body_of h fun ds m P f => ?_⟩
  try dsimp only [cxOf, Cx.nox, Cx.wish, Cx.blk]
  obtain ⟨d, rfl, p⟩ := f
  walk_at "dl"
  refine ⟨_, kb_tuple d, leaf_bl ?_⟩
  cases d with
  | tup xs =>
    refine if_t ?_
    walk_at "dl"
    exact p
  | _ => exact if_f p
/-! ### words, rows -/
def isW (L : Int) : Dat → Bool
  | .tup xs => decide ((xs.length : Int) ≤ 40) && (xs.map fun x => isB L x).all id
  | .lst xs => decide ((xs.length : Int) ≤ 40) && (xs.map fun x => isB L x).all id
  | _ => false
theorem isW_tup (L : Int) (xs : List Dat) : isW L (.tup xs) = (decide ((xs.length : Int) ≤ 40) && (xs.map fun x => isB L x).all id) := rfl
theorem isW_lst (L : Int) (xs : List Dat) : isW L (.lst xs) = (decide ((xs.length : Int) ≤ 40) && (xs.map fun x => isB L x).all id) := rfl
theorem fm_bl (L : Int) (xs : List Dat) : xs.filterMap (fun x => some (Dat.bl (isB L x))) = (xs.map fun x => isB L x).map Dat.bl := by
  induction xs with
  | nil => rfl
  | cons a l ih => rw [List.filterMap_cons]; simp [ih]
def f_is_word : FW := fun ds m P => ∃ L d, ds = [.int L, d] ∧ noCell d = true ∧ P (.bl (isW L d)) m
theorem ok_is_word (T : All K mg) : FnOk P w K mg base CX0 4 T.d_is_word.f T.d_is_word.fd ["letters", "value"] (spD K f_is_word) := by
  refine T.d_is_word.F.ok sc_is_word (fun vs H Q E h => sp_len (by intro ds m P f; obtain ⟨_, h⟩ := f; first | (obtain ⟨rfl, _⟩ := h; rfl) | (obtain ⟨_, rfl, _⟩ := h; rfl) | (obtain ⟨_, _, rfl, _⟩ := h; rfl) | (obtain ⟨_, _, _, rfl, _⟩ := h; rfl) | (obtain ⟨_, _, _, _, rfl, _⟩ := h; rfl) | (obtain ⟨_, _, _, _, _, rfl, _⟩ := h; rfl)) h) (fun cdv A outer s H vs Q E hr h => ?_)
  refine ⟨_, (pss_one (ps_ret (pe_and (pe_call (ok_is_list T) (hr.mono (by decide)) rfl T.d_is_list.g T.d_is_list.F.kp T.d_is_list.b .nil pass0 (pa_cons (pv 1) pa_nil)) (pe_and (pe_cmpR op_le (pe_callB call_lenS (by rfl) T.z_len (by decide +kernel) (pa_cons (pv 1) pa_nil)) (pe_glob (v := .int 40) rfl T.c_LONGEST.choose_spec.1 T.c_LONGEST.choose_spec.2) (nomark _)) (pe_one (pe_callB (cr_all rfl) (by rfl) T.z_all (by decide +kernel) (pa_cons (pe_lc (own := [("letter", 2)]) (g := gName 2) rfl sc_is_word.nd (pi_seq (pv 1)) (blkOk_by (N := N_is_word) (sc := defScope s_is_word) (by decide +kernel)) (fun _ _ _ _ _ => pg_name (i := 2) sc_is_word.nd rfl (Or.inl rfl)) (fun _ _ _ _ _ => pts_nil) (fun _ _ _ _ _ => (pe_call (ok_is_below T) (hr.mono (by decide)) rfl T.d_is_below.g T.d_is_below.F.kp T.d_is_below.b .nil pass0 (pa_cons (pv 2) (pa_cons (pv 0) pa_nil))))) pa_nil))))))), body_of h fun ds m P f => ?_⟩
  try dsimp only [cxOf, Cx.nox, Cx.wish, Cx.blk]
  obtain ⟨L, d, rfl, hn, p⟩ := f
  walk_at "dl"
  refine ⟨d, rfl, leaf_bl ?_⟩
  cases d with
  | tup xs =>
    refine if_t ?_
    walk_at "dl"
    refine if_d (fun h => ?_) (fun h => ?_)
    · walk_at "dl"
      refine ew_lcS (f := fun x => some (.bl (isB L x))) (.inl rfl) (by rw [sizeLine_eq]; omega) ?_ ?_
      · intro x acc hx
        refine turn_yes rfl ?_
        walk_at "dl"
        exact ⟨x, L, rfl, rfl, rfl⟩
      · rw [fm_bl]
        walk_at "dl"
        refine cw_all ?_
        have e : isW L (.tup xs) = (xs.map fun x => isB L x).all id := by rw [isW_tup, decide_eq_true h, Bool.true_and]
        rw [e] at p
        exact p
    · have e : isW L (.tup xs) = false := by rw [isW_tup, decide_eq_false h, Bool.false_and]
      rw [e] at p
      exact p
  | lst xs =>
    refine if_t ?_
    walk_at "dl"
    refine if_d (fun h => ?_) (fun h => ?_)
    · walk_at "dl"
      refine ew_lcS (f := fun x => some (.bl (isB L x))) (.inr rfl) (by rw [sizeLine_eq]; omega) ?_ ?_
      · intro x acc hx
        refine turn_yes rfl ?_
        walk_at "dl"
        exact ⟨x, L, rfl, rfl, rfl⟩
      · rw [fm_bl]
        walk_at "dl"
        refine cw_all ?_
        have e : isW L (.lst xs) = (xs.map fun x => isB L x).all id := by rw [isW_lst, decide_eq_true h, Bool.true_and]
        rw [e] at p
        exact p
    · have e : isW L (.lst xs) = false := by rw [isW_lst, decide_eq_false h, Bool.false_and]
      rw [e] at p
      exact p
  | cell k => simp [noCell] at hn
  | _ => exact if_f p
/-- a row of so many letters -/
def lenD : Dat → Int | .tup xs => xs.length | _ => 0
def isR (L : Int) : Dat → Bool
  | .tup [b, a] => tTu b && (tTu a && (isW L b && (isW L a && decide ((0 : Int) < lenD a))))
  | _ => false
def f_is_row_of : FW := fun ds m P => ∃ L d, ds = [.int L, d] ∧ noCell d = true ∧ P (.bl (isR L d)) m
theorem ok_is_row_of (T : All K mg) : FnOk P w K mg base CX0 5 T.d_is_row_of.f T.d_is_row_of.fd ["letters", "value"] (spD K f_is_row_of) := by
  refine T.d_is_row_of.F.ok sc_is_row_of (fun vs H Q E h => sp_len (by intro ds m P f; obtain ⟨_, h⟩ := f; first | (obtain ⟨rfl, _⟩ := h; rfl) | (obtain ⟨_, rfl, _⟩ := h; rfl) | (obtain ⟨_, _, rfl, _⟩ := h; rfl) | (obtain ⟨_, _, _, rfl, _⟩ := h; rfl) | (obtain ⟨_, _, _, _, rfl, _⟩ := h; rfl) | (obtain ⟨_, _, _, _, _, rfl, _⟩ := h; rfl)) h) (fun cdv A outer s H vs Q E hr h => ?_)
  refine ⟨_, (pss_cons (ps_if (PW.pt (pw_or (pt_not (pt_val (pe_call (ok_is_pair T) (hr.mono (by decide)) rfl T.d_is_pair.g T.d_is_pair.F.kp T.d_is_pair.b .nil pass0 (pa_cons (pv 1) pa_nil)))) (pw_or (pt_not (pt_val (pe_callB call_isi (by rfl) T.z_isinstance (by decide +kernel) (pa_cons (pe_ix ix_tup (pv 1) pe_int (fun _ _ => rfl)) (pa_cons (pe_bltn (v := .ty "tuple") (u := .type "tuple") (by rfl) T.z_tuple (by decide +kernel) rfl) pa_nil))))) (pw_or1 (pt_not (pt_val (pe_callB call_isi (by rfl) T.z_isinstance (by decide +kernel) (pa_cons (pe_ix ix_tup (pv 1) pe_int (fun _ _ => rfl)) (pa_cons (pe_bltn (v := .ty "tuple") (u := .type "tuple") (by rfl) T.z_tuple (by decide +kernel) rfl) pa_nil))))))))) (pss_one (ps_ret pe_bl)) pss_nil)
      (pss_one (ps_ret (pe_and (pe_call (ok_is_word T) (hr.mono (by decide)) rfl T.d_is_word.g T.d_is_word.F.kp T.d_is_word.b .nil pass0 (pa_cons (pv 0) (pa_cons (pe_ix ix_tup (pv 1) pe_int (fun _ _ => rfl)) pa_nil))) (pe_and (pe_call (ok_is_word T) (hr.mono (by decide)) rfl T.d_is_word.g T.d_is_word.F.kp T.d_is_word.b .nil pass0 (pa_cons (pv 0) (pa_cons (pe_ix ix_tup (pv 1) pe_int (fun _ _ => rfl)) pa_nil))) (pe_one (pe_cmpR op_gt (pe_callB call_lenS (by rfl) T.z_len (by decide +kernel) (pa_cons (pe_ix ix_tup (pv 1) pe_int (fun _ _ => rfl)) pa_nil)) pe_int (nomark _)))))))), body_of h fun ds m P f => ?_⟩
  try dsimp only [cxOf, Cx.nox, Cx.wish, Cx.blk]
  obtain ⟨L, d, rfl, hn, p⟩ := f
  walk_at "dl"
  refine ⟨d, rfl, leaf_bl ?_⟩
  cases d with
  | tup xs =>
    match xs, hn, p with
    | [], _, p => exact if_t (if_t (by walk_at "dl"; exact p))
    | [x], _, p => exact if_t (if_t (by walk_at "dl"; exact p))
    | x :: y :: z :: r, _, p =>
      have e : isP (.tup (x :: y :: z :: r)) = false := by
        show decide (((x :: y :: z :: r).length : Int) = 2) = false
        refine decide_eq_false ?_
        simp only [List.length_cons]
        omega
      rw [e]
      exact if_t (if_t (by walk_at "dl"; exact p))
    | [x, y], hn, p =>
      have hx : noCell x = true ∧ noCell y = true := by simpa [noCell, noCells] using hn
      have e : isR L (.tup [x, y]) = (tTu x && (tTu y && (isW L x && (isW L y && decide ((0 : Int) < lenD y))))) := rfl
      rw [e] at p
      refine if_f ?_
      walk_at "dl"
      refine ⟨_, kb_tuple x, leaf_bl ?_⟩
      cases h1 : tTu x with
      | false =>
        rw [h1, Bool.false_and] at p
        exact if_t (if_t (by walk_at "dl"; exact p))
      | true =>
        rw [h1, Bool.true_and] at p
        refine if_f ?_
        walk_at "dl"
        refine ⟨_, kb_tuple y, leaf_bl ?_⟩
        cases h2 : tTu y with
        | false =>
          rw [h2, Bool.false_and] at p
          exact if_t (by walk_at "dl"; exact p)
        | true =>
          rw [h2, Bool.true_and] at p
          refine if_f ?_
          walk_at "dl"
          refine ⟨L, _, rfl, hx.1, leaf_bl ?_⟩
          cases h3 : isW L x with
          | false => rw [h3, Bool.false_and] at p; exact if_f p
          | true =>
            rw [h3, Bool.true_and] at p
            refine if_t ?_
            walk_at "dl"
            refine ⟨L, _, rfl, hx.2, leaf_bl ?_⟩
            cases h4 : isW L y with
            | false => rw [h4, Bool.false_and] at p; exact if_f p
            | true =>
              rw [h4, Bool.true_and] at p
              refine if_t ?_
              walk_at "dl"
              cases y with
              | tup a =>
                walk_at "dl"
                exact p
              | _ => cases h2
  | _ => exact if_t (if_t (by walk_at "dl"; exact p))
/-! ### words of ints -/
theorem isW_wi {L : Int} {l : List Int} (h : ∀ c ∈ l, 0 ≤ c ∧ c < L) (hl : l.length ≤ 40) : isW L (.tup (wi l)) = true := by
  rw [isW_tup, wi, List.length_map, decide_eq_true (by omega), Bool.true_and, List.map_map, List.all_map, List.all_eq_true]
  intro c hc
  have := h c hc
  simp [isB, this]
theorem isR_row {L : Int} {B A : List Int} (h : Ok L B A) : isR L (rw_ B A) = true := by
  have hn : 0 < A.length := List.length_pos_iff.mpr h.ne
  show (true && (true && (isW L (.tup (wi B)) && (isW L (.tup (wi A)) && decide ((0 : Int) < ((wi A).length : Nat)))))) = true
  rw [isW_wi h.b h.lb, isW_wi h.a h.la, wi, List.length_map, decide_eq_true (by omega)] <;> rfl
theorem nc_row (B A : List Int) : noCell (rw_ B A) = true := shp_nc (shp_row B A)
/-! ### the checks, where all is right -/
def f_check_letters : FW := fun ds m P => ∃ L, ds = [.int L] ∧ 1 ≤ L ∧ L ≤ 4 ∧ P .non m
def f_check_row : FW := fun ds m P => ∃ L B A, ds = [.int L, rw_ B A] ∧ Ok L B A ∧ P .non m
def f_check_place : FW := fun ds m P => ∃ p b, ds = [.int p, .int b] ∧ 0 ≤ p ∧ p ≤ b ∧ P .non m
theorem ok_check_letters (T : All K mg) : FnOk P w K mg base CX0 3 T.d_check_letters.f T.d_check_letters.fd ["letters"] (spD K f_check_letters) := by
  refine T.d_check_letters.F.ok sc_check_letters (fun vs H Q E h => sp_len (by intro ds m P f; obtain ⟨_, h⟩ := f; first | (obtain ⟨rfl, _⟩ := h; rfl) | (obtain ⟨_, rfl, _⟩ := h; rfl) | (obtain ⟨_, _, rfl, _⟩ := h; rfl) | (obtain ⟨_, _, _, rfl, _⟩ := h; rfl) | (obtain ⟨_, _, _, _, rfl, _⟩ := h; rfl) | (obtain ⟨_, _, _, _, _, rfl, _⟩ := h; rfl)) h) (fun cdv A outer s H vs Q E hr h => ?_)
  refine ⟨_, (pss_one (ps_if (PW.pt (pw_or (pt_not (pt_val (pe_call (ok_is_count T) (hr.mono (by decide)) rfl T.d_is_count.g T.d_is_count.F.kp T.d_is_count.b .nil pass0 (pa_cons (pv 0) pa_nil)))) (pw_or1 (pt_not (pt_chain op_le op_le pe_int (pv 0) (pe_glob (v := .int 4) rfl T.c_MOST_LETTERS.choose_spec.1 T.c_MOST_LETTERS.choose_spec.2)))))) pss_never pss_nil)), body_of h fun ds m P f => ?_⟩
  try dsimp only [cxOf, Cx.nox, Cx.wish, Cx.blk]
  obtain ⟨L, rfl, h1, h2, p⟩ := f
  walk_at "dl"
  refine ⟨_, rfl, leaf_bl ?_⟩
  have : isC (.int L) = true := decide_eq_true (by omega)
  rw [this]
  refine if_f ?_
  walk_at "dl"
  refine if_d (fun _ => ?_) (fun h => absurd h1 h)
  walk_at "dl"
  rw [decide_eq_true h2]
  refine if_f ?_
  walk_at "dl"
  exact p
theorem ok_check_row (T : All K mg) : FnOk P w K mg base CX0 6 T.d_check_row.f T.d_check_row.fd ["letters", "row"] (spD K f_check_row) := by
  refine T.d_check_row.F.ok sc_check_row (fun vs H Q E h => sp_len (by intro ds m P f; obtain ⟨_, h⟩ := f; first | (obtain ⟨rfl, _⟩ := h; rfl) | (obtain ⟨_, rfl, _⟩ := h; rfl) | (obtain ⟨_, _, rfl, _⟩ := h; rfl) | (obtain ⟨_, _, _, rfl, _⟩ := h; rfl) | (obtain ⟨_, _, _, _, rfl, _⟩ := h; rfl) | (obtain ⟨_, _, _, _, _, rfl, _⟩ := h; rfl)) h) (fun cdv A outer s H vs Q E hr h => ?_)
  refine ⟨_, (pss_one (ps_if (pt_not (pt_val (pe_call (ok_is_row_of T) (hr.mono (by decide)) rfl T.d_is_row_of.g T.d_is_row_of.F.kp T.d_is_row_of.b .nil pass0 (pa_cons (pv 0) (pa_cons (pv 1) pa_nil))))) pss_never pss_nil)), body_of h fun ds m P f => ?_⟩
  try dsimp only [cxOf, Cx.nox, Cx.wish, Cx.blk]
  obtain ⟨L, B, A, rfl, h, p⟩ := f
  walk_at "dl"
  refine ⟨_, _, rfl, nc_row B A, leaf_bl ?_⟩
  rw [isR_row h]
  refine if_f ?_
  walk_at "dl"
  exact p
theorem ok_check_place (T : All K mg) : FnOk P w K mg base CX0 4 T.d_check_place.f T.d_check_place.fd ["place", "most"] (spD K f_check_place) := by
  refine T.d_check_place.F.ok sc_check_place (fun vs H Q E h => sp_len (by intro ds m P f; obtain ⟨_, h⟩ := f; first | (obtain ⟨rfl, _⟩ := h; rfl) | (obtain ⟨_, rfl, _⟩ := h; rfl) | (obtain ⟨_, _, rfl, _⟩ := h; rfl) | (obtain ⟨_, _, _, rfl, _⟩ := h; rfl) | (obtain ⟨_, _, _, _, rfl, _⟩ := h; rfl) | (obtain ⟨_, _, _, _, _, rfl, _⟩ := h; rfl)) h) (fun cdv A outer s H vs Q E hr h => ?_)
  refine ⟨_, (pss_one (ps_if (pt_not (pt_val (pe_call (ok_is_below T) (hr.mono (by decide)) rfl T.d_is_below.g T.d_is_below.F.kp T.d_is_below.b .nil pass0 (pa_cons (pv 0) (pa_cons (pe_op op_add (pv 1) pe_int) pa_nil))))) pss_never pss_nil)), body_of h fun ds m P f => ?_⟩
  try dsimp only [cxOf, Cx.nox, Cx.wish, Cx.blk]
  obtain ⟨q, b, rfl, h1, h2, p⟩ := f
  walk_at "dl"
  refine ⟨_, _, rfl, leaf_bl ?_⟩
  have : isB (b + 1) (.int q) = true := by simp [isB]; omega
  rw [this]
  refine if_f ?_
  walk_at "dl"
  exact p
theorem ok_check_many (T : All K mg) : FnOk P w K mg base CX0 4 T.d_check_many.f T.d_check_many.fd ["many", "most"] (spD K f_check_place) := by
  refine T.d_check_many.F.ok sc_check_many (fun vs H Q E h => sp_len (by intro ds m P f; obtain ⟨_, h⟩ := f; first | (obtain ⟨rfl, _⟩ := h; rfl) | (obtain ⟨_, rfl, _⟩ := h; rfl) | (obtain ⟨_, _, rfl, _⟩ := h; rfl) | (obtain ⟨_, _, _, rfl, _⟩ := h; rfl) | (obtain ⟨_, _, _, _, rfl, _⟩ := h; rfl) | (obtain ⟨_, _, _, _, _, rfl, _⟩ := h; rfl)) h) (fun cdv A outer s H vs Q E hr h => ?_)
  refine ⟨_, (pss_one (ps_if (pt_not (pt_val (pe_call (ok_is_below T) (hr.mono (by decide)) rfl T.d_is_below.g T.d_is_below.F.kp T.d_is_below.b .nil pass0 (pa_cons (pv 0) (pa_cons (pe_op op_add (pv 1) pe_int) pa_nil))))) pss_never pss_nil)), body_of h fun ds m P f => ?_⟩
  try dsimp only [cxOf, Cx.nox, Cx.wish, Cx.blk]
  obtain ⟨q, b, rfl, h1, h2, p⟩ := f
  walk_at "dl"
  refine ⟨_, _, rfl, leaf_bl ?_⟩
  have : isB (b + 1) (.int q) = true := by simp [isB]; omega
  rw [this]
  refine if_f ?_
  walk_at "dl"
  exact p
end
end L11
namespace L11
open PySem PySem.Spec PyProof.Rows L2 DL KM
section
variable {P : Program} {w : World} {K : PySem.W.Frag} {mg : Str → Option Value} {base : Heap}
/- one rule a construct; what asks for a fact is left -/
local macro_rules | `(tactic| walk_at "dl") => `(tactic| repeat (first
  | ((with_reducible refine' ew_var ?hv ?_); (case hv => exact rfl))
  | with_reducible refine ew_int ?_
  | with_reducible refine ew_bl ?_
  | with_reducible refine ew_non ?_
  | with_reducible refine ew_str ?_
  | with_reducible refine aw_nil ?_
  | with_reducible refine aw_cons ?_
  | with_reducible refine ew_isi ?_
  | with_reducible refine ew_isi2 ?_
  | with_reducible refine ew_op ?_
  | with_reducible refine ew_un ?_
  | with_reducible refine uw_neg ?_
  | with_reducible refine ew_cb ?_
  | with_reducible refine ew_call ?_
  | with_reducible refine ew_k01 ?_
  | with_reducible refine ew_k02 ?_
  | with_reducible refine ew_k02s ?_
  | with_reducible refine ew_chain ?_
  | with_reducible refine ew_andV ?_
  | with_reducible refine ew_orV ?_
  | with_reducible refine ew_notV ?_
  | with_reducible refine ew_if ?_
  | with_reducible refine ew_slT ?_
  | with_reducible refine ew_slL ?_
  | with_reducible refine ow_none ?_
  | with_reducible refine ow_some ?_
  | with_reducible refine tw_test ?_
  | with_reducible refine tw_B ?_
  | with_reducible refine tw_and ?_
  | with_reducible refine tw_or ?_
  | with_reducible refine tw_not ?_
  | with_reducible refine tw_tru ?_
  | with_reducible refine s_seq ?_
  | with_reducible refine s_set ?_
  | with_reducible refine s_asg ?_
  | with_reducible refine s_ret ?_
  | with_reducible refine s_retN ?_
  | with_reducible refine s_if ?_
  | with_reducible refine s_drop ?_
  | with_reducible refine s_par ?_
  | with_reducible refine s_next ?_
  | with_reducible refine gw_tup rfl ?_
  | with_reducible refine gs_cons ?_
  | with_reducible refine gs_nil ?_
  | with_reducible refine gw_name ?_
  | with_reducible refine rw_add ?_
  | with_reducible refine rw_sub ?_
  | with_reducible refine rw_lt ?_
  | with_reducible refine rw_le ?_
  | with_reducible refine rw_gt ?_
  | with_reducible refine rw_ge ?_
  | with_reducible refine rw_eqI ?_
  | with_reducible refine rw_neI ?_
  | with_reducible refine rw_eqB ?_
  | with_reducible refine rw_neS ?_
  | with_reducible refine rw_isN ?_
  | with_reducible refine rw_notN ?_
  | with_reducible refine rw_isB ?_
  | with_reducible refine rw_notB ?_
  | ((with_reducible refine' rw_ixT ?hi ?_); (case hi => exact rfl))
  | ((with_reducible refine' rw_ixL ?hi ?_); (case hi => exact rfl))
  | with_reducible refine cw_lenT ?_
  | with_reducible refine cw_lenL ?_
  | with_reducible refine cw_tupL ?_
  | with_reducible refine cw_max2 ?_
  | with_reducible refine cw_abs ?_
  | with_reducible refine cw_int1 ?_
  | with_reducible refine leaf_bl ?_
  | with_reducible refine leaf_int ?_
  | with_reducible refine leaf_tup ?_
  | with_reducible refine leaf_lst ?_
  | with_reducible refine leaf_two ?_
  | with_reducible refine ew_tup ?_
  | with_reducible refine sz0 ?_
  | with_reducible refine sz1 ?_
  | with_reducible refine sz2 ?_
  | with_reducible refine sz3 ?_
  | with_reducible refine sz4 ?_
  | with_reducible refine if_t ?_
  | with_reducible refine if_f ?_
  | with_reducible refine if_nt ?_
  | with_reducible refine if_nf ?_))
/- one rule a construct; what asks for a fact is left -/
local macro_rules | `(tactic| walk_at "de") => `(tactic| repeat (first
  | ((with_reducible refine' ew_var ?hv ?_); (case hv => exact rfl))
  | with_reducible refine ew_int ?_
  | with_reducible refine ew_bl ?_
  | with_reducible refine ew_non ?_
  | with_reducible refine ew_str ?_
  | with_reducible refine aw_nil ?_
  | with_reducible refine aw_cons ?_
  | with_reducible refine ew_isi ?_
  | with_reducible refine ew_isi2 ?_
  | with_reducible refine ew_op ?_
  | with_reducible refine ew_un ?_
  | with_reducible refine uw_neg ?_
  | with_reducible refine ew_cb ?_
  | with_reducible refine ew_call ?_
  | with_reducible refine ew_k01 ?_
  | with_reducible refine ew_k02 ?_
  | with_reducible refine ew_k02s ?_
  | with_reducible refine ew_chain ?_
  | with_reducible refine ew_andV ?_
  | with_reducible refine ew_orV ?_
  | with_reducible refine ew_notV ?_
  | with_reducible refine ew_if ?_
  | with_reducible refine ew_slT ?_
  | with_reducible refine ew_slL ?_
  | with_reducible refine ow_none ?_
  | with_reducible refine ow_some ?_
  | with_reducible refine tw_test ?_
  | with_reducible refine tw_B ?_
  | with_reducible refine tw_and ?_
  | with_reducible refine tw_or ?_
  | with_reducible refine tw_not ?_
  | with_reducible refine tw_tru ?_
  | with_reducible refine gw_tup rfl ?_
  | with_reducible refine gs_cons ?_
  | with_reducible refine gs_nil ?_
  | with_reducible refine gw_name ?_
  | with_reducible refine rw_add ?_
  | with_reducible refine rw_sub ?_
  | with_reducible refine rw_lt ?_
  | with_reducible refine rw_le ?_
  | with_reducible refine rw_gt ?_
  | with_reducible refine rw_ge ?_
  | with_reducible refine rw_eqI ?_
  | with_reducible refine rw_neI ?_
  | with_reducible refine rw_eqB ?_
  | with_reducible refine rw_neS ?_
  | with_reducible refine rw_isN ?_
  | with_reducible refine rw_notN ?_
  | with_reducible refine rw_isB ?_
  | with_reducible refine rw_notB ?_
  | ((with_reducible refine' rw_ixT ?hi ?_); (case hi => exact rfl))
  | ((with_reducible refine' rw_ixL ?hi ?_); (case hi => exact rfl))
  | with_reducible refine cw_lenT ?_
  | with_reducible refine cw_lenL ?_
  | with_reducible refine cw_tupL ?_
  | with_reducible refine cw_max2 ?_
  | with_reducible refine cw_abs ?_
  | with_reducible refine cw_int1 ?_
  | with_reducible refine leaf_bl ?_
  | with_reducible refine leaf_int ?_
  | with_reducible refine leaf_tup ?_
  | with_reducible refine leaf_lst ?_
  | with_reducible refine leaf_two ?_
  | with_reducible refine ew_tup ?_
  | with_reducible refine sz0 ?_
  | with_reducible refine sz1 ?_
  | with_reducible refine sz2 ?_
  | with_reducible refine sz3 ?_
  | with_reducible refine sz4 ?_
  | with_reducible refine if_t ?_
  | with_reducible refine if_f ?_
  | with_reducible refine if_nt ?_
  | with_reducible refine if_nf ?_))

/-! ### rows by their letters -/
def f_is_row : FW := fun ds m P => ∃ L d, ds = [.int L, d] ∧ 1 ≤ L ∧ L ≤ 4 ∧ noCell d = true ∧ P (.bl (isR L d)) m
def f_letter : FW := fun ds m P => ∃ B A p, ds = [rw_ B A, .int p] ∧ A ≠ [] ∧ 0 ≤ p ∧ P (.int (seq B A p.toNat)) m
theorem ok_is_row (T : All K mg) : FnOk P w K mg base CX0 6 T.d_is_row.f T.d_is_row.fd ["letters", "value"] (spD K f_is_row) := by
  refine T.d_is_row.F.ok sc_is_row (fun vs H Q E h => sp_len (by intro ds m P f; obtain ⟨_, h⟩ := f; first | (obtain ⟨rfl, _⟩ := h; rfl) | (obtain ⟨_, rfl, _⟩ := h; rfl) | (obtain ⟨_, _, rfl, _⟩ := h; rfl) | (obtain ⟨_, _, _, rfl, _⟩ := h; rfl) | (obtain ⟨_, _, _, _, rfl, _⟩ := h; rfl) | (obtain ⟨_, _, _, _, _, rfl, _⟩ := h; rfl)) h) (fun cdv A outer s H vs Q E hr h => ?_)
  refine ⟨_, (pss_cons (ps_expr (pe_call (ok_check_letters T) (hr.mono (by decide)) rfl T.d_check_letters.g T.d_check_letters.F.kp T.d_check_letters.b .nil pass0 (pa_cons (pv 0) pa_nil)))
      (pss_one (ps_ret (pe_call (ok_is_row_of T) (hr.mono (by decide)) rfl T.d_is_row_of.g T.d_is_row_of.F.kp T.d_is_row_of.b .nil pass0 (pa_cons (pv 0) (pa_cons (pv 1) pa_nil)))))), body_of h fun ds m P f => ?_⟩
  try dsimp only [cxOf, Cx.nox, Cx.wish, Cx.blk]
  obtain ⟨L, d, rfl, h1, h2, hn, p⟩ := f
  walk_at "dl"
  refine ⟨L, rfl, h1, h2, ?_⟩
  walk_at "dl"
  exact ⟨L, d, rfl, hn, p⟩
theorem seq_lo {B A : List Int} {p : Int} (h : 0 ≤ p) (g : p < B.length) : seq B A p.toNat = B.getD p.toNat 0 := by
  unfold seq; rw [if_pos (by omega)]
theorem seq_hi {B A : List Int} {p : Int} (h : 0 ≤ p) (g : ¬ p < B.length) : seq B A p.toNat = A.getD ((p - B.length) % A.length).toNat 0 := by
  unfold seq; rw [if_neg (by omega)]
  congr 1
  obtain ⟨n, rfl⟩ : ∃ n : Nat, p = (n : Int) := ⟨p.toNat, by omega⟩
  have e : (n : Int) - (B.length : Int) = ((n - B.length : Nat) : Int) := by omega
  rw [e, Int.toNat_natCast]
  rw [← Int.natCast_emod, Int.toNat_natCast]
theorem ok__letter (T : All K mg) : FnOk P w K mg base CX0 1 T.d__letter.f T.d__letter.fd ["row", "place"] (spD K f_letter) := by
  refine T.d__letter.F.ok sc__letter (fun vs H Q E h => sp_len (by intro ds m P f; obtain ⟨_, h⟩ := f; first | (obtain ⟨rfl, _⟩ := h; rfl) | (obtain ⟨_, rfl, _⟩ := h; rfl) | (obtain ⟨_, _, rfl, _⟩ := h; rfl) | (obtain ⟨_, _, _, rfl, _⟩ := h; rfl) | (obtain ⟨_, _, _, _, rfl, _⟩ := h; rfl) | (obtain ⟨_, _, _, _, _, rfl, _⟩ := h; rfl)) h) (fun cdv A outer s H vs Q E hr h => ?_)
  refine ⟨_, (pss_cons (ps_asg (pv 0) (pg_tup (by rfl) (pgs_cons (pg_name (i := 2) sc__letter.nd rfl (Or.inl rfl)) (pgs_cons (pg_name (i := 3) sc__letter.nd rfl (Or.inl rfl)) pgs_nil))))
      (pss_cons (ps_if (pt_cmpR op_lt (pv 1) (pe_callB call_lenS (by rfl) T.z_len (by decide +kernel) (pa_cons (pv 2) pa_nil)) (nomark _)) (pss_one (ps_ret (pe_ix ix_tup (pv 2) (pv 1) (fun _ _ => rfl)))) pss_nil)
      (pss_one (ps_ret (pe_ix ix_tup (pv 3) (pe_op op_mod (pe_op op_sub (pv 1) (pe_callB call_lenS (by rfl) T.z_len (by decide +kernel) (pa_cons (pv 2) pa_nil))) (pe_callB call_lenS (by rfl) T.z_len (by decide +kernel) (pa_cons (pv 3) pa_nil))) (fun _ _ => rfl)))))), body_of h fun ds m P f => ?_⟩
  try dsimp only [cxOf, Cx.nox, Cx.wish, Cx.blk]
  obtain ⟨B, A, q, rfl, hA, hq, p⟩ := f
  have hn : 0 < A.length := List.length_pos_iff.mpr hA
  walk_at "dl"
  rw [wi_len]
  refine if_d (fun h => ?_) (fun h => ?_)
  · walk_at "dl"
    refine rw_ixT (atI_wi hq h) ?_
    rw [seq_lo hq h] at p
    exact p
  · walk_at "dl"
    rw [wi_len, wi_len]
    refine rw_mod (by omega) ?_
    refine rw_ixT (atI_wi (Int.emod_nonneg _ (by omega)) (Int.emod_lt_of_pos _ (by omega))) ?_
    rw [seq_hi hq h] at p
    exact p
def f_letter_at : FW := fun ds m P => ∃ B A p, ds = [rw_ B A, .int p] ∧ Ok 4 B A ∧ 0 ≤ p ∧ p ≤ 999999 ∧ P (.int (seq B A p.toNat)) m
theorem ok_letter_at (T : All K mg) : FnOk P w K mg base CX0 7 T.d_letter_at.f T.d_letter_at.fd ["row", "place"] (spD K f_letter_at) := by
  refine T.d_letter_at.F.ok sc_letter_at (fun vs H Q E h => sp_len (by intro ds m P f; obtain ⟨_, h⟩ := f; first | (obtain ⟨rfl, _⟩ := h; rfl) | (obtain ⟨_, rfl, _⟩ := h; rfl) | (obtain ⟨_, _, rfl, _⟩ := h; rfl) | (obtain ⟨_, _, _, rfl, _⟩ := h; rfl) | (obtain ⟨_, _, _, _, rfl, _⟩ := h; rfl) | (obtain ⟨_, _, _, _, _, rfl, _⟩ := h; rfl)) h) (fun cdv A outer s H vs Q E hr h => ?_)
  refine ⟨_, (pss_cons (ps_expr (pe_call (ok_check_row T) (hr.mono (by decide)) rfl T.d_check_row.g T.d_check_row.F.kp T.d_check_row.b .nil pass0 (pa_cons (pe_glob (v := .int 4) rfl T.c_MOST_LETTERS.choose_spec.1 T.c_MOST_LETTERS.choose_spec.2) (pa_cons (pv 0) pa_nil))))
      (pss_cons (ps_expr (pe_call (ok_check_place T) (hr.mono (by decide)) rfl T.d_check_place.g T.d_check_place.F.kp T.d_check_place.b .nil pass0 (pa_cons (pv 1) (pa_cons (pe_glob (v := .int 999999) rfl T.c_FARTHEST.choose_spec.1 T.c_FARTHEST.choose_spec.2) pa_nil))))
      (pss_one (ps_ret (pe_call (ok__letter T) (hr.mono (by decide)) rfl T.d__letter.g T.d__letter.F.kp T.d__letter.b .nil pass0 (pa_cons (pv 0) (pa_cons (pv 1) pa_nil))))))), body_of h fun ds m P f => ?_⟩
  try dsimp only [cxOf, Cx.nox, Cx.wish, Cx.blk]
  obtain ⟨B, A, q, rfl, h, h1, h2, p⟩ := f
  walk_at "dl"
  refine ⟨4, B, A, rfl, h, ?_⟩
  walk_at "dl"
  refine ⟨q, 999999, rfl, h1, h2, ?_⟩
  walk_at "dl"
  exact ⟨B, A, q, rfl, h.ne, h1, p⟩
def f_spelled : FW := fun ds m P => ∃ B A n, ds = [rw_ B A, .int n] ∧ Ok 4 B A ∧ 0 ≤ n ∧ n ≤ 400 ∧ P (.lst (wi (pre (seq B A) n.toNat))) m
theorem fm_pre (x : Nat → Int) (n : Nat) : (List.range n).filterMap (fun i => some (Dat.int (x i))) = wi (pre x n) := by
  unfold wi pre
  rw [List.map_map, ← List.filterMap_eq_map]
  rfl
theorem ok_spelled (T : All K mg) : FnOk P w K mg base CX0 7 T.d_spelled.f T.d_spelled.fd ["row", "many"] (spD K f_spelled) := by
  refine T.d_spelled.F.ok sc_spelled (fun vs H Q E h => sp_len (by intro ds m P f; obtain ⟨_, h⟩ := f; first | (obtain ⟨rfl, _⟩ := h; rfl) | (obtain ⟨_, rfl, _⟩ := h; rfl) | (obtain ⟨_, _, rfl, _⟩ := h; rfl) | (obtain ⟨_, _, _, rfl, _⟩ := h; rfl) | (obtain ⟨_, _, _, _, rfl, _⟩ := h; rfl) | (obtain ⟨_, _, _, _, _, rfl, _⟩ := h; rfl)) h) (fun cdv A outer s H vs Q E hr h => ?_)
  refine ⟨_, (pss_cons (ps_expr (pe_call (ok_check_row T) (hr.mono (by decide)) rfl T.d_check_row.g T.d_check_row.F.kp T.d_check_row.b .nil pass0 (pa_cons (pe_glob (v := .int 4) rfl T.c_MOST_LETTERS.choose_spec.1 T.c_MOST_LETTERS.choose_spec.2) (pa_cons (pv 0) pa_nil))))
      (pss_cons (ps_expr (pe_call (ok_check_many T) (hr.mono (by decide)) rfl T.d_check_many.g T.d_check_many.F.kp T.d_check_many.b .nil pass0 (pa_cons (pv 1) (pa_cons (pe_glob (v := .int 400) rfl T.c_MOST_SPELLED.choose_spec.1 T.c_MOST_SPELLED.choose_spec.2) pa_nil))))
      (pss_one (ps_ret (pe_lc (own := [("place", 2)]) (g := gName 2) rfl sc_spelled.nd (pi_range1 (by rfl) T.z_range (pa_cons (pv 1) pa_nil)) (blkOk_by (N := N_spelled) (sc := defScope s_spelled) (by decide +kernel)) (fun _ _ _ _ _ => pg_name (i := 2) sc_spelled.nd rfl (Or.inl rfl)) (fun _ _ _ _ _ => pts_nil) (fun _ _ _ _ _ => (pe_call (ok__letter T) (hr.mono (by decide)) rfl T.d__letter.g T.d__letter.F.kp T.d__letter.b .nil pass0 (pa_cons (pv 0) (pa_cons (pv 2) pa_nil))))))))), body_of h fun ds m P f => ?_⟩
  try dsimp only [cxOf, Cx.nox, Cx.wish, Cx.blk]
  obtain ⟨B, A, n, rfl, h, h1, h2, p⟩ := f
  walk_at "dl"
  refine ⟨4, B, A, rfl, h, ?_⟩
  walk_at "dl"
  refine ⟨n, 400, rfl, h1, h2, ?_⟩
  walk_at "dl"
  refine ew_lcR1 ?_
  walk_at "dl"
  refine ⟨n, rfl, by omega, by omega, by omega, fun i => some (.int (seq B A i)), ?_, ?_⟩
  · intro i acc hi ha
    refine turn_yes rfl ?_
    walk_at "dl"
    exact ⟨B, A, i, rfl, h.ne, by omega, rfl, rfl⟩
  · rw [fm_pre]
    exact p
end
end L11
namespace L11
open PySem PySem.Spec PyProof.Rows L2 DL KM
section
variable {P : Program} {w : World} {K : PySem.W.Frag} {mg : Str → Option Value} {base : Heap}
/- one rule a construct; what asks for a fact is left -/
local macro_rules | `(tactic| walk_at "dl") => `(tactic| repeat (first
  | ((with_reducible refine' ew_var ?hv ?_); (case hv => exact rfl))
  | with_reducible refine ew_int ?_
  | with_reducible refine ew_bl ?_
  | with_reducible refine ew_non ?_
  | with_reducible refine ew_str ?_
  | with_reducible refine aw_nil ?_
  | with_reducible refine aw_cons ?_
  | with_reducible refine ew_isi ?_
  | with_reducible refine ew_isi2 ?_
  | with_reducible refine ew_op ?_
  | with_reducible refine ew_un ?_
  | with_reducible refine uw_neg ?_
  | with_reducible refine ew_cb ?_
  | with_reducible refine ew_call ?_
  | with_reducible refine ew_k01 ?_
  | with_reducible refine ew_k02 ?_
  | with_reducible refine ew_k02s ?_
  | with_reducible refine ew_chain ?_
  | with_reducible refine ew_andV ?_
  | with_reducible refine ew_orV ?_
  | with_reducible refine ew_notV ?_
  | with_reducible refine ew_if ?_
  | with_reducible refine ew_slT ?_
  | with_reducible refine ew_slL ?_
  | with_reducible refine ow_none ?_
  | with_reducible refine ow_some ?_
  | with_reducible refine tw_test ?_
  | with_reducible refine tw_B ?_
  | with_reducible refine tw_and ?_
  | with_reducible refine tw_or ?_
  | with_reducible refine tw_not ?_
  | with_reducible refine tw_tru ?_
  | with_reducible refine s_seq ?_
  | with_reducible refine s_set ?_
  | with_reducible refine s_asg ?_
  | with_reducible refine s_ret ?_
  | with_reducible refine s_retN ?_
  | with_reducible refine s_if ?_
  | with_reducible refine s_drop ?_
  | with_reducible refine s_par ?_
  | with_reducible refine s_next ?_
  | with_reducible refine gw_tup rfl ?_
  | with_reducible refine gs_cons ?_
  | with_reducible refine gs_nil ?_
  | with_reducible refine gw_name ?_
  | with_reducible refine rw_add ?_
  | with_reducible refine rw_sub ?_
  | with_reducible refine rw_lt ?_
  | with_reducible refine rw_le ?_
  | with_reducible refine rw_gt ?_
  | with_reducible refine rw_ge ?_
  | with_reducible refine rw_eqI ?_
  | with_reducible refine rw_neI ?_
  | with_reducible refine rw_eqB ?_
  | with_reducible refine rw_neS ?_
  | with_reducible refine rw_isN ?_
  | with_reducible refine rw_notN ?_
  | with_reducible refine rw_isB ?_
  | with_reducible refine rw_notB ?_
  | ((with_reducible refine' rw_ixT ?hi ?_); (case hi => exact rfl))
  | ((with_reducible refine' rw_ixL ?hi ?_); (case hi => exact rfl))
  | with_reducible refine cw_lenT ?_
  | with_reducible refine cw_lenL ?_
  | with_reducible refine cw_tupL ?_
  | with_reducible refine cw_max2 ?_
  | with_reducible refine cw_abs ?_
  | with_reducible refine cw_int1 ?_
  | with_reducible refine leaf_bl ?_
  | with_reducible refine leaf_int ?_
  | with_reducible refine leaf_tup ?_
  | with_reducible refine leaf_lst ?_
  | with_reducible refine leaf_two ?_
  | with_reducible refine ew_tup ?_
  | with_reducible refine sz0 ?_
  | with_reducible refine sz1 ?_
  | with_reducible refine sz2 ?_
  | with_reducible refine sz3 ?_
  | with_reducible refine sz4 ?_
  | with_reducible refine if_t ?_
  | with_reducible refine if_f ?_
  | with_reducible refine if_nt ?_
  | with_reducible refine if_nf ?_))
/- one rule a construct; what asks for a fact is left -/
local macro_rules | `(tactic| walk_at "de") => `(tactic| repeat (first
  | ((with_reducible refine' ew_var ?hv ?_); (case hv => exact rfl))
  | with_reducible refine ew_int ?_
  | with_reducible refine ew_bl ?_
  | with_reducible refine ew_non ?_
  | with_reducible refine ew_str ?_
  | with_reducible refine aw_nil ?_
  | with_reducible refine aw_cons ?_
  | with_reducible refine ew_isi ?_
  | with_reducible refine ew_isi2 ?_
  | with_reducible refine ew_op ?_
  | with_reducible refine ew_un ?_
  | with_reducible refine uw_neg ?_
  | with_reducible refine ew_cb ?_
  | with_reducible refine ew_call ?_
  | with_reducible refine ew_k01 ?_
  | with_reducible refine ew_k02 ?_
  | with_reducible refine ew_k02s ?_
  | with_reducible refine ew_chain ?_
  | with_reducible refine ew_andV ?_
  | with_reducible refine ew_orV ?_
  | with_reducible refine ew_notV ?_
  | with_reducible refine ew_if ?_
  | with_reducible refine ew_slT ?_
  | with_reducible refine ew_slL ?_
  | with_reducible refine ow_none ?_
  | with_reducible refine ow_some ?_
  | with_reducible refine tw_test ?_
  | with_reducible refine tw_B ?_
  | with_reducible refine tw_and ?_
  | with_reducible refine tw_or ?_
  | with_reducible refine tw_not ?_
  | with_reducible refine tw_tru ?_
  | with_reducible refine gw_tup rfl ?_
  | with_reducible refine gs_cons ?_
  | with_reducible refine gs_nil ?_
  | with_reducible refine gw_name ?_
  | with_reducible refine rw_add ?_
  | with_reducible refine rw_sub ?_
  | with_reducible refine rw_lt ?_
  | with_reducible refine rw_le ?_
  | with_reducible refine rw_gt ?_
  | with_reducible refine rw_ge ?_
  | with_reducible refine rw_eqI ?_
  | with_reducible refine rw_neI ?_
  | with_reducible refine rw_eqB ?_
  | with_reducible refine rw_neS ?_
  | with_reducible refine rw_isN ?_
  | with_reducible refine rw_notN ?_
  | with_reducible refine rw_isB ?_
  | with_reducible refine rw_notB ?_
  | ((with_reducible refine' rw_ixT ?hi ?_); (case hi => exact rfl))
  | ((with_reducible refine' rw_ixL ?hi ?_); (case hi => exact rfl))
  | with_reducible refine cw_lenT ?_
  | with_reducible refine cw_lenL ?_
  | with_reducible refine cw_tupL ?_
  | with_reducible refine cw_max2 ?_
  | with_reducible refine cw_abs ?_
  | with_reducible refine cw_int1 ?_
  | with_reducible refine leaf_bl ?_
  | with_reducible refine leaf_int ?_
  | with_reducible refine leaf_tup ?_
  | with_reducible refine leaf_lst ?_
  | with_reducible refine leaf_two ?_
  | with_reducible refine ew_tup ?_
  | with_reducible refine sz0 ?_
  | with_reducible refine sz1 ?_
  | with_reducible refine sz2 ?_
  | with_reducible refine sz3 ?_
  | with_reducible refine sz4 ?_
  | with_reducible refine if_t ?_
  | with_reducible refine if_f ?_
  | with_reducible refine if_nt ?_
  | with_reducible refine if_nf ?_))

def f_shortest : FW := fun ds m P => ∃ A, ds = [tw A] ∧ A ≠ [] ∧ A.length ≤ 1000 ∧ ∀ l, 1 ≤ l → l ≤ A.length → Rnd A l → (∀ l', l' < l → ¬ Rnd A l') → P (tw (A.take l)) m
theorem ok__shortest_round (T : All K mg) : FnOk P w K mg base CX0 1 T.d__shortest_round.f T.d__shortest_round.fd ["again"] (spD K f_shortest) := by
  refine T.d__shortest_round.F.ok sc__shortest_round (fun vs H Q E h => sp_len (by intro ds m P f; obtain ⟨_, h⟩ := f; first | (obtain ⟨rfl, _⟩ := h; rfl) | (obtain ⟨_, rfl, _⟩ := h; rfl) | (obtain ⟨_, _, rfl, _⟩ := h; rfl) | (obtain ⟨_, _, _, rfl, _⟩ := h; rfl) | (obtain ⟨_, _, _, _, rfl, _⟩ := h; rfl) | (obtain ⟨_, _, _, _, _, rfl, _⟩ := h; rfl)) h) (fun cdv A outer s H vs Q E hr h => ?_)
  refine ⟨_, (pss_cons (ps_for PassesOwn.never rfl (pi_range2 (by rfl) T.z_range (pa_cons pe_int (pa_cons (pe_op op_add (pe_callB call_lenS (by rfl) T.z_len (by decide +kernel) (pa_cons (pv 0) pa_nil)) pe_int) pa_nil))) (pg_name (i := 1) sc__shortest_round.nd rfl (Or.inl rfl)) (pss_one (ps_if (PW.pt (pw_and (pt_cmpR op_eq (pe_op op_mod (pe_callB call_lenS (by rfl) T.z_len (by decide +kernel) (pa_cons (pv 0) pa_nil)) (pv 1)) pe_int (nomark _)) (pw_and1 (pt_cmpR (op_eqD hr.units) (pe_op op_repA (pe_slice sl_tupA (pv 0) po_none (po_some (pv 1))) (pe_op op_fdiv (pe_callB call_lenS (by rfl) T.z_len (by decide +kernel) (pa_cons (pv 0) pa_nil)) (pv 1))) (pv 0) (nomark _))))) (pss_one (ps_ret (pe_slice sl_tupA (pv 0) po_none (po_some (pv 1))))) pss_nil)))
      (pss_one (ps_ret (pv 0)))), body_of h fun ds m P f => ?_⟩
  try dsimp only [cxOf, Cx.nox, Cx.wish, Cx.blk]
  obtain ⟨A, rfl, hA, hz, p⟩ := f
  have hn : 0 < A.length := List.length_pos_iff.mpr hA
  walk_at "dl"
  refine s_forR2 ?_
  walk_at "dl"
  rw [wi_len]
  refine ⟨1, (A.length : Int) + 1, rfl, by omega, fun i ρ' m' => m' = m ∧ (∀ l', l' ≤ i → ¬ Rnd A l') ∧ ∃ v, ρ' = [some (tw A), v], ⟨rfl, fun l' h r => ?_, none, rfl⟩, ?_, ?_⟩
  · have := r.1
    omega
  · rintro i ρ' m' hi ⟨rfl, hr, v, rfl⟩
    walk_at "dl"
    rw [wi_len]
    refine rw_mod (by omega) ?_
    walk_at "dl"
    have el : ((1 : Int) + (i : Nat)).toNat = 1 + i := by omega
    have em : decide ((A.length : Int) % (1 + (i : Nat)) = 0) = decide (A.length % (1 + i) = 0) := by
      rw [emod_nat A.length (1 + i) _ (by omega)]
      exact decide_eq_decide.mpr (by omega)
    rw [em]
    have go : ∀ ρ2 m2, (m2 = m' ∧ (∀ l', l' ≤ i + 1 → ¬ Rnd A l') ∧ ∃ v, ρ2 = [some (tw A), v]) → True := fun _ _ _ => trivial
    refine if_d (fun hd => ?_) (fun hd => ?_)
    · walk_at "dl"
      rw [cut_to (by omega), el, wi_take, wi_len]
      refine rw_fdiv ⟨by omega, by omega⟩ ?_
      have tn : A.take (1 + i) ≠ [] := fun z => by
        have := congrArg List.length z
        rw [List.length_take, List.length_nil] at this
        omega
      have eq : ((A.length : Int) / (1 + (i : Nat))).toNat = A.length / (1 + i) := by
        rw [ediv_nat A.length (1 + i) _ (by omega), Int.toNat_natCast]
      have hq : (A.length : Int) / (1 + (i : Nat)) = ((A.length / (1 + i) : Nat) : Int) := ediv_nat A.length (1 + i) _ (by omega)
      have q1 : 1 ≤ A.length / (1 + i) := Nat.div_pos (by omega) (by omega)
      have q2 : A.length / (1 + i) ≤ 1000 := Nat.le_trans (Nat.div_le_self _ _) hz
      refine rw_rep (wi_ne tn) (by rw [hq]; omega) (by rw [hq]; omega) (by rw [wi_len, List.length_take]; omega) ?_
      rw [eq, wi_rep]
      walk_at "dl"
      refine rw_eqD (shp_tw _) (shp_tw _) ?_
      rw [eqD_tw]
      walk_at "dl"
      refine if_d (fun he => ?_) (fun he => ?_)
      · walk_at "dl"
        rw [cut_to (by omega), el, wi_take]
        exact p (1 + i) (by omega) (by omega) ((rnd_iff (by omega) (by omega)).mpr ⟨hd, he⟩) fun l' hl => hr l' (by omega)
      · walk_at "dl"
        refine ⟨rfl, fun l' hl r => ?_, _, rfl⟩
        by_cases c : l' ≤ i
        · exact hr l' c r
        · have e : l' = 1 + i := by omega
          subst e
          exact he ((rnd_iff (by omega) (by omega)).mp r).2
    · walk_at "dl"
      refine ⟨rfl, fun l' hl r => ?_, _, rfl⟩
      by_cases c : l' ≤ i
      · exact hr l' c r
      · have e : l' = 1 + i := by omega
        subst e
        exact hd r.2.1
  · rintro ρ' m' ⟨rfl, hr, v, rfl⟩
    exact absurd (rnd_self hA) (hr _ (by omega))
def f_normal : FW := fun ds m P => ∃ B A, ds = [rw_ B A] ∧ A ≠ [] ∧ A.length ≤ 1000 ∧ B.length ≤ 1000 ∧ ∀ B' A', NR (seq B A) B' A' → P (rw_ B' A') m
theorem last_app (l : List Int) (h : l ≠ []) : l = l.dropLast ++ [l.getD (l.length - 1) 0] := by
  have hn : 0 < l.length := List.length_pos_iff.mpr h
  conv => lhs; rw [← List.dropLast_concat_getLast h]
  congr 2
  rw [List.getLast_eq_getElem, List.getD_eq_getElem?_getD, List.getElem?_eq_getElem (by omega)]
  rfl
theorem drop_last1 (l : List Int) (h : l ≠ []) : l.drop (l.length - 1) = [l.getD (l.length - 1) 0] := by
  have hn : 0 < l.length := List.length_pos_iff.mpr h
  rw [List.drop_eq_getElem_cons (by omega), List.getD_eq_getElem?_getD, List.getElem?_eq_getElem (by omega)]
  have : l.length - 1 + 1 = l.length := by omega
  rw [this, List.drop_length]
  rfl
/-! ### the letters that the begin's end and the again have alike -/
def bkw (B : List Int) (k : Nat) : List Int := B.take (B.length - k)
def spn (A : List Int) (k : Nat) : List Int := A.drop (A.length - k % A.length) ++ A.take (A.length - k % A.length)
theorem spn_len {A : List Int} {k : Nat} : (spn A k).length = A.length := by
  unfold spn
  rw [List.length_append, List.length_drop, List.length_take]
  omega
theorem take_last (l : List Int) (n : Nat) (h : n < l.length) : l.take (n + 1) = l.take n ++ [l.getD n 0] := by
  rw [List.take_succ, List.getElem?_eq_getElem h, List.getD_eq_getElem?_getD, List.getElem?_eq_getElem h]
  rfl
theorem drop_first (l : List Int) (n : Nat) (h : n < l.length) : l.drop n = l.getD n 0 :: l.drop (n + 1) := by
  rw [List.drop_eq_getElem_cons h, List.getD_eq_getElem?_getD, List.getElem?_eq_getElem h]
  rfl
theorem spn_step {A : List Int} (k : Nat) (hA : A ≠ []) : ∃ X, spn A k = X ++ [A.getD (A.length - 1 - k % A.length) 0] ∧ spn A (k + 1) = A.getD (A.length - 1 - k % A.length) 0 :: X := by
  have hn : 0 < A.length := List.length_pos_iff.mpr hA
  have hr := Nat.mod_lt k hn
  have e1 : A.length - k % A.length = (A.length - 1 - k % A.length) + 1 := by omega
  refine ⟨A.drop (A.length - k % A.length) ++ A.take (A.length - 1 - k % A.length), ?_, ?_⟩
  · unfold spn
    conv => lhs; rw [show A.take (A.length - k % A.length) = A.take (A.length - 1 - k % A.length) ++ [A.getD (A.length - 1 - k % A.length) 0] by rw [e1]; exact take_last A _ (by omega)]
    rw [List.append_assoc]
  · unfold spn
    by_cases c : k % A.length + 1 < A.length
    · have e2 : (k + 1) % A.length = k % A.length + 1 := by rw [← Nat.mod_add_mod]; exact Nat.mod_eq_of_lt c
      have e3 : A.length - (k % A.length + 1) = A.length - 1 - k % A.length := by omega
      rw [e2, e3, drop_first A (A.length - 1 - k % A.length) (by omega), ← e1]
      rfl
    · have e0 : k % A.length + 1 = A.length := by omega
      have e2 : (k + 1) % A.length = 0 := by rw [← Nat.mod_add_mod, e0, Nat.mod_self]
      have e3 : A.length - 1 - k % A.length = 0 := by omega
      have e4 : A.length - k % A.length = 1 := by omega
      rw [e2, e3, e4, Nat.sub_zero, List.drop_length, List.take_length, List.take_zero, List.append_nil, List.nil_append]
      have := drop_first A 0 hn
      rwa [List.drop_zero] at this
theorem back_seq {B A : List Int} (hA : A ≠ []) : ∀ k, k ≤ B.length → (∀ j, j < k → B.getD (B.length - 1 - j) 0 = A.getD (A.length - 1 - j % A.length) 0) → seq (bkw B k) (spn A k) = seq B A
  | 0, _, _ => by
    unfold bkw spn
    rw [Nat.zero_mod, Nat.sub_zero, Nat.sub_zero, List.take_length, List.take_length, List.drop_length, List.nil_append]
  | k + 1, h, al => by
    rw [← back_seq hA k (by omega) fun j hj => al j (by omega)]
    obtain ⟨X, e1, e2⟩ := spn_step k hA
    have eb : bkw B k = bkw B (k + 1) ++ [A.getD (A.length - 1 - k % A.length) 0] := by
      unfold bkw
      have e : B.length - k = (B.length - (k + 1)) + 1 := by omega
      rw [e, take_last B _ (by omega), ← al k (by omega)]
      have e5 : B.length - (k + 1) = B.length - 1 - k := by omega
      rw [e5]
    rw [e1, e2, eb]
    exact (rot_seq _ _ _).symm
theorem back_nr {B A : List Int} {x : Nat → Int} {k : Nat} (hA : A ≠ []) (e : seq B A = x) (hp : ∀ m' s', 1 ≤ s' → Per x m' s' → A.length ≤ s') (hk : k ≤ B.length) (al : ∀ j, j < k → B.getD (B.length - 1 - j) 0 = A.getD (A.length - 1 - j % A.length) 0)
    (no : ¬ (k < B.length ∧ B.getD (B.length - 1 - k) 0 = A.getD (A.length - 1 - k % A.length) 0)) : NR x (bkw B k) (spn A k) := by
  have hn : 0 < A.length := List.length_pos_iff.mpr hA
  refine nr_of ((back_seq hA k hk al).trans e) (fun z => ?_) (fun m' s' a b => by rw [spn_len]; exact hp m' s' a b) ?_
  · have := congrArg List.length z
    rw [spn_len, List.length_nil] at this
    omega
  · by_cases c : k < B.length
    · right
      have no' := fun z => no ⟨c, z⟩
      obtain ⟨X, e1, _⟩ := spn_step k hA
      have l1 : (bkw B k).length = B.length - k := by unfold bkw; rw [List.length_take]; omega
      have g1 : (bkw B k).getD ((bkw B k).length - 1) 0 = B.getD (B.length - 1 - k) 0 := by
        rw [l1]
        unfold bkw
        have : B.length - k - 1 = B.length - 1 - k := by omega
        rw [this, List.getD_eq_getElem?_getD, List.getElem?_take_of_lt (by omega), ← List.getD_eq_getElem?_getD]
      have g2 : (spn A k).getD ((spn A k).length - 1) 0 = A.getD (A.length - 1 - k % A.length) 0 := by
        rw [e1, List.length_append, List.length_singleton, Nat.add_sub_cancel, List.getD_eq_getElem?_getD, List.getElem?_append_right (Nat.le_refl _), Nat.sub_self]
        rfl
      rw [g1, g2]
      exact no'
    · left
      have : B.length - k = 0 := by omega
      unfold bkw
      rw [this, List.take_zero]
theorem atI_wik {l : List Int} {k : Nat} (h : k < l.length) : atI (wi l) (-1 - (k : Int)) = some (.int (l.getD (l.length - 1 - k) 0)) := by
  unfold atI ixN
  rw [if_neg (by omega), wi_len, if_pos (by omega)]
  have e : ((-1 - (k : Int)) + (l.length : Int)).toNat = l.length - 1 - k := by omega
  show (wi l)[((-1 - (k : Int)) + (l.length : Int)).toNat]? = _
  rw [e]
  unfold wi
  rw [List.getElem?_map, List.getElem?_eq_getElem (by omega), List.getD_eq_getElem?_getD, List.getElem?_eq_getElem (by omega)]
  rfl
theorem TW.imp {K : PySem.W.Frag} {t : TT} {ρ : Ro} {μ : Mu} {P P' : Bool → Mu → Prop} (h : TW K t ρ μ P) (g : ∀ b m, P b m → P' b m) : TW K t ρ μ P' := fun A σ H s v Q q => h A σ H s v Q fun A' H' b m a c p => q A' H' b m a c (g b m p)
theorem ok_normal_of (T : All K mg) : FnOk P w K mg base CX0 2 T.d_normal_of.f T.d_normal_of.fd ["row"] (spD K f_normal) := by
  refine T.d_normal_of.F.ok sc_normal_of (fun vs H Q E h => sp_len (by intro ds m P f; obtain ⟨_, h⟩ := f; first | (obtain ⟨rfl, _⟩ := h; rfl) | (obtain ⟨_, rfl, _⟩ := h; rfl) | (obtain ⟨_, _, rfl, _⟩ := h; rfl) | (obtain ⟨_, _, _, rfl, _⟩ := h; rfl) | (obtain ⟨_, _, _, _, rfl, _⟩ := h; rfl) | (obtain ⟨_, _, _, _, _, rfl, _⟩ := h; rfl)) h) (fun cdv A outer s H vs Q E hr h => ?_)
  refine ⟨_, (pss_cons (ps_asg (pv 0) (pg_tup (by rfl) (pgs_cons (pg_name (i := 1) sc_normal_of.nd rfl (Or.inl rfl)) (pgs_cons (pg_name (i := 2) sc_normal_of.nd rfl (Or.inl rfl)) pgs_nil))))
      (pss_cons (ps_set (i := 2) sc_normal_of.nd rfl (Or.inl rfl) (pe_call (ok__shortest_round T) (hr.mono (by decide)) rfl T.d__shortest_round.g T.d__shortest_round.F.kp T.d__shortest_round.b .nil pass0 (pa_cons (pv 2) pa_nil)))
      (pss_cons (ps_set (i := 3) sc_normal_of.nd rfl (Or.inl rfl) pe_int)
      (pss_cons (ps_while PassesOwn.never (PW.pt (pw_and (pt_cmpR op_lt (pv 3) (pe_callB call_lenS (by rfl) T.z_len (by decide +kernel) (pa_cons (pv 1) pa_nil)) (nomark _)) (pw_and1 (pt_cmpR op_eq (pe_ix ix_tup (pv 1) (pe_op op_sub (pe_un un_neg pe_int) (pv 3)) (fun _ _ => rfl)) (pe_ix ix_tup (pv 2) (pe_op op_sub (pe_un un_neg pe_int) (pe_op op_mod (pv 3) (pe_callB call_lenS (by rfl) T.z_len (by decide +kernel) (pa_cons (pv 2) pa_nil)))) (fun _ _ => rfl)) (nomark _))))) (pss_one (ps_aug (i := 3) sc_normal_of.nd rfl (Or.inl rfl) pe_int ip_add)))
      (pss_cons (ps_set (i := 4) sc_normal_of.nd rfl (Or.inl rfl) (pe_op op_mod (pv 3) (pe_callB call_lenS (by rfl) T.z_len (by decide +kernel) (pa_cons (pv 2) pa_nil))))
      (pss_one (ps_ret (pe_tup (pa_cons (pe_slice sl_tupA (pv 1) po_none (po_some (pe_op op_sub (pe_callB call_lenS (by rfl) T.z_len (by decide +kernel) (pa_cons (pv 1) pa_nil)) (pv 3)))) (pa_cons (pe_op op_catA (pe_slice sl_tupA (pv 2) (po_some (pe_op op_sub (pe_callB call_lenS (by rfl) T.z_len (by decide +kernel) (pa_cons (pv 2) pa_nil)) (pv 4))) po_none) (pe_slice sl_tupA (pv 2) po_none (po_some (pe_op op_sub (pe_callB call_lenS (by rfl) T.z_len (by decide +kernel) (pa_cons (pv 2) pa_nil)) (pv 4))))) pa_nil)))))))))), body_of h fun ds m P f => ?_⟩
  try dsimp only [cxOf, Cx.nox, Cx.wish, Cx.blk]
  obtain ⟨B, A, rfl, hA, hz, hb, p⟩ := f
  walk_at "dl"
  refine ⟨A, rfl, hA, hz, fun l h1 h2 hr hl => ?_⟩
  walk_at "dl"
  have hp : ∀ m' s', 1 ≤ s' → Per (seq B A) m' s' → l ≤ s' := fun m' s' hs h => least_round hA hl hs h
  have tl : (A.take l).length = l := by rw [List.length_take]; omega
  have e0 : seq B (A.take l) = seq B A := seq_rnd hr hA h2
  have lz : l ≤ 1000 := by omega
  generalize A.take l = A1 at tl e0
  have na : A1 ≠ [] := fun z => by rw [z] at tl; simp at tl; omega
  have nl : 0 < A1.length := List.length_pos_iff.mpr na
  refine s_while (fun n ρ' m' => m' = m ∧ ∃ (k : Nat) (v : Option Dat), ρ' = [some (rw_ B A), some (tw B), some (tw A1), some (.int (k : Nat)), v] ∧ k ≤ B.length ∧ n = B.length - k ∧ ∀ j, j < k → B.getD (B.length - 1 - j) 0 = A1.getD (A1.length - 1 - j % A1.length) 0)
    ⟨_, rfl, 0, none, rfl, Nat.zero_le _, rfl, fun j h => absurd h (Nat.not_lt_zero j)⟩ ?_
  rintro n ρ' m' ⟨rfl, k, v, rfl, hk, rfl, al⟩
  refine TW.imp (P := fun b m2 => m2 = m' ∧ (b = true ↔ (k < B.length ∧ B.getD (B.length - 1 - k) 0 = A1.getD (A1.length - 1 - k % A1.length) 0))) ?_ ?_
  · walk_at "dl"
    rw [wi_len]
    refine if_d (fun hlt => ?_) (fun hge => ?_)
    · walk_at "dl"
      refine rw_ixT (atI_wik (by omega)) ?_
      walk_at "dl"
      rw [wi_len]
      refine rw_mod (by omega) ?_
      walk_at "dl"
      have kl := Nat.mod_lt k nl
      rw [emod_nat k A1.length _ rfl]
      refine rw_ixT (atI_wik kl) ?_
      walk_at "dl"
      refine ⟨rfl, ?_⟩
      rw [decide_eq_true_iff]
      exact ⟨fun z => ⟨by omega, z⟩, fun z => z.2⟩
    · refine ⟨rfl, fun z => (Bool.false_ne_true z).elim, fun z => absurd z.1 (by omega)⟩
  · rintro b m2 ⟨rfl, hb⟩
    refine if_b (fun h => ?_) (fun h => ?_)
    · obtain ⟨c1, c2⟩ := hb.mp h
      refine s_aug rfl ?_
      walk_at "dl"
      refine ⟨B.length - (k + 1), by omega, rfl, k + 1, v, rfl, by omega, rfl, fun j hj => ?_⟩
      by_cases c : j < k
      · exact al j c
      · have : j = k := by omega
        rw [this]; exact c2
    · have no : ¬ (k < B.length ∧ B.getD (B.length - 1 - k) 0 = A1.getD (A1.length - 1 - k % A1.length) 0) := fun z => by
        rw [hb.mpr z] at h
        cases h
      have fin := back_nr na e0 (fun m' s' a b => by rw [tl]; exact hp m' s' a b) hk al no
      have kl := Nat.mod_lt k nl
      walk_at "dl"
      rw [wi_len]
      refine rw_mod (by omega) ?_
      walk_at "dl"
      rw [emod_nat k A1.length _ rfl]
      have e1 : ((B.length : Int) - (k : Int)).toNat = B.length - k := by omega
      have e2 : ((A1.length : Int) - ((k % A1.length : Nat) : Int)).toNat = A1.length - k % A1.length := by omega
      have c1 : cut (wi A1) (some ((A1.length : Int) - ((k % A1.length : Nat) : Int))) none = wi (A1.drop (A1.length - k % A1.length)) := by rw [cut_from (by omega), wi_drop, e2]
      have c2 : cut (wi A1) none (some ((A1.length : Int) - ((k % A1.length : Nat) : Int))) = wi (A1.take (A1.length - k % A1.length)) := by rw [cut_to (by omega), wi_take, e2]
      have c3 : cut (wi B) none (some ((B.length : Int) - (k : Int))) = wi (B.take (B.length - k)) := by rw [cut_to (by omega), wi_take, e1]
      simp only [wi_len]
      rw [c1, c2]
      refine rw_cat (by rw [wi_len, wi_len, List.length_drop, List.length_take, sizeLine_eq]; omega) ?_
      rw [wi_app, c3]
      walk_at "dl"
      exact p _ _ fin
def f_normal_row : FW := fun ds m P => ∃ B A, ds = [rw_ B A] ∧ Ok 4 B A ∧ ∀ B' A', NR (seq B A) B' A' → P (rw_ B' A') m
theorem ok_normal_row (T : All K mg) : FnOk P w K mg base CX0 7 T.d_normal_row.f T.d_normal_row.fd ["row"] (spD K f_normal_row) := by
  refine T.d_normal_row.F.ok sc_normal_row (fun vs H Q E h => sp_len (by intro ds m P f; obtain ⟨_, h⟩ := f; first | (obtain ⟨rfl, _⟩ := h; rfl) | (obtain ⟨_, rfl, _⟩ := h; rfl) | (obtain ⟨_, _, rfl, _⟩ := h; rfl) | (obtain ⟨_, _, _, rfl, _⟩ := h; rfl) | (obtain ⟨_, _, _, _, rfl, _⟩ := h; rfl) | (obtain ⟨_, _, _, _, _, rfl, _⟩ := h; rfl)) h) (fun cdv A outer s H vs Q E hr h => ?_)
  refine ⟨_, (pss_cons (ps_expr (pe_call (ok_check_row T) (hr.mono (by decide)) rfl T.d_check_row.g T.d_check_row.F.kp T.d_check_row.b .nil pass0 (pa_cons (pe_glob (v := .int 4) rfl T.c_MOST_LETTERS.choose_spec.1 T.c_MOST_LETTERS.choose_spec.2) (pa_cons (pv 0) pa_nil))))
      (pss_one (ps_ret (pe_call (ok_normal_of T) (hr.mono (by decide)) rfl T.d_normal_of.g T.d_normal_of.F.kp T.d_normal_of.b .nil pass0 (pa_cons (pv 0) pa_nil))))), body_of h fun ds m P f => ?_⟩
  try dsimp only [cxOf, Cx.nox, Cx.wish, Cx.blk]
  obtain ⟨B, A, rfl, h, p⟩ := f
  have l1 := h.la
  have l2 := h.lb
  walk_at "dl"
  refine ⟨4, B, A, rfl, h, ?_⟩
  walk_at "dl"
  exact ⟨B, A, rfl, h.ne, by omega, by omega, p⟩
def f_are_same : FW := fun ds m P => ∃ B A B' A', ds = [rw_ B A, rw_ B' A'] ∧ Ok 4 B A ∧ Ok 4 B' A' ∧ ∀ b : Bool, (b = true ↔ ∀ i, seq B A i = seq B' A' i) → P (.bl b) m
theorem ok_are_same (T : All K mg) : FnOk P w K mg base CX0 7 T.d_are_same.f T.d_are_same.fd ["row", "other"] (spD K f_are_same) := by
  refine T.d_are_same.F.ok sc_are_same (fun vs H Q E h => sp_len (by intro ds m P f; obtain ⟨_, h⟩ := f; first | (obtain ⟨rfl, _⟩ := h; rfl) | (obtain ⟨_, rfl, _⟩ := h; rfl) | (obtain ⟨_, _, rfl, _⟩ := h; rfl) | (obtain ⟨_, _, _, rfl, _⟩ := h; rfl) | (obtain ⟨_, _, _, _, rfl, _⟩ := h; rfl) | (obtain ⟨_, _, _, _, _, rfl, _⟩ := h; rfl)) h) (fun cdv A outer s H vs Q E hr h => ?_)
  refine ⟨_, (pss_cons (ps_expr (pe_call (ok_check_row T) (hr.mono (by decide)) rfl T.d_check_row.g T.d_check_row.F.kp T.d_check_row.b .nil pass0 (pa_cons (pe_glob (v := .int 4) rfl T.c_MOST_LETTERS.choose_spec.1 T.c_MOST_LETTERS.choose_spec.2) (pa_cons (pv 0) pa_nil))))
      (pss_cons (ps_expr (pe_call (ok_check_row T) (hr.mono (by decide)) rfl T.d_check_row.g T.d_check_row.F.kp T.d_check_row.b .nil pass0 (pa_cons (pe_glob (v := .int 4) rfl T.c_MOST_LETTERS.choose_spec.1 T.c_MOST_LETTERS.choose_spec.2) (pa_cons (pv 1) pa_nil))))
      (pss_one (ps_ret (pe_cmpR (op_eqD hr.units) (pe_call (ok_normal_of T) (hr.mono (by decide)) rfl T.d_normal_of.g T.d_normal_of.F.kp T.d_normal_of.b .nil pass0 (pa_cons (pv 0) pa_nil)) (pe_call (ok_normal_of T) (hr.mono (by decide)) rfl T.d_normal_of.g T.d_normal_of.F.kp T.d_normal_of.b .nil pass0 (pa_cons (pv 1) pa_nil)) (nomark _)))))), body_of h fun ds m P f => ?_⟩
  try dsimp only [cxOf, Cx.nox, Cx.wish, Cx.blk]
  obtain ⟨B, A, B', A', rfl, h, h', p⟩ := f
  have l1 := h.la
  have l2 := h.lb
  have l3 := h'.la
  have l4 := h'.lb
  walk_at "dl"
  refine ⟨4, B, A, rfl, h, ?_⟩
  walk_at "dl"
  refine ⟨4, B', A', rfl, h', ?_⟩
  walk_at "dl"
  refine ⟨B, A, rfl, h.ne, by omega, by omega, fun B1 A1 n1 => ?_⟩
  walk_at "dl"
  refine ⟨B', A', rfl, h'.ne, by omega, by omega, fun B2 A2 n2 => ?_⟩
  refine rw_eqD (shp_row _ _) (shp_row _ _) ?_
  refine p _ ?_
  rw [eqD_row, decide_eq_true_iff]
  exact nr_same n1 n2
/-! ### first unlike places -/
def opD : Option Nat → Dat
  | none => .non
  | some p => .int (p : Nat)
def f_first : FW := fun ds m P => ∃ B A B' A', ds = [rw_ B A, rw_ B' A'] ∧ Ok 4 B A ∧ Ok 4 B' A' ∧ ∀ o, FD (seq B A) (seq B' A') o → P (opD o) m
theorem mx (a b : Nat) : (if (b : Int) > (a : Int) then (b : Int) else (a : Int)) = ((max a b : Nat) : Int) := by
  by_cases h : (b : Int) > (a : Int)
  · rw [if_pos h]; omega
  · rw [if_neg h]; omega
theorem ok_first_unlike (T : All K mg) : FnOk P w K mg base CX0 7 T.d_first_unlike.f T.d_first_unlike.fd ["row", "other"] (spD K f_first) := by
  refine T.d_first_unlike.F.ok sc_first_unlike (fun vs H Q E h => sp_len (by intro ds m P f; obtain ⟨_, h⟩ := f; first | (obtain ⟨rfl, _⟩ := h; rfl) | (obtain ⟨_, rfl, _⟩ := h; rfl) | (obtain ⟨_, _, rfl, _⟩ := h; rfl) | (obtain ⟨_, _, _, rfl, _⟩ := h; rfl) | (obtain ⟨_, _, _, _, rfl, _⟩ := h; rfl) | (obtain ⟨_, _, _, _, _, rfl, _⟩ := h; rfl)) h) (fun cdv A outer s H vs Q E hr h => ?_)
  refine ⟨_, (pss_cons (ps_expr (pe_call (ok_check_row T) (hr.mono (by decide)) rfl T.d_check_row.g T.d_check_row.F.kp T.d_check_row.b .nil pass0 (pa_cons (pe_glob (v := .int 4) rfl T.c_MOST_LETTERS.choose_spec.1 T.c_MOST_LETTERS.choose_spec.2) (pa_cons (pv 0) pa_nil))))
      (pss_cons (ps_expr (pe_call (ok_check_row T) (hr.mono (by decide)) rfl T.d_check_row.g T.d_check_row.F.kp T.d_check_row.b .nil pass0 (pa_cons (pe_glob (v := .int 4) rfl T.c_MOST_LETTERS.choose_spec.1 T.c_MOST_LETTERS.choose_spec.2) (pa_cons (pv 1) pa_nil))))
      (pss_cons (ps_set (i := 2) sc_first_unlike.nd rfl (Or.inl rfl) (pe_op op_add (pe_op op_add (pe_callB (call_max2' rfl) (by rfl) T.z_max (by decide +kernel) (pa_cons (pe_callB call_lenS (by rfl) T.z_len (by decide +kernel) (pa_cons (pe_ix ix_tup (pv 0) pe_int (fun _ _ => rfl)) pa_nil)) (pa_cons (pe_callB call_lenS (by rfl) T.z_len (by decide +kernel) (pa_cons (pe_ix ix_tup (pv 1) pe_int (fun _ _ => rfl)) pa_nil)) pa_nil))) (pe_callB call_lenS (by rfl) T.z_len (by decide +kernel) (pa_cons (pe_ix ix_tup (pv 0) pe_int (fun _ _ => rfl)) pa_nil))) (pe_callB call_lenS (by rfl) T.z_len (by decide +kernel) (pa_cons (pe_ix ix_tup (pv 1) pe_int (fun _ _ => rfl)) pa_nil))))
      (pss_cons (ps_for PassesOwn.never rfl (pi_range1 (by rfl) T.z_range (pa_cons (pv 2) pa_nil)) (pg_name (i := 3) sc_first_unlike.nd rfl (Or.inl rfl)) (pss_one (ps_if (pt_cmpR op_ne (pe_call (ok__letter T) (hr.mono (by decide)) rfl T.d__letter.g T.d__letter.F.kp T.d__letter.b .nil pass0 (pa_cons (pv 0) (pa_cons (pv 3) pa_nil))) (pe_call (ok__letter T) (hr.mono (by decide)) rfl T.d__letter.g T.d__letter.F.kp T.d__letter.b .nil pass0 (pa_cons (pv 1) (pa_cons (pv 3) pa_nil))) (nomark _)) (pss_one (ps_ret (pv 3))) pss_nil)))
      (pss_one (ps_ret pe_non)))))), body_of h fun ds m P f => ?_⟩
  try dsimp only [cxOf, Cx.nox, Cx.wish, Cx.blk]
  obtain ⟨B, A, B', A', rfl, h, h', p⟩ := f
  have l1 := h.la
  have l2 := h.lb
  have l3 := h'.la
  have l4 := h'.lb
  have n1 : 0 < A.length := List.length_pos_iff.mpr h.ne
  have n2 : 0 < A'.length := List.length_pos_iff.mpr h'.ne
  walk_at "dl"
  refine ⟨4, B, A, rfl, h, ?_⟩
  walk_at "dl"
  refine ⟨4, B', A', rfl, h', ?_⟩
  walk_at "dl"
  rw [wi_len, wi_len, wi_len, wi_len, mx]
  refine s_forR1 ?_
  walk_at "dl"
  have en : (((max B.length B'.length : Nat) : Int) + (A.length : Int) + (A'.length : Int)).toNat = max B.length B'.length + A.length + A'.length := by omega
  refine ⟨_, rfl, by omega, by omega, fun i ρ' m' => m' = m ∧ (∀ j, j < i → seq B A j = seq B' A' j) ∧ ∃ e v, ρ' = [some (rw_ B A), some (rw_ B' A'), e, v], ⟨rfl, fun j hj => absurd hj (Nat.not_lt_zero j), _, _, rfl⟩, ?_, ?_⟩
  · rintro i ρ' m' hi ⟨rfl, hr, e, v, rfl⟩
    walk_at "dl"
    refine ⟨B, A, _, rfl, h.ne, by omega, ?_⟩
    walk_at "dl"
    refine ⟨B', A', _, rfl, h'.ne, by omega, ?_⟩
    walk_at "dl"
    rw [Int.toNat_natCast]
    refine if_nd (fun hd => ?_) (fun hd => ?_)
    · walk_at "dl"
      exact p (some i) ⟨hd, hr⟩
    · walk_at "dl"
      refine ⟨rfl, fun j hj => ?_, _, _, rfl⟩
      by_cases c : j < i
      · exact hr j c
      · have : j = i := by omega
        rw [this]; exact hd
  · rintro ρ' m' ⟨rfl, hr, e, v, rfl⟩
    rw [en] at hr
    walk_at "dl"
    refine p none ?_
    exact agree_sum (per_more per_seq (by omega)) (per_more per_seq (by omega)) n1 n2 hr
/-! ### turned on -/
def f_turned : FW := fun ds m P => ∃ B A k, ds = [rw_ B A, .int k] ∧ Ok 4 B A ∧ 0 ≤ k ∧ k ≤ 999999 ∧ ∀ B' A', NR (fun i => seq B A (i + k.toNat)) B' A' → P (rw_ B' A') m
theorem ok_turned_on (T : All K mg) : FnOk P w K mg base CX0 7 T.d_turned_on.f T.d_turned_on.fd ["row", "many"] (spD K f_turned) := by
  refine T.d_turned_on.F.ok sc_turned_on (fun vs H Q E h => sp_len (by intro ds m P f; obtain ⟨_, h⟩ := f; first | (obtain ⟨rfl, _⟩ := h; rfl) | (obtain ⟨_, rfl, _⟩ := h; rfl) | (obtain ⟨_, _, rfl, _⟩ := h; rfl) | (obtain ⟨_, _, _, rfl, _⟩ := h; rfl) | (obtain ⟨_, _, _, _, rfl, _⟩ := h; rfl) | (obtain ⟨_, _, _, _, _, rfl, _⟩ := h; rfl)) h) (fun cdv A outer s H vs Q E hr h => ?_)
  refine ⟨_, (pss_cons (ps_expr (pe_call (ok_check_row T) (hr.mono (by decide)) rfl T.d_check_row.g T.d_check_row.F.kp T.d_check_row.b .nil pass0 (pa_cons (pe_glob (v := .int 4) rfl T.c_MOST_LETTERS.choose_spec.1 T.c_MOST_LETTERS.choose_spec.2) (pa_cons (pv 0) pa_nil))))
      (pss_cons (ps_expr (pe_call (ok_check_many T) (hr.mono (by decide)) rfl T.d_check_many.g T.d_check_many.F.kp T.d_check_many.b .nil pass0 (pa_cons (pv 1) (pa_cons (pe_glob (v := .int 999999) rfl T.c_FARTHEST.choose_spec.1 T.c_FARTHEST.choose_spec.2) pa_nil))))
      (pss_cons (ps_asg (pv 0) (pg_tup (by rfl) (pgs_cons (pg_name (i := 2) sc_turned_on.nd rfl (Or.inl rfl)) (pgs_cons (pg_name (i := 3) sc_turned_on.nd rfl (Or.inl rfl)) pgs_nil))))
      (pss_cons (ps_if (pt_cmpR op_le (pv 1) (pe_callB call_lenS (by rfl) T.z_len (by decide +kernel) (pa_cons (pv 2) pa_nil)) (nomark _)) (pss_one (ps_ret (pe_call (ok_normal_of T) (hr.mono (by decide)) rfl T.d_normal_of.g T.d_normal_of.F.kp T.d_normal_of.b .nil pass0 (pa_cons (pe_tup (pa_cons (pe_slice sl_tupA (pv 2) (po_some (pv 1)) po_none) (pa_cons (pv 3) pa_nil))) pa_nil)))) pss_nil)
      (pss_cons (ps_set (i := 4) sc_turned_on.nd rfl (Or.inl rfl) (pe_op op_mod (pe_op op_sub (pv 1) (pe_callB call_lenS (by rfl) T.z_len (by decide +kernel) (pa_cons (pv 2) pa_nil))) (pe_callB call_lenS (by rfl) T.z_len (by decide +kernel) (pa_cons (pv 3) pa_nil))))
      (pss_one (ps_ret (pe_call (ok_normal_of T) (hr.mono (by decide)) rfl T.d_normal_of.g T.d_normal_of.F.kp T.d_normal_of.b .nil pass0 (pa_cons (pe_tup (pa_cons (pe_tup pa_nil) (pa_cons (pe_op op_catA (pe_slice sl_tupA (pv 3) (po_some (pv 4)) po_none) (pe_slice sl_tupA (pv 3) po_none (po_some (pv 4)))) pa_nil))) pa_nil))))))))), body_of h fun ds m P f => ?_⟩
  try dsimp only [cxOf, Cx.nox, Cx.wish, Cx.blk]
  obtain ⟨B, A, k, rfl, h, h1, h2, p⟩ := f
  have l1 := h.la
  have l2 := h.lb
  have n1 : 0 < A.length := List.length_pos_iff.mpr h.ne
  walk_at "dl"
  refine ⟨4, B, A, rfl, h, ?_⟩
  walk_at "dl"
  refine ⟨k, 999999, rfl, h1, h2, ?_⟩
  walk_at "dl"
  rw [wi_len]
  refine if_d (fun hk => ?_) (fun hk => ?_)
  · walk_at "dl"
    rw [cut_from h1, wi_drop]
    refine ⟨B.drop k.toNat, A, rfl, h.ne, by omega, by rw [List.length_drop]; omega, fun B' A' n => ?_⟩
    rw [drop_seq B A k.toNat (by omega)] at n
    exact p B' A' n
  · walk_at "dl"
    rw [wi_len, wi_len]
    refine rw_mod (by omega) ?_
    walk_at "dl"
    have ek : k - (B.length : Int) = ((k.toNat - B.length : Nat) : Int) := by omega
    rw [ek, emod_nat _ A.length _ rfl]
    have gl : (k.toNat - B.length) % A.length < A.length := Nat.mod_lt _ n1
    rw [cut_from (by omega), cut_to (by omega), Int.toNat_natCast, wi_drop, wi_take]
    refine rw_cat (by rw [wi_len, wi_len, List.length_drop, List.length_take, sizeLine_eq]; omega) ?_
    rw [wi_app]
    walk_at "dl"
    have sp := spin_seq B A k.toNat _ (by omega) h.ne rfl
    refine ⟨[], A.drop ((k.toNat - B.length) % A.length) ++ A.take ((k.toNat - B.length) % A.length), rfl, fun z => ?_, by rw [List.length_append, List.length_drop, List.length_take]; omega, by simp, fun B' A' n => ?_⟩
    · have := congrArg List.length z
      rw [List.length_append, List.length_drop, List.length_take, List.length_nil] at this
      omega
    · rw [sp] at n
      exact p B' A' n
end
end L11
namespace L11
open PySem PySem.Spec PyProof.Rows L2 DL KM
section
variable {P : Program} {w : World} {K : PySem.W.Frag} {mg : Str → Option Value} {base : Heap}
/- one rule a construct; what asks for a fact is left -/
local macro_rules | `(tactic| walk_at "dl") => `(tactic| repeat (first
  | ((with_reducible refine' ew_var ?hv ?_); (case hv => exact rfl))
  | with_reducible refine ew_int ?_
  | with_reducible refine ew_bl ?_
  | with_reducible refine ew_non ?_
  | with_reducible refine ew_str ?_
  | with_reducible refine aw_nil ?_
  | with_reducible refine aw_cons ?_
  | with_reducible refine ew_isi ?_
  | with_reducible refine ew_isi2 ?_
  | with_reducible refine ew_op ?_
  | with_reducible refine ew_un ?_
  | with_reducible refine uw_neg ?_
  | with_reducible refine ew_cb ?_
  | with_reducible refine ew_call ?_
  | with_reducible refine ew_k01 ?_
  | with_reducible refine ew_k02 ?_
  | with_reducible refine ew_k02s ?_
  | with_reducible refine ew_chain ?_
  | with_reducible refine ew_andV ?_
  | with_reducible refine ew_orV ?_
  | with_reducible refine ew_notV ?_
  | with_reducible refine ew_if ?_
  | with_reducible refine ew_slT ?_
  | with_reducible refine ew_slL ?_
  | with_reducible refine ow_none ?_
  | with_reducible refine ow_some ?_
  | with_reducible refine tw_test ?_
  | with_reducible refine tw_B ?_
  | with_reducible refine tw_and ?_
  | with_reducible refine tw_or ?_
  | with_reducible refine tw_not ?_
  | with_reducible refine tw_tru ?_
  | with_reducible refine s_seq ?_
  | with_reducible refine s_set ?_
  | with_reducible refine s_asg ?_
  | with_reducible refine s_ret ?_
  | with_reducible refine s_retN ?_
  | with_reducible refine s_if ?_
  | with_reducible refine s_drop ?_
  | with_reducible refine s_par ?_
  | with_reducible refine s_next ?_
  | with_reducible refine gw_tup rfl ?_
  | with_reducible refine gs_cons ?_
  | with_reducible refine gs_nil ?_
  | with_reducible refine gw_name ?_
  | with_reducible refine rw_add ?_
  | with_reducible refine rw_sub ?_
  | with_reducible refine rw_lt ?_
  | with_reducible refine rw_le ?_
  | with_reducible refine rw_gt ?_
  | with_reducible refine rw_ge ?_
  | with_reducible refine rw_eqI ?_
  | with_reducible refine rw_neI ?_
  | with_reducible refine rw_eqB ?_
  | with_reducible refine rw_neS ?_
  | with_reducible refine rw_isN ?_
  | with_reducible refine rw_notN ?_
  | with_reducible refine rw_isB ?_
  | with_reducible refine rw_notB ?_
  | ((with_reducible refine' rw_ixT ?hi ?_); (case hi => exact rfl))
  | ((with_reducible refine' rw_ixL ?hi ?_); (case hi => exact rfl))
  | with_reducible refine cw_lenT ?_
  | with_reducible refine cw_lenL ?_
  | with_reducible refine cw_tupL ?_
  | with_reducible refine cw_max2 ?_
  | with_reducible refine cw_abs ?_
  | with_reducible refine cw_int1 ?_
  | with_reducible refine leaf_bl ?_
  | with_reducible refine leaf_int ?_
  | with_reducible refine leaf_tup ?_
  | with_reducible refine leaf_lst ?_
  | with_reducible refine leaf_two ?_
  | with_reducible refine ew_tup ?_
  | with_reducible refine sz0 ?_
  | with_reducible refine sz1 ?_
  | with_reducible refine sz2 ?_
  | with_reducible refine sz3 ?_
  | with_reducible refine sz4 ?_
  | with_reducible refine if_t ?_
  | with_reducible refine if_f ?_
  | with_reducible refine if_nt ?_
  | with_reducible refine if_nf ?_))
/- one rule a construct; what asks for a fact is left -/
local macro_rules | `(tactic| walk_at "de") => `(tactic| repeat (first
  | ((with_reducible refine' ew_var ?hv ?_); (case hv => exact rfl))
  | with_reducible refine ew_int ?_
  | with_reducible refine ew_bl ?_
  | with_reducible refine ew_non ?_
  | with_reducible refine ew_str ?_
  | with_reducible refine aw_nil ?_
  | with_reducible refine aw_cons ?_
  | with_reducible refine ew_isi ?_
  | with_reducible refine ew_isi2 ?_
  | with_reducible refine ew_op ?_
  | with_reducible refine ew_un ?_
  | with_reducible refine uw_neg ?_
  | with_reducible refine ew_cb ?_
  | with_reducible refine ew_call ?_
  | with_reducible refine ew_k01 ?_
  | with_reducible refine ew_k02 ?_
  | with_reducible refine ew_k02s ?_
  | with_reducible refine ew_chain ?_
  | with_reducible refine ew_andV ?_
  | with_reducible refine ew_orV ?_
  | with_reducible refine ew_notV ?_
  | with_reducible refine ew_if ?_
  | with_reducible refine ew_slT ?_
  | with_reducible refine ew_slL ?_
  | with_reducible refine ow_none ?_
  | with_reducible refine ow_some ?_
  | with_reducible refine tw_test ?_
  | with_reducible refine tw_B ?_
  | with_reducible refine tw_and ?_
  | with_reducible refine tw_or ?_
  | with_reducible refine tw_not ?_
  | with_reducible refine tw_tru ?_
  | with_reducible refine gw_tup rfl ?_
  | with_reducible refine gs_cons ?_
  | with_reducible refine gs_nil ?_
  | with_reducible refine gw_name ?_
  | with_reducible refine rw_add ?_
  | with_reducible refine rw_sub ?_
  | with_reducible refine rw_lt ?_
  | with_reducible refine rw_le ?_
  | with_reducible refine rw_gt ?_
  | with_reducible refine rw_ge ?_
  | with_reducible refine rw_eqI ?_
  | with_reducible refine rw_neI ?_
  | with_reducible refine rw_eqB ?_
  | with_reducible refine rw_neS ?_
  | with_reducible refine rw_isN ?_
  | with_reducible refine rw_notN ?_
  | with_reducible refine rw_isB ?_
  | with_reducible refine rw_notB ?_
  | ((with_reducible refine' rw_ixT ?hi ?_); (case hi => exact rfl))
  | ((with_reducible refine' rw_ixL ?hi ?_); (case hi => exact rfl))
  | with_reducible refine cw_lenT ?_
  | with_reducible refine cw_lenL ?_
  | with_reducible refine cw_tupL ?_
  | with_reducible refine cw_max2 ?_
  | with_reducible refine cw_abs ?_
  | with_reducible refine cw_int1 ?_
  | with_reducible refine leaf_bl ?_
  | with_reducible refine leaf_int ?_
  | with_reducible refine leaf_tup ?_
  | with_reducible refine leaf_lst ?_
  | with_reducible refine leaf_two ?_
  | with_reducible refine ew_tup ?_
  | with_reducible refine sz0 ?_
  | with_reducible refine sz1 ?_
  | with_reducible refine sz2 ?_
  | with_reducible refine sz3 ?_
  | with_reducible refine sz4 ?_
  | with_reducible refine if_t ?_
  | with_reducible refine if_f ?_
  | with_reducible refine if_nt ?_
  | with_reducible refine if_nf ?_))

/-! ### draws -/
def Pot (m : Mu) (k : Nat) : Prop := ∃ a b : Int, m[k]? = some (some [.int a, .int b]) ∧ 0 ≤ a ∧ 0 ≤ b ∧ b < 4294967296
def f_draw : FW := fun ds m P => ∃ k s, ds = [.cell k, .int s] ∧ Pot m k ∧ 1 ≤ s ∧ s ≤ 1000 ∧ ∀ m' v, Pot m' k → 0 ≤ v → v < s → P (.int v) m'
theorem set_at {m : Mu} {k : Nat} {xs ys : List Dat} (h : m[k]? = some (some xs)) : (m.set k (some ys))[k]? = some (some ys) := List.getElem?_set_self (List.getElem?_eq_some_iff.mp h).1
theorem ok__law_draw (T : All K mg) : FnOk P w K mg base CX0 1 T.d__law_draw.f T.d__law_draw.fd ["_law_pot_here", "_law_size"] (spD K f_draw) := by
  refine T.d__law_draw.F.ok sc__law_draw (fun vs H Q E h => sp_len (by intro ds m P f; obtain ⟨_, h⟩ := f; first | (obtain ⟨rfl, _⟩ := h; rfl) | (obtain ⟨_, rfl, _⟩ := h; rfl) | (obtain ⟨_, _, rfl, _⟩ := h; rfl) | (obtain ⟨_, _, _, rfl, _⟩ := h; rfl) | (obtain ⟨_, _, _, _, rfl, _⟩ := h; rfl) | (obtain ⟨_, _, _, _, _, rfl, _⟩ := h; rfl)) h) (fun cdv A outer s H vs Q E hr h => ?_)
  refine ⟨_, (pss_cons (ps_if (pt_cmpR op_gt (pe_ix ix_list (pv 0) pe_int (fun _ _ => rfl)) pe_int (nomark _)) (pss_cons (ps_asg (pe_callB call_dm (by rfl) T.z_divmod (by decide +kernel) (pa_cons (pe_ix ix_list (pv 0) pe_int (fun _ _ => rfl)) (pa_cons (pv 1) pa_nil))) (pg_tup (by rfl) (pgs_cons (pg_sub (pv 0) pe_int set_list) (pgs_cons (pg_name (i := 2) sc__law_draw.nd rfl (Or.inl rfl)) pgs_nil))))
      (pss_one (ps_ret (pv 2)))) pss_nil)
      (pss_cons (ps_asg (pe_op op_mod (pe_callTy call_int1' (by rfl) T.z_int (by decide +kernel) (pa_cons (pe_op op_add (pe_op op_mul (pe_ix ix_list (pv 0) pe_int (fun _ _ => rfl)) pe_int) pe_int) pa_nil)) pe_int) (pg_sub (pv 0) pe_int set_list))
      (pss_one (ps_ret (pe_op op_mod (pe_callTy call_int1' (by rfl) T.z_int (by decide +kernel) (pa_cons (pe_op op_fdiv (pe_op op_mod (pe_callTy call_int1' (by rfl) T.z_int (by decide +kernel) (pa_cons (pe_op op_mul (pe_ix ix_list (pv 0) pe_int (fun _ _ => rfl)) (pe_ix ix_list (pv 0) pe_int (fun _ _ => rfl))) pa_nil)) pe_int) pe_int) pa_nil)) (pv 1)))))), body_of h fun ds m P f => ?_⟩
  try dsimp only [cxOf, Cx.nox, Cx.wish, Cx.blk]
  obtain ⟨k, s, rfl, ⟨a, b, hm, ha, hb, hb2⟩, h1, h2, p⟩ := f
  walk_at "dl"
  refine rw_ixC hm rfl ?_
  walk_at "dl"
  refine if_d (fun h => ?_) (fun h => ?_)
  · walk_at "dl"
    refine rw_ixC hm rfl ?_
    walk_at "dl"
    refine cw_dm ⟨by omega, by omega⟩ ?_
    refine gw_tup rfl (gs_cons (gw_sub rfl ?_))
    walk_at "dl"
    refine ⟨k, 0, 0, _, rfl, rfl, hm, rfl, ?_⟩
    walk_at "dl"
    refine p _ _ ⟨a / s, b, set_at hm, Int.ediv_nonneg ha (by omega), hb, hb2⟩ (Int.emod_nonneg _ (by omega)) (Int.emod_lt_of_pos _ (by omega))
  · walk_at "dl"
    refine rw_ixC hm rfl ?_
    walk_at "dl"
    refine rw_mul (.inl ⟨by omega, by omega⟩) ?_
    walk_at "dl"
    refine rw_mod (by omega) ?_
    refine gw_sub rfl ?_
    walk_at "dl"
    refine ⟨k, 1, 1, _, rfl, rfl, hm, rfl, ?_⟩
    walk_at "dl"
    have e0 := Int.emod_nonneg (b * 48271 + 19081) (b := 2147483587) (by omega)
    have e1 := Int.emod_lt_of_pos (b * 48271 + 19081) (b := 2147483587) (by omega)
    generalize (b * 48271 + 19081) % 2147483587 = c at e0 e1
    refine rw_ixC (set_at hm) rfl ?_
    walk_at "dl"
    refine rw_ixC (set_at hm) rfl ?_
    refine rw_mul (.inl ⟨by omega, by omega⟩) ?_
    walk_at "dl"
    refine rw_mod (by omega) ?_
    walk_at "dl"
    refine rw_fdiv ⟨by omega, by omega⟩ ?_
    walk_at "dl"
    refine rw_mod (by omega) ?_
    exact p _ _ ⟨a, c, set_at hm, ha, e0, by omega⟩ (Int.emod_nonneg _ (by omega)) (Int.emod_lt_of_pos _ (by omega))
theorem last_at {m : Mu} {x : Option (List Dat)} : (m ++ [x])[m.length]? = some x := by simp
def f_pot : FW := fun ds m P => ∃ ns, ds = [.lst (wi ns), .int 0] ∧ ∀ m', Pot m' m.length → P (.cell m.length) m'
theorem ok__law_pot (T : All K mg) : FnOk P w K mg base CX0 1 T.d__law_pot.f T.d__law_pot.fd ["_law_script", "_law_k"] (spD K f_pot) := by
  refine T.d__law_pot.F.ok sc__law_pot (fun vs H Q E h => sp_len (by intro ds m P f; obtain ⟨_, h⟩ := f; first | (obtain ⟨rfl, _⟩ := h; rfl) | (obtain ⟨_, rfl, _⟩ := h; rfl) | (obtain ⟨_, _, rfl, _⟩ := h; rfl) | (obtain ⟨_, _, _, rfl, _⟩ := h; rfl) | (obtain ⟨_, _, _, _, rfl, _⟩ := h; rfl) | (obtain ⟨_, _, _, _, _, rfl, _⟩ := h; rfl)) h) (fun cdv A outer s H vs Q E hr h => ?_)
  refine ⟨_, (pss_cons (ps_set (i := 2) sc__law_pot.nd rfl (Or.inl rfl) (pe_op op_add (pe_op op_mul pe_int (pv 1)) pe_int))
      (pss_cons (ps_if (pt_cmpR op_lt (pv 1) (pe_callB call_lenS (by rfl) T.z_len (by decide +kernel) (pa_cons (pv 0) pa_nil)) (nomark _)) (pss_one (ps_set (i := 2) sc__law_pot.nd rfl (Or.inl rfl) (pe_callB call_abs' (by rfl) T.z_abs (by decide +kernel) (pa_cons (pe_ix ix_list (pv 0) (pv 1) (fun _ _ => rfl)) pa_nil)))) pss_nil)
      (pss_one (ps_ret (pe_lst (pa_cons (pe_callB (call_max2' rfl) (by rfl) T.z_max (by decide +kernel) (pa_cons pe_int (pa_cons (pe_op op_sub (pv 2) (pe_op op_pow pe_int pe_int)) pa_nil))) (pa_cons (pe_op op_add (pe_op op_mod (pe_callTy call_int1' (by rfl) T.z_int (by decide +kernel) (pa_cons (pe_op op_add (pe_op op_mul (pe_op op_mod (pe_callTy call_int1' (by rfl) T.z_int (by decide +kernel) (pa_cons (pv 2) pa_nil)) pe_int) (pe_op op_add (pe_op op_mul pe_int (pv 1)) pe_int)) pe_int) pa_nil)) pe_int) pe_int) pa_nil))))))), body_of h fun ds m P f => ?_⟩
  try dsimp only [cxOf, Cx.nox, Cx.wish, Cx.blk]
  obtain ⟨ns, rfl, p⟩ := f
  walk_at "dl"
  refine rw_mul (.inl ⟨by omega, by omega⟩) ?_
  walk_at "dl"
  rw [wi_len]
  refine if_d (fun h => ?_) (fun h => ?_)
  · walk_at "dl"
    refine rw_ixL (atI_wi (by omega) h) ?_
    walk_at "dl"
    generalize (if ns.getD (Int.toNat 0) 0 < 0 then -ns.getD (Int.toNat 0) 0 else ns.getD (Int.toNat 0) 0) = c
    refine ew_lstC ?_
    walk_at "dl"
    refine rw_pow ⟨by omega, by omega, by decide⟩ ?_
    walk_at "dl"
    generalize (10 : Int) ^ (Int.toNat 18) = z
    refine rw_mod (by omega) ?_
    walk_at "dl"
    refine rw_mul (.inl ⟨by omega, by omega⟩) ?_
    walk_at "dl"
    refine rw_mul (.inr ⟨by omega, by omega⟩) ?_
    walk_at "dl"
    refine rw_mod (by omega) ?_
    walk_at "dl"
    have e0 := Int.emod_nonneg (c % 2147483549 * (2 * 0 + 823) + 1609) (b := 2147483543) (by omega)
    have e1 := Int.emod_lt_of_pos (c % 2147483549 * (2 * 0 + 823) + 1609) (b := 2147483543) (by omega)
    refine ⟨rfl, p _ ⟨_, _, last_at, ?_, ?_, ?_⟩⟩
    · split <;> omega
    · omega
    · omega
  · walk_at "dl"
    refine ew_lstC ?_
    walk_at "dl"
    refine rw_pow ⟨by omega, by omega, by decide⟩ ?_
    walk_at "dl"
    generalize (10 : Int) ^ (Int.toNat 18) = z
    refine rw_mod (by omega) ?_
    walk_at "dl"
    refine rw_mul (.inl ⟨by omega, by omega⟩) ?_
    walk_at "dl"
    refine rw_mul (.inr ⟨by omega, by omega⟩) ?_
    walk_at "dl"
    refine rw_mod (by omega) ?_
    walk_at "dl"
    have e0 := Int.emod_nonneg ((1181 * 0 + 881) % 2147483549 * (2 * 0 + 823) + 1609) (b := 2147483543) (by omega)
    have e1 := Int.emod_lt_of_pos ((1181 * 0 + 881) % 2147483549 * (2 * 0 + 823) + 1609) (b := 2147483543) (by omega)
    refine ⟨rfl, p _ ⟨_, _, last_at, ?_, ?_, ?_⟩⟩
    · split <;> omega
    · omega
    · omega
/-! ### drawn words and rows -/
def In (L : Int) (l : List Int) : Prop := ∀ c ∈ l, 0 ≤ c ∧ c < L
theorem In.app {L : Int} {l m : List Int} (h : In L l) (g : In L m) : In L (l ++ m) := fun c hc => (List.mem_append.mp hc).elim (h c) (g c)
def f_word : FW := fun ds m P => ∃ k L lo hi, ds = [.cell k, .int L, .int lo, .int hi] ∧ Pot m k ∧ 1 ≤ L ∧ L ≤ 1000 ∧ 0 ≤ lo ∧ lo ≤ hi ∧ hi ≤ 100 ∧ ∀ (l : List Int) m', Pot m' k → lo ≤ l.length → l.length ≤ hi → In L l → P (tw l) m'
theorem ok__law_word (T : All K mg) : FnOk P w K mg base CX0 2 T.d__law_word.f T.d__law_word.fd ["_law_pot_here", "_law_letters", "_law_least", "_law_most"] (spD K f_word) := by
  refine T.d__law_word.F.ok sc__law_word (fun vs H Q E h => sp_len (by intro ds m P f; obtain ⟨_, h⟩ := f; first | (obtain ⟨rfl, _⟩ := h; rfl) | (obtain ⟨_, rfl, _⟩ := h; rfl) | (obtain ⟨_, _, rfl, _⟩ := h; rfl) | (obtain ⟨_, _, _, rfl, _⟩ := h; rfl) | (obtain ⟨_, _, _, _, rfl, _⟩ := h; rfl) | (obtain ⟨_, _, _, _, _, rfl, _⟩ := h; rfl)) h) (fun cdv A outer s H vs Q E hr h => ?_)
  refine ⟨_, (pss_cons (ps_set (i := 4) sc__law_word.nd rfl (Or.inl rfl) (pe_tup pa_nil))
      (pss_cons (ps_for PassesOwn.never rfl (pi_range1 (by rfl) T.z_range (pa_cons (pe_op op_add (pv 2) (pe_call (ok__law_draw T) (hr.mono (by decide)) rfl T.d__law_draw.g T.d__law_draw.F.kp T.d__law_draw.b .nil pass0 (pa_cons (pv 0) (pa_cons (pe_op op_add (pe_op op_sub (pv 3) (pv 2)) pe_int) pa_nil)))) pa_nil)) (pg_name (i := 5) sc__law_word.nd rfl (Or.inl rfl)) (pss_one (ps_set (i := 4) sc__law_word.nd rfl (Or.inl rfl) (pe_op op_catA (pv 4) (pe_tup (pa_cons (pe_call (ok__law_draw T) (hr.mono (by decide)) rfl T.d__law_draw.g T.d__law_draw.F.kp T.d__law_draw.b .nil pass0 (pa_cons (pv 0) (pa_cons (pv 1) pa_nil))) pa_nil))))))
      (pss_one (ps_ret (pv 4))))), body_of h fun ds m P f => ?_⟩
  try dsimp only [cxOf, Cx.nox, Cx.wish, Cx.blk]
  obtain ⟨k, L, lo, hi, rfl, pm, h1, h2, h3, h4, h5, p⟩ := f
  walk_at "dl"
  refine s_forR1 ?_
  walk_at "dl"
  refine ⟨k, _, rfl, pm, by omega, by omega, fun m1 v p1 v0 v1 => ?_⟩
  walk_at "dl"
  refine ⟨lo + v, rfl, by omega, by omega, fun i ρ' m' => Pot m' k ∧ ∃ l : List Int, l.length = i ∧ In L l ∧ ∃ e, ρ' = [some (.cell k), some (.int L), some (.int lo), some (.int hi), some (tw l), e], ⟨p1, [], rfl, (by intro c hc; cases hc), _, rfl⟩, ?_, ?_⟩
  · rintro i ρ' m' hi' ⟨p2, l, hl, il, e, rfl⟩
    walk_at "dl"
    refine ⟨k, L, rfl, p2, h1, h2, fun m3 c p3 c0 c1 => ?_⟩
    walk_at "dl"
    rw [wi_one]
    refine rw_cat (by rw [wi_len, wi_len, List.length_singleton, sizeLine_eq]; omega) ?_
    rw [wi_app]
    walk_at "dl"
    refine ⟨p3, l ++ [c], by rw [List.length_append, hl, List.length_singleton], il.app fun d hd => ?_, _, rfl⟩
    rw [List.mem_singleton.mp hd]
    exact ⟨c0, c1⟩
  · rintro ρ' m' ⟨p2, l, hl, il, e, rfl⟩
    walk_at "dl"
    exact p l m' p2 (by omega) (by omega) il
structure Rw (L : Int) (B A : List Int) : Prop where
  lb : B.length ≤ 8
  la : A.length ≤ 8
  ne : A ≠ []
  b : In L B
  a : In L A
def f_row : FW := fun ds m P => ∃ k L, ds = [.cell k, .int L, .int 4] ∧ Pot m k ∧ 1 ≤ L ∧ L ≤ 1000 ∧ ∀ B A m', Pot m' k → Rw L B A → P (rw_ B A) m'
theorem rep_in {L : Int} {l : List Int} (h : In L l) (k : Nat) : In L (List.replicate k l).flatten := fun c hc => by
  obtain ⟨x, hx, hc⟩ := List.mem_flatten.mp hc
  rw [List.eq_of_mem_replicate hx] at hc
  exact h c hc
theorem rep_ne {l : List Int} (h : l ≠ []) {k : Nat} (hk : 1 ≤ k) : (List.replicate k l).flatten ≠ [] := fun e => by
  have := congrArg List.length e
  rw [rep_len, List.length_nil] at this
  have hn : 0 < l.length := List.length_pos_iff.mpr h
  have := Nat.mul_pos hk hn
  omega
theorem ok__law_row (T : All K mg) : FnOk P w K mg base CX0 3 T.d__law_row.f T.d__law_row.fd ["_law_pot_here", "_law_letters", "_law_most"] (spD K f_row) := by
  refine T.d__law_row.F.ok sc__law_row (fun vs H Q E h => sp_len (by intro ds m P f; obtain ⟨_, h⟩ := f; first | (obtain ⟨rfl, _⟩ := h; rfl) | (obtain ⟨_, rfl, _⟩ := h; rfl) | (obtain ⟨_, _, rfl, _⟩ := h; rfl) | (obtain ⟨_, _, _, rfl, _⟩ := h; rfl) | (obtain ⟨_, _, _, _, rfl, _⟩ := h; rfl) | (obtain ⟨_, _, _, _, _, rfl, _⟩ := h; rfl)) h) (fun cdv A outer s H vs Q E hr h => ?_)
  refine ⟨_, (pss_cons (ps_par (i := 3) (j := 4) rfl sc__law_row.nd rfl rfl (by decide) rfl rfl (pa_cons (pe_call (ok__law_word T) (hr.mono (by decide)) rfl T.d__law_word.g T.d__law_word.F.kp T.d__law_word.b .nil pass0 (pa_cons (pv 0) (pa_cons (pv 1) (pa_cons pe_int (pa_cons (pv 2) pa_nil))))) (pa_cons (pe_call (ok__law_word T) (hr.mono (by decide)) rfl T.d__law_word.g T.d__law_word.F.kp T.d__law_word.b .nil pass0 (pa_cons (pv 0) (pa_cons (pv 1) (pa_cons pe_int (pa_cons (pv 2) pa_nil))))) pa_nil)) (by rfl))
      (pss_cons (ps_set (i := 5) sc__law_row.nd rfl (Or.inl rfl) (pe_call (ok__law_draw T) (hr.mono (by decide)) rfl T.d__law_draw.g T.d__law_draw.F.kp T.d__law_draw.b .nil pass0 (pa_cons (pv 0) (pa_cons pe_int pa_nil))))
      (pss_cons (ps_if (pt_cmpR op_eq (pv 5) pe_int (nomark _)) (pss_one (ps_set (i := 4) sc__law_row.nd rfl (Or.inl rfl) (pe_op op_repA (pv 4) (pe_op op_add pe_int (pe_call (ok__law_draw T) (hr.mono (by decide)) rfl T.d__law_draw.g T.d__law_draw.F.kp T.d__law_draw.b .nil pass0 (pa_cons (pv 0) (pa_cons pe_int pa_nil))))))) pss_nil)
      (pss_cons (ps_if (pt_cmpR op_eq (pv 5) pe_int (nomark _)) (pss_one (ps_set (i := 3) sc__law_row.nd rfl (Or.inl rfl) (pe_op op_catA (pv 3) (pv 4)))) pss_nil)
      (pss_one (ps_ret (pe_tup (pa_cons (pv 3) (pa_cons (pv 4) pa_nil))))))))), body_of h fun ds m P f => ?_⟩
  try dsimp only [cxOf, Cx.nox, Cx.wish, Cx.blk]
  obtain ⟨k, L, rfl, pm, h1, h2, p⟩ := f
  walk_at "dl"
  refine ⟨k, L, 0, 4, rfl, pm, h1, h2, by omega, by omega, by omega, fun B m1 p1 b0 b1 bi => ?_⟩
  walk_at "dl"
  refine ⟨k, L, 1, 4, rfl, p1, h1, h2, by omega, by omega, by omega, fun A m2 p2 a0 a1 ai => ?_⟩
  have na : A ≠ [] := fun z => by rw [z] at a0; simp at a0
  walk_at "dl"
  refine ⟨k, 4, rfl, p2, by omega, by omega, fun m3 v p3 v0 v1 => ?_⟩
  walk_at "dl"
  refine if_d (fun hv => ?_) (fun hv => ?_)
  · walk_at "dl"
    refine ⟨k, 2, rfl, p3, by omega, by omega, fun m4 u p4 u0 u1 => ?_⟩
    walk_at "dl"
    refine rw_rep (wi_ne na) (by omega) (by omega) (by rw [wi_len]; omega) ?_
    rw [wi_rep]
    walk_at "dl"
    refine if_d (fun hw => by omega) (fun hw => ?_)
    walk_at "dl"
    refine p B _ m4 p4 ⟨by omega, ?_, rep_ne na (by omega), bi, rep_in ai _⟩
    rw [rep_len]
    have hk : (1 + u).toNat ≤ 2 := by omega
    have := Nat.mul_le_mul_right A.length hk
    omega
  · walk_at "dl"
    refine if_d (fun hw => ?_) (fun hw => ?_)
    · walk_at "dl"
      refine rw_cat (by rw [wi_len, wi_len, sizeLine_eq]; omega) ?_
      rw [wi_app]
      walk_at "dl"
      exact p _ A m3 p3 ⟨by rw [List.length_append]; omega, by omega, na, bi.app ai, ai⟩
    · walk_at "dl"
      exact p B A m3 p3 ⟨by omega, by omega, na, bi, ai⟩
end
end L11
namespace L11
open PySem PySem.Spec PyProof.Rows L2 DL KM
section
variable {P : Program} {w : World} {K : PySem.W.Frag} {mg : Str → Option Value} {base : Heap}
/- one rule a construct; what asks for a fact is left -/
local macro_rules | `(tactic| walk_at "dl") => `(tactic| repeat (first
  | ((with_reducible refine' ew_var ?hv ?_); (case hv => exact rfl))
  | with_reducible refine ew_int ?_
  | with_reducible refine ew_bl ?_
  | with_reducible refine ew_non ?_
  | with_reducible refine ew_str ?_
  | with_reducible refine aw_nil ?_
  | with_reducible refine aw_cons ?_
  | with_reducible refine ew_isi ?_
  | with_reducible refine ew_isi2 ?_
  | with_reducible refine ew_op ?_
  | with_reducible refine ew_un ?_
  | with_reducible refine uw_neg ?_
  | with_reducible refine ew_cb ?_
  | with_reducible refine ew_call ?_
  | with_reducible refine ew_k01 ?_
  | with_reducible refine ew_k02 ?_
  | with_reducible refine ew_k02s ?_
  | with_reducible refine ew_chain ?_
  | with_reducible refine ew_andV ?_
  | with_reducible refine ew_orV ?_
  | with_reducible refine ew_notV ?_
  | with_reducible refine ew_if ?_
  | with_reducible refine ew_slT ?_
  | with_reducible refine ew_slL ?_
  | with_reducible refine ow_none ?_
  | with_reducible refine ow_some ?_
  | with_reducible refine tw_test ?_
  | with_reducible refine tw_B ?_
  | with_reducible refine tw_and ?_
  | with_reducible refine tw_or ?_
  | with_reducible refine tw_not ?_
  | with_reducible refine tw_tru ?_
  | with_reducible refine s_seq ?_
  | with_reducible refine s_set ?_
  | with_reducible refine s_asg ?_
  | with_reducible refine s_ret ?_
  | with_reducible refine s_retN ?_
  | with_reducible refine s_if ?_
  | with_reducible refine s_drop ?_
  | with_reducible refine s_par ?_
  | with_reducible refine s_next ?_
  | with_reducible refine gw_tup rfl ?_
  | with_reducible refine gs_cons ?_
  | with_reducible refine gs_nil ?_
  | with_reducible refine gw_name ?_
  | with_reducible refine rw_add ?_
  | with_reducible refine rw_sub ?_
  | with_reducible refine rw_lt ?_
  | with_reducible refine rw_le ?_
  | with_reducible refine rw_gt ?_
  | with_reducible refine rw_ge ?_
  | with_reducible refine rw_eqI ?_
  | with_reducible refine rw_neI ?_
  | with_reducible refine rw_eqB ?_
  | with_reducible refine rw_neS ?_
  | with_reducible refine rw_isN ?_
  | with_reducible refine rw_notN ?_
  | with_reducible refine rw_isB ?_
  | with_reducible refine rw_notB ?_
  | ((with_reducible refine' rw_ixT ?hi ?_); (case hi => exact rfl))
  | ((with_reducible refine' rw_ixL ?hi ?_); (case hi => exact rfl))
  | with_reducible refine cw_lenT ?_
  | with_reducible refine cw_lenL ?_
  | with_reducible refine cw_tupL ?_
  | with_reducible refine cw_max2 ?_
  | with_reducible refine cw_abs ?_
  | with_reducible refine cw_int1 ?_
  | with_reducible refine leaf_bl ?_
  | with_reducible refine leaf_int ?_
  | with_reducible refine leaf_tup ?_
  | with_reducible refine leaf_lst ?_
  | with_reducible refine leaf_two ?_
  | with_reducible refine ew_tup ?_
  | with_reducible refine sz0 ?_
  | with_reducible refine sz1 ?_
  | with_reducible refine sz2 ?_
  | with_reducible refine sz3 ?_
  | with_reducible refine sz4 ?_
  | with_reducible refine if_t ?_
  | with_reducible refine if_f ?_
  | with_reducible refine if_nt ?_
  | with_reducible refine if_nf ?_))
/- one rule a construct; what asks for a fact is left -/
local macro_rules | `(tactic| walk_at "de") => `(tactic| repeat (first
  | ((with_reducible refine' ew_var ?hv ?_); (case hv => exact rfl))
  | with_reducible refine ew_int ?_
  | with_reducible refine ew_bl ?_
  | with_reducible refine ew_non ?_
  | with_reducible refine ew_str ?_
  | with_reducible refine aw_nil ?_
  | with_reducible refine aw_cons ?_
  | with_reducible refine ew_isi ?_
  | with_reducible refine ew_isi2 ?_
  | with_reducible refine ew_op ?_
  | with_reducible refine ew_un ?_
  | with_reducible refine uw_neg ?_
  | with_reducible refine ew_cb ?_
  | with_reducible refine ew_call ?_
  | with_reducible refine ew_k01 ?_
  | with_reducible refine ew_k02 ?_
  | with_reducible refine ew_k02s ?_
  | with_reducible refine ew_chain ?_
  | with_reducible refine ew_andV ?_
  | with_reducible refine ew_orV ?_
  | with_reducible refine ew_notV ?_
  | with_reducible refine ew_if ?_
  | with_reducible refine ew_slT ?_
  | with_reducible refine ew_slL ?_
  | with_reducible refine ow_none ?_
  | with_reducible refine ow_some ?_
  | with_reducible refine tw_test ?_
  | with_reducible refine tw_B ?_
  | with_reducible refine tw_and ?_
  | with_reducible refine tw_or ?_
  | with_reducible refine tw_not ?_
  | with_reducible refine tw_tru ?_
  | with_reducible refine gw_tup rfl ?_
  | with_reducible refine gs_cons ?_
  | with_reducible refine gs_nil ?_
  | with_reducible refine gw_name ?_
  | with_reducible refine rw_add ?_
  | with_reducible refine rw_sub ?_
  | with_reducible refine rw_lt ?_
  | with_reducible refine rw_le ?_
  | with_reducible refine rw_gt ?_
  | with_reducible refine rw_ge ?_
  | with_reducible refine rw_eqI ?_
  | with_reducible refine rw_neI ?_
  | with_reducible refine rw_eqB ?_
  | with_reducible refine rw_neS ?_
  | with_reducible refine rw_isN ?_
  | with_reducible refine rw_notN ?_
  | with_reducible refine rw_isB ?_
  | with_reducible refine rw_notB ?_
  | ((with_reducible refine' rw_ixT ?hi ?_); (case hi => exact rfl))
  | ((with_reducible refine' rw_ixL ?hi ?_); (case hi => exact rfl))
  | with_reducible refine cw_lenT ?_
  | with_reducible refine cw_lenL ?_
  | with_reducible refine cw_tupL ?_
  | with_reducible refine cw_max2 ?_
  | with_reducible refine cw_abs ?_
  | with_reducible refine cw_int1 ?_
  | with_reducible refine leaf_bl ?_
  | with_reducible refine leaf_int ?_
  | with_reducible refine leaf_tup ?_
  | with_reducible refine leaf_lst ?_
  | with_reducible refine leaf_two ?_
  | with_reducible refine ew_tup ?_
  | with_reducible refine sz0 ?_
  | with_reducible refine sz1 ?_
  | with_reducible refine sz2 ?_
  | with_reducible refine sz3 ?_
  | with_reducible refine sz4 ?_
  | with_reducible refine if_t ?_
  | with_reducible refine if_f ?_
  | with_reducible refine if_nt ?_
  | with_reducible refine if_nf ?_))

/-! ### the law's own look -/
theorem ok__law_at (T : All K mg) : FnOk P w K mg base CX0 1 T.d__law_at.f T.d__law_at.fd ["_law_row_here", "_law_place"] (spD K f_letter) := by
  refine T.d__law_at.F.ok sc__law_at (fun vs H Q E h => sp_len (by intro ds m P f; obtain ⟨_, h⟩ := f; first | (obtain ⟨rfl, _⟩ := h; rfl) | (obtain ⟨_, rfl, _⟩ := h; rfl) | (obtain ⟨_, _, rfl, _⟩ := h; rfl) | (obtain ⟨_, _, _, rfl, _⟩ := h; rfl) | (obtain ⟨_, _, _, _, rfl, _⟩ := h; rfl) | (obtain ⟨_, _, _, _, _, rfl, _⟩ := h; rfl)) h) (fun cdv A outer s H vs Q E hr h => ?_)
  refine ⟨_, (pss_cons (ps_asg (pv 0) (pg_tup (by rfl) (pgs_cons (pg_name (i := 2) sc__law_at.nd rfl (Or.inl rfl)) (pgs_cons (pg_name (i := 3) sc__law_at.nd rfl (Or.inl rfl)) pgs_nil))))
      (pss_cons (ps_if (pt_cmpR op_lt (pv 1) (pe_callB call_lenS (by rfl) T.z_len (by decide +kernel) (pa_cons (pv 2) pa_nil)) (nomark _)) (pss_one (ps_ret (pe_ix ix_tup (pv 2) (pv 1) (fun _ _ => rfl)))) pss_nil)
      (pss_one (ps_ret (pe_ix ix_tup (pv 3) (pe_op op_mod (pe_op op_sub (pv 1) (pe_callB call_lenS (by rfl) T.z_len (by decide +kernel) (pa_cons (pv 2) pa_nil))) (pe_callB call_lenS (by rfl) T.z_len (by decide +kernel) (pa_cons (pv 3) pa_nil))) (fun _ _ => rfl)))))), body_of h fun ds m P f => ?_⟩
  try dsimp only [cxOf, Cx.nox, Cx.wish, Cx.blk]
  obtain ⟨B, A, q, rfl, hA, hq, p⟩ := f
  have hn : 0 < A.length := List.length_pos_iff.mpr hA
  walk_at "dl"
  rw [wi_len]
  refine if_d (fun h => ?_) (fun h => ?_)
  · walk_at "dl"
    refine rw_ixT (atI_wi hq h) ?_
    rw [seq_lo hq h] at p
    exact p
  · walk_at "dl"
    rw [wi_len, wi_len]
    refine rw_mod (by omega) ?_
    refine rw_ixT (atI_wi (Int.emod_nonneg _ (by omega)) (Int.emod_lt_of_pos _ (by omega))) ?_
    rw [seq_hi hq h] at p
    exact p
def f_lspelled : FW := fun ds m P => ∃ B A n, ds = [rw_ B A, .int n] ∧ A ≠ [] ∧ 0 ≤ n ∧ n ≤ 100000 ∧ P (.lst (wi (pre (seq B A) n.toNat))) m
theorem ok__law_spelled (T : All K mg) : FnOk P w K mg base CX0 2 T.d__law_spelled.f T.d__law_spelled.fd ["_law_row_here", "_law_many"] (spD K f_lspelled) := by
  refine T.d__law_spelled.F.ok sc__law_spelled (fun vs H Q E h => sp_len (by intro ds m P f; obtain ⟨_, h⟩ := f; first | (obtain ⟨rfl, _⟩ := h; rfl) | (obtain ⟨_, rfl, _⟩ := h; rfl) | (obtain ⟨_, _, rfl, _⟩ := h; rfl) | (obtain ⟨_, _, _, rfl, _⟩ := h; rfl) | (obtain ⟨_, _, _, _, rfl, _⟩ := h; rfl) | (obtain ⟨_, _, _, _, _, rfl, _⟩ := h; rfl)) h) (fun cdv A outer s H vs Q E hr h => ?_)
  refine ⟨_, (pss_one (ps_ret (pe_lc (own := [("_law_place", 2)]) (g := gName 2) rfl sc__law_spelled.nd (pi_range1 (by rfl) T.z_range (pa_cons (pv 1) pa_nil)) (blkOk_by (N := N__law_spelled) (sc := defScope s__law_spelled) (by decide +kernel)) (fun _ _ _ _ _ => pg_name (i := 2) sc__law_spelled.nd rfl (Or.inl rfl)) (fun _ _ _ _ _ => pts_nil) (fun _ _ _ _ _ => (pe_call (ok__law_at T) (hr.mono (by decide)) rfl T.d__law_at.g T.d__law_at.F.kp T.d__law_at.b .nil pass0 (pa_cons (pv 0) (pa_cons (pv 2) pa_nil))))))), body_of h fun ds m P f => ?_⟩
  try dsimp only [cxOf, Cx.nox, Cx.wish, Cx.blk]
  obtain ⟨B, A, n, rfl, hA, h1, h2, p⟩ := f
  walk_at "dl"
  refine ew_lcR1 ?_
  walk_at "dl"
  refine ⟨n, rfl, by omega, by omega, by omega, fun i => some (.int (seq B A i)), ?_, ?_⟩
  · intro i acc hi ha
    refine turn_yes rfl ?_
    walk_at "dl"
    exact ⟨B, A, i, rfl, hA, by omega, rfl, rfl⟩
  · rw [fm_pre]
    exact p
theorem pre_drop_take (x : Nat → Int) (N a b : Nat) (h : b ≤ N) (g : a ≤ b) : ((pre x N).drop a).take (b - a) = (List.range (b - a)).map fun i => x (a + i) := by
  apply ext_getD
  · rw [List.length_take, List.length_drop, List.length_map, List.length_range]
    simp [pre]; omega
  · intro i hi
    rw [List.length_take, List.length_drop] at hi
    have hi' : i < b - a := by omega
    have hN : a + i < N := by omega
    rw [List.getD_eq_getElem?_getD, List.getD_eq_getElem?_getD, List.getElem?_take_of_lt hi', List.getElem?_drop, List.getElem?_map, List.getElem?_range hi']
    unfold pre
    rw [List.getElem?_map, List.getElem?_range hN]
    rfl
theorem win_iff (x : Nat → Int) (b n m s : Nat) : ((List.range (b + n + 1 - m)).map fun i => x (m + i)) = ((List.range (b + n + 1 + s - (m + s))).map fun i => x (m + s + i)) ↔ Win x b n m s := by
  have e : b + n + 1 + s - (m + s) = b + n + 1 - m := by omega
  rw [e]
  unfold Win
  constructor
  · intro h i hi
    have := congrArg (fun l => l[i]?) h
    simp only [List.getElem?_map, List.getElem?_range hi, Option.map_some, Option.some.injEq] at this
    exact this
  · intro h
    apply List.map_congr_left
    intro i hi
    exact h i (List.mem_range.mp hi)
def f_lnormal : FW := fun ds m P => ∃ (x : Nat → Int) (b n : Nat), ds = [.lst (wi (pre x (b + 3 * n + 2))), .int (b : Nat), .int (n : Nat)] ∧ Per x b n ∧ 1 ≤ n ∧ n ≤ 1000 ∧ b ≤ 1000 ∧ ∀ B A, NR x B A → P (rw_ B A) m
theorem ok__law_normal (T : All K mg) : FnOk P w K mg base CX0 1 T.d__law_normal.f T.d__law_normal.fd ["_law_letters", "_law_begun", "_law_long"] (spD K f_lnormal) := by
  refine T.d__law_normal.F.ok sc__law_normal (fun vs H Q E h => sp_len (by intro ds m P f; obtain ⟨_, h⟩ := f; first | (obtain ⟨rfl, _⟩ := h; rfl) | (obtain ⟨_, rfl, _⟩ := h; rfl) | (obtain ⟨_, _, rfl, _⟩ := h; rfl) | (obtain ⟨_, _, _, rfl, _⟩ := h; rfl) | (obtain ⟨_, _, _, _, rfl, _⟩ := h; rfl) | (obtain ⟨_, _, _, _, _, rfl, _⟩ := h; rfl)) h) (fun cdv A outer s H vs Q E hr h => ?_)
  refine ⟨_, (pss_cons (ps_for PassesOwn.never rfl (pi_range1 (by rfl) T.z_range (pa_cons (pe_op op_add (pv 1) pe_int) pa_nil)) (pg_name (i := 3) sc__law_normal.nd rfl (Or.inl rfl)) (pss_one (ps_for PassesOwn.never rfl (pi_range2 (by rfl) T.z_range (pa_cons pe_int (pa_cons (pe_op op_add (pv 2) pe_int) pa_nil))) (pg_name (i := 4) sc__law_normal.nd rfl (Or.inl rfl)) (pss_one (ps_if (pt_cmpR (op_eqD hr.units) (pe_slice sl_list (pv 0) (po_some (pv 3)) (po_some (pe_op op_add (pe_op op_add (pv 1) (pv 2)) pe_int))) (pe_slice sl_list (pv 0) (po_some (pe_op op_add (pv 3) (pv 4))) (po_some (pe_op op_add (pe_op op_add (pe_op op_add (pv 1) (pv 2)) pe_int) (pv 4)))) (nomark _)) (pss_one (ps_ret (pe_tup (pa_cons (pe_callTy call_tupOf (by rfl) T.z_tuple (by decide +kernel) (pa_cons (pe_slice sl_list (pv 0) po_none (po_some (pv 3))) pa_nil)) (pa_cons (pe_callTy call_tupOf (by rfl) T.z_tuple (by decide +kernel) (pa_cons (pe_slice sl_list (pv 0) (po_some (pv 3)) (po_some (pe_op op_add (pv 3) (pv 4)))) pa_nil)) pa_nil))))) pss_nil)))))
      (pss_one (ps_ret pe_non))), body_of h fun ds m P f => ?_⟩
  try dsimp only [cxOf, Cx.nox, Cx.wish, Cx.blk]
  obtain ⟨x, b, n, rfl, hp, h1, h2, h3, p⟩ := f
  walk_at "dl"
  refine s_forR1 ?_
  walk_at "dl"
  refine ⟨_, rfl, by omega, by omega, fun i ρ' m' => m' = m ∧ (∀ m1 s1, m1 < i → 1 ≤ s1 → s1 ≤ n → ¬ Per x m1 s1) ∧ ∃ e v, ρ' = [some (.lst (wi (pre x (b + 3 * n + 2)))), some (.int (b : Nat)), some (.int (n : Nat)), e, v], ⟨rfl, fun m1 s1 h => absurd h (Nat.not_lt_zero _), _, _, rfl⟩, ?_, ?_⟩
  · rintro i ρ' m' hi ⟨rfl, hr, e, v, rfl⟩
    walk_at "dl"
    refine s_forR2 ?_
    walk_at "dl"
    refine ⟨1, _, rfl, by omega, fun j ρ2 m2 => m2 = m' ∧ (∀ s1, 1 ≤ s1 → s1 ≤ j → ¬ Per x i s1) ∧ ∃ v, ρ2 = [some (.lst (wi (pre x (b + 3 * n + 2)))), some (.int (b : Nat)), some (.int (n : Nat)), some (.int (i : Nat)), v], ⟨rfl, fun s1 h g => by omega, _, rfl⟩, ?_, ?_⟩
    · rintro j ρ2 m2 hj ⟨rfl, hs, v, rfl⟩
      walk_at "dl"
      rw [cut_mid (by omega) (by omega), cut_mid (by omega) (by omega), wi_drop, wi_take, wi_drop, wi_take]
      have e1 : ((i : Nat) : Int).toNat = i := by omega
      have e2 : ((b : Int) + (n : Int) + 1).toNat = b + n + 1 := by omega
      have e3 : ((i : Int) + (1 + (j : Int))).toNat = i + (1 + j) := by omega
      have e4 : ((b : Int) + (n : Int) + 1 + (1 + (j : Int))).toNat = b + n + 1 + (1 + j) := by omega
      rw [e1, e2, e3, e4, pre_drop_take _ _ _ _ (by omega) (by omega), pre_drop_take _ _ _ _ (by omega) (by omega)]
      refine rw_eqD (shp_li _) (shp_li _) ?_
      rw [eqD_li]
      walk_at "dl"
      refine if_d (fun he => ?_) (fun he => ?_)
      · have w := (win_per hp (by omega) h1).mp ((win_iff x b n i (1 + j)).mp he)
        have nf := found hp h1 (by omega) (by omega) w hr (fun s' a c => hs s' a (by omega))
        walk_at "dl"
        rw [cut_to (by omega), cut_mid (by omega) (by omega), wi_take, wi_drop, wi_take, e1, e3]
        refine p _ _ ⟨i, 1 + j, nf, ?_, ?_⟩
        · have := pre_drop_take x (b + 3 * n + 2) 0 i (by omega) (by omega)
          rw [List.drop_zero, Nat.sub_zero] at this
          rw [this]
          unfold pre
          exact List.map_congr_left fun k _ => by rw [Nat.zero_add]
        · rw [pre_drop_take x _ _ _ (by omega) (by omega), Nat.add_sub_cancel_left]
          rfl
      · have w : ¬ Per x i (1 + j) := fun q => he ((win_iff x b n i (1 + j)).mpr ((win_per hp (by omega) h1).mpr q))
        walk_at "dl"
        refine ⟨rfl, fun s1 a c => ?_, _, rfl⟩
        by_cases z : s1 ≤ j
        · exact hs s1 a z
        · have : s1 = 1 + j := by omega
          rw [this]; exact w
    · rintro ρ2 m2 ⟨rfl, hs, v, rfl⟩
      refine ⟨rfl, fun m1 s1 a c d => ?_, _, _, rfl⟩
      by_cases z : m1 < i
      · exact hr m1 s1 z c d
      · have : m1 = i := by omega
        rw [this]
        exact hs s1 c (by omega)
  · rintro ρ' m' ⟨rfl, hr, e, v, rfl⟩
    exact absurd hp (hr b n (by omega) h1 (Nat.le_refl _))
def f_lnormal_of : FW := fun ds m P => ∃ B A, ds = [rw_ B A] ∧ A ≠ [] ∧ A.length ≤ 100 ∧ B.length ≤ 100 ∧ ∀ B' A', NR (seq B A) B' A' → P (rw_ B' A') m
theorem ok__law_normal_of (T : All K mg) : FnOk P w K mg base CX0 3 T.d__law_normal_of.f T.d__law_normal_of.fd ["_law_row_here"] (spD K f_lnormal_of) := by
  refine T.d__law_normal_of.F.ok sc__law_normal_of (fun vs H Q E h => sp_len (by intro ds m P f; obtain ⟨_, h⟩ := f; first | (obtain ⟨rfl, _⟩ := h; rfl) | (obtain ⟨_, rfl, _⟩ := h; rfl) | (obtain ⟨_, _, rfl, _⟩ := h; rfl) | (obtain ⟨_, _, _, rfl, _⟩ := h; rfl) | (obtain ⟨_, _, _, _, rfl, _⟩ := h; rfl) | (obtain ⟨_, _, _, _, _, rfl, _⟩ := h; rfl)) h) (fun cdv A outer s H vs Q E hr h => ?_)
  refine ⟨_, (pss_cons (ps_asg (pv 0) (pg_tup (by rfl) (pgs_cons (pg_name (i := 1) sc__law_normal_of.nd rfl (Or.inl rfl)) (pgs_cons (pg_name (i := 2) sc__law_normal_of.nd rfl (Or.inl rfl)) pgs_nil))))
      (pss_one (ps_ret (pe_call (ok__law_normal T) (hr.mono (by decide)) rfl T.d__law_normal.g T.d__law_normal.F.kp T.d__law_normal.b .nil pass0 (pa_cons (pe_call (ok__law_spelled T) (hr.mono (by decide)) rfl T.d__law_spelled.g T.d__law_spelled.F.kp T.d__law_spelled.b .nil pass0 (pa_cons (pv 0) (pa_cons (pe_op op_add (pe_op op_add (pe_callB call_lenS (by rfl) T.z_len (by decide +kernel) (pa_cons (pv 1) pa_nil)) (pe_op op_mul pe_int (pe_callB call_lenS (by rfl) T.z_len (by decide +kernel) (pa_cons (pv 2) pa_nil)))) pe_int) pa_nil))) (pa_cons (pe_callB call_lenS (by rfl) T.z_len (by decide +kernel) (pa_cons (pv 1) pa_nil)) (pa_cons (pe_callB call_lenS (by rfl) T.z_len (by decide +kernel) (pa_cons (pv 2) pa_nil)) pa_nil))))))), body_of h fun ds m P f => ?_⟩
  try dsimp only [cxOf, Cx.nox, Cx.wish, Cx.blk]
  obtain ⟨B, A, rfl, hA, l1, l2, p⟩ := f
  have hn : 0 < A.length := List.length_pos_iff.mpr hA
  walk_at "dl"
  rw [wi_len, wi_len]
  refine rw_mul (.inl ⟨by omega, by omega⟩) ?_
  walk_at "dl"
  refine ⟨B, A, _, rfl, hA, by omega, by omega, ?_⟩
  walk_at "dl"
  rw [wi_len, wi_len]
  have e : ((B.length : Int) + 3 * (A.length : Int) + 2).toNat = B.length + 3 * A.length + 2 := by omega
  rw [e]
  exact ⟨seq B A, B.length, A.length, rfl, per_seq, hn, by omega, by omega, p⟩
def f_lfirst : FW := fun ds m P => ∃ B A B' A', ds = [rw_ B A, rw_ B' A'] ∧ Ok 4 B A ∧ Ok 4 B' A' ∧ ∀ o, FD (seq B A) (seq B' A') o → P (opD o) m
theorem ok__law_first_unlike (T : All K mg) : FnOk P w K mg base CX0 2 T.d__law_first_unlike.f T.d__law_first_unlike.fd ["_law_row_here", "_law_other"] (spD K f_lfirst) := by
  refine T.d__law_first_unlike.F.ok sc__law_first_unlike (fun vs H Q E h => sp_len (by intro ds m P f; obtain ⟨_, h⟩ := f; first | (obtain ⟨rfl, _⟩ := h; rfl) | (obtain ⟨_, rfl, _⟩ := h; rfl) | (obtain ⟨_, _, rfl, _⟩ := h; rfl) | (obtain ⟨_, _, _, rfl, _⟩ := h; rfl) | (obtain ⟨_, _, _, _, rfl, _⟩ := h; rfl) | (obtain ⟨_, _, _, _, _, rfl, _⟩ := h; rfl)) h) (fun cdv A outer s H vs Q E hr h => ?_)
  refine ⟨_, (pss_cons (ps_set (i := 2) sc__law_first_unlike.nd rfl (Or.inl rfl) (pe_op op_add (pe_callB (call_max2' rfl) (by rfl) T.z_max (by decide +kernel) (pa_cons (pe_callB call_lenS (by rfl) T.z_len (by decide +kernel) (pa_cons (pe_ix ix_tup (pv 0) pe_int (fun _ _ => rfl)) pa_nil)) (pa_cons (pe_callB call_lenS (by rfl) T.z_len (by decide +kernel) (pa_cons (pe_ix ix_tup (pv 1) pe_int (fun _ _ => rfl)) pa_nil)) pa_nil))) (pe_op op_mul (pe_callB call_lenS (by rfl) T.z_len (by decide +kernel) (pa_cons (pe_ix ix_tup (pv 0) pe_int (fun _ _ => rfl)) pa_nil)) (pe_callB call_lenS (by rfl) T.z_len (by decide +kernel) (pa_cons (pe_ix ix_tup (pv 1) pe_int (fun _ _ => rfl)) pa_nil)))))
      (pss_cons (ps_for PassesOwn.never rfl (pi_range1 (by rfl) T.z_range (pa_cons (pv 2) pa_nil)) (pg_name (i := 3) sc__law_first_unlike.nd rfl (Or.inl rfl)) (pss_one (ps_if (pt_cmpR op_ne (pe_call (ok__law_at T) (hr.mono (by decide)) rfl T.d__law_at.g T.d__law_at.F.kp T.d__law_at.b .nil pass0 (pa_cons (pv 0) (pa_cons (pv 3) pa_nil))) (pe_call (ok__law_at T) (hr.mono (by decide)) rfl T.d__law_at.g T.d__law_at.F.kp T.d__law_at.b .nil pass0 (pa_cons (pv 1) (pa_cons (pv 3) pa_nil))) (nomark _)) (pss_one (ps_ret (pv 3))) pss_nil)))
      (pss_one (ps_ret pe_non)))), body_of h fun ds m P f => ?_⟩
  try dsimp only [cxOf, Cx.nox, Cx.wish, Cx.blk]
  obtain ⟨B, A, B', A', rfl, h, h', p⟩ := f
  have l1 := h.la
  have l2 := h.lb
  have l3 := h'.la
  have l4 := h'.lb
  have n1 : 0 < A.length := List.length_pos_iff.mpr h.ne
  have n2 : 0 < A'.length := List.length_pos_iff.mpr h'.ne
  walk_at "dl"
  rw [wi_len, wi_len, wi_len, wi_len, mx]
  refine rw_mul (.inl ⟨by omega, by omega⟩) ?_
  walk_at "dl"
  have ep : (A.length : Int) * (A'.length : Int) = ((A.length * A'.length : Nat) : Int) := by rw [Int.natCast_mul]
  have lp : A.length * A'.length ≤ 40 * 40 := Nat.mul_le_mul l1 l3
  rw [ep]
  refine s_forR1 ?_
  walk_at "dl"
  have en : (((max B.length B'.length : Nat) : Int) + ((A.length * A'.length : Nat) : Int)).toNat = max B.length B'.length + A.length * A'.length := by omega
  refine ⟨_, rfl, by omega, by omega, fun i ρ' m' => m' = m ∧ (∀ j, j < i → seq B A j = seq B' A' j) ∧ ∃ e v, ρ' = [some (rw_ B A), some (rw_ B' A'), e, v], ⟨rfl, fun j hj => absurd hj (Nat.not_lt_zero j), _, _, rfl⟩, ?_, ?_⟩
  · rintro i ρ' m' hi ⟨rfl, hr, e, v, rfl⟩
    walk_at "dl"
    refine ⟨B, A, _, rfl, h.ne, by omega, ?_⟩
    walk_at "dl"
    refine ⟨B', A', _, rfl, h'.ne, by omega, ?_⟩
    walk_at "dl"
    rw [Int.toNat_natCast]
    refine if_nd (fun hd => ?_) (fun hd => ?_)
    · walk_at "dl"
      exact p (some i) ⟨hd, hr⟩
    · walk_at "dl"
      refine ⟨rfl, fun j hj => ?_, _, _, rfl⟩
      by_cases c : j < i
      · exact hr j c
      · have : j = i := by omega
        rw [this]; exact hd
  · rintro ρ' m' ⟨rfl, hr, e, v, rfl⟩
    rw [en] at hr
    walk_at "dl"
    refine p none ?_
    exact agree_prod (per_more per_seq (by omega)) (per_more per_seq (by omega)) n1 n2 hr
end
end L11
namespace L11
open PySem PySem.Spec PyProof.Rows L2 DL KM
section
variable {P : Program} {w : World} {K : PySem.W.Frag} {mg : Str → Option Value} {base : Heap}
/- one rule a construct; what asks for a fact is left -/
local macro_rules | `(tactic| walk_at "dl") => `(tactic| repeat (first
  | ((with_reducible refine' ew_var ?hv ?_); (case hv => exact rfl))
  | with_reducible refine ew_int ?_
  | with_reducible refine ew_bl ?_
  | with_reducible refine ew_non ?_
  | with_reducible refine ew_str ?_
  | with_reducible refine aw_nil ?_
  | with_reducible refine aw_cons ?_
  | with_reducible refine ew_isi ?_
  | with_reducible refine ew_isi2 ?_
  | with_reducible refine ew_op ?_
  | with_reducible refine ew_un ?_
  | with_reducible refine uw_neg ?_
  | with_reducible refine ew_cb ?_
  | with_reducible refine ew_call ?_
  | with_reducible refine ew_k01 ?_
  | with_reducible refine ew_k02 ?_
  | with_reducible refine ew_k02s ?_
  | with_reducible refine ew_chain ?_
  | with_reducible refine ew_andV ?_
  | with_reducible refine ew_orV ?_
  | with_reducible refine ew_notV ?_
  | with_reducible refine ew_if ?_
  | with_reducible refine ew_slT ?_
  | with_reducible refine ew_slL ?_
  | with_reducible refine ow_none ?_
  | with_reducible refine ow_some ?_
  | with_reducible refine tw_test ?_
  | with_reducible refine tw_B ?_
  | with_reducible refine tw_and ?_
  | with_reducible refine tw_or ?_
  | with_reducible refine tw_not ?_
  | with_reducible refine tw_tru ?_
  | with_reducible refine s_seq ?_
  | with_reducible refine s_set ?_
  | with_reducible refine s_asg ?_
  | with_reducible refine s_ret ?_
  | with_reducible refine s_retN ?_
  | with_reducible refine s_if ?_
  | with_reducible refine s_drop ?_
  | with_reducible refine s_par ?_
  | with_reducible refine s_next ?_
  | with_reducible refine gw_tup rfl ?_
  | with_reducible refine gs_cons ?_
  | with_reducible refine gs_nil ?_
  | with_reducible refine gw_name ?_
  | with_reducible refine rw_add ?_
  | with_reducible refine rw_sub ?_
  | with_reducible refine rw_lt ?_
  | with_reducible refine rw_le ?_
  | with_reducible refine rw_gt ?_
  | with_reducible refine rw_ge ?_
  | with_reducible refine rw_eqI ?_
  | with_reducible refine rw_neI ?_
  | with_reducible refine rw_eqB ?_
  | with_reducible refine rw_neS ?_
  | with_reducible refine rw_isN ?_
  | with_reducible refine rw_notN ?_
  | with_reducible refine rw_isB ?_
  | with_reducible refine rw_notB ?_
  | ((with_reducible refine' rw_ixT ?hi ?_); (case hi => exact rfl))
  | ((with_reducible refine' rw_ixL ?hi ?_); (case hi => exact rfl))
  | with_reducible refine cw_lenT ?_
  | with_reducible refine cw_lenL ?_
  | with_reducible refine cw_tupL ?_
  | with_reducible refine cw_max2 ?_
  | with_reducible refine cw_abs ?_
  | with_reducible refine cw_int1 ?_
  | with_reducible refine leaf_bl ?_
  | with_reducible refine leaf_int ?_
  | with_reducible refine leaf_tup ?_
  | with_reducible refine leaf_lst ?_
  | with_reducible refine leaf_two ?_
  | with_reducible refine ew_tup ?_
  | with_reducible refine sz0 ?_
  | with_reducible refine sz1 ?_
  | with_reducible refine sz2 ?_
  | with_reducible refine sz3 ?_
  | with_reducible refine sz4 ?_
  | with_reducible refine if_t ?_
  | with_reducible refine if_f ?_
  | with_reducible refine if_nt ?_
  | with_reducible refine if_nf ?_))
/- one rule a construct; what asks for a fact is left -/
local macro_rules | `(tactic| walk_at "de") => `(tactic| repeat (first
  | ((with_reducible refine' ew_var ?hv ?_); (case hv => exact rfl))
  | with_reducible refine ew_int ?_
  | with_reducible refine ew_bl ?_
  | with_reducible refine ew_non ?_
  | with_reducible refine ew_str ?_
  | with_reducible refine aw_nil ?_
  | with_reducible refine aw_cons ?_
  | with_reducible refine ew_isi ?_
  | with_reducible refine ew_isi2 ?_
  | with_reducible refine ew_op ?_
  | with_reducible refine ew_un ?_
  | with_reducible refine uw_neg ?_
  | with_reducible refine ew_cb ?_
  | with_reducible refine ew_call ?_
  | with_reducible refine ew_k01 ?_
  | with_reducible refine ew_k02 ?_
  | with_reducible refine ew_k02s ?_
  | with_reducible refine ew_chain ?_
  | with_reducible refine ew_andV ?_
  | with_reducible refine ew_orV ?_
  | with_reducible refine ew_notV ?_
  | with_reducible refine ew_if ?_
  | with_reducible refine ew_slT ?_
  | with_reducible refine ew_slL ?_
  | with_reducible refine ow_none ?_
  | with_reducible refine ow_some ?_
  | with_reducible refine tw_test ?_
  | with_reducible refine tw_B ?_
  | with_reducible refine tw_and ?_
  | with_reducible refine tw_or ?_
  | with_reducible refine tw_not ?_
  | with_reducible refine tw_tru ?_
  | with_reducible refine gw_tup rfl ?_
  | with_reducible refine gs_cons ?_
  | with_reducible refine gs_nil ?_
  | with_reducible refine gw_name ?_
  | with_reducible refine rw_add ?_
  | with_reducible refine rw_sub ?_
  | with_reducible refine rw_lt ?_
  | with_reducible refine rw_le ?_
  | with_reducible refine rw_gt ?_
  | with_reducible refine rw_ge ?_
  | with_reducible refine rw_eqI ?_
  | with_reducible refine rw_neI ?_
  | with_reducible refine rw_eqB ?_
  | with_reducible refine rw_neS ?_
  | with_reducible refine rw_isN ?_
  | with_reducible refine rw_notN ?_
  | with_reducible refine rw_isB ?_
  | with_reducible refine rw_notB ?_
  | ((with_reducible refine' rw_ixT ?hi ?_); (case hi => exact rfl))
  | ((with_reducible refine' rw_ixL ?hi ?_); (case hi => exact rfl))
  | with_reducible refine cw_lenT ?_
  | with_reducible refine cw_lenL ?_
  | with_reducible refine cw_tupL ?_
  | with_reducible refine cw_max2 ?_
  | with_reducible refine cw_abs ?_
  | with_reducible refine cw_int1 ?_
  | with_reducible refine leaf_bl ?_
  | with_reducible refine leaf_int ?_
  | with_reducible refine leaf_tup ?_
  | with_reducible refine leaf_lst ?_
  | with_reducible refine leaf_two ?_
  | with_reducible refine ew_tup ?_
  | with_reducible refine sz0 ?_
  | with_reducible refine sz1 ?_
  | with_reducible refine sz2 ?_
  | with_reducible refine sz3 ?_
  | with_reducible refine sz4 ?_
  | with_reducible refine if_t ?_
  | with_reducible refine if_f ?_
  | with_reducible refine if_nt ?_
  | with_reducible refine if_nf ?_))

/-! ### rows told otherwise -/
theorem rot1 (B A : List Int) (h : A ≠ []) : seq (B ++ A.take 1) (A.drop 1 ++ A.take 1) = seq B A := by
  cases A with
  | nil => exact absurd rfl h
  | cons c l => exact rot_seq B l c
theorem rep_seq (B A : List Int) (hA : A ≠ []) {k : Nat} (hk : 1 ≤ k) : seq B (List.replicate k A).flatten = seq B A := by
  funext i
  have hn : 0 < A.length := List.length_pos_iff.mpr hA
  unfold seq
  by_cases c : i < B.length
  · rw [if_pos c, if_pos c]
  · rw [if_neg c, if_neg c, rep_len]
    have hp : 0 < k * A.length := Nat.mul_pos hk hn
    rw [rep_get _ _ _ (Nat.mod_lt _ hp), Nat.mod_mul_left_mod]
theorem take_in {L : Int} {l : List Int} (h : In L l) (k : Nat) : In L (l.take k) := fun c hc => h c (List.mem_of_mem_take hc)
theorem drop_in {L : Int} {l : List Int} (h : In L l) (k : Nat) : In L (l.drop k) := fun c hc => h c (List.mem_of_mem_drop hc)
def f_other : FW := fun ds m P => ∃ k L B A, ds = [.cell k, rw_ B A] ∧ Pot m k ∧ Rw L B A ∧ ∀ B' A' m', Pot m' k → seq B' A' = seq B A → B'.length ≤ 16 → A'.length ≤ 16 → A' ≠ [] → In L B' → In L A' → P (rw_ B' A') m'
theorem ok__law_otherwise (T : All K mg) : FnOk P w K mg base CX0 2 T.d__law_otherwise.f T.d__law_otherwise.fd ["_law_pot_here", "_law_row_here"] (spD K f_other) := by
  refine T.d__law_otherwise.F.ok sc__law_otherwise (fun vs H Q E h => sp_len (by intro ds m P f; obtain ⟨_, h⟩ := f; first | (obtain ⟨rfl, _⟩ := h; rfl) | (obtain ⟨_, rfl, _⟩ := h; rfl) | (obtain ⟨_, _, rfl, _⟩ := h; rfl) | (obtain ⟨_, _, _, rfl, _⟩ := h; rfl) | (obtain ⟨_, _, _, _, rfl, _⟩ := h; rfl) | (obtain ⟨_, _, _, _, _, rfl, _⟩ := h; rfl)) h) (fun cdv A outer s H vs Q E hr h => ?_)
  refine ⟨_, (pss_cons (ps_asg (pv 1) (pg_tup (by rfl) (pgs_cons (pg_name (i := 2) sc__law_otherwise.nd rfl (Or.inl rfl)) (pgs_cons (pg_name (i := 3) sc__law_otherwise.nd rfl (Or.inl rfl)) pgs_nil))))
      (pss_cons (ps_for PassesOwn.never rfl (pi_range1 (by rfl) T.z_range (pa_cons (pe_call (ok__law_draw T) (hr.mono (by decide)) rfl T.d__law_draw.g T.d__law_draw.F.kp T.d__law_draw.b .nil pass0 (pa_cons (pv 0) (pa_cons pe_int pa_nil))) pa_nil)) (pg_name (i := 4) sc__law_otherwise.nd rfl (Or.inl rfl)) (pss_one (ps_par (i := 2) (j := 3) rfl sc__law_otherwise.nd rfl rfl (by decide) rfl rfl (pa_cons (pe_op op_catA (pv 2) (pe_slice sl_tupA (pv 3) po_none (po_some pe_int))) (pa_cons (pe_op op_catA (pe_slice sl_tupA (pv 3) (po_some pe_int) po_none) (pe_slice sl_tupA (pv 3) po_none (po_some pe_int))) pa_nil)) (by rfl))))
      (pss_one (ps_ret (pe_tup (pa_cons (pv 2) (pa_cons (pe_op op_repA (pv 3) (pe_op op_add pe_int (pe_call (ok__law_draw T) (hr.mono (by decide)) rfl T.d__law_draw.g T.d__law_draw.F.kp T.d__law_draw.b .nil pass0 (pa_cons (pv 0) (pa_cons pe_int pa_nil))))) pa_nil))))))), body_of h fun ds m P f => ?_⟩
  try dsimp only [cxOf, Cx.nox, Cx.wish, Cx.blk]
  obtain ⟨k, L, B, A, rfl, pm, r, p⟩ := f
  have l1 := r.lb
  have l2 := r.la
  walk_at "dl"
  refine s_forR1 ?_
  walk_at "dl"
  refine ⟨k, 4, rfl, pm, by omega, by omega, fun m1 v p1 v0 v1 => ?_⟩
  walk_at "dl"
  refine ⟨v, rfl, by omega, by omega, fun i ρ' m' => Pot m' k ∧ ∃ B1 A1 e, ρ' = [some (.cell k), some (rw_ B A), some (tw B1), some (tw A1), e] ∧ seq B1 A1 = seq B A ∧ B1.length ≤ B.length + i ∧ A1.length = A.length ∧ In L B1 ∧ In L A1, ⟨p1, B, A, _, rfl, rfl, by omega, rfl, r.b, r.a⟩, ?_, ?_⟩
  · rintro i ρ' m' hi ⟨p2, B1, A1, e, rfl, es, b1, a1, ib, ia⟩
    have na : A1 ≠ [] := fun z => r.ne (List.eq_nil_of_length_eq_zero (by rw [← a1, z]; rfl))
    have nl : 0 < A1.length := List.length_pos_iff.mpr na
    walk_at "dl"
    rw [cut_to (by omega), wi_take]
    refine rw_cat (by rw [wi_len, wi_len, List.length_take, sizeLine_eq]; omega) ?_
    rw [wi_app]
    walk_at "dl"
    rw [cut_to (by omega), cut_from (by omega), wi_take, wi_drop]
    refine rw_cat (by rw [wi_len, wi_len, List.length_take, List.length_drop, sizeLine_eq]; omega) ?_
    rw [wi_app]
    walk_at "dl"
    refine ⟨p2, B1 ++ A1.take 1, A1.drop 1 ++ A1.take 1, _, rfl, by rw [rot1 _ _ na]; exact es, ?_, ?_, ib.app (take_in ia 1), (drop_in ia 1).app (take_in ia 1)⟩
    · rw [List.length_append, List.length_take]; omega
    · rw [List.length_append, List.length_take, List.length_drop]; omega
  · rintro ρ' m' ⟨p2, B1, A1, e, rfl, es, b1, a1, ib, ia⟩
    have na : A1 ≠ [] := fun z => r.ne (List.eq_nil_of_length_eq_zero (by rw [← a1, z]; rfl))
    walk_at "dl"
    refine ⟨k, 2, rfl, p2, by omega, by omega, fun m4 u p4 u0 u1 => ?_⟩
    walk_at "dl"
    refine rw_rep (wi_ne na) (by omega) (by omega) (by rw [wi_len]; omega) ?_
    rw [wi_rep]
    walk_at "dl"
    refine p B1 _ m4 p4 (by rw [rep_seq _ _ na (by omega)]; exact es) (by omega) ?_ (rep_ne na (by omega)) ib (rep_in ia _)
    rw [rep_len]
    have hk : (1 + u).toNat ≤ 2 := by omega
    have := Nat.mul_le_mul_right A1.length hk
    omega
def f_bent : FW := fun ds m P => ∃ k L B A, ds = [.cell k, .int L, rw_ B A] ∧ Pot m k ∧ 1 ≤ L ∧ L ≤ 1000 ∧ A ≠ [] ∧ A.length ≤ 16 ∧ In L A ∧ ∀ A' m', Pot m' k → A' ≠ [] → A'.length ≤ 17 → In L A' → P (rw_ B A') m'
theorem ok__law_bent (T : All K mg) : FnOk P w K mg base CX0 2 T.d__law_bent.f T.d__law_bent.fd ["_law_pot_here", "_law_letters", "_law_row_here"] (spD K f_bent) := by
  refine T.d__law_bent.F.ok sc__law_bent (fun vs H Q E h => sp_len (by intro ds m P f; obtain ⟨_, h⟩ := f; first | (obtain ⟨rfl, _⟩ := h; rfl) | (obtain ⟨_, rfl, _⟩ := h; rfl) | (obtain ⟨_, _, rfl, _⟩ := h; rfl) | (obtain ⟨_, _, _, rfl, _⟩ := h; rfl) | (obtain ⟨_, _, _, _, rfl, _⟩ := h; rfl) | (obtain ⟨_, _, _, _, _, rfl, _⟩ := h; rfl)) h) (fun cdv A outer s H vs Q E hr h => ?_)
  refine ⟨_, (pss_cons (ps_set (i := 3) sc__law_bent.nd rfl (Or.inl rfl) (pe_call (ok__law_draw T) (hr.mono (by decide)) rfl T.d__law_draw.g T.d__law_draw.F.kp T.d__law_draw.b .nil pass0 (pa_cons (pv 0) (pa_cons (pe_callB call_lenS (by rfl) T.z_len (by decide +kernel) (pa_cons (pe_ix ix_tup (pv 2) pe_int (fun _ _ => rfl)) pa_nil)) pa_nil))))
      (pss_cons (ps_set (i := 4) sc__law_bent.nd rfl (Or.inl rfl) (pe_call (ok__law_draw T) (hr.mono (by decide)) rfl T.d__law_draw.g T.d__law_draw.F.kp T.d__law_draw.b .nil pass0 (pa_cons (pv 0) (pa_cons (pv 1) pa_nil))))
      (pss_one (ps_ret (pe_tup (pa_cons (pe_ix ix_tup (pv 2) pe_int (fun _ _ => rfl)) (pa_cons (pe_op op_catA (pe_op op_catA (pe_slice sl_tupA (pe_ix ix_tup (pv 2) pe_int (fun _ _ => rfl)) po_none (po_some (pv 3))) (pe_tup (pa_cons (pv 4) pa_nil))) (pe_slice sl_tupA (pe_ix ix_tup (pv 2) pe_int (fun _ _ => rfl)) (po_some (pe_op op_add (pv 3) pe_int)) po_none)) pa_nil))))))), body_of h fun ds m P f => ?_⟩
  try dsimp only [cxOf, Cx.nox, Cx.wish, Cx.blk]
  obtain ⟨k, L, B, A, rfl, pm, h1, h2, hA, la, ia, p⟩ := f
  have nl : 0 < A.length := List.length_pos_iff.mpr hA
  walk_at "dl"
  rw [wi_len]
  refine ⟨k, _, rfl, pm, by omega, by omega, fun m1 v p1 v0 v1 => ?_⟩
  walk_at "dl"
  refine ⟨k, L, rfl, p1, h1, h2, fun m2 c p2 c0 c1 => ?_⟩
  walk_at "dl"
  rw [cut_to (by omega), wi_take, wi_one]
  refine rw_cat (by rw [wi_len, wi_len, List.length_take, List.length_singleton, sizeLine_eq]; omega) ?_
  rw [wi_app]
  walk_at "dl"
  rw [cut_from (by omega), wi_drop]
  refine rw_cat (by rw [wi_len, wi_len, List.length_append, List.length_take, List.length_singleton, List.length_drop, sizeLine_eq]; omega) ?_
  rw [wi_app]
  walk_at "dl"
  refine p _ m2 p2 (fun z => ?_) ?_ (((take_in ia _).app fun d hd => ?_).app (drop_in ia _))
  · have := congrArg List.length z
    rw [List.length_append, List.length_append, List.length_singleton, List.length_nil] at this
    omega
  · rw [List.length_append, List.length_append, List.length_take, List.length_singleton, List.length_drop]; omega
  · rw [List.mem_singleton.mp hd]
    exact ⟨c0, c1⟩
theorem Rw.ok {L L' : Int} {B A : List Int} (r : Rw L B A) (l : L ≤ L') : Ok L' B A :=
  ⟨Nat.le_trans r.lb (by omega), Nat.le_trans r.la (by omega), r.ne, fun c m => ⟨(r.b c m).1, Int.lt_of_lt_of_le (r.b c m).2 l⟩, fun c m => ⟨(r.a c m).1, Int.lt_of_lt_of_le (r.a c m).2 l⟩⟩
/-! ### what one row alone tells -/
def f_alone : FW := fun ds m P => ∃ k L B A, ds = [.cell k, .int L, rw_ B A] ∧ Pot m k ∧ 1 ≤ L ∧ L ≤ 4 ∧ Ok L B A ∧ ∀ m', Pot m' k → P (.bl true) m'
theorem ok__law_alone_right (T : All K mg) : FnOk P w K mg base CX0 8 T.d__law_alone_right.f T.d__law_alone_right.fd ["_law_pot_here", "_law_letters", "_law_row_here"] (spD K f_alone) := by
  refine T.d__law_alone_right.F.ok sc__law_alone_right (fun vs H Q E h => sp_len (by intro ds m P f; obtain ⟨_, h⟩ := f; first | (obtain ⟨rfl, _⟩ := h; rfl) | (obtain ⟨_, rfl, _⟩ := h; rfl) | (obtain ⟨_, _, rfl, _⟩ := h; rfl) | (obtain ⟨_, _, _, rfl, _⟩ := h; rfl) | (obtain ⟨_, _, _, _, rfl, _⟩ := h; rfl) | (obtain ⟨_, _, _, _, _, rfl, _⟩ := h; rfl)) h) (fun cdv A outer s H vs Q E hr h => ?_)
  refine ⟨_, (pss_cons (ps_set (i := 3) sc__law_alone_right.nd rfl (Or.inl rfl) (pe_call (ok__law_normal_of T) (hr.mono (by decide)) rfl T.d__law_normal_of.g T.d__law_normal_of.F.kp T.d__law_normal_of.b .nil pass0 (pa_cons (pv 2) pa_nil)))
      (pss_cons (ps_if (PW.pt (pw_or (pt_cmpR (op_neD hr.units) (pe_call (ok_normal_row T) (hr.mono (by decide)) rfl T.d_normal_row.g T.d_normal_row.F.kp T.d_normal_row.b .nil pass0 (pa_cons (pv 2) pa_nil)) (pv 3) (nomark _)) (pw_or (pt_cmpR (op_neD hr.units) (pe_callN0 (ok_normal_row T) (hr.mono (by decide)) rfl T.d_normal_row.g T.d_normal_row.F.kp (kb_normal_row_0_row T.d_normal_row) pass0 (pk_cons (pv 3) pk_nil)) (pv 3) (nomark _)) (pw_or1 (pt_cmpR op_notB (pe_call (ok_is_row T) (hr.mono (by decide)) rfl T.d_is_row.g T.d_is_row.F.kp T.d_is_row.b .nil pass0 (pa_cons (pv 1) (pa_cons (pv 3) pa_nil))) pe_bl (nomark _)))))) (pss_one (ps_ret pe_bl)) pss_nil)
      (pss_cons (ps_set (i := 4) sc__law_alone_right.nd rfl (Or.inl rfl) (pe_call (ok__law_draw T) (hr.mono (by decide)) rfl T.d__law_draw.g T.d__law_draw.F.kp T.d__law_draw.b .nil pass0 (pa_cons (pv 0) (pa_cons pe_int pa_nil))))
      (pss_cons (ps_if (PW.pt (pw_or (pt_cmpR (op_neD hr.units) (pe_call (ok_spelled T) (hr.mono (by decide)) rfl T.d_spelled.g T.d_spelled.F.kp T.d_spelled.b .nil pass0 (pa_cons (pv 2) (pa_cons (pv 4) pa_nil))) (pe_call (ok__law_spelled T) (hr.mono (by decide)) rfl T.d__law_spelled.g T.d__law_spelled.F.kp T.d__law_spelled.b .nil pass0 (pa_cons (pv 2) (pa_cons (pv 4) pa_nil))) (nomark _)) (pw_or1 (pt_cmpR (op_neD hr.units) (pe_callN0 (ok_spelled T) (hr.mono (by decide)) rfl T.d_spelled.g T.d_spelled.F.kp (kb_spelled_0_many_row T.d_spelled) pass0 (pk_cons (pv 4) (pk_cons (pv 3) pk_nil))) (pe_call (ok__law_spelled T) (hr.mono (by decide)) rfl T.d__law_spelled.g T.d__law_spelled.F.kp T.d__law_spelled.b .nil pass0 (pa_cons (pv 2) (pa_cons (pv 4) pa_nil))) (nomark _))))) (pss_one (ps_ret pe_bl)) pss_nil)
      (pss_cons (ps_for PassesOwn.never rfl (pi_list (pe_lst (pa_cons (pv 4) (pa_cons (pe_op op_sub pe_int (pv 4)) pa_nil)))) (pg_name (i := 5) sc__law_alone_right.nd rfl (Or.inl rfl)) (pss_one (ps_if (PW.pt (pw_or (pt_cmpR op_ne (pe_call (ok_letter_at T) (hr.mono (by decide)) rfl T.d_letter_at.g T.d_letter_at.F.kp T.d_letter_at.b .nil pass0 (pa_cons (pv 2) (pa_cons (pv 5) pa_nil))) (pe_call (ok__law_at T) (hr.mono (by decide)) rfl T.d__law_at.g T.d__law_at.F.kp T.d__law_at.b .nil pass0 (pa_cons (pv 2) (pa_cons (pv 5) pa_nil))) (nomark _)) (pw_or1 (pt_cmpR op_ne (pe_callN0 (ok_letter_at T) (hr.mono (by decide)) rfl T.d_letter_at.g T.d_letter_at.F.kp (kb_letter_at_0_place_row T.d_letter_at) pass0 (pk_cons (pv 5) (pk_cons (pv 3) pk_nil))) (pe_call (ok__law_at T) (hr.mono (by decide)) rfl T.d__law_at.g T.d__law_at.F.kp T.d__law_at.b .nil pass0 (pa_cons (pv 2) (pa_cons (pv 5) pa_nil))) (nomark _))))) (pss_one (ps_ret pe_bl)) pss_nil)))
      (pss_one (ps_ret pe_bl))))))), body_of h fun ds m P f => ?_⟩
  try dsimp only [cxOf, Cx.nox, Cx.wish, Cx.blk]
  obtain ⟨k, L, B, A, rfl, pm, h1, h2, h, p⟩ := f
  have l1 := h.la
  have l2 := h.lb
  have h4 := h.mono h2
  walk_at "dl"
  refine ⟨B, A, rfl, h.ne, by omega, by omega, fun B1 A1 n1 => ?_⟩
  obtain ⟨o1, _, _⟩ := h.nr n1
  have o4 := o1.mono h2
  have es := nr_seq n1
  walk_at "dl"
  refine ⟨B, A, rfl, h4, fun B2 A2 n2 => ?_⟩
  obtain ⟨rfl, rfl⟩ := n1.unique n2
  walk_at "dl"
  refine rw_neD (shp_row _ _) (shp_row _ _) ?_
  rw [eqD_row]
  walk_at "dl"
  refine if_nd (fun z => absurd ⟨rfl, rfl⟩ z) (fun _ => ?_)
  walk_at "dl"
  refine ⟨rfl, B1, A1, rfl, o4, fun B2 A2 n2 => ?_⟩
  rw [es] at n2
  obtain ⟨rfl, rfl⟩ := n1.unique n2
  walk_at "dl"
  refine rw_neD (shp_row _ _) (shp_row _ _) ?_
  rw [eqD_row]
  walk_at "dl"
  refine if_nd (fun z => absurd ⟨rfl, rfl⟩ z) (fun _ => ?_)
  walk_at "dl"
  refine ⟨L, _, rfl, h1, h2, nc_row _ _, ?_⟩
  rw [isR_row o1]
  walk_at "dl"
  refine if_nd (fun z => absurd rfl z) (fun _ => ?_)
  walk_at "dl"
  refine ⟨k, 30, rfl, pm, by omega, by omega, fun m1 v p1 v0 v1 => ?_⟩
  walk_at "dl"
  refine ⟨B, A, v, rfl, h4, by omega, by omega, ?_⟩
  walk_at "dl"
  refine ⟨B, A, v, rfl, h.ne, by omega, by omega, ?_⟩
  refine rw_neD (shp_li _) (shp_li _) ?_
  rw [eqD_li]
  walk_at "dl"
  refine if_nd (fun z => absurd rfl z) (fun _ => ?_)
  walk_at "dl"
  refine ⟨rfl, B1, A1, v, rfl, o4, by omega, by omega, ?_⟩
  walk_at "dl"
  refine ⟨B, A, v, rfl, h.ne, by omega, by omega, ?_⟩
  rw [es]
  refine rw_neD (shp_li _) (shp_li _) ?_
  rw [eqD_li]
  walk_at "dl"
  refine if_nd (fun z => absurd rfl z) (fun _ => ?_)
  walk_at "dl"
  refine s_forL (ew_lst ?_)
  walk_at "dl"
  refine ⟨fun i ρ' m' => m' = m1 ∧ ∃ e, ρ' = [some (.cell k), some (.int L), some (rw_ B A), some (rw_ B1 A1), some (.int v), e], ⟨rfl, _, rfl⟩, ?_, ?_⟩
  · rintro i x ρ' m' hx ⟨rfl, e, rfl⟩
    obtain ⟨q, rfl, q0, q1⟩ : ∃ q : Int, x = .int q ∧ 0 ≤ q ∧ q ≤ 999999 := by
      match i, hx with
      | 0, hx => cases hx; exact ⟨v, rfl, by omega, by omega⟩
      | 1, hx => cases hx; exact ⟨_, rfl, by omega, by omega⟩
    walk_at "dl"
    refine ⟨B, A, q, rfl, h4, q0, q1, ?_⟩
    walk_at "dl"
    refine ⟨B, A, q, rfl, h.ne, q0, ?_⟩
    walk_at "dl"
    refine if_nd (fun z => absurd rfl z) (fun _ => ?_)
    walk_at "dl"
    refine ⟨rfl, B1, A1, q, rfl, o4, q0, q1, ?_⟩
    walk_at "dl"
    refine ⟨B, A, q, rfl, h.ne, q0, ?_⟩
    rw [es]
    walk_at "dl"
    refine if_nd (fun z => absurd rfl z) (fun _ => ?_)
    walk_at "dl"
    exact ⟨rfl, _, rfl⟩
  · rintro ρ' m' ⟨rfl, e, rfl⟩
    walk_at "dl"
    exact p _ p1
/-! ### turned on -/
def f_turnedR : FW := fun ds m P => ∃ k B A, ds = [.cell k, rw_ B A] ∧ Pot m k ∧ Rw 4 B A ∧ ∀ m', Pot m' k → P (.bl true) m'
theorem ok__law_turned_right (T : All K mg) : FnOk P w K mg base CX0 8 T.d__law_turned_right.f T.d__law_turned_right.fd ["_law_pot_here", "_law_row_here"] (spD K f_turnedR) := by
  refine T.d__law_turned_right.F.ok sc__law_turned_right (fun vs H Q E h => sp_len (by intro ds m P f; obtain ⟨_, h⟩ := f; first | (obtain ⟨rfl, _⟩ := h; rfl) | (obtain ⟨_, rfl, _⟩ := h; rfl) | (obtain ⟨_, _, rfl, _⟩ := h; rfl) | (obtain ⟨_, _, _, rfl, _⟩ := h; rfl) | (obtain ⟨_, _, _, _, rfl, _⟩ := h; rfl) | (obtain ⟨_, _, _, _, _, rfl, _⟩ := h; rfl)) h) (fun cdv A outer s H vs Q E hr h => ?_)
  refine ⟨_, (pss_cons (ps_par (i := 2) (j := 3) rfl sc__law_turned_right.nd rfl rfl (by decide) rfl rfl (pa_cons (pe_call (ok__law_draw T) (hr.mono (by decide)) rfl T.d__law_draw.g T.d__law_draw.F.kp T.d__law_draw.b .nil pass0 (pa_cons (pv 0) (pa_cons pe_int pa_nil))) (pa_cons (pe_call (ok__law_draw T) (hr.mono (by decide)) rfl T.d__law_draw.g T.d__law_draw.F.kp T.d__law_draw.b .nil pass0 (pa_cons (pv 0) (pa_cons pe_int pa_nil))) pa_nil)) (by rfl))
      (pss_cons (ps_set (i := 4) sc__law_turned_right.nd rfl (Or.inl rfl) (pe_tup (pa_cons (pe_slice sl_tupA (pe_ix ix_tup (pv 1) pe_int (fun _ _ => rfl)) (po_some (pv 2)) po_none) (pa_cons (pe_ix ix_tup (pv 1) pe_int (fun _ _ => rfl)) pa_nil))))
      (pss_cons (ps_if (pt_cmpR op_gt (pv 2) (pe_callB call_lenS (by rfl) T.z_len (by decide +kernel) (pa_cons (pe_ix ix_tup (pv 1) pe_int (fun _ _ => rfl)) pa_nil)) (nomark _)) (pss_cons (ps_set (i := 5) sc__law_turned_right.nd rfl (Or.inl rfl) (pe_op op_mod (pe_op op_sub (pv 2) (pe_callB call_lenS (by rfl) T.z_len (by decide +kernel) (pa_cons (pe_ix ix_tup (pv 1) pe_int (fun _ _ => rfl)) pa_nil))) (pe_callB call_lenS (by rfl) T.z_len (by decide +kernel) (pa_cons (pe_ix ix_tup (pv 1) pe_int (fun _ _ => rfl)) pa_nil))))
      (pss_one (ps_set (i := 4) sc__law_turned_right.nd rfl (Or.inl rfl) (pe_tup (pa_cons (pe_tup pa_nil) (pa_cons (pe_op op_catA (pe_slice sl_tupA (pe_ix ix_tup (pv 1) pe_int (fun _ _ => rfl)) (po_some (pv 5)) po_none) (pe_slice sl_tupA (pe_ix ix_tup (pv 1) pe_int (fun _ _ => rfl)) po_none (po_some (pv 5)))) pa_nil)))))) pss_nil)
      (pss_cons (ps_par (i := 6) (j := 7) rfl sc__law_turned_right.nd rfl rfl (by decide) rfl rfl (pa_cons (pe_call (ok__law_normal_of T) (hr.mono (by decide)) rfl T.d__law_normal_of.g T.d__law_normal_of.F.kp T.d__law_normal_of.b .nil pass0 (pa_cons (pv 4) pa_nil)) (pa_cons (pe_op op_add (pe_callB call_lenS (by rfl) T.z_len (by decide +kernel) (pa_cons (pe_ix ix_tup (pv 1) pe_int (fun _ _ => rfl)) pa_nil)) (pe_op op_mul pe_int (pe_callB call_lenS (by rfl) T.z_len (by decide +kernel) (pa_cons (pe_ix ix_tup (pv 1) pe_int (fun _ _ => rfl)) pa_nil)))) pa_nil)) (by rfl))
      (pss_cons (ps_if (PW.pt (pw_or (pt_cmpR (op_neD hr.units) (pe_call (ok_turned_on T) (hr.mono (by decide)) rfl T.d_turned_on.g T.d_turned_on.F.kp T.d_turned_on.b .nil pass0 (pa_cons (pv 1) (pa_cons (pv 2) pa_nil))) (pv 6) (nomark _)) (pw_or1 (pt_cmpR (op_neD hr.units) (pe_call (ok_turned_on T) (hr.mono (by decide)) rfl T.d_turned_on.g T.d_turned_on.F.kp T.d_turned_on.b .nil pass0 (pa_cons (pe_call (ok_turned_on T) (hr.mono (by decide)) rfl T.d_turned_on.g T.d_turned_on.F.kp T.d_turned_on.b .nil pass0 (pa_cons (pv 1) (pa_cons (pv 2) pa_nil))) (pa_cons (pv 3) pa_nil))) (pe_callN0 (ok_turned_on T) (hr.mono (by decide)) rfl T.d_turned_on.g T.d_turned_on.F.kp (kb_turned_on_0_many_row T.d_turned_on) pass0 (pk_cons (pe_op op_add (pv 2) (pv 3)) (pk_cons (pv 1) pk_nil))) (nomark _))))) (pss_one (ps_ret pe_bl)) pss_nil)
      (pss_one (ps_ret (pe_and (pe_cmpR (op_eqD hr.units) (pe_call (ok_turned_on T) (hr.mono (by decide)) rfl T.d_turned_on.g T.d_turned_on.F.kp T.d_turned_on.b .nil pass0 (pa_cons (pv 1) (pa_cons (pv 7) pa_nil))) (pe_call (ok_turned_on T) (hr.mono (by decide)) rfl T.d_turned_on.g T.d_turned_on.F.kp T.d_turned_on.b .nil pass0 (pa_cons (pv 1) (pa_cons (pe_op op_sub (pv 7) (pe_callB call_lenS (by rfl) T.z_len (by decide +kernel) (pa_cons (pe_ix ix_tup (pv 1) pe_int (fun _ _ => rfl)) pa_nil))) pa_nil))) (nomark _)) (pe_one (pe_cmpR (op_eqD hr.units) (pe_call (ok_turned_on T) (hr.mono (by decide)) rfl T.d_turned_on.g T.d_turned_on.F.kp T.d_turned_on.b .nil pass0 (pa_cons (pv 1) (pa_cons pe_int pa_nil))) (pe_call (ok__law_normal_of T) (hr.mono (by decide)) rfl T.d__law_normal_of.g T.d__law_normal_of.F.kp T.d__law_normal_of.b .nil pass0 (pa_cons (pv 1) pa_nil)) (nomark _))))))))))), body_of h fun ds m P f => ?_⟩
  try dsimp only [cxOf, Cx.nox, Cx.wish, Cx.blk]
  obtain ⟨k, B, A, rfl, pm, r, p⟩ := f
  have l1 := r.la
  have l2 := r.lb
  have h := r.ok (L' := 4) (by omega)
  have n1 : 0 < A.length := List.length_pos_iff.mpr h.ne
  walk_at "dl"
  refine ⟨k, 20, rfl, pm, by omega, by omega, fun m1 v p1 v0 v1 => ?_⟩
  walk_at "dl"
  refine ⟨k, 20, rfl, p1, by omega, by omega, fun m2 u p2 u0 u1 => ?_⟩
  walk_at "de"
  refine s_seq (s_set ?_)
  walk_at "de"
  rw [cut_from v0, wi_drop]
  refine s_seq (s_cut (fun ρ' m' => m' = m2 ∧ ∃ (B1 A1 : List Int) (e5 : Option Dat), ρ' = [some (.cell k), some (rw_ B A), some (.int v), some (.int u), some (rw_ B1 A1), e5, none, none] ∧ Ok 4 B1 A1 ∧ seq B1 A1 = fun i => seq B A (i + v.toNat)) (s_if ?_) ?_)
  · walk_at "dl"
    rw [wi_len]
    refine if_d (fun hv => ?_) (fun hv => ?_)
    · walk_at "dl"
      rw [wi_len, wi_len]
      refine rw_mod (by omega) ?_
      walk_at "dl"
      have ek : v - (B.length : Int) = ((v.toNat - B.length : Nat) : Int) := by omega
      rw [ek, emod_nat _ A.length _ rfl]
      have gl : (v.toNat - B.length) % A.length < A.length := Nat.mod_lt _ n1
      rw [cut_from (by omega), cut_to (by omega), Int.toNat_natCast, wi_drop, wi_take]
      refine rw_cat (by rw [wi_len, wi_len, List.length_drop, List.length_take, sizeLine_eq]; omega) ?_
      rw [wi_app]
      have sp := spin_seq B A v.toNat _ (by omega) h.ne rfl
      walk_at "dl"
      refine ⟨rfl, [], _, _, rfl, ⟨by simp, by rw [List.length_append, List.length_drop, List.length_take]; omega, fun z => ?_, (by intro c hc; cases hc), (drop_in h.a _).app (take_in h.a _)⟩, sp⟩
      have := congrArg List.length z
      rw [List.length_append, List.length_drop, List.length_take, List.length_nil] at this
      omega
    · walk_at "dl"
      exact ⟨rfl, B.drop v.toNat, A, _, rfl, ⟨by rw [List.length_drop]; omega, by omega, h.ne, drop_in h.b _, h.a⟩, drop_seq B A v.toNat (by omega)⟩
  rintro ρ' m' ⟨rfl, B1, A1, e5, rfl, o1, es⟩
  walk_at "dl"
  refine ⟨B1, A1, rfl, o1.ne, by have := o1.la; omega, by have := o1.lb; omega, fun B2 A2 n2 => ?_⟩
  obtain ⟨o2, _, _⟩ := o1.nr n2
  have es2 := nr_seq n2
  walk_at "dl"
  rw [wi_len, wi_len]
  refine rw_mul (.inl ⟨by omega, by omega⟩) ?_
  walk_at "dl"
  refine ⟨B, A, v, rfl, h, v0, by omega, fun B3 A3 n3 => ?_⟩
  rw [← es] at n3
  obtain ⟨rfl, rfl⟩ := n2.unique n3
  walk_at "dl"
  refine rw_neD (shp_row _ _) (shp_row _ _) ?_
  rw [eqD_row]
  walk_at "dl"
  refine if_nd (fun z => absurd ⟨rfl, rfl⟩ z) (fun _ => ?_)
  walk_at "dl"
  refine ⟨B, A, v, rfl, h, v0, by omega, fun B3 A3 n3 => ?_⟩
  rw [← es] at n3
  obtain ⟨rfl, rfl⟩ := n2.unique n3
  walk_at "dl"
  refine ⟨B2, A2, u, rfl, o2, u0, by omega, fun B3 A3 n3 => ?_⟩
  walk_at "dl"
  refine ⟨rfl, B, A, v + u, rfl, h, by omega, by omega, fun B4 A4 n4 => ?_⟩
  have e34 : (fun i => seq B2 A2 (i + u.toNat)) = fun i => seq B A (i + (v + u).toNat) := by
    rw [es2, es]
    funext i
    show seq B A (i + u.toNat + v.toNat) = _
    congr 1
    omega
  rw [e34] at n3
  obtain ⟨rfl, rfl⟩ := n3.unique n4
  refine rw_neD (shp_row _ _) (shp_row _ _) ?_
  rw [eqD_row]
  walk_at "dl"
  refine if_nd (fun z => absurd ⟨rfl, rfl⟩ z) (fun _ => ?_)
  walk_at "dl"
  refine ⟨B, A, _, rfl, h, by omega, by omega, fun B5 A5 n5 => ?_⟩
  walk_at "dl"
  rw [wi_len]
  refine ⟨B, A, _, rfl, h, by omega, by omega, fun B6 A6 n6 => ?_⟩
  have e56 : (fun i => seq B A (i + ((B.length : Int) + 7 * (A.length : Int)).toNat)) = fun i => seq B A (i + ((B.length : Int) + 7 * (A.length : Int) - (A.length : Int)).toNat) := by
    funext i
    have := per_seq (B := B) (A := A) (i + ((B.length : Int) + 7 * (A.length : Int) - (A.length : Int)).toNat) (by omega)
    rw [← this]
    congr 1
    omega
  rw [e56] at n5
  obtain ⟨rfl, rfl⟩ := n5.unique n6
  refine rw_eqD (shp_row _ _) (shp_row _ _) ?_
  rw [eqD_row, decide_eq_true (show B5 = B5 ∧ A5 = A5 from ⟨rfl, rfl⟩)]
  walk_at "dl"
  refine ⟨B, A, 0, rfl, h, by omega, by omega, fun B7 A7 n7 => ?_⟩
  walk_at "dl"
  refine ⟨B, A, rfl, h.ne, by omega, by omega, fun B8 A8 n8 => ?_⟩
  have e0 : (fun i => seq B A (i + (0 : Int).toNat)) = seq B A := rfl
  rw [e0] at n7
  obtain ⟨rfl, rfl⟩ := n7.unique n8
  refine rw_eqD (shp_row _ _) (shp_row _ _) ?_
  rw [eqD_row, decide_eq_true (show B7 = B7 ∧ A7 = A7 from ⟨rfl, rfl⟩)]
  exact p _ p2
end
end L11
namespace L11
open PySem PySem.Spec PyProof.Rows L2 DL KM
section
variable {P : Program} {w : World} {K : PySem.W.Frag} {mg : Str → Option Value} {base : Heap}
/- one rule a construct; what asks for a fact is left -/
local macro_rules | `(tactic| walk_at "dl") => `(tactic| repeat (first
  | ((with_reducible refine' ew_var ?hv ?_); (case hv => exact rfl))
  | with_reducible refine ew_int ?_
  | with_reducible refine ew_bl ?_
  | with_reducible refine ew_non ?_
  | with_reducible refine ew_str ?_
  | with_reducible refine aw_nil ?_
  | with_reducible refine aw_cons ?_
  | with_reducible refine ew_isi ?_
  | with_reducible refine ew_isi2 ?_
  | with_reducible refine ew_op ?_
  | with_reducible refine ew_un ?_
  | with_reducible refine uw_neg ?_
  | with_reducible refine ew_cb ?_
  | with_reducible refine ew_call ?_
  | with_reducible refine ew_k01 ?_
  | with_reducible refine ew_k02 ?_
  | with_reducible refine ew_k02s ?_
  | with_reducible refine ew_chain ?_
  | with_reducible refine ew_andV ?_
  | with_reducible refine ew_orV ?_
  | with_reducible refine ew_notV ?_
  | with_reducible refine ew_if ?_
  | with_reducible refine ew_slT ?_
  | with_reducible refine ew_slL ?_
  | with_reducible refine ow_none ?_
  | with_reducible refine ow_some ?_
  | with_reducible refine tw_test ?_
  | with_reducible refine tw_B ?_
  | with_reducible refine tw_and ?_
  | with_reducible refine tw_or ?_
  | with_reducible refine tw_not ?_
  | with_reducible refine tw_tru ?_
  | with_reducible refine s_seq ?_
  | with_reducible refine s_set ?_
  | with_reducible refine s_asg ?_
  | with_reducible refine s_ret ?_
  | with_reducible refine s_retN ?_
  | with_reducible refine s_if ?_
  | with_reducible refine s_drop ?_
  | with_reducible refine s_par ?_
  | with_reducible refine s_next ?_
  | with_reducible refine gw_tup rfl ?_
  | with_reducible refine gs_cons ?_
  | with_reducible refine gs_nil ?_
  | with_reducible refine gw_name ?_
  | with_reducible refine rw_add ?_
  | with_reducible refine rw_sub ?_
  | with_reducible refine rw_lt ?_
  | with_reducible refine rw_le ?_
  | with_reducible refine rw_gt ?_
  | with_reducible refine rw_ge ?_
  | with_reducible refine rw_eqI ?_
  | with_reducible refine rw_neI ?_
  | with_reducible refine rw_eqB ?_
  | with_reducible refine rw_neS ?_
  | with_reducible refine rw_isN ?_
  | with_reducible refine rw_notN ?_
  | with_reducible refine rw_isB ?_
  | with_reducible refine rw_notB ?_
  | ((with_reducible refine' rw_ixT ?hi ?_); (case hi => exact rfl))
  | ((with_reducible refine' rw_ixL ?hi ?_); (case hi => exact rfl))
  | with_reducible refine cw_lenT ?_
  | with_reducible refine cw_lenL ?_
  | with_reducible refine cw_tupL ?_
  | with_reducible refine cw_max2 ?_
  | with_reducible refine cw_abs ?_
  | with_reducible refine cw_int1 ?_
  | with_reducible refine leaf_bl ?_
  | with_reducible refine leaf_int ?_
  | with_reducible refine leaf_tup ?_
  | with_reducible refine leaf_lst ?_
  | with_reducible refine leaf_two ?_
  | with_reducible refine ew_tup ?_
  | with_reducible refine sz0 ?_
  | with_reducible refine sz1 ?_
  | with_reducible refine sz2 ?_
  | with_reducible refine sz3 ?_
  | with_reducible refine sz4 ?_
  | with_reducible refine if_t ?_
  | with_reducible refine if_f ?_
  | with_reducible refine if_nt ?_
  | with_reducible refine if_nf ?_))
/- one rule a construct; what asks for a fact is left -/
local macro_rules | `(tactic| walk_at "de") => `(tactic| repeat (first
  | ((with_reducible refine' ew_var ?hv ?_); (case hv => exact rfl))
  | with_reducible refine ew_int ?_
  | with_reducible refine ew_bl ?_
  | with_reducible refine ew_non ?_
  | with_reducible refine ew_str ?_
  | with_reducible refine aw_nil ?_
  | with_reducible refine aw_cons ?_
  | with_reducible refine ew_isi ?_
  | with_reducible refine ew_isi2 ?_
  | with_reducible refine ew_op ?_
  | with_reducible refine ew_un ?_
  | with_reducible refine uw_neg ?_
  | with_reducible refine ew_cb ?_
  | with_reducible refine ew_call ?_
  | with_reducible refine ew_k01 ?_
  | with_reducible refine ew_k02 ?_
  | with_reducible refine ew_k02s ?_
  | with_reducible refine ew_chain ?_
  | with_reducible refine ew_andV ?_
  | with_reducible refine ew_orV ?_
  | with_reducible refine ew_notV ?_
  | with_reducible refine ew_if ?_
  | with_reducible refine ew_slT ?_
  | with_reducible refine ew_slL ?_
  | with_reducible refine ow_none ?_
  | with_reducible refine ow_some ?_
  | with_reducible refine tw_test ?_
  | with_reducible refine tw_B ?_
  | with_reducible refine tw_and ?_
  | with_reducible refine tw_or ?_
  | with_reducible refine tw_not ?_
  | with_reducible refine tw_tru ?_
  | with_reducible refine gw_tup rfl ?_
  | with_reducible refine gs_cons ?_
  | with_reducible refine gs_nil ?_
  | with_reducible refine gw_name ?_
  | with_reducible refine rw_add ?_
  | with_reducible refine rw_sub ?_
  | with_reducible refine rw_lt ?_
  | with_reducible refine rw_le ?_
  | with_reducible refine rw_gt ?_
  | with_reducible refine rw_ge ?_
  | with_reducible refine rw_eqI ?_
  | with_reducible refine rw_neI ?_
  | with_reducible refine rw_eqB ?_
  | with_reducible refine rw_neS ?_
  | with_reducible refine rw_isN ?_
  | with_reducible refine rw_notN ?_
  | with_reducible refine rw_isB ?_
  | with_reducible refine rw_notB ?_
  | ((with_reducible refine' rw_ixT ?hi ?_); (case hi => exact rfl))
  | ((with_reducible refine' rw_ixL ?hi ?_); (case hi => exact rfl))
  | with_reducible refine cw_lenT ?_
  | with_reducible refine cw_lenL ?_
  | with_reducible refine cw_tupL ?_
  | with_reducible refine cw_max2 ?_
  | with_reducible refine cw_abs ?_
  | with_reducible refine cw_int1 ?_
  | with_reducible refine leaf_bl ?_
  | with_reducible refine leaf_int ?_
  | with_reducible refine leaf_tup ?_
  | with_reducible refine leaf_lst ?_
  | with_reducible refine leaf_two ?_
  | with_reducible refine ew_tup ?_
  | with_reducible refine sz0 ?_
  | with_reducible refine sz1 ?_
  | with_reducible refine sz2 ?_
  | with_reducible refine sz3 ?_
  | with_reducible refine sz4 ?_
  | with_reducible refine if_t ?_
  | with_reducible refine if_f ?_
  | with_reducible refine if_nt ?_
  | with_reducible refine if_nf ?_))

/-! ### two rows -/
theorem fd_non {x y : Nat → Int} {o : Option Nat} (h : FD x y o) {b : Bool} (hb : b = true ↔ ∀ i, x i = y i) : b = isNon (opD o) := by
  cases o with
  | none => exact hb.mpr h
  | some q =>
    cases b with
    | false => rfl
    | true => exact absurd (hb.mp rfl q) h.1
def f_two : FW := fun ds m P => ∃ B A B' A', ds = [rw_ B A, rw_ B' A'] ∧ Ok 4 B A ∧ Ok 4 B' A' ∧ ∀ m', (∀ k, Pot m k → Pot m' k) → P (.bl true) m'
theorem scal_op (o : Option Nat) : scal (fl (opD o)) (fl (opD o)) = true := by cases o <;> rfl
theorem pot_app {m : Mu} {x : Option (List Dat)} {k : Nat} (h : Pot m k) : Pot (m ++ [x]) k := by
  obtain ⟨a, b, hm, h1⟩ := h
  exact ⟨a, b, by rw [List.getElem?_append_left (List.getElem?_eq_some_iff.mp hm).1]; exact hm, h1⟩
theorem shown2 (b : Bool) : (toPy (.lst [.bl b, .bl b])).showable = true ∧ (toPy (.lst [.bl b, .bl b])).hasDict = false ∧ (toPy (.lst [.bl b, .bl b])).shown.length ≤ sizeLine := by
  cases b
  · exact ⟨by simp [toPy, toPys, PyData.showable, PyData.showableAll], by simp [toPy, toPys, PyData.hasDict, PyData.hasDictAll], by
      rw [sizeLine_eq]; decide +kernel⟩
  · exact ⟨by simp [toPy, toPys, PyData.showable, PyData.showableAll], by simp [toPy, toPys, PyData.hasDict, PyData.hasDictAll], by
      rw [sizeLine_eq]; decide +kernel⟩
theorem ok__law_two_right (T : All K mg) : FnG P w K mg base 8 T.d__law_two_right.f T.d__law_two_right.fd ["_law_row_here", "_law_other"] (spD K f_two) := by
  refine okG T.d__law_two_right.F sc__law_two_right (fun vs H Q E h => sp_len (by intro ds m P f; obtain ⟨_, h⟩ := f; first | (obtain ⟨rfl, _⟩ := h; rfl) | (obtain ⟨_, rfl, _⟩ := h; rfl) | (obtain ⟨_, _, rfl, _⟩ := h; rfl) | (obtain ⟨_, _, _, rfl, _⟩ := h; rfl) | (obtain ⟨_, _, _, _, rfl, _⟩ := h; rfl) | (obtain ⟨_, _, _, _, _, rfl, _⟩ := h; rfl)) h) (fun cdv A outer s H vs Q E hG hr h => ?_)
  refine ⟨_, (pss_cons (ps_set (i := 2) sc__law_two_right.nd rfl (Or.inl rfl) (pe_call (ok__law_first_unlike T) (hr.mono (by decide)) rfl T.d__law_first_unlike.g T.d__law_first_unlike.F.kp T.d__law_first_unlike.b .nil pass0 (pa_cons (pv 0) (pa_cons (pv 1) pa_nil))))
      (pss_cons (ps_if (PW.pt (pw_or (pt_cmpR op_ne (pe_call (ok_first_unlike T) (hr.mono (by decide)) rfl T.d_first_unlike.g T.d_first_unlike.F.kp T.d_first_unlike.b .nil pass0 (pa_cons (pv 0) (pa_cons (pv 1) pa_nil))) (pv 2) (nomark _)) (pw_or1 (pt_cmpR op_ne (pe_callN0 (ok_first_unlike T) (hr.mono (by decide)) rfl T.d_first_unlike.g T.d_first_unlike.F.kp (kb_first_unlike_0_other_row T.d_first_unlike) pass0 (pk_cons (pv 0) (pk_cons (pv 1) pk_nil))) (pv 2) (nomark _))))) (pss_one (ps_ret pe_bl)) pss_nil)
      (pss_cons (ps_if (pt_cmpR op_ne (pe_callB (call_repr hG hr.units) (by rfl) T.z_repr (by decide +kernel) (pa_cons (pe_lst (pa_cons (pe_call (ok_are_same T) (hr.mono (by decide)) rfl T.d_are_same.g T.d_are_same.F.kp T.d_are_same.b .nil pass0 (pa_cons (pv 0) (pa_cons (pv 1) pa_nil))) (pa_cons (pe_callN0 (ok_are_same T) (hr.mono (by decide)) rfl T.d_are_same.g T.d_are_same.F.kp (kb_are_same_0_other_row T.d_are_same) pass0 (pk_cons (pv 0) (pk_cons (pv 1) pk_nil))) pa_nil))) pa_nil)) (pe_callB (call_repr hG hr.units) (by rfl) T.z_repr (by decide +kernel) (pa_cons (pe_op op_rep (pe_lst (pa_cons (pe_cmpR op_isN' (pv 2) pe_non (nomark _)) pa_nil)) pe_int) pa_nil)) (nomark _)) (pss_one (ps_ret pe_bl)) pss_nil)
      (pss_one (ps_ret (pe_cmpR op_eq (pe_cmpR (op_eqD hr.units) (pe_call (ok__law_normal_of T) (hr.mono (by decide)) rfl T.d__law_normal_of.g T.d__law_normal_of.F.kp T.d__law_normal_of.b .nil pass0 (pa_cons (pv 0) pa_nil)) (pe_call (ok__law_normal_of T) (hr.mono (by decide)) rfl T.d__law_normal_of.g T.d__law_normal_of.F.kp T.d__law_normal_of.b .nil pass0 (pa_cons (pv 1) pa_nil)) (nomark _)) (pe_cmpR op_isN' (pv 2) pe_non (nomark _)) (nomark _))))))), body_of h fun ds m P f => ?_⟩
  try dsimp only [cxOf, Cx.nox, Cx.wish, Cx.blk]
  obtain ⟨B, A, B', A', rfl, h, h', p⟩ := f
  have l1 := h.la
  have l2 := h.lb
  have l3 := h'.la
  have l4 := h'.lb
  walk_at "dl"
  refine ⟨B, A, B', A', rfl, h, h', fun o fo => ?_⟩
  walk_at "dl"
  refine ⟨B, A, B', A', rfl, h, h', fun o2 fo2 => ?_⟩
  obtain rfl := fo.unique fo2
  walk_at "dl"
  refine rw_ne (scal_op o) ?_
  rw [decide_eq_true rfl]
  walk_at "dl"
  refine ⟨rfl, B', A', B, A, rfl, h', h, fun o3 fo3 => ?_⟩
  obtain rfl := fo.unique fo3.symm
  walk_at "dl"
  refine rw_ne (scal_op o) ?_
  rw [decide_eq_true rfl]
  walk_at "dl"
  refine ew_lst ?_
  walk_at "dl"
  refine ⟨B, A, B', A', rfl, h, h', fun b hb => ?_⟩
  walk_at "dl"
  refine ⟨rfl, B', A', B, A, rfl, h', h, fun b2 hb2 => ?_⟩
  have e1 := fd_non fo hb
  have e2 := fd_non fo (b := b2) (hb2.trans ⟨fun z i => (z i).symm, fun z i => (z i).symm⟩)
  subst e1 e2
  walk_at "dl"
  generalize hc : isNon (opD o) = c
  refine cw_repr (by cases c <;> rfl) rfl (shown2 c).1 (shown2 c).2.1 (shown2 c).2.2 (by cases c <;> decide) ?_
  walk_at "dl"
  refine ew_lstC ?_
  walk_at "dl"
  rw [hc]
  refine ⟨rfl, ?_⟩
  refine ew_int (rw_repC last_at (by omega) (by omega) (by show 1 ≤ 1000; omega) ?_)
  have e3 : (List.replicate (Int.toNat 2) [Dat.bl c]).flatten = [Dat.bl c, Dat.bl c] := rfl
  rw [e3]
  walk_at "dl"
  refine cw_repr (by cases c <;> rfl) rfl (shown2 c).1 (shown2 c).2.1 (shown2 c).2.2 (by cases c <;> decide) ?_
  walk_at "dl"
  refine if_nd (fun z => absurd rfl z) (fun _ => ?_)
  walk_at "dl"
  refine ⟨B, A, rfl, h.ne, by omega, by omega, fun B1 A1 n1 => ?_⟩
  walk_at "dl"
  refine ⟨B', A', rfl, h'.ne, by omega, by omega, fun B2 A2 n2 => ?_⟩
  refine rw_eqD (shp_row _ _) (shp_row _ _) ?_
  rw [eqD_row]
  walk_at "dl"
  rw [hc]
  have e4 : decide (B1 = B2 ∧ A1 = A2) = c := by
    rw [← hc]
    refine fd_non fo ?_
    rw [decide_eq_true_iff]
    exact nr_same n1 n2
  rw [e4, decide_eq_true rfl]
  exact p _ fun k hk => pot_app hk
/-! ### the law -/
def f_law : FW := fun ds m P => ∃ ns, ds = [.lst (wi ns)] ∧ m = [] ∧ ∀ m', P (.bl true) m'
theorem ok_law (T : All K mg) : FnG P w K mg base 9 T.d_law.f T.d_law.fd ["_law_script"] (spD K f_law) := by
  refine okG T.d_law.F sc_law (fun vs H Q E h => sp_len (by intro ds m P f; obtain ⟨_, h⟩ := f; first | (obtain ⟨rfl, _⟩ := h; rfl) | (obtain ⟨_, rfl, _⟩ := h; rfl) | (obtain ⟨_, _, rfl, _⟩ := h; rfl) | (obtain ⟨_, _, _, rfl, _⟩ := h; rfl) | (obtain ⟨_, _, _, _, rfl, _⟩ := h; rfl) | (obtain ⟨_, _, _, _, _, rfl, _⟩ := h; rfl)) h) (fun cdv A outer s H vs Q E hG hr h => ?_)
  refine ⟨_, (pss_cons (ps_set (i := 1) sc_law.nd rfl (Or.inl rfl) (pe_call (ok__law_pot T) (hr.mono (by decide)) rfl T.d__law_pot.g T.d__law_pot.F.kp T.d__law_pot.b .nil pass0 (pa_cons (pv 0) (pa_cons pe_int pa_nil))))
      (pss_cons (ps_set (i := 2) sc_law.nd rfl (Or.inl rfl) (pe_op op_add pe_int (pe_call (ok__law_draw T) (hr.mono (by decide)) rfl T.d__law_draw.g T.d__law_draw.F.kp T.d__law_draw.b .nil pass0 (pa_cons (pv 1) (pa_cons pe_int pa_nil)))))
      (pss_cons (ps_set (i := 3) sc_law.nd rfl (Or.inl rfl) (pe_call (ok__law_row T) (hr.mono (by decide)) rfl T.d__law_row.g T.d__law_row.F.kp T.d__law_row.b .nil pass0 (pa_cons (pv 1) (pa_cons (pv 2) (pa_cons pe_int pa_nil)))))
      (pss_cons (ps_if (PW.pt (pw_or (pt_not (pt_val (pe_call (ok__law_alone_right T) (hr.mono (by decide)) rfl T.d__law_alone_right.g T.d__law_alone_right.F.kp T.d__law_alone_right.b .nil pass0 (pa_cons (pv 1) (pa_cons (pv 2) (pa_cons (pv 3) pa_nil)))))) (pw_or1 (pt_not (pt_val (pe_call (ok__law_turned_right T) (hr.mono (by decide)) rfl T.d__law_turned_right.g T.d__law_turned_right.F.kp T.d__law_turned_right.b .nil pass0 (pa_cons (pv 1) (pa_cons (pv 3) pa_nil)))))))) (pss_one (ps_ret pe_bl)) pss_nil)
      (pss_cons (ps_set (i := 4) sc_law.nd rfl (Or.inl rfl) (pe_call (ok__law_otherwise T) (hr.mono (by decide)) rfl T.d__law_otherwise.g T.d__law_otherwise.F.kp T.d__law_otherwise.b .nil pass0 (pa_cons (pv 1) (pa_cons (pv 3) pa_nil))))
      (pss_cons (ps_if (PW.pt (pw_or (pt_not (pt_val (pe_callG (ok__law_two_right T) hG (hr.mono (by decide)) rfl T.d__law_two_right.g T.d__law_two_right.F.kp T.d__law_two_right.b (pa_cons (pv 3) (pa_cons (pv 4) pa_nil))))) (pw_or1 (pt_cmpR op_notB (pe_call (ok_are_same T) (hr.mono (by decide)) rfl T.d_are_same.g T.d_are_same.F.kp T.d_are_same.b .nil pass0 (pa_cons (pv 3) (pa_cons (pv 4) pa_nil))) pe_bl (nomark _))))) (pss_one (ps_ret pe_bl)) pss_nil)
      (pss_one (ps_ret (pe_and (pe_callG (ok__law_two_right T) hG (hr.mono (by decide)) rfl T.d__law_two_right.g T.d__law_two_right.F.kp T.d__law_two_right.b (pa_cons (pv 3) (pa_cons (pe_call (ok__law_bent T) (hr.mono (by decide)) rfl T.d__law_bent.g T.d__law_bent.F.kp T.d__law_bent.b .nil pass0 (pa_cons (pv 1) (pa_cons (pv 2) (pa_cons (pv 4) pa_nil)))) pa_nil))) (pe_one (pe_callG (ok__law_two_right T) hG (hr.mono (by decide)) rfl T.d__law_two_right.g T.d__law_two_right.F.kp T.d__law_two_right.b (pa_cons (pv 3) (pa_cons (pe_call (ok__law_row T) (hr.mono (by decide)) rfl T.d__law_row.g T.d__law_row.F.kp T.d__law_row.b .nil pass0 (pa_cons (pv 1) (pa_cons (pv 2) (pa_cons pe_int pa_nil)))) pa_nil))))))))))))), body_of h fun ds m P f => ?_⟩
  try dsimp only [cxOf, Cx.nox, Cx.wish, Cx.blk]
  obtain ⟨ns, rfl, rfl, p⟩ := f
  walk_at "dl"
  refine ⟨ns, rfl, fun m0 p0 => ?_⟩
  walk_at "dl"
  refine ⟨0, 3, rfl, p0, by omega, by omega, fun m1 v p1 v0 v1 => ?_⟩
  walk_at "dl"
  refine ⟨0, 1 + v, rfl, p1, by omega, by omega, fun B A m2 p2 r => ?_⟩
  have h4 := r.ok (L' := 4) (by omega)
  walk_at "dl"
  refine ⟨0, 1 + v, B, A, rfl, p2, by omega, by omega, r.ok (Int.le_refl _), fun m3 p3 => ?_⟩
  walk_at "dl"
  refine ⟨0, B, A, rfl, p3, ⟨r.lb, r.la, r.ne, h4.b, h4.a⟩, fun m4 p4 => ?_⟩
  walk_at "dl"
  refine ⟨0, 1 + v, B, A, rfl, p4, r, fun B1 A1 m5 p5 es b1 a1 na1 ib ia => ?_⟩
  have up : ∀ {l : List Int}, In (1 + v) l → In 4 l := fun h c hc => ⟨(h c hc).1, by have := (h c hc).2; omega⟩
  have o1 : Ok 4 B1 A1 := ⟨by omega, by omega, na1, up ib, up ia⟩
  walk_at "dl"
  refine ⟨B, A, B1, A1, rfl, h4, o1, fun m6 q6 => ?_⟩
  have p6 := q6 0 p5
  walk_at "dl"
  refine ⟨B, A, B1, A1, rfl, h4, o1, fun b hb => ?_⟩
  have eb : b = true := hb.mpr fun i => by rw [es]
  subst eb
  walk_at "dl"
  refine if_nd (fun z => absurd rfl z) (fun _ => ?_)
  walk_at "dl"
  refine ⟨0, 1 + v, B1, A1, rfl, p6, by omega, by omega, na1, a1, ia, fun A2 m7 p7 na2 a2 ia2 => ?_⟩
  walk_at "dl"
  refine ⟨B, A, B1, A2, rfl, h4, ⟨by omega, by omega, na2, up ib, up ia2⟩, fun m8 q8 => ?_⟩
  have p8 := q8 0 p7
  walk_at "dl"
  refine ⟨0, 1 + v, rfl, p8, by omega, by omega, fun B3 A3 m9 p9 r3 => ?_⟩
  walk_at "dl"
  refine ⟨B, A, B3, A3, rfl, h4, r3.ok (L' := 4) (by omega), fun m10 _ => ?_⟩
  exact p _
end
end L11
namespace L11
open PySem PySem.Spec PyProof.Rows L2 DL KM
/-! ### what the top has written -/
section
variable {K : PySem.W.Frag} {mg : Str → Option Value} {h : Heap}
noncomputable def df_mk {x : Str} {st : Stmt} {ps : List Str} {f : Addr} {oc : Value} {od an : Option Addr} {sl : Array (Option Value)} {kV doc pm cdv ct : Value} (X : K.In h) (G : h.Ns mainGlobals mg) (a : PySem.W.nsIn K mainGlobals x = some (some (.ref f)))
    (l : K.lookup f = some ⟨oc, od, .func (PySem.W.fnOf x x (defArgs st) (defBody st) (defScope st) .none kV doc pm an cdv ct), sl⟩) (c : PySem.W.codeIn K cdv x = true) (k : PySem.W.keepIn K (.ref f) = true)
    (hb : ∀ (kV doc pm : Value) (an : Option Addr) (cdv ct : Value) (us : List Value), us.length = ps.length → bindArgs (PySem.W.fnOf x x (defArgs st) (defBody st) (defScope st) .none kV doc pm an cdv ct) ⟨us, []⟩ = pure (ps.zip us)) : Df K mg x st ps where
  f := f
  fd := PySem.W.fnOf x x (defArgs st) (defBody st) (defScope st) .none kV doc pm an cdv ct
  F := fun_mk l c k
  g := PySem.W.mg_of X G a
  b := (fun_mk (st := st) l c k).binds hb
theorem hb_is_integer (kV doc pm : Value) (an : Option Addr) (cdv ct : Value) (us : List Value) (hl : us.length = (["value"] : List Str).length) : bindArgs (PySem.W.fnOf "is_integer" "is_integer" (defArgs s_is_integer) (defBody s_is_integer) (defScope s_is_integer) .none kV doc pm an cdv ct) ⟨us, []⟩ = pure ((["value"] : List Str).zip us) := match us, hl with
  | [_], _ => rfl
theorem hb_is_count (kV doc pm : Value) (an : Option Addr) (cdv ct : Value) (us : List Value) (hl : us.length = (["value"] : List Str).length) : bindArgs (PySem.W.fnOf "is_count" "is_count" (defArgs s_is_count) (defBody s_is_count) (defScope s_is_count) .none kV doc pm an cdv ct) ⟨us, []⟩ = pure ((["value"] : List Str).zip us) := match us, hl with
  | [_], _ => rfl
theorem hb_is_below (kV doc pm : Value) (an : Option Addr) (cdv ct : Value) (us : List Value) (hl : us.length = (["value", "bound"] : List Str).length) : bindArgs (PySem.W.fnOf "is_below" "is_below" (defArgs s_is_below) (defBody s_is_below) (defScope s_is_below) .none kV doc pm an cdv ct) ⟨us, []⟩ = pure ((["value", "bound"] : List Str).zip us) := match us, hl with
  | [_, _], _ => rfl
theorem hb_is_list (kV doc pm : Value) (an : Option Addr) (cdv ct : Value) (us : List Value) (hl : us.length = (["value"] : List Str).length) : bindArgs (PySem.W.fnOf "is_list" "is_list" (defArgs s_is_list) (defBody s_is_list) (defScope s_is_list) .none kV doc pm an cdv ct) ⟨us, []⟩ = pure ((["value"] : List Str).zip us) := match us, hl with
  | [_], _ => rfl
theorem hb_is_pair (kV doc pm : Value) (an : Option Addr) (cdv ct : Value) (us : List Value) (hl : us.length = (["value"] : List Str).length) : bindArgs (PySem.W.fnOf "is_pair" "is_pair" (defArgs s_is_pair) (defBody s_is_pair) (defScope s_is_pair) .none kV doc pm an cdv ct) ⟨us, []⟩ = pure ((["value"] : List Str).zip us) := match us, hl with
  | [_], _ => rfl
theorem hb_is_word (kV doc pm : Value) (an : Option Addr) (cdv ct : Value) (us : List Value) (hl : us.length = (["letters", "value"] : List Str).length) : bindArgs (PySem.W.fnOf "is_word" "is_word" (defArgs s_is_word) (defBody s_is_word) (defScope s_is_word) .none kV doc pm an cdv ct) ⟨us, []⟩ = pure ((["letters", "value"] : List Str).zip us) := match us, hl with
  | [_, _], _ => rfl
theorem hb_is_row_of (kV doc pm : Value) (an : Option Addr) (cdv ct : Value) (us : List Value) (hl : us.length = (["letters", "value"] : List Str).length) : bindArgs (PySem.W.fnOf "is_row_of" "is_row_of" (defArgs s_is_row_of) (defBody s_is_row_of) (defScope s_is_row_of) .none kV doc pm an cdv ct) ⟨us, []⟩ = pure ((["letters", "value"] : List Str).zip us) := match us, hl with
  | [_, _], _ => rfl
theorem hb_check_letters (kV doc pm : Value) (an : Option Addr) (cdv ct : Value) (us : List Value) (hl : us.length = (["letters"] : List Str).length) : bindArgs (PySem.W.fnOf "check_letters" "check_letters" (defArgs s_check_letters) (defBody s_check_letters) (defScope s_check_letters) .none kV doc pm an cdv ct) ⟨us, []⟩ = pure ((["letters"] : List Str).zip us) := match us, hl with
  | [_], _ => rfl
theorem hb_check_row (kV doc pm : Value) (an : Option Addr) (cdv ct : Value) (us : List Value) (hl : us.length = (["letters", "row"] : List Str).length) : bindArgs (PySem.W.fnOf "check_row" "check_row" (defArgs s_check_row) (defBody s_check_row) (defScope s_check_row) .none kV doc pm an cdv ct) ⟨us, []⟩ = pure ((["letters", "row"] : List Str).zip us) := match us, hl with
  | [_, _], _ => rfl
theorem hb_check_place (kV doc pm : Value) (an : Option Addr) (cdv ct : Value) (us : List Value) (hl : us.length = (["place", "most"] : List Str).length) : bindArgs (PySem.W.fnOf "check_place" "check_place" (defArgs s_check_place) (defBody s_check_place) (defScope s_check_place) .none kV doc pm an cdv ct) ⟨us, []⟩ = pure ((["place", "most"] : List Str).zip us) := match us, hl with
  | [_, _], _ => rfl
theorem hb_check_many (kV doc pm : Value) (an : Option Addr) (cdv ct : Value) (us : List Value) (hl : us.length = (["many", "most"] : List Str).length) : bindArgs (PySem.W.fnOf "check_many" "check_many" (defArgs s_check_many) (defBody s_check_many) (defScope s_check_many) .none kV doc pm an cdv ct) ⟨us, []⟩ = pure ((["many", "most"] : List Str).zip us) := match us, hl with
  | [_, _], _ => rfl
theorem hb_is_row (kV doc pm : Value) (an : Option Addr) (cdv ct : Value) (us : List Value) (hl : us.length = (["letters", "value"] : List Str).length) : bindArgs (PySem.W.fnOf "is_row" "is_row" (defArgs s_is_row) (defBody s_is_row) (defScope s_is_row) .none kV doc pm an cdv ct) ⟨us, []⟩ = pure ((["letters", "value"] : List Str).zip us) := match us, hl with
  | [_, _], _ => rfl
theorem hb_letter_at (kV doc pm : Value) (an : Option Addr) (cdv ct : Value) (us : List Value) (hl : us.length = (["row", "place"] : List Str).length) : bindArgs (PySem.W.fnOf "letter_at" "letter_at" (defArgs s_letter_at) (defBody s_letter_at) (defScope s_letter_at) .none kV doc pm an cdv ct) ⟨us, []⟩ = pure ((["row", "place"] : List Str).zip us) := match us, hl with
  | [_, _], _ => rfl
theorem hb_spelled (kV doc pm : Value) (an : Option Addr) (cdv ct : Value) (us : List Value) (hl : us.length = (["row", "many"] : List Str).length) : bindArgs (PySem.W.fnOf "spelled" "spelled" (defArgs s_spelled) (defBody s_spelled) (defScope s_spelled) .none kV doc pm an cdv ct) ⟨us, []⟩ = pure ((["row", "many"] : List Str).zip us) := match us, hl with
  | [_, _], _ => rfl
theorem hb_normal_row (kV doc pm : Value) (an : Option Addr) (cdv ct : Value) (us : List Value) (hl : us.length = (["row"] : List Str).length) : bindArgs (PySem.W.fnOf "normal_row" "normal_row" (defArgs s_normal_row) (defBody s_normal_row) (defScope s_normal_row) .none kV doc pm an cdv ct) ⟨us, []⟩ = pure ((["row"] : List Str).zip us) := match us, hl with
  | [_], _ => rfl
theorem hb_are_same (kV doc pm : Value) (an : Option Addr) (cdv ct : Value) (us : List Value) (hl : us.length = (["row", "other"] : List Str).length) : bindArgs (PySem.W.fnOf "are_same" "are_same" (defArgs s_are_same) (defBody s_are_same) (defScope s_are_same) .none kV doc pm an cdv ct) ⟨us, []⟩ = pure ((["row", "other"] : List Str).zip us) := match us, hl with
  | [_, _], _ => rfl
theorem hb_first_unlike (kV doc pm : Value) (an : Option Addr) (cdv ct : Value) (us : List Value) (hl : us.length = (["row", "other"] : List Str).length) : bindArgs (PySem.W.fnOf "first_unlike" "first_unlike" (defArgs s_first_unlike) (defBody s_first_unlike) (defScope s_first_unlike) .none kV doc pm an cdv ct) ⟨us, []⟩ = pure ((["row", "other"] : List Str).zip us) := match us, hl with
  | [_, _], _ => rfl
theorem hb_turned_on (kV doc pm : Value) (an : Option Addr) (cdv ct : Value) (us : List Value) (hl : us.length = (["row", "many"] : List Str).length) : bindArgs (PySem.W.fnOf "turned_on" "turned_on" (defArgs s_turned_on) (defBody s_turned_on) (defScope s_turned_on) .none kV doc pm an cdv ct) ⟨us, []⟩ = pure ((["row", "many"] : List Str).zip us) := match us, hl with
  | [_, _], _ => rfl
theorem hb__letter (kV doc pm : Value) (an : Option Addr) (cdv ct : Value) (us : List Value) (hl : us.length = (["row", "place"] : List Str).length) : bindArgs (PySem.W.fnOf "_letter" "_letter" (defArgs s__letter) (defBody s__letter) (defScope s__letter) .none kV doc pm an cdv ct) ⟨us, []⟩ = pure ((["row", "place"] : List Str).zip us) := match us, hl with
  | [_, _], _ => rfl
theorem hb__shortest_round (kV doc pm : Value) (an : Option Addr) (cdv ct : Value) (us : List Value) (hl : us.length = (["again"] : List Str).length) : bindArgs (PySem.W.fnOf "_shortest_round" "_shortest_round" (defArgs s__shortest_round) (defBody s__shortest_round) (defScope s__shortest_round) .none kV doc pm an cdv ct) ⟨us, []⟩ = pure ((["again"] : List Str).zip us) := match us, hl with
  | [_], _ => rfl
theorem hb_normal_of (kV doc pm : Value) (an : Option Addr) (cdv ct : Value) (us : List Value) (hl : us.length = (["row"] : List Str).length) : bindArgs (PySem.W.fnOf "normal_of" "normal_of" (defArgs s_normal_of) (defBody s_normal_of) (defScope s_normal_of) .none kV doc pm an cdv ct) ⟨us, []⟩ = pure ((["row"] : List Str).zip us) := match us, hl with
  | [_], _ => rfl
theorem hb__law_pot (kV doc pm : Value) (an : Option Addr) (cdv ct : Value) (us : List Value) (hl : us.length = (["_law_script", "_law_k"] : List Str).length) : bindArgs (PySem.W.fnOf "_law_pot" "_law_pot" (defArgs s__law_pot) (defBody s__law_pot) (defScope s__law_pot) .none kV doc pm an cdv ct) ⟨us, []⟩ = pure ((["_law_script", "_law_k"] : List Str).zip us) := match us, hl with
  | [_, _], _ => rfl
theorem hb__law_draw (kV doc pm : Value) (an : Option Addr) (cdv ct : Value) (us : List Value) (hl : us.length = (["_law_pot_here", "_law_size"] : List Str).length) : bindArgs (PySem.W.fnOf "_law_draw" "_law_draw" (defArgs s__law_draw) (defBody s__law_draw) (defScope s__law_draw) .none kV doc pm an cdv ct) ⟨us, []⟩ = pure ((["_law_pot_here", "_law_size"] : List Str).zip us) := match us, hl with
  | [_, _], _ => rfl
theorem hb__law_word (kV doc pm : Value) (an : Option Addr) (cdv ct : Value) (us : List Value) (hl : us.length = (["_law_pot_here", "_law_letters", "_law_least", "_law_most"] : List Str).length) : bindArgs (PySem.W.fnOf "_law_word" "_law_word" (defArgs s__law_word) (defBody s__law_word) (defScope s__law_word) .none kV doc pm an cdv ct) ⟨us, []⟩ = pure ((["_law_pot_here", "_law_letters", "_law_least", "_law_most"] : List Str).zip us) := match us, hl with
  | [_, _, _, _], _ => rfl
theorem hb__law_row (kV doc pm : Value) (an : Option Addr) (cdv ct : Value) (us : List Value) (hl : us.length = (["_law_pot_here", "_law_letters", "_law_most"] : List Str).length) : bindArgs (PySem.W.fnOf "_law_row" "_law_row" (defArgs s__law_row) (defBody s__law_row) (defScope s__law_row) .none kV doc pm an cdv ct) ⟨us, []⟩ = pure ((["_law_pot_here", "_law_letters", "_law_most"] : List Str).zip us) := match us, hl with
  | [_, _, _], _ => rfl
theorem hb__law_at (kV doc pm : Value) (an : Option Addr) (cdv ct : Value) (us : List Value) (hl : us.length = (["_law_row_here", "_law_place"] : List Str).length) : bindArgs (PySem.W.fnOf "_law_at" "_law_at" (defArgs s__law_at) (defBody s__law_at) (defScope s__law_at) .none kV doc pm an cdv ct) ⟨us, []⟩ = pure ((["_law_row_here", "_law_place"] : List Str).zip us) := match us, hl with
  | [_, _], _ => rfl
theorem hb__law_spelled (kV doc pm : Value) (an : Option Addr) (cdv ct : Value) (us : List Value) (hl : us.length = (["_law_row_here", "_law_many"] : List Str).length) : bindArgs (PySem.W.fnOf "_law_spelled" "_law_spelled" (defArgs s__law_spelled) (defBody s__law_spelled) (defScope s__law_spelled) .none kV doc pm an cdv ct) ⟨us, []⟩ = pure ((["_law_row_here", "_law_many"] : List Str).zip us) := match us, hl with
  | [_, _], _ => rfl
theorem hb__law_normal (kV doc pm : Value) (an : Option Addr) (cdv ct : Value) (us : List Value) (hl : us.length = (["_law_letters", "_law_begun", "_law_long"] : List Str).length) : bindArgs (PySem.W.fnOf "_law_normal" "_law_normal" (defArgs s__law_normal) (defBody s__law_normal) (defScope s__law_normal) .none kV doc pm an cdv ct) ⟨us, []⟩ = pure ((["_law_letters", "_law_begun", "_law_long"] : List Str).zip us) := match us, hl with
  | [_, _, _], _ => rfl
theorem hb__law_normal_of (kV doc pm : Value) (an : Option Addr) (cdv ct : Value) (us : List Value) (hl : us.length = (["_law_row_here"] : List Str).length) : bindArgs (PySem.W.fnOf "_law_normal_of" "_law_normal_of" (defArgs s__law_normal_of) (defBody s__law_normal_of) (defScope s__law_normal_of) .none kV doc pm an cdv ct) ⟨us, []⟩ = pure ((["_law_row_here"] : List Str).zip us) := match us, hl with
  | [_], _ => rfl
theorem hb__law_first_unlike (kV doc pm : Value) (an : Option Addr) (cdv ct : Value) (us : List Value) (hl : us.length = (["_law_row_here", "_law_other"] : List Str).length) : bindArgs (PySem.W.fnOf "_law_first_unlike" "_law_first_unlike" (defArgs s__law_first_unlike) (defBody s__law_first_unlike) (defScope s__law_first_unlike) .none kV doc pm an cdv ct) ⟨us, []⟩ = pure ((["_law_row_here", "_law_other"] : List Str).zip us) := match us, hl with
  | [_, _], _ => rfl
theorem hb__law_otherwise (kV doc pm : Value) (an : Option Addr) (cdv ct : Value) (us : List Value) (hl : us.length = (["_law_pot_here", "_law_row_here"] : List Str).length) : bindArgs (PySem.W.fnOf "_law_otherwise" "_law_otherwise" (defArgs s__law_otherwise) (defBody s__law_otherwise) (defScope s__law_otherwise) .none kV doc pm an cdv ct) ⟨us, []⟩ = pure ((["_law_pot_here", "_law_row_here"] : List Str).zip us) := match us, hl with
  | [_, _], _ => rfl
theorem hb__law_bent (kV doc pm : Value) (an : Option Addr) (cdv ct : Value) (us : List Value) (hl : us.length = (["_law_pot_here", "_law_letters", "_law_row_here"] : List Str).length) : bindArgs (PySem.W.fnOf "_law_bent" "_law_bent" (defArgs s__law_bent) (defBody s__law_bent) (defScope s__law_bent) .none kV doc pm an cdv ct) ⟨us, []⟩ = pure ((["_law_pot_here", "_law_letters", "_law_row_here"] : List Str).zip us) := match us, hl with
  | [_, _, _], _ => rfl
theorem hb__law_alone_right (kV doc pm : Value) (an : Option Addr) (cdv ct : Value) (us : List Value) (hl : us.length = (["_law_pot_here", "_law_letters", "_law_row_here"] : List Str).length) : bindArgs (PySem.W.fnOf "_law_alone_right" "_law_alone_right" (defArgs s__law_alone_right) (defBody s__law_alone_right) (defScope s__law_alone_right) .none kV doc pm an cdv ct) ⟨us, []⟩ = pure ((["_law_pot_here", "_law_letters", "_law_row_here"] : List Str).zip us) := match us, hl with
  | [_, _, _], _ => rfl
theorem hb__law_turned_right (kV doc pm : Value) (an : Option Addr) (cdv ct : Value) (us : List Value) (hl : us.length = (["_law_pot_here", "_law_row_here"] : List Str).length) : bindArgs (PySem.W.fnOf "_law_turned_right" "_law_turned_right" (defArgs s__law_turned_right) (defBody s__law_turned_right) (defScope s__law_turned_right) .none kV doc pm an cdv ct) ⟨us, []⟩ = pure ((["_law_pot_here", "_law_row_here"] : List Str).zip us) := match us, hl with
  | [_, _], _ => rfl
theorem hb__law_two_right (kV doc pm : Value) (an : Option Addr) (cdv ct : Value) (us : List Value) (hl : us.length = (["_law_row_here", "_law_other"] : List Str).length) : bindArgs (PySem.W.fnOf "_law_two_right" "_law_two_right" (defArgs s__law_two_right) (defBody s__law_two_right) (defScope s__law_two_right) .none kV doc pm an cdv ct) ⟨us, []⟩ = pure ((["_law_row_here", "_law_other"] : List Str).zip us) := match us, hl with
  | [_, _], _ => rfl
theorem hb_law (kV doc pm : Value) (an : Option Addr) (cdv ct : Value) (us : List Value) (hl : us.length = (["_law_script"] : List Str).length) : bindArgs (PySem.W.fnOf "law" "law" (defArgs s_law) (defBody s_law) (defScope s_law) .none kV doc pm an cdv ct) ⟨us, []⟩ = pure ((["_law_script"] : List Str).zip us) := match us, hl with
  | [_], _ => rfl
theorem fin {P : Program} {w : World} {fa : Addr} (T : All K mg) (hfa : mg "law" = some (.ref fa)) :
    ∃ fd : FuncData, (∀ (s : Shared) (u : Value), BindsTo s fd ⟨[u], []⟩ [("_law_script", u)]) ∧ ∀ base : Heap, K.In base → base.Ns mainGlobals mg → FnG P w K mg base 9 fa fd ["_law_script"] (spD K f_law) := by
  have e := hfa.symm.trans T.d_law.g
  cases e
  refine ⟨T.d_law.fd, fun s u => ?_, fun base _ _ => ok_law T⟩
  obtain ⟨oc, od, kV, doc, pm, an, cdv, ct, osl, e, lk, hcd⟩ := T.d_law.F.ex
  rw [e]
  exact .of_eq rfl
end
end L11
open PySem PySem.W PyProof.Rows in
set_option maxRecDepth 100000 in
set_option maxHeartbeats 0 in
theorem PySem.Challenge.cw_tworivals_k11_whole_rows_by_their_letter_holds : PySem.Challenge.rw_tworivals_k11_whole_rows_by_their_letter.Holds := by
  w_on; o_law; k_head; (case hw => w_witness2)
  k_fill
  refine DL.walkG (l := PySem.Challenge.rw_tworivals_k11_whole_rows_by_their_letter) (n := 63) (k := 9) (F0 := fun _ => L11.f_law) (x := "_law_script") rfl (by decide) rfl ⟨rfl, by decide, by decide⟩ (fun w h Y => PySem.W.kIn_of Y) ?F (fun K ns _ => ⟨ns, rfl, rfl, fun _ => rfl⟩)
  case F =>
    intro w mg fa h KX G hmg
    refine' L11.fin (L11.All.mk
      (L11.df_mk KX G ?a0 ?l0 ?c0 ?k0 L11.hb_is_integer)
      (L11.df_mk KX G ?a1 ?l1 ?c1 ?k1 L11.hb_is_count)
      (L11.df_mk KX G ?a2 ?l2 ?c2 ?k2 L11.hb_is_below)
      (L11.df_mk KX G ?a3 ?l3 ?c3 ?k3 L11.hb_is_list)
      (L11.df_mk KX G ?a4 ?l4 ?c4 ?k4 L11.hb_is_pair)
      (L11.df_mk KX G ?a5 ?l5 ?c5 ?k5 L11.hb_is_word)
      (L11.df_mk KX G ?a6 ?l6 ?c6 ?k6 L11.hb_is_row_of)
      (L11.df_mk KX G ?a7 ?l7 ?c7 ?k7 L11.hb_check_letters)
      (L11.df_mk KX G ?a8 ?l8 ?c8 ?k8 L11.hb_check_row)
      (L11.df_mk KX G ?a9 ?l9 ?c9 ?k9 L11.hb_check_place)
      (L11.df_mk KX G ?a10 ?l10 ?c10 ?k10 L11.hb_check_many)
      (L11.df_mk KX G ?a11 ?l11 ?c11 ?k11 L11.hb_is_row)
      (L11.df_mk KX G ?a12 ?l12 ?c12 ?k12 L11.hb_letter_at)
      (L11.df_mk KX G ?a13 ?l13 ?c13 ?k13 L11.hb_spelled)
      (L11.df_mk KX G ?a14 ?l14 ?c14 ?k14 L11.hb_normal_row)
      (L11.df_mk KX G ?a15 ?l15 ?c15 ?k15 L11.hb_are_same)
      (L11.df_mk KX G ?a16 ?l16 ?c16 ?k16 L11.hb_first_unlike)
      (L11.df_mk KX G ?a17 ?l17 ?c17 ?k17 L11.hb_turned_on)
      (L11.df_mk KX G ?a18 ?l18 ?c18 ?k18 L11.hb__letter)
      (L11.df_mk KX G ?a19 ?l19 ?c19 ?k19 L11.hb__shortest_round)
      (L11.df_mk KX G ?a20 ?l20 ?c20 ?k20 L11.hb_normal_of)
      (L11.df_mk KX G ?a21 ?l21 ?c21 ?k21 L11.hb__law_pot)
      (L11.df_mk KX G ?a22 ?l22 ?c22 ?k22 L11.hb__law_draw)
      (L11.df_mk KX G ?a23 ?l23 ?c23 ?k23 L11.hb__law_word)
      (L11.df_mk KX G ?a24 ?l24 ?c24 ?k24 L11.hb__law_row)
      (L11.df_mk KX G ?a25 ?l25 ?c25 ?k25 L11.hb__law_at)
      (L11.df_mk KX G ?a26 ?l26 ?c26 ?k26 L11.hb__law_spelled)
      (L11.df_mk KX G ?a27 ?l27 ?c27 ?k27 L11.hb__law_normal)
      (L11.df_mk KX G ?a28 ?l28 ?c28 ?k28 L11.hb__law_normal_of)
      (L11.df_mk KX G ?a29 ?l29 ?c29 ?k29 L11.hb__law_first_unlike)
      (L11.df_mk KX G ?a30 ?l30 ?c30 ?k30 L11.hb__law_otherwise)
      (L11.df_mk KX G ?a31 ?l31 ?c31 ?k31 L11.hb__law_bent)
      (L11.df_mk KX G ?a32 ?l32 ?c32 ?k32 L11.hb__law_alone_right)
      (L11.df_mk KX G ?a33 ?l33 ?c33 ?k33 L11.hb__law_turned_right)
      (L11.df_mk KX G ?a34 ?l34 ?c34 ?k34 L11.hb__law_two_right)
      (L11.df_mk KX G ?a35 ?l35 ?c35 ?k35 L11.hb_law)
      ⟨_, PySem.W.mg_of KX G ?x0, ?y0⟩
      ⟨_, PySem.W.mg_of KX G ?x1, ?y1⟩
      ⟨_, PySem.W.mg_of KX G ?x2, ?y2⟩
      ⟨_, PySem.W.mg_of KX G ?x3, ?y3⟩
      (PySem.W.mg_none_of KX G ?z0)
      (PySem.W.mg_none_of KX G ?z1)
      (PySem.W.mg_none_of KX G ?z2)
      (PySem.W.mg_none_of KX G ?z3)
      (PySem.W.mg_none_of KX G ?z4)
      (PySem.W.mg_none_of KX G ?z5)
      (PySem.W.mg_none_of KX G ?z6)
      (PySem.W.mg_none_of KX G ?z7)
      (PySem.W.mg_none_of KX G ?z8)
      (PySem.W.mg_none_of KX G ?z9)
      (PySem.W.mg_none_of KX G ?z10)
      (PySem.W.mg_none_of KX G ?z11)) hmg
    (case a0 => k_is)
    (case l0 => k_is)
    (case c0 => k_is)
    (case k0 => k_is)
    (case a1 => k_is)
    (case l1 => k_is)
    (case c1 => k_is)
    (case k1 => k_is)
    (case a2 => k_is)
    (case l2 => k_is)
    (case c2 => k_is)
    (case k2 => k_is)
    (case a3 => k_is)
    (case l3 => k_is)
    (case c3 => k_is)
    (case k3 => k_is)
    (case a4 => k_is)
    (case l4 => k_is)
    (case c4 => k_is)
    (case k4 => k_is)
    (case a5 => k_is)
    (case l5 => k_is)
    (case c5 => k_is)
    (case k5 => k_is)
    (case a6 => k_is)
    (case l6 => k_is)
    (case c6 => k_is)
    (case k6 => k_is)
    (case a7 => k_is)
    (case l7 => k_is)
    (case c7 => k_is)
    (case k7 => k_is)
    (case a8 => k_is)
    (case l8 => k_is)
    (case c8 => k_is)
    (case k8 => k_is)
    (case a9 => k_is)
    (case l9 => k_is)
    (case c9 => k_is)
    (case k9 => k_is)
    (case a10 => k_is)
    (case l10 => k_is)
    (case c10 => k_is)
    (case k10 => k_is)
    (case a11 => k_is)
    (case l11 => k_is)
    (case c11 => k_is)
    (case k11 => k_is)
    (case a12 => k_is)
    (case l12 => k_is)
    (case c12 => k_is)
    (case k12 => k_is)
    (case a13 => k_is)
    (case l13 => k_is)
    (case c13 => k_is)
    (case k13 => k_is)
    (case a14 => k_is)
    (case l14 => k_is)
    (case c14 => k_is)
    (case k14 => k_is)
    (case a15 => k_is)
    (case l15 => k_is)
    (case c15 => k_is)
    (case k15 => k_is)
    (case a16 => k_is)
    (case l16 => k_is)
    (case c16 => k_is)
    (case k16 => k_is)
    (case a17 => k_is)
    (case l17 => k_is)
    (case c17 => k_is)
    (case k17 => k_is)
    (case a18 => k_is)
    (case l18 => k_is)
    (case c18 => k_is)
    (case k18 => k_is)
    (case a19 => k_is)
    (case l19 => k_is)
    (case c19 => k_is)
    (case k19 => k_is)
    (case a20 => k_is)
    (case l20 => k_is)
    (case c20 => k_is)
    (case k20 => k_is)
    (case a21 => k_is)
    (case l21 => k_is)
    (case c21 => k_is)
    (case k21 => k_is)
    (case a22 => k_is)
    (case l22 => k_is)
    (case c22 => k_is)
    (case k22 => k_is)
    (case a23 => k_is)
    (case l23 => k_is)
    (case c23 => k_is)
    (case k23 => k_is)
    (case a24 => k_is)
    (case l24 => k_is)
    (case c24 => k_is)
    (case k24 => k_is)
    (case a25 => k_is)
    (case l25 => k_is)
    (case c25 => k_is)
    (case k25 => k_is)
    (case a26 => k_is)
    (case l26 => k_is)
    (case c26 => k_is)
    (case k26 => k_is)
    (case a27 => k_is)
    (case l27 => k_is)
    (case c27 => k_is)
    (case k27 => k_is)
    (case a28 => k_is)
    (case l28 => k_is)
    (case c28 => k_is)
    (case k28 => k_is)
    (case a29 => k_is)
    (case l29 => k_is)
    (case c29 => k_is)
    (case k29 => k_is)
    (case a30 => k_is)
    (case l30 => k_is)
    (case c30 => k_is)
    (case k30 => k_is)
    (case a31 => k_is)
    (case l31 => k_is)
    (case c31 => k_is)
    (case k31 => k_is)
    (case a32 => k_is)
    (case l32 => k_is)
    (case c32 => k_is)
    (case k32 => k_is)
    (case a33 => k_is)
    (case l33 => k_is)
    (case c33 => k_is)
    (case k33 => k_is)
    (case a34 => k_is)
    (case l34 => k_is)
    (case c34 => k_is)
    (case k34 => k_is)
    (case a35 => k_is)
    (case l35 => k_is)
    (case c35 => k_is)
    (case k35 => k_is)
    (case x0 => k_is)
    (case y0 => exact ⟨_, rfl⟩)
    (case x1 => k_is)
    (case y1 => exact ⟨_, rfl⟩)
    (case x2 => k_is)
    (case y2 => exact ⟨_, rfl⟩)
    (case x3 => k_is)
    (case y3 => exact ⟨_, rfl⟩)
    (case z0 => k_is)
    (case z1 => k_is)
    (case z2 => k_is)
    (case z3 => k_is)
    (case z4 => k_is)
    (case z5 => k_is)
    (case z6 => k_is)
    (case z7 => k_is)
    (case z8 => k_is)
    (case z9 => k_is)
    (case z10 => k_is)
    (case z11 => k_is)
