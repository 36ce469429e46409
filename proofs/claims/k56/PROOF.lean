import PyProof.Rows.All
import Wide.All
import OpenK.AllK
import Wide.FinOn
import HandS.ForMost
import HandS.TupAny
import HandS.TupMul
import HandS.TupLe
import HandS.IsInst
import PyProof.ListMulRoad
import PyProof.FactsAll.tuple_2
import HandS.Defaults
import PyProof.ReprRoads
import HandS.TupSets
import HandS.SetBool
import HandS.Dict
import HandS.DictComp
import PyProof.DictFindH
import HandS.Property
import HandS.Star
import HandS.Walk
import HandS.RaiseMore
import HandS.Style
import KE.GoesMore
import PyProof.EnumMake
import HandS.Deep
import HandS.Small
import PySem.Challenge.RW_tworivals_k56_whole_runs_of_tables
set_option Elab.async false
set_option linter.all false
set_option maxRecDepth 100000
set_option maxHeartbeats 8000000
namespace DL
open PySem L2

/-! ### values as data -/
inductive Dat where
  | non | bl (b : Bool) | int (i : Int) | str (x : Str) | tup (xs : List Dat) | lst (xs : List Dat) | cell (k : Nat)
  | dct (ks : List (List L2.Key)) (xs : List Dat) | obj (C : Addr) (ns : List Str) (xs : List Dat)
  | dcell (k : Nat) | dst (ks : List (List L2.Key)) (xs : List Dat) | key (l : List Int)
abbrev As := List (Option Addr)
abbrev Mu := List (Option (List Dat))
abbrev Ro := List (Option Dat)
def hid (A : As) (H : Hp) : Hp := fun b => if some b ∈ A then none else H b
theorem hid_of {A : As} {H : Hp} {b : Addr} {o : HO} (h : hid A H b = some o) : H b = some o ∧ some b ∉ A := by
  unfold hid at h
  by_cases c : some b ∈ A
  · rw [if_pos c] at h; cases h
  · rw [if_neg c] at h; exact ⟨h, c⟩
theorem hid_to {A : As} {H : Hp} {b : Addr} {o : HO} (h : H b = some o) (c : some b ∉ A) : hid A H b = some o := by
  unfold hid; rw [if_neg c]; exact h
/-- what is asked of an own class -/
structure OC (K : PySem.W.Frag) (C : Addr) : Prop where
  cls : Cls K C
  ha : PySem.W.findIn K (.ref C) "__class__" = some (some (.builtin "object.__class__"))
  hn : PySem.W.specialIn K (.builtin "object.__class__") "__get__" = some (some (.builtin "getset_descriptor.__get__"))
  htk : PySem.W.takesIn K (.builtin "object.__class__") = some true
  hm : PySem.W.mroIn K C (.type "object") = some true
  kit : ∀ T ∈ ["int", "bool", "list", "tuple", "str"], PySem.W.kitOne K (.ref C) (.type T) = some false
mutual
inductive Dn (K : PySem.W.Frag) (A : As) (H : Hp) : V → Dat → Prop
  | non : Dn K A H .non .non
  | bl (b : Bool) : Dn K A H (.bl b) (.bl b)
  | int (i : Int) : Dn K A H (.int i) (.int i)
  | str (x : Str) : Dn K A H (.str x) (.str x)
  | tup {a : Addr} {xs : List V} {ds : List Dat} : SqT K (hid A H) a xs → Dns K A H xs ds → Dn K A H (.ref a) (.tup ds)
  | lst {a : Addr} {xs : List V} {ds : List Dat} : SqL K (hid A H) a xs → Dns K A H xs ds → Dn K A H (.ref a) (.lst ds)
  | cell {a : Addr} {k : Nat} : A[k]? = some (some a) → (∃ xs, H a = some (.lst xs)) → Dn K A H (.ref a) (.cell k)
  | dcell {a : Addr} {k : Nat} : A[k]? = some (some a) → (∃ kvs, H a = some (.dT kvs)) → Dn K A H (.ref a) (.dcell k)
  | key {a : Addr} {l : List Int} : hid A H a = some (.tup (l.map V.int)) → Dn K A H (.ref a) (.key l)
  | dct {a : Addr} {kvs : List (List L2.Key × V)} {ds : List Dat} : hid A H a = some (.dT kvs) → Dns K A H (kvs.map (·.2)) ds → Dn K A H (.ref a) (.dct (kvs.map (·.1)) ds)
  | obj {a C dx : Addr} {fs : List (Str × V)} {ds : List Dat} : OC K C → hid A H a = some (.ins C dx fs) → Dns K A H (fs.map (·.2)) ds → Dn K A H (.ref a) (.obj C (fs.map (·.1)) ds)
inductive Dns (K : PySem.W.Frag) (A : As) (H : Hp) : List V → List Dat → Prop
  | nil : Dns K A H [] []
  | cons {v : V} {vs : List V} {d : Dat} {ds : List Dat} : Dn K A H v d → Dns K A H vs ds → Dns K A H (v :: vs) (d :: ds)
end
structure Ext (A : As) (H : Hp) (A' : As) (H' : Hp) : Prop where
  keep : ∀ a o, hid A H a = some o → hid A' H' a = some o
  cells : ∀ (k : Nat) (a : Addr), A[k]? = some (some a) → A'[k]? = some (some a)
  kl : ∀ (k : Nat) (a : Addr), A[k]? = some (some a) → (∃ xs, H a = some (.lst xs)) → ∃ xs, H' a = some (.lst xs)
  kd : ∀ (k : Nat) (a : Addr), A[k]? = some (some a) → (∃ kvs, H a = some (.dT kvs)) → ∃ kvs, H' a = some (.dT kvs)
theorem Ext.refl (A : As) (H : Hp) : Ext A H A H := ⟨fun _ _ h => h, fun _ _ h => h, fun _ _ _ h => h, fun _ _ _ h => h⟩
theorem Ext.trans {A A1 A2 : As} {H H1 H2 : Hp} (x : Ext A H A1 H1) (y : Ext A1 H1 A2 H2) : Ext A H A2 H2 := ⟨fun a o h => y.keep a o (x.keep a o h), fun k a h => y.cells k a (x.cells k a h), fun k a h l => y.kl k a (x.cells k a h) (x.kl k a h l), fun k a h l => y.kd k a (x.cells k a h) (x.kd k a h l)⟩
theorem Ext.rd {A A' : As} {H H' : Hp} (e : Ext A H A' H') {a : Addr} {u : HO} (h : Rd (hid A H) a u) : Rd (hid A' H') a u := by
  rcases h with h | ⟨o, h⟩
  · exact Or.inl (e.keep a _ h)
  · exact Or.inr ⟨o, e.keep a _ h⟩
theorem Ext.sqL {K : PySem.W.Frag} {A A' : As} {H H' : Hp} (e : Ext A H A' H') {a : Addr} {xs : List V} (h : SqL K (hid A H) a xs) : SqL K (hid A' H') a xs := by
  rcases h with h | h
  · exact Or.inl (e.rd h)
  · exact Or.inr h
theorem Ext.sqT {K : PySem.W.Frag} {A A' : As} {H H' : Hp} (e : Ext A H A' H') {a : Addr} {xs : List V} (h : SqT K (hid A H) a xs) : SqT K (hid A' H') a xs := by
  rcases h with h | h
  · exact Or.inl (e.rd h)
  · exact Or.inr h
mutual
theorem Dn.mono {K : PySem.W.Frag} {A A' : As} {H H' : Hp} (e : Ext A H A' H') : ∀ {v : V} {d : Dat}, Dn K A H v d → Dn K A' H' v d
  | _, _, .non => .non
  | _, _, .bl b => .bl b
  | _, _, .int i => .int i
  | _, _, .str x => .str x
  | _, _, .tup h t => .tup (e.sqT h) (Dns.mono e t)
  | _, _, .lst h t => .lst (e.sqL h) (Dns.mono e t)
  | _, _, .cell h l => .cell (e.cells _ _ h) (e.kl _ _ h l)
  | _, _, .dcell h l => .dcell (e.cells _ _ h) (e.kd _ _ h l)
  | _, _, .key h => .key (e.keep _ _ h)
  | _, _, .dct h t => .dct (e.keep _ _ h) (Dns.mono e t)
  | _, _, .obj c h t => .obj c (e.keep _ _ h) (Dns.mono e t)
theorem Dns.mono {K : PySem.W.Frag} {A A' : As} {H H' : Hp} (e : Ext A H A' H') : ∀ {vs : List V} {ds : List Dat}, Dns K A H vs ds → Dns K A' H' vs ds
  | _, _, .nil => .nil
  | _, _, .cons h t => .cons (Dn.mono e h) (Dns.mono e t)
end
theorem Dns.length {K : PySem.W.Frag} {A : As} {H : Hp} : ∀ {vs : List V} {ds : List Dat}, Dns K A H vs ds → vs.length = ds.length
  | _, _, .nil => rfl
  | _, _, .cons _ t => by rw [List.length_cons, List.length_cons, Dns.length t]
theorem Dns.get {K : PySem.W.Frag} {A : As} {H : Hp} : ∀ {vs : List V} {ds : List Dat} {i : Nat} {d : Dat}, Dns K A H vs ds → ds[i]? = some d → ∃ v, vs[i]? = some v ∧ Dn K A H v d
  | _, _, _, _, .nil, e => by simp at e
  | _, _, 0, _, .cons r _, e => by simp at e; subst e; exact ⟨_, rfl, r⟩
  | _, _, i + 1, x, .cons _ t, e => by
    obtain ⟨u, h1, h2⟩ := Dns.get (i := i) (d := x) t (by simpa using e)
    exact ⟨u, by simpa using h1, h2⟩
theorem Dns.getV {K : PySem.W.Frag} {A : As} {H : Hp} {vs : List V} {ds : List Dat} {i : Nat} {v : V} (h : Dns K A H vs ds) (e : vs[i]? = some v) : ∃ d, ds[i]? = some d ∧ Dn K A H v d := by
  have hl := h.length
  have hi : i < ds.length := by rw [← hl]; exact (List.getElem?_eq_some_iff.mp e).1
  obtain ⟨u, h1, h2⟩ := h.get (i := i) (d := ds[i]) (by simp [hi])
  rw [e] at h1; cases h1
  exact ⟨_, by simp [hi], h2⟩
theorem Dns.append {K : PySem.W.Frag} {A : As} {H : Hp} : ∀ {vs ws : List V} {ds es : List Dat}, Dns K A H vs ds → Dns K A H ws es → Dns K A H (vs ++ ws) (ds ++ es)
  | _, _, _, _, .nil, h => h
  | _, _, _, _, .cons a t, h => .cons a (Dns.append t h)
theorem Dns.take {K : PySem.W.Frag} {A : As} {H : Hp} : ∀ (n : Nat) {vs : List V} {ds : List Dat}, Dns K A H vs ds → Dns K A H (vs.take n) (ds.take n)
  | 0, _, _, _ => .nil
  | _ + 1, _, _, .nil => .nil
  | n + 1, _, _, .cons a t => .cons a (Dns.take n t)
theorem Dns.drop {K : PySem.W.Frag} {A : As} {H : Hp} : ∀ (n : Nat) {vs : List V} {ds : List Dat}, Dns K A H vs ds → Dns K A H (vs.drop n) (ds.drop n)
  | 0, _, _, h => h
  | _ + 1, _, _, .nil => .nil
  | n + 1, _, _, .cons _ t => Dns.drop n t
theorem Dns.set {K : PySem.W.Frag} {A : As} {H : Hp} {v : V} {d : Dat} (h : Dn K A H v d) : ∀ (n : Nat) {vs : List V} {ds : List Dat}, Dns K A H vs ds → Dns K A H (vs.set n v) (ds.set n d)
  | _, _, _, .nil => .nil
  | 0, _, _, .cons _ t => .cons h t
  | n + 1, _, _, .cons a t => .cons a (Dns.set h n t)
theorem Dns.rep {K : PySem.W.Frag} {A : As} {H : Hp} {vs : List V} {ds : List Dat} (h : Dns K A H vs ds) : ∀ (n : Nat), Dns K A H (List.replicate n vs).flatten (List.replicate n ds).flatten
  | 0 => .nil
  | n + 1 => by
    rw [List.replicate_succ, List.replicate_succ, List.flatten_cons, List.flatten_cons]
    exact h.append (Dns.rep h n)
theorem Dns.snoc {K : PySem.W.Frag} {A : As} {H : Hp} {vs : List V} {ds : List Dat} {v : V} {d : Dat} (h : Dns K A H vs ds) (x : Dn K A H v d) : Dns K A H (vs ++ [v]) (ds ++ [d]) := h.append (.cons x .nil)

/-! ### data without cells -/
mutual
def noCell : Dat → Bool
  | .tup xs => noCells xs
  | .lst xs => noCells xs
  | .cell _ => false
  | .dcell _ => false
  | .dst _ _ => false
  | .key _ => false
  | .dct _ xs => noCells xs
  | .obj _ _ xs => noCells xs
  | _ => true
def noCells : List Dat → Bool
  | [] => true
  | d :: ds => noCell d && noCells ds
end
theorem noCells_iff : ∀ {ds : List Dat}, noCells ds = true ↔ ∀ d ∈ ds, noCell d = true
  | [] => by simp [noCells]
  | d :: ds => by rw [noCells, Bool.and_eq_true, noCells_iff (ds := ds)]; simp
theorem noCells_append {xs ys : List Dat} (h : noCells xs = true) (g : noCells ys = true) : noCells (xs ++ ys) = true := noCells_iff.mpr fun d m => by
  rcases List.mem_append.mp m with m | m
  · exact noCells_iff.mp h d m
  · exact noCells_iff.mp g d m
theorem noCells_set {xs : List Dat} {k : Nat} {d : Dat} (h : noCells xs = true) (g : noCell d = true) : noCells (xs.set k d) = true := noCells_iff.mpr fun e m => by
  rcases List.mem_or_eq_of_mem_set m with m | m
  · exact noCells_iff.mp h e m
  · subst m; exact g
mutual
theorem Dn.mono0 {K : PySem.W.Frag} {A A' : As} {H H' : Hp} (e : ∀ a o, hid A H a = some o → hid A' H' a = some o) : ∀ {v : V} {d : Dat}, noCell d = true → Dn K A H v d → Dn K A' H' v d
  | _, _, _, .non => .non
  | _, _, _, .bl b => .bl b
  | _, _, _, .int i => .int i
  | _, _, _, .str x => .str x
  | _, _, n, .tup h t => .tup (by
        rcases h with (h | ⟨o, h⟩) | h
        · exact .inl (.inl (e _ _ h))
        · exact .inl (.inr ⟨o, e _ _ h⟩)
        · exact .inr h) (Dns.mono0 e (by rw [noCell] at n; exact n) t)
  | _, _, n, .lst h t => .lst (by
        rcases h with (h | ⟨o, h⟩) | h
        · exact .inl (.inl (e _ _ h))
        · exact .inl (.inr ⟨o, e _ _ h⟩)
        · exact .inr h) (Dns.mono0 e (by rw [noCell] at n; exact n) t)
  | _, _, n, .cell h _ => by simp [noCell] at n
  | _, _, n, .dcell h _ => by simp [noCell] at n
  | _, _, n, .key h => by simp [noCell] at n
  | _, _, n, .dct h t => .dct (e _ _ h) (Dns.mono0 e (by rw [noCell] at n; exact n) t)
  | _, _, n, .obj c h t => .obj c (e _ _ h) (Dns.mono0 e (by rw [noCell] at n; exact n) t)
theorem Dns.mono0 {K : PySem.W.Frag} {A A' : As} {H H' : Hp} (e : ∀ a o, hid A H a = some o → hid A' H' a = some o) : ∀ {vs : List V} {ds : List Dat}, noCells ds = true → Dns K A H vs ds → Dns K A' H' vs ds
  | _, _, _, .nil => .nil
  | _, _, n, .cons h t => .cons (Dn.mono0 e (by rw [noCells, Bool.and_eq_true] at n; exact n.1) h) (Dns.mono0 e (by rw [noCells, Bool.and_eq_true] at n; exact n.2) t)
end

/-! ### data whose cells lie below -/
mutual
def blw (n : Nat) : Dat → Bool
  | .tup xs => blws n xs
  | .lst xs => blws n xs
  | .cell k => decide (k < n)
  | .dcell k => decide (k < n)
  | .dst _ xs => blws n xs
  | .dct _ xs => blws n xs
  | .obj _ _ xs => blws n xs
  | _ => true
def blws (n : Nat) : List Dat → Bool
  | [] => true
  | d :: ds => blw n d && blws n ds
end
mutual
theorem Dn.blw {K : PySem.W.Frag} {A : As} {H : Hp} {n : Nat} (hn : A.length ≤ n) : ∀ {v : V} {d : Dat}, Dn K A H v d → DL.blw n d = true
  | _, _, .non => rfl
  | _, _, .bl b => rfl
  | _, _, .int i => rfl
  | _, _, .str x => rfl
  | _, _, .tup h t => by rw [DL.blw]; exact Dns.blws hn t
  | _, _, .lst h t => by rw [DL.blw]; exact Dns.blws hn t
  | _, _, .cell h _ => by
    rw [DL.blw]
    have := (List.getElem?_eq_some_iff.mp h).1
    exact decide_eq_true (by omega)
  | _, _, .dcell h _ => by
    rw [DL.blw]
    have := (List.getElem?_eq_some_iff.mp h).1
    exact decide_eq_true (by omega)
  | _, _, .key h => rfl
  | _, _, .dct h t => by rw [DL.blw]; exact Dns.blws hn t
  | _, _, .obj c h t => by rw [DL.blw]; exact Dns.blws hn t
theorem Dns.blws {K : PySem.W.Frag} {A : As} {H : Hp} {n : Nat} (hn : A.length ≤ n) : ∀ {vs : List V} {ds : List Dat}, Dns K A H vs ds → DL.blws n ds = true
  | _, _, .nil => rfl
  | _, _, .cons h t => by rw [DL.blws, Dn.blw hn h, Dns.blws hn t]; rfl
end
mutual
theorem blw_le {n m : Nat} (h : n ≤ m) : ∀ d : Dat, DL.blw n d = true → DL.blw m d = true
  | .non, _ => rfl
  | .bl _, _ => rfl
  | .int _, _ => rfl
  | .str _, _ => rfl
  | .tup xs, q => by rw [DL.blw] at q ⊢; exact blws_le h xs q
  | .lst xs, q => by rw [DL.blw] at q ⊢; exact blws_le h xs q
  | .cell k, q => by
    rw [DL.blw] at q ⊢
    have := of_decide_eq_true q
    exact decide_eq_true (by omega)
  | .dcell k, q => by
    rw [DL.blw] at q ⊢
    have := of_decide_eq_true q
    exact decide_eq_true (by omega)
  | .dst _ xs, q => by rw [DL.blw] at q ⊢; exact blws_le h xs q
  | .key _, _ => rfl
  | .dct _ xs, q => by rw [DL.blw] at q ⊢; exact blws_le h xs q
  | .obj _ _ xs, q => by rw [DL.blw] at q ⊢; exact blws_le h xs q
theorem blws_le {n m : Nat} (h : n ≤ m) : ∀ ds : List Dat, DL.blws n ds = true → DL.blws m ds = true
  | [], _ => rfl
  | d :: ds, q => by
    rw [DL.blws, Bool.and_eq_true] at q ⊢
    exact ⟨blw_le h d q.1, blws_le h ds q.2⟩
end
/-- what lies below n is kept where the cells below n are -/
structure ExB (n : Nat) (A : As) (H : Hp) (A' : As) (H' : Hp) : Prop where
  keep : ∀ a o, hid A H a = some o → hid A' H' a = some o
  cells : ∀ (k : Nat) (a : Addr), k < n → A[k]? = some (some a) → A'[k]? = some (some a) ∧ H' a = H a
theorem ExB.sqL {K : PySem.W.Frag} {n : Nat} {A A' : As} {H H' : Hp} (e : ExB n A H A' H') {a : Addr} {xs : List V} (h : SqL K (hid A H) a xs) : SqL K (hid A' H') a xs := by
  rcases h with (h | ⟨o, h⟩) | h
  · exact .inl (.inl (e.keep _ _ h))
  · exact .inl (.inr ⟨o, e.keep _ _ h⟩)
  · exact .inr h
theorem ExB.sqT {K : PySem.W.Frag} {n : Nat} {A A' : As} {H H' : Hp} (e : ExB n A H A' H') {a : Addr} {xs : List V} (h : SqT K (hid A H) a xs) : SqT K (hid A' H') a xs := by
  rcases h with (h | ⟨o, h⟩) | h
  · exact .inl (.inl (e.keep _ _ h))
  · exact .inl (.inr ⟨o, e.keep _ _ h⟩)
  · exact .inr h
mutual
theorem Dn.monoB {K : PySem.W.Frag} {n : Nat} {A A' : As} {H H' : Hp} (e : ExB n A H A' H') : ∀ {v : V} {d : Dat}, DL.blw n d = true → Dn K A H v d → Dn K A' H' v d
  | _, _, _, .non => .non
  | _, _, _, .bl b => .bl b
  | _, _, _, .int i => .int i
  | _, _, _, .str x => .str x
  | _, _, n, .tup h t => .tup (e.sqT h) (Dns.monoB e (by rw [DL.blw] at n; exact n) t)
  | _, _, n, .lst h t => .lst (e.sqL h) (Dns.monoB e (by rw [DL.blw] at n; exact n) t)
  | _, _, n, .cell h l => by
    rw [DL.blw] at n
    obtain ⟨e1, e2⟩ := e.cells _ _ (of_decide_eq_true n) h
    exact .cell e1 (by rw [e2]; exact l)
  | _, _, n, .dcell h l => by
    rw [DL.blw] at n
    obtain ⟨e1, e2⟩ := e.cells _ _ (of_decide_eq_true n) h
    exact .dcell e1 (by rw [e2]; exact l)
  | _, _, n, .key h => .key (e.keep _ _ h)
  | _, _, n, .dct h t => .dct (e.keep _ _ h) (Dns.monoB e (by rw [DL.blw] at n; exact n) t)
  | _, _, n, .obj c h t => .obj c (e.keep _ _ h) (Dns.monoB e (by rw [DL.blw] at n; exact n) t)
theorem Dns.monoB {K : PySem.W.Frag} {n : Nat} {A A' : As} {H H' : Hp} (e : ExB n A H A' H') : ∀ {vs : List V} {ds : List Dat}, DL.blws n ds = true → Dns K A H vs ds → Dns K A' H' vs ds
  | _, _, _, .nil => .nil
  | _, _, n, .cons h t => .cons (Dn.monoB e (by rw [DL.blws, Bool.and_eq_true] at n; exact n.1) h) (Dns.monoB e (by rw [DL.blws, Bool.and_eq_true] at n; exact n.2) t)
end

/-! ### the store and the slots -/
/-- what the store says of the cell k at a: a list, or a dict (its content stands as .dst) -/
def CAt (K : PySem.W.Frag) (A : As) (H : Hp) (μ : Mu) (k : Nat) (a : Addr) : Prop :=
  (∃ xs ds, H a = some (.lst xs) ∧ μ[k]? = some (some ds) ∧ Dns K A H xs ds) ∨
  ∃ (kvs : List (List L2.Key × V)) (ds : List Dat), H a = some (.dT kvs) ∧ μ[k]? = some (some [.dst (kvs.map (·.1)) ds]) ∧ Dns K A H (kvs.map (·.2)) ds
theorem CAt.has {K : PySem.W.Frag} {A : As} {H : Hp} {μ : Mu} {k : Nat} {a : Addr} (c : CAt K A H μ k a) : ∃ o, H a = some o := by
  rcases c with ⟨xs, ds, h, _⟩ | ⟨kvs, ds, h, _⟩
  · exact ⟨_, h⟩
  · exact ⟨_, h⟩
theorem CAt.tr {K : PySem.W.Frag} {A A' : As} {H H' : Hp} {μ μ' : Mu} {k : Nat} {a : Addr} (c : CAt K A H μ k a) (f : ∀ vs ds, (∃ ds0, μ[k]? = some (some ds0) ∧ (ds0 = ds ∨ ∃ ks, ds0 = [.dst ks ds])) → Dns K A H vs ds → Dns K A' H' vs ds) (hH : H' a = H a) (hm : μ'[k]? = μ[k]?) : CAt K A' H' μ' k a := by
  rcases c with ⟨xs, ds, h1, h2, h3⟩ | ⟨kvs, ds, h1, h2, h3⟩
  · exact .inl ⟨xs, ds, by rw [hH]; exact h1, by rw [hm]; exact h2, f _ _ ⟨_, h2, .inl rfl⟩ h3⟩
  · exact .inr ⟨kvs, ds, by rw [hH]; exact h1, by rw [hm]; exact h2, f _ _ ⟨_, h2, .inr ⟨_, rfl⟩⟩ h3⟩
structure Sto (K : PySem.W.Frag) (A : As) (H : Hp) (μ : Mu) : Prop where
  len : A.length = μ.length
  bl : ∀ (k : Nat) (ds : List Dat), μ[k]? = some (some ds) → DL.blws μ.length ds = true
  at_ : ∀ (k : Nat) (a : Addr), A[k]? = some (some a) → CAt K A H μ k a
  inj : ∀ (j k : Nat) (a : Addr), A[j]? = some (some a) → A[k]? = some (some a) → j = k
def Env (K : PySem.W.Frag) (A : As) (H : Hp) (σ : St) (ρ : Ro) : Prop := σ.length = ρ.length ∧ ∀ (i : Nat) (d : Dat), ρ[i]? = some (some d) → ∃ v, σ[i]? = some (some v) ∧ Dn K A H v d
theorem Env.mono {K : PySem.W.Frag} {A A' : As} {H H' : Hp} {σ : St} {ρ : Ro} (e : Ext A H A' H') (h : Env K A H σ ρ) : Env K A' H' σ ρ :=
  ⟨h.1, fun i d q => let ⟨v, a, b⟩ := h.2 i d q; ⟨v, a, b.mono e⟩⟩
theorem Env.set {K : PySem.W.Frag} {A : As} {H : Hp} {σ : St} {ρ : Ro} {v : V} {d : Dat} (i : Nat) (h : Env K A H σ ρ) (x : Dn K A H v d) : Env K A H (σ.set i (some v)) (ρ.set i (some d)) := by
  refine ⟨by rw [List.length_set, List.length_set, h.1], fun j e q => ?_⟩
  by_cases c : i = j
  · subst c
    have hi : i < ρ.length := by
      have := (List.getElem?_eq_some_iff.mp q).1
      rwa [List.length_set] at this
    rw [List.getElem?_set_self hi] at q
    cases q
    exact ⟨v, List.getElem?_set_self (by rw [h.1]; exact hi), x⟩
  · rw [List.getElem?_set_ne c] at q
    obtain ⟨u, a, b⟩ := h.2 j e q
    exact ⟨u, by rw [List.getElem?_set_ne c]; exact a, b⟩
/-- a new tracked object -/
theorem ext_new {A : As} {H : Hp} {p : Addr} {o : HO} (h : H p = none) : Ext A H A (upd H p o) := ⟨fun a u e => by
  obtain ⟨e1, c⟩ := hid_of e
  exact hid_to (by rw [upd_ne (ne_of_none e1 h)]; exact e1) c, fun _ _ e => e, fun _ _ _ ⟨xs, e⟩ => ⟨xs, by rw [upd_ne (ne_of_none e h)]; exact e⟩, fun _ _ _ ⟨xs, e⟩ => ⟨xs, by rw [upd_ne (ne_of_none e h)]; exact e⟩⟩
theorem Sto.fresh {K : PySem.W.Frag} {A : As} {H : Hp} {μ : Mu} (s : Sto K A H μ) {p : Addr} (h : H p = none) : some p ∉ A := fun m => by
  obtain ⟨k, hk⟩ := List.mem_iff_getElem?.mp m
  obtain ⟨o, e⟩ := (s.at_ k p hk).has
  rw [h] at e; cases e
theorem Sto.new {K : PySem.W.Frag} {A : As} {H : Hp} {μ : Mu} (s : Sto K A H μ) {p : Addr} {o : HO} (h : H p = none) : Sto K A (upd H p o) μ :=
  ⟨s.len, s.bl, fun k a e => by
    obtain ⟨u, hu⟩ := (s.at_ k a e).has
    exact (s.at_ k a e).tr (fun vs ds _ t => t.mono (ext_new h)) (by rw [upd_ne (ne_of_none hu h)]) rfl, s.inj⟩
/-- what is in the hidden heap is in the heap -/
theorem sqT_hid {K : PySem.W.Frag} {A : As} {H : Hp} {a : Addr} {xs : List V} (h : SqT K (hid A H) a xs) : SqT K H a xs := by
  rcases h with (h | ⟨o, h⟩) | h
  · exact .inl (.inl (hid_of h).1)
  · exact .inl (.inr ⟨o, (hid_of h).1⟩)
  · exact .inr h
theorem sqL_hid {K : PySem.W.Frag} {A : As} {H : Hp} {a : Addr} {xs : List V} (h : SqL K (hid A H) a xs) : SqL K H a xs := by
  rcases h with (h | ⟨o, h⟩) | h
  · exact .inl (.inl (hid_of h).1)
  · exact .inl (.inr ⟨o, (hid_of h).1⟩)
  · exact .inr h
theorem Dn.newT {K : PySem.W.Frag} {A : As} {H : Hp} {μ : Mu} (s : Sto K A H μ) {p : Addr} {xs : List V} {ds : List Dat} (h : H p = none) (x : Dns K A H xs ds) : Dn K A (upd H p (.tup xs)) (.ref p) (.tup ds) :=
  .tup (.inl (.inl (hid_to upd_same (s.fresh h)))) (x.mono (ext_new h))
theorem Dn.newL {K : PySem.W.Frag} {A : As} {H : Hp} {μ : Mu} (s : Sto K A H μ) {p : Addr} {xs : List V} {ds : List Dat} (h : H p = none) (x : Dns K A H xs ds) : Dn K A (upd H p (.lst xs)) (.ref p) (.lst ds) :=
  .lst (.inl (.inl (hid_to upd_same (s.fresh h)))) (x.mono (ext_new h))
/-- a cell is written -/
theorem keep_cell {A : As} {H : Hp} {a : Addr} {k : Nat} {o : HO} (h : A[k]? = some (some a)) : ∀ b u, hid A H b = some u → hid A (upd H a o) b = some u := fun b u e => by
  obtain ⟨e1, c⟩ := hid_of e
  have : b ≠ a := fun z => c (by rw [z]; exact List.mem_of_getElem? h)
  exact hid_to (by rw [upd_ne this]; exact e1) c
theorem ext_cell {A : As} {H : Hp} {a : Addr} {k : Nat} {xs vs : List V} (h : A[k]? = some (some a)) (ho : H a = some (.lst vs)) : Ext A H A (upd H a (.lst xs)) := ⟨keep_cell h, fun _ _ e => e, fun j b _ l => by
  by_cases c : b = a
  · rw [c, upd_same]; exact ⟨_, rfl⟩
  · rw [upd_ne c]; exact l, fun j b _ ⟨kvs, l⟩ => by
  by_cases c : b = a
  · rw [c, ho] at l; cases l
  · rw [upd_ne c]; exact ⟨kvs, l⟩⟩
theorem ext_dcell {A : As} {H : Hp} {a : Addr} {k : Nat} {xs vs : List (List L2.Key × V)} (h : A[k]? = some (some a)) (ho : H a = some (.dT vs)) : Ext A H A (upd H a (.dT xs)) := ⟨keep_cell h, fun _ _ e => e, fun j b _ ⟨kvs, l⟩ => by
  by_cases c : b = a
  · rw [c, ho] at l; cases l
  · rw [upd_ne c]; exact ⟨kvs, l⟩, fun j b _ l => by
  by_cases c : b = a
  · rw [c, upd_same]; exact ⟨_, rfl⟩
  · rw [upd_ne c]; exact l⟩
theorem Sto.writeX {K : PySem.W.Frag} {A : As} {H : Hp} {μ : Mu} (s : Sto K A H μ) {a : Addr} {k : Nat} {o : HO} {ds : List Dat} (h : A[k]? = some (some a)) (e : Ext A H A (upd H a o)) (hb : DL.blws μ.length ds = true) (x : CAt K A (upd H a o) (μ.set k (some ds)) k a) : Sto K A (upd H a o) (μ.set k (some ds)) := by
  refine ⟨by rw [List.length_set]; exact s.len, fun j es q => ?_, fun j b q => ?_, s.inj⟩
  · rw [List.length_set]
    by_cases c : k = j
    · subst c
      rw [List.getElem?_set_self (by rw [← s.len]; exact (List.getElem?_eq_some_iff.mp h).1)] at q
      cases q; exact hb
    · rw [List.getElem?_set_ne c] at q; exact s.bl j es q
  by_cases c : b = a
  · subst c
    have := s.inj k j b h q
    subst this
    exact x
  · have hj : k ≠ j := fun z => c (by subst z; rw [h] at q; cases q; rfl)
    exact (s.at_ j b q).tr (fun vs ds _ t => t.mono e) (upd_ne c) (List.getElem?_set_ne hj)
theorem Sto.write {K : PySem.W.Frag} {A : As} {H : Hp} {μ : Mu} (s : Sto K A H μ) {a : Addr} {k : Nat} {xs vs : List V} {ds : List Dat} (h : A[k]? = some (some a)) (ho : H a = some (.lst vs)) (x : Dns K A H xs ds) : Sto K A (upd H a (.lst xs)) (μ.set k (some ds)) :=
  s.writeX h (ext_cell h ho) (x.blws (by rw [s.len]; exact Nat.le_refl _)) (.inl ⟨xs, ds, upd_same, by rw [List.getElem?_set_self (by rw [← s.len]; exact (List.getElem?_eq_some_iff.mp h).1)], x.mono (ext_cell h ho)⟩)
theorem Sto.writeD {K : PySem.W.Frag} {A : As} {H : Hp} {μ : Mu} (s : Sto K A H μ) {a : Addr} {k : Nat} {kvs vs : List (List L2.Key × V)} {ds : List Dat} (h : A[k]? = some (some a)) (ho : H a = some (.dT vs)) (x : Dns K A H (kvs.map (·.2)) ds) :
    Sto K A (upd H a (.dT kvs)) (μ.set k (some [.dst (kvs.map (·.1)) ds])) :=
  s.writeX h (ext_dcell h ho) (by rw [DL.blws, DL.blw, x.blws (by rw [s.len]; exact Nat.le_refl _)]; rfl) (.inr ⟨kvs, ds, upd_same, by rw [List.getElem?_set_self (by rw [← s.len]; exact (List.getElem?_eq_some_iff.mp h).1)], x.mono (ext_dcell h ho)⟩)
/-- a new cell -/
theorem ext_open {A : As} {H : Hp} {p : Addr} {o : HO} (h : H p = none) : Ext A H (A ++ [some p]) (upd H p o) := ⟨fun a u e => by
  obtain ⟨e1, c⟩ := hid_of e
  have ne := ne_of_none e1 h
  refine hid_to (by rw [upd_ne ne]; exact e1) fun m => ?_
  rcases List.mem_append.mp m with m | m
  · exact c m
  · exact ne (Option.some.inj (List.mem_singleton.mp m)), fun k a e => by
    rw [List.getElem?_append_left (List.getElem?_eq_some_iff.mp e).1]; exact e, fun _ _ _ ⟨xs, e⟩ => ⟨xs, by rw [upd_ne (ne_of_none e h)]; exact e⟩, fun _ _ _ ⟨xs, e⟩ => ⟨xs, by rw [upd_ne (ne_of_none e h)]; exact e⟩⟩
theorem Sto.openX {K : PySem.W.Frag} {A : As} {H : Hp} {μ : Mu} (s : Sto K A H μ) {p : Addr} {o : HO} {ds : List Dat} (h : H p = none) (hb : DL.blws (μ.length + 1) ds = true) (x : CAt K (A ++ [some p]) (upd H p o) (μ ++ [some ds]) A.length p) : Sto K (A ++ [some p]) (upd H p o) (μ ++ [some ds]) := by
  have cl : ∀ (k : Nat) (a : Addr), (A ++ [some p])[k]? = some (some a) → (A[k]? = some (some a) ∧ a ≠ p) ∨ (k = A.length ∧ a = p) := fun k a e => by
    by_cases c : k < A.length
    · rw [List.getElem?_append_left c] at e
      refine .inl ⟨e, fun z => ?_⟩
      subst z
      exact s.fresh h (List.mem_of_getElem? e)
    · rw [List.getElem?_append_right (by omega)] at e
      have : k - A.length = 0 := by
        have := (List.getElem?_eq_some_iff.mp e).1
        simp at this; omega
      rw [this] at e
      simp at e
      exact .inr ⟨by omega, e.symm⟩
  refine ⟨by simp [s.len], fun k es q => ?_, fun k a e => ?_, fun j k a e1 e2 => ?_⟩
  · rw [List.length_append, List.length_singleton]
    by_cases c : k < μ.length
    · rw [List.getElem?_append_left c] at q; exact blws_le (by omega) _ (s.bl k es q)
    · rw [List.getElem?_append_right (by omega)] at q
      have : k - μ.length = 0 := by
        have := (List.getElem?_eq_some_iff.mp q).1
        simp at this; omega
      rw [this] at q
      simp at q
      subst q
      exact hb
  · rcases cl k a e with ⟨e', ne⟩ | ⟨rfl, rfl⟩
    · refine (s.at_ k a e').tr (fun vs ds _ t => t.mono (ext_open h)) (upd_ne ne) ?_
      rw [List.getElem?_append_left (by rw [← s.len]; exact (List.getElem?_eq_some_iff.mp e').1)]
    · exact x
  · rcases cl j a e1 with ⟨e1', ne⟩ | ⟨rfl, rfl⟩
    · rcases cl k a e2 with ⟨e2', _⟩ | ⟨_, rfl⟩
      · exact s.inj j k a e1' e2'
      · exact absurd rfl ne
    · rcases cl k a e2 with ⟨_, ne⟩ | ⟨rfl, _⟩
      · exact absurd rfl ne
      · rfl
theorem Sto.open {K : PySem.W.Frag} {A : As} {H : Hp} {μ : Mu} (s : Sto K A H μ) {p : Addr} {xs : List V} {ds : List Dat} (h : H p = none) (x : Dns K A H xs ds) : Sto K (A ++ [some p]) (upd H p (.lst xs)) (μ ++ [some ds]) :=
  s.openX h (x.blws (by rw [s.len]; omega)) (.inl ⟨xs, ds, upd_same, by rw [s.len]; simp, x.mono (ext_open h)⟩)
theorem Sto.openD {K : PySem.W.Frag} {A : As} {H : Hp} {μ : Mu} (s : Sto K A H μ) {p : Addr} (h : H p = none) : Sto K (A ++ [some p]) (upd H p (.dT [])) (μ ++ [some [.dst [] []]]) :=
  s.openX h rfl (.inr ⟨[], [], upd_same, by rw [s.len]; simp, .nil⟩)
end DL
namespace DL
open PySem L2
abbrev PD := Dat → Mu → Prop
/-- an expression's reading, by data -/
def EW (K : PySem.W.Frag) (te : TE) (ρ : Ro) (μ : Mu) (P : PD) : Prop := ∀ (A : As) (σ : St) (H : Hp), Sto K A H μ → DL.Env K A H σ ρ → ∀ Q : VK,
  (∀ A' H' v d μ', Ext A H A' H' → Sto K A' H' μ' → Dn K A' H' v d → P d μ' → Q v H') → te σ H Q
def TW (K : PySem.W.Frag) (tt : TT) (ρ : Ro) (μ : Mu) (P : Bool → Mu → Prop) : Prop := ∀ (A : As) (σ : St) (H : Hp), Sto K A H μ → DL.Env K A H σ ρ → ∀ Q : Bool → Hp → Prop,
  (∀ A' H' b μ', Ext A H A' H' → Sto K A' H' μ' → P b μ' → Q b H') → tt σ H Q
def AW (K : PySem.W.Frag) (ta : TA) (ρ : Ro) (μ : Mu) (P : List Dat → Mu → Prop) : Prop := ∀ (A : As) (σ : St) (H : Hp), Sto K A H μ → DL.Env K A H σ ρ → ∀ Q : List V → Hp → Prop,
  (∀ A' H' vs ds μ', Ext A H A' H' → Sto K A' H' μ' → Dns K A' H' vs ds → P ds μ' → Q vs H') → ta σ H Q
def OW (K : PySem.W.Frag) (to : TO) (ρ : Ro) (μ : Mu) (P : Option Int → Mu → Prop) : Prop := ∀ (A : As) (σ : St) (H : Hp), Sto K A H μ → DL.Env K A H σ ρ → ∀ Q : Option Int → Hp → Prop,
  (∀ A' H' o μ', Ext A H A' H' → Sto K A' H' μ' → P o μ' → Q o H') → to σ H Q
/-- two-place operations, calls, on data -/
def RW (K : PySem.W.Frag) (r : R2) (d e : Dat) (μ : Mu) (P : PD) : Prop := ∀ (A : As) (H : Hp) (x y : V), Sto K A H μ → Dn K A H x d → Dn K A H y e → ∀ Q : VK,
  (∀ A' H' v f μ', Ext A H A' H' → Sto K A' H' μ' → Dn K A' H' v f → P f μ' → Q v H') → r x y H Q
def UW (K : PySem.W.Frag) (r : V → Hp → VK → Prop) (d : Dat) (μ : Mu) (P : PD) : Prop := ∀ (A : As) (H : Hp) (x : V), Sto K A H μ → Dn K A H x d → ∀ Q : VK,
  (∀ A' H' v f μ', Ext A H A' H' → Sto K A' H' μ' → Dn K A' H' v f → P f μ' → Q v H') → r x H Q
def CW (K : PySem.W.Frag) (r : List V → Hp → VK → Prop) (ds : List Dat) (μ : Mu) (P : PD) : Prop := ∀ (A : As) (H : Hp) (xs : List V), Sto K A H μ → Dns K A H xs ds → ∀ Q : VK,
  (∀ A' H' v f μ', Ext A H A' H' → Sto K A' H' μ' → Dn K A' H' v f → P f μ' → Q v H') → r xs H Q
structure DE where
  nx : Ro → Mu → Prop
  rt : PD
  bk : Ro → Mu → Prop := fun _ _ => False
  ct : Ro → Mu → Prop := fun _ _ => False
/-- the ends as a body's reading has them -/
structure Ends (K : PySem.W.Frag) (A : As) (H : Hp) (D : L2.Ends) (E : DE) : Prop where
  nx : ∀ A' H' σ' ρ' μ', Ext A H A' H' → Sto K A' H' μ' → DL.Env K A' H' σ' ρ' → E.nx ρ' μ' → D.nx σ' H'
  rt : ∀ A' H' v d μ', Ext A H A' H' → Sto K A' H' μ' → Dn K A' H' v d → E.rt d μ' → D.rt v H'
  bk : ∀ A' H' σ' ρ' μ', Ext A H A' H' → Sto K A' H' μ' → DL.Env K A' H' σ' ρ' → E.bk ρ' μ' → D.bk σ' H'
  ct : ∀ A' H' σ' ρ' μ', Ext A H A' H' → Sto K A' H' μ' → DL.Env K A' H' σ' ρ' → E.ct ρ' μ' → D.ct σ' H'
def SW (K : PySem.W.Frag) (ts : TS) (ρ : Ro) (μ : Mu) (E : DE) : Prop := ∀ (A : As) (σ : St) (H : Hp) (D : L2.Ends), Sto K A H μ → DL.Env K A H σ ρ → Ends K A H D E → ts D σ H

section
variable {K : PySem.W.Frag} {ρ : Ro} {μ : Mu} {P : PD} {ta tb tc te : TE} {d e : Dat} {r : R2}
theorem ew_var {i : Nat} (h : ρ[i]? = some (some d)) (p : P d μ) : EW K (tVar i) ρ μ P := fun A σ H s v Q q =>
  let ⟨u, a, b⟩ := v.2 i d h; ⟨u, a, q A H u d μ (Ext.refl A H) s b p⟩
theorem ew_c {v : V} (h : ∀ A H, Dn K A H v d) (p : P d μ) : EW K (tC v) ρ μ P := fun A σ H s _ Q q => q A H v d μ (Ext.refl A H) s (h A H) p
theorem ew_int {i : Int} (p : P (.int i) μ) : EW K (tC (.int i)) ρ μ P := ew_c (fun _ _ => .int i) p
theorem ew_bl {b : Bool} (p : P (.bl b) μ) : EW K (tC (.bl b)) ρ μ P := ew_c (fun _ _ => .bl b) p
theorem ew_non (p : P .non μ) : EW K (tC .non) ρ μ P := ew_c (fun _ _ => .non) p
theorem ew_str {x : Str} (p : P (.str x) μ) : EW K (tC (.str x)) ρ μ P := ew_c (fun _ _ => .str x) p
theorem ew_op (h : EW K ta ρ μ fun d μ1 => EW K tb ρ μ1 fun e μ2 => RW K r d e μ2 P) : EW K (tOp r ta tb) ρ μ P := fun A σ H s v Q q =>
  h A σ H s v _ fun A1 H1 x d μ1 e1 s1 x1 p1 => p1 A1 σ H1 s1 (v.mono e1) _ fun A2 H2 y e μ2 e2 s2 y2 p2 => p2 A2 H2 x y s2 (x1.mono e2) y2 Q fun A3 H3 z f μ3 e3 s3 z3 p3 => q A3 H3 z f μ3 ((e1.trans e2).trans e3) s3 z3 p3
theorem ew_un {r : V → Hp → VK → Prop} (h : EW K ta ρ μ fun d μ1 => UW K r d μ1 P) : EW K (tUn r ta) ρ μ P := fun A σ H s v Q q =>
  h A σ H s v _ fun A1 H1 x d μ1 e1 s1 x1 p1 => p1 A1 H1 x s1 x1 Q fun A3 H3 z f μ3 e3 s3 z3 p3 => q A3 H3 z f μ3 (e1.trans e3) s3 z3 p3
theorem EW.imp {P' : PD} (h : EW K te ρ μ P) (g : ∀ d m, P d m → P' d m) : EW K te ρ μ P' := fun A σ H s v Q q => h A σ H s v Q fun A' H' u d m a b c p => q A' H' u d m a b c (g d m p)

theorem rw_I0 {g : Int → Int → V} {f : Int → Int → Dat} {i j : Int} (hg : ∀ A H, Dn K A H (g i j) (f i j)) (p : P (f i j) μ) : RW K (rI0 g) (.int i) (.int j) μ P := fun A H x y s a b Q q => by
  cases a; cases b
  exact ⟨i, j, rfl, rfl, q A H _ _ μ (Ext.refl A H) s (hg A H) p⟩
theorem rw_I {C : Int → Int → Prop} {g : Int → Int → V} {f : Int → Int → Dat} {i j : Int} (hc : C i j) (hg : ∀ A H, Dn K A H (g i j) (f i j)) (p : P (f i j) μ) : RW K (rI C g) (.int i) (.int j) μ P := fun A H x y s a b Q q => by
  cases a; cases b
  exact ⟨i, j, rfl, rfl, hc, q A H _ _ μ (Ext.refl A H) s (hg A H) p⟩
theorem rw_add {i j : Int} (p : P (.int (i + j)) μ) : RW K (rI0 fun i j => .int (i + j)) (.int i) (.int j) μ P := rw_I0 (f := fun i j => .int (i + j)) (fun _ _ => .int _) p
theorem rw_sub {i j : Int} (p : P (.int (i - j)) μ) : RW K (rI0 fun i j => .int (i - j)) (.int i) (.int j) μ P := rw_I0 (f := fun i j => .int (i - j)) (fun _ _ => .int _) p
theorem rw_mul {i j : Int} (hc : CMul i j) (p : P (.int (i * j)) μ) : RW K (rI CMul fun i j => .int (i * j)) (.int i) (.int j) μ P := rw_I (f := fun i j => .int (i * j)) hc (fun _ _ => .int _) p
theorem rw_mod {i j : Int} (hc : 0 < j) (p : P (.int (i % j)) μ) : RW K (rI (fun _ j => 0 < j) fun i j => .int (i % j)) (.int i) (.int j) μ P := rw_I (f := fun i j => .int (i % j)) hc (fun _ _ => .int _) p
theorem rw_fdiv {i j : Int} (hc : CDiv i j) (p : P (.int (i / j)) μ) : RW K (rI CDiv fun i j => .int (i / j)) (.int i) (.int j) μ P := rw_I (f := fun i j => .int (i / j)) hc (fun _ _ => .int _) p
theorem rw_pow {i j : Int} (hc : CPow i j) (p : P (.int (i ^ j.toNat)) μ) : RW K (rI CPow fun i j => .int (i ^ j.toNat)) (.int i) (.int j) μ P := rw_I (f := fun i j => .int (i ^ j.toNat)) hc (fun _ _ => .int _) p
theorem rw_lt {i j : Int} (p : P (.bl (decide (i < j))) μ) : RW K (rI0 fun i j => .bl (decide (i < j))) (.int i) (.int j) μ P := rw_I0 (f := fun i j => .bl (decide (i < j))) (fun _ _ => .bl _) p
theorem rw_le {i j : Int} (p : P (.bl (decide (i ≤ j))) μ) : RW K (rI0 fun i j => .bl (decide (i ≤ j))) (.int i) (.int j) μ P := rw_I0 (f := fun i j => .bl (decide (i ≤ j))) (fun _ _ => .bl _) p
theorem rw_gt {i j : Int} (p : P (.bl (decide (j < i))) μ) : RW K (rI0 fun i j => .bl (decide (j < i))) (.int i) (.int j) μ P := rw_I0 (f := fun i j => .bl (decide (j < i))) (fun _ _ => .bl _) p
theorem rw_ge {i j : Int} (p : P (.bl (decide (j ≤ i))) μ) : RW K (rI0 fun i j => .bl (decide (j ≤ i))) (.int i) (.int j) μ P := rw_I0 (f := fun i j => .bl (decide (j ≤ i))) (fun _ _ => .bl _) p
/-- == and != of flat things (None, ints, truths, texts) -/
def fl : Dat → V
  | .non => .non | .bl b => .bl b | .int i => .int i | .str x => .str x | _ => .flt 0
theorem Dn.flat {A : As} {H : Hp} {v : V} (h : Dn K A H v d) (n : (fl d) ≠ .flt 0) : v = fl d := by
  cases h <;> first | rfl | exact absurd rfl n
theorem rw_eq (hs : scal (fl d) (fl e) = true) (p : P (.bl (decide (fl d = fl e))) μ) : RW K rEq d e μ P := fun A H x y s a b Q q => by
  have n1 : fl d ≠ .flt 0 := fun z => by rw [z] at hs; cases e <;> simp [fl, scal] at hs
  have n2 : fl e ≠ .flt 0 := fun z => by rw [z] at hs; cases d <;> simp [fl, scal] at hs
  rw [a.flat n1, b.flat n2]
  exact ⟨hs, q A H _ _ μ (Ext.refl A H) s (.bl _) p⟩
theorem rw_ne (hs : scal (fl d) (fl e) = true) (p : P (.bl (!decide (fl d = fl e))) μ) : RW K rNe d e μ P := fun A H x y s a b Q q => by
  have n1 : fl d ≠ .flt 0 := fun z => by rw [z] at hs; cases e <;> simp [fl, scal] at hs
  have n2 : fl e ≠ .flt 0 := fun z => by rw [z] at hs; cases d <;> simp [fl, scal] at hs
  rw [a.flat n1, b.flat n2]
  exact ⟨hs, q A H _ _ μ (Ext.refl A H) s (.bl _) p⟩
/-- is None, is not None -/
theorem nonV {A : As} {H : Hp} {v : V} (h : Dn K A H v d) : decide (v = .non) = (match d with | .non => true | _ => false) := by
  cases h <;> simp
def rIsN : R2 := fun x y H Q => y = .non ∧ Q (.bl (decide (x = .non))) H
def rNotN : R2 := fun x y H Q => y = .non ∧ Q (.bl (!decide (x = .non))) H
theorem op_isN' {X : Cx} : OpR X (compareOp .Is) rIsN := op_isN
theorem op_notN' {X : Cx} : OpR X (compareOp .IsNot) rNotN := op_notN
def isNon : Dat → Bool | .non => true | _ => false
theorem rw_isN (p : P (.bl (isNon d)) μ) : RW K rIsN d .non μ P := fun A H x y s a b Q q => by
  cases b
  refine ⟨rfl, ?_⟩
  have : decide (x = V.non) = isNon d := by cases a <;> simp [isNon]
  rw [this]
  exact q A H _ _ μ (Ext.refl A H) s (.bl _) p
theorem rw_notN (p : P (.bl (!isNon d)) μ) : RW K rNotN d .non μ P := fun A H x y s a b Q q => by
  cases b
  refine ⟨rfl, ?_⟩
  have : decide (x = V.non) = isNon d := by cases a <;> simp [isNon]
  rw [this]
  exact q A H _ _ μ (Ext.refl A H) s (.bl _) p
def rIsB : R2 := fun x y H Q => ∃ a b, x = .bl a ∧ y = .bl b ∧ Q (.bl (decide (a = b))) H
def rNotB : R2 := fun x y H Q => ∃ a b, x = .bl a ∧ y = .bl b ∧ Q (.bl (!decide (a = b))) H
theorem op_isB {X : Cx} : OpR X (compareOp .Is) rIsB := op_is_bl
theorem op_notB {X : Cx} : OpR X (compareOp .IsNot) rNotB := op_isnot_bl
theorem rw_isB {a b : Bool} (p : P (.bl (decide (a = b))) μ) : RW K rIsB (.bl a) (.bl b) μ P := fun A H x y s u v Q q => by
  cases u; cases v
  exact ⟨a, b, rfl, rfl, q A H _ _ μ (Ext.refl A H) s (.bl _) p⟩
theorem rw_notB {a b : Bool} (p : P (.bl (!decide (a = b))) μ) : RW K rNotB (.bl a) (.bl b) μ P := fun A H x y s u v Q q => by
  cases u; cases v
  exact ⟨a, b, rfl, rfl, q A H _ _ μ (Ext.refl A H) s (.bl _) p⟩
/-- tuple + tuple -/
theorem rw_cat {xs ys : List Dat} (hz : xs.length + ys.length ≤ sizeLine) (p : P (.tup (xs ++ ys)) μ) : RW K (rCatA K) (.tup xs) (.tup ys) μ P := fun A H x y s u v Q q => by
  cases u with
  | @tup a vs _ h1 t1 =>
    cases v with
    | @tup b ws _ h2 t2 =>
      have l1 := t1.length
      have l2 := t2.length
      refine ⟨a, b, vs, ws, rfl, rfl, sqT_hid h1, sqT_hid h2, by omega, fun z => ?_, fun _ z => ?_, fun _ _ c hc => ?_⟩
      · subst z
        have : xs = [] := List.eq_nil_of_length_eq_zero (by simpa using l1.symm)
        subst this
        exact q A H _ _ μ (Ext.refl A H) s (.tup h2 t2) p
      · subst z
        have : ys = [] := List.eq_nil_of_length_eq_zero (by simpa using l2.symm)
        subst this
        rw [List.append_nil] at p
        exact q A H _ _ μ (Ext.refl A H) s (.tup h1 t1) p
      · exact q A _ _ _ μ (ext_new hc) (s.new hc) (Dn.newT s hc (t1.append t2)) p
/-- list + list (both tracked ones) is not carried here -/
theorem rw_ixT {xs : List Dat} {i : Int} {f : Dat} (h : atI xs i = some f) (p : P f μ) : RW K (rIxT K) (.tup xs) (.int i) μ P := fun A H x y s u v Q q => by
  cases v
  cases u with
  | @tup a vs _ h1 t1 =>
    have hl := t1.length
    have h' := h
    unfold atI at h'
    cases hn : ixN xs.length i with
    | none => rw [hn] at h'; cases h'
    | some j =>
      rw [hn] at h'
      obtain ⟨w, e1, e2⟩ := t1.get (i := j) (d := f) h'
      refine ⟨a, vs, i, w, rfl, rfl, sqT_hid h1, ?_, q A H _ _ μ (Ext.refl A H) s e2 p⟩
      unfold atI
      rw [hl, hn]
      exact e1
theorem rw_ixL {xs : List Dat} {i : Int} {f : Dat} (h : atI xs i = some f) (p : P f μ) : RW K (rIxL K) (.lst xs) (.int i) μ P := fun A H x y s u v Q q => by
  cases v
  cases u with
  | @lst a vs _ h1 t1 =>
    have hl := t1.length
    have h' := h
    unfold atI at h'
    cases hn : ixN xs.length i with
    | none => rw [hn] at h'; cases h'
    | some j =>
      rw [hn] at h'
      obtain ⟨w, e1, e2⟩ := t1.get (i := j) (d := f) h'
      refine ⟨a, vs, i, w, rfl, rfl, sqL_hid h1, ?_, q A H _ _ μ (Ext.refl A H) s e2 p⟩
      unfold atI
      rw [hl, hn]
      exact e1
theorem Sto.cell {A : As} {H : Hp} {v : V} {k : Nat} {xs : List Dat} (s : Sto K A H μ) (h : Dn K A H v (.cell k)) (hm : μ[k]? = some (some xs)) : ∃ a vs, v = .ref a ∧ A[k]? = some (some a) ∧ H a = some (.lst vs) ∧ Dns K A H vs xs := by
  cases h with
  | @cell a _ hk hl =>
    rcases s.at_ k a hk with ⟨ys, es, q1, q2, q3⟩ | ⟨ys, es, q1, _⟩
    · rw [hm] at q2
      cases q2
      exact ⟨a, ys, rfl, hk, q1, q3⟩
    · obtain ⟨zs, q⟩ := hl
      rw [q1] at q
      cases q
theorem Sto.dcell {A : As} {H : Hp} {v : V} {k : Nat} {ks : List (List L2.Key)} {xs : List Dat} (s : Sto K A H μ) (h : Dn K A H v (.dcell k)) (hm : μ[k]? = some (some [.dst ks xs])) : ∃ a kvs, v = .ref a ∧ A[k]? = some (some a) ∧ H a = some (.dT kvs) ∧ ks = kvs.map (·.1) ∧ Dns K A H (kvs.map (·.2)) xs := by
  cases h with
  | @dcell a _ hk hl =>
    rcases s.at_ k a hk with ⟨ys, es, q1, _⟩ | ⟨ys, es, q1, q2, q3⟩
    · obtain ⟨zs, q⟩ := hl
      rw [q1] at q
      cases q
    · rw [hm] at q2
      injection q2 with q2
      injection q2 with q2
      injection q2 with q2 _
      injection q2 with e1 e2
      subst e1 e2
      exact ⟨a, ys, rfl, hk, q1, rfl, q3⟩
theorem rw_ixC {k : Nat} {xs : List Dat} {i : Int} {f : Dat} (hm : μ[k]? = some (some xs)) (h : atI xs i = some f) (p : P f μ) : RW K (rIxL K) (.cell k) (.int i) μ P := fun A H x y s u v Q q => by
  cases v
  obtain ⟨a, vs, rfl, hk, ho, t1⟩ := s.cell u hm
  have hl := t1.length
  have h' := h
  unfold atI at h'
  cases hn : ixN xs.length i with
  | none => rw [hn] at h'; cases h'
  | some j =>
    rw [hn] at h'
    obtain ⟨w, e1, e2⟩ := t1.get (i := j) (d := f) h'
    refine ⟨a, vs, i, w, rfl, rfl, .inl (.inl ho), ?_, q A H _ _ μ (Ext.refl A H) s e2 p⟩
    unfold atI
    rw [hl, hn]
    exact e1
theorem flat_rep {α : Type} (l : List α) : ∀ n : Nat, (List.replicate n l).flatten.length = n * l.length
  | 0 => by simp
  | n + 1 => by rw [List.replicate_succ, List.flatten_cons, List.length_append, flat_rep l n, Nat.succ_mul, Nat.add_comm]
end
end DL
namespace DL
open PySem PySem.Spec PyProof.Rows L2
theorem tuple_mulW1 (l : Addr) (items : Array Value) (n : Nat) (dd : Option Addr) (sl : Array (Option Value)) (x : Int) (u : Tok) (c0 : (decide (x < -(2 ^ 63)) || decide (x ≥ 2 ^ 63)) = false) (c1 : (items.isEmpty || x == 1) = true) :
    Meets (Builtin.«tuple.__mul__» ⟨[.ref l, .int x u], []⟩) (fun _ R s => s.heap.get? l = some { cls := .type "tuple", dict := dd, data := .seq items n, slots := sl } ∧
      R (.ok (.ret (Value.ref l))) s) :=
  .of_wp fun prog w A R s h => by
    obtain ⟨hp, g, d, tk, os⟩ := s
    obtain ⟨hl, h⟩ := h
    have f1 := AutoSeq1.idx_int
    wp_walk using wpAny_loadPart' hl
    repeat (first
      | (refine wpAny_ite_false (decide_eq_false (by rw [c0]; exact Bool.false_ne_true)) ?_; wp_walk using wpAny_loadPart' hl)
      | (refine wpAny_ite_true (decide_eq_true (by rw [c1])) ?_; wp_walk using wpAny_loadPart' hl))
    exact ⟨_, rfl, h⟩
/-- t * 1 is t; t * k else a new one -/
def rRepA (K : PySem.W.Frag) : R2 := fun x y H Q => ∃ l k xs, x = .ref l ∧ y = .int k ∧ SqT K H l xs ∧ xs ≠ [] ∧ 1 ≤ k ∧ k ≤ 1000 ∧ xs.length ≤ 1000 ∧ (k = 1 → Q (.ref l) H) ∧ (2 ≤ k → ∀ p, H p = none → Q (.ref p) (upd H p (.tup (List.replicate k.toNat xs).flatten)))
section
variable {X : Cx}
theorem op_repA : OpR X (binaryOp .Mult) (rRepA X.K) := by
  intro pins s σ H x y v u Q I rx ry h
  obtain ⟨l, k, xs, rfl, rfl, hT, hne, h1, h2, hz, q1, q2⟩ := h
  by_cases hk : k = 1
  · subst hk
    cases rx
    obtain ⟨t, rfl⟩ := ry
    obtain ⟨its, r, ⟨⟨cls, dd, data, sl⟩, ho, hc, n, hd⟩, hs⟩ := I.tuple hT
    simp only at hc hd
    subst hc hd
    refine wpAny_binaryOp_repeat_ref (T := "tuple") (U := "int") (by decide) ⟨_, ho, rfl⟩ (fun s' => typeIs_int s' 1 t) noFill_tuple_mul F.fills_int_mul F.slot_int_rmul repeat_tuple F.slot_int_index.lookup
      (call_meets F.slot_int_rmul (typeIs_int s 1 t) F.entry_int_rmul (F.args_int_rmul_2 _ _) (int_rmul_tuple 1 t l its.toArray n dd sl)
        ⟨ho, rfl, ⟨_, ho, rfl⟩, call_meets F.slot_tuple_mul ⟨_, ho, rfl⟩ F.entry_tuple_mul (F.args_tuple_mul_2 _ _) (tuple_mulW1 l its.toArray n dd sl 1 t (by decide) (by simp)) ⟨ho, ?_⟩⟩)
    exact ⟨.ref l, _, I, rfl, q1 rfl⟩
  · exact op_repT pins s σ H _ _ v u Q I rx ry ⟨l, k, xs, rfl, rfl, hT, hne, by omega, h2, hz, q2 (by omega)⟩
end
section
variable {K : PySem.W.Frag} {μ : Mu} {P : PD}
theorem rw_rep {xs : List Dat} {k : Int} (hne : xs ≠ []) (h1 : 1 ≤ k) (h2 : k ≤ 1000) (hz : xs.length ≤ 1000) (p : P (.tup (List.replicate k.toNat xs).flatten) μ) : RW K (rRepA K) (.tup xs) (.int k) μ P := fun A H x y s u v Q q => by
  cases v
  cases u with
  | @tup a vs _ h1' t1 =>
    have l1 := t1.length
    refine ⟨a, k, vs, rfl, rfl, sqT_hid h1', fun z => hne ?_, h1, h2, by omega, fun z => ?_, fun _ c hc => ?_⟩
    · subst z; exact List.eq_nil_of_length_eq_zero (by simpa using l1.symm)
    · subst z
      have e : (List.replicate (Int.toNat 1) xs).flatten = xs := by simp
      rw [e] at p
      exact q A H _ _ μ (Ext.refl A H) s (.tup h1' t1) p
    · exact q A _ _ _ μ (ext_new hc) (s.new hc) (Dn.newT s hc (t1.rep _)) p
end
end DL
namespace DL
open PySem PySem.Spec PyProof.Rows L2
section
variable {K : PySem.W.Frag} {ρ : Ro} {μ : Mu} {P : PD} {ta tb tc te : TE} {d e : Dat} {r : R2}
/-! ### arguments, displays, slices -/
theorem aw_nil {P : List Dat → Mu → Prop} (p : P [] μ) : AW K tNil ρ μ P := fun A σ H s _ Q q => q A H [] [] μ (Ext.refl A H) s .nil p
theorem aw_cons {tr : TA} {P : List Dat → Mu → Prop} (h : EW K ta ρ μ fun d m => AW K tr ρ m fun ds m2 => P (d :: ds) m2) : AW K (tCons ta tr) ρ μ P := fun A σ H s v Q q =>
  h A σ H s v _ fun A1 H1 x d m1 e1 s1 x1 p1 => p1 A1 σ H1 s1 (v.mono e1) _ fun A2 H2 xs ds m2 e2 s2 x2 p2 => q A2 H2 (x :: xs) (d :: ds) m2 (e1.trans e2) s2 (.cons (x1.mono e2) x2) p2
theorem ew_tup {t : TA} (h : AW K t ρ μ fun ds m => ds.length ≤ sizeLine ∧ P (.tup ds) m) : EW K (tTup t) ρ μ P := fun A σ H s v Q q =>
  h A σ H s v _ fun A1 H1 xs ds m1 e1 s1 x1 ⟨hl, p⟩ => ⟨by rw [x1.length]; exact hl, fun a ha => q A1 _ _ _ m1 (e1.trans (ext_new ha)) (s1.new ha) (Dn.newT s1 ha x1) p⟩
theorem ew_lst {t : TA} (h : AW K t ρ μ fun ds m => ds.length ≤ sizeLine ∧ P (.lst ds) m) : EW K (tLst t) ρ μ P := fun A σ H s v Q q =>
  h A σ H s v _ fun A1 H1 xs ds m1 e1 s1 x1 ⟨hl, p⟩ => ⟨by rw [x1.length]; exact hl, fun a ha => q A1 _ _ _ m1 (e1.trans (ext_new ha)) (s1.new ha) (Dn.newL s1 ha x1) p⟩
/-- a new list that will be changed -/
theorem ew_lstC {t : TA} (h : AW K t ρ μ fun ds m => ds.length ≤ sizeLine ∧ noCells ds = true ∧ P (.cell m.length) (m ++ [some ds])) : EW K (tLst t) ρ μ P := fun A σ H s v Q q =>
  h A σ H s v _ fun A1 H1 xs ds m1 e1 s1 x1 ⟨hl, n, p⟩ => ⟨by rw [x1.length]; exact hl, fun a ha => q (A1 ++ [some a]) _ _ _ (m1 ++ [some ds]) (e1.trans (ext_open ha)) (s1.open ha x1) (.cell (by rw [← s1.len]; simp) ⟨_, upd_same⟩) p⟩
theorem ow_none {P : Option Int → Mu → Prop} (p : P none μ) : OW K tNoPart ρ μ P := fun A σ H s _ Q q => q A H none μ (Ext.refl A H) s p
theorem ow_some {P : Option Int → Mu → Prop} (h : EW K te ρ μ fun d m => ∃ i, d = .int i ∧ P (some i) m) : OW K (tPart te) ρ μ P := fun A σ H s v Q q =>
  h A σ H s v _ fun A1 H1 x d m1 e1 s1 x1 ⟨i, hd, p⟩ => by
    subst hd
    cases x1
    exact ⟨i, rfl, q A1 H1 (some i) m1 e1 s1 p⟩
def cut {α : Type} (xs : List α) (lo hi : Option Int) : List α := (xs.drop (HT.sIx xs.length 0 lo)).take (HT.sIx xs.length xs.length hi - HT.sIx xs.length 0 lo)
theorem Dns.cut {A : As} {H : Hp} {vs : List V} {ds : List Dat} (h : Dns K A H vs ds) (lo hi : Option Int) : Dns K A H (cutV vs lo hi) (cut ds lo hi) := by
  unfold cutV DL.cut
  rw [h.length]
  exact (h.drop _).take _
theorem ew_slT {tl th : TO} (h : EW K te ρ μ fun d m1 => OW K tl ρ m1 fun lo m2 => OW K th ρ m2 fun hi m3 => ∃ xs, d = .tup xs ∧ P (.tup (cut xs lo hi)) m3) : EW K (tSl (rSlA K) te tl th) ρ μ P := fun A σ H s v Q q =>
  h A σ H s v _ fun A1 H1 x d m1 e1 s1 x1 p1 => p1 A1 σ H1 s1 (v.mono e1) _ fun A2 H2 lo m2 e2 s2 p2 => p2 A2 σ H2 s2 (v.mono (e1.trans e2)) _ fun A3 H3 hi m3 e3 s3 ⟨xs, hd, p⟩ => by
    subst hd
    cases x1.mono (e2.trans e3) with
    | @tup a vs _ h1 t1 =>
      have l1 := t1.length
      refine ⟨a, vs, rfl, sqT_hid h1, fun w => ?_, fun _ b hb => ?_⟩
      · have e : DL.cut xs lo hi = xs := by
          unfold DL.cut
          rw [← l1, w.1, w.2, List.drop_zero, Nat.sub_zero, l1, List.take_length]
        rw [e] at p
        exact q A3 H3 _ _ m3 ((e1.trans e2).trans e3) s3 (.tup h1 t1) p
      · exact q A3 _ _ _ m3 (((e1.trans e2).trans e3).trans (ext_new hb)) (s3.new hb) (Dn.newT s3 hb (t1.cut lo hi)) p
theorem ew_slL {tl th : TO} (h : EW K te ρ μ fun d m1 => OW K tl ρ m1 fun lo m2 => OW K th ρ m2 fun hi m3 => ∃ xs, d = .lst xs ∧ P (.lst (cut xs lo hi)) m3) : EW K (tSl (rSlL K) te tl th) ρ μ P := fun A σ H s v Q q =>
  h A σ H s v _ fun A1 H1 x d m1 e1 s1 x1 p1 => p1 A1 σ H1 s1 (v.mono e1) _ fun A2 H2 lo m2 e2 s2 p2 => p2 A2 σ H2 s2 (v.mono (e1.trans e2)) _ fun A3 H3 hi m3 e3 s3 ⟨xs, hd, p⟩ => by
    subst hd
    cases x1.mono (e2.trans e3) with
    | @lst a vs _ h1 t1 =>
      exact ⟨a, vs, rfl, sqL_hid h1, fun b hb => q A3 _ _ _ m3 (((e1.trans e2).trans e3).trans (ext_new hb)) (s3.new hb) (Dn.newL s3 hb (t1.cut lo hi)) p⟩

/-! ### calls of built-ins -/
theorem ew_cb {r : List V → Hp → VK → Prop} {t : TA} (h : AW K t ρ μ fun ds m => CW K r ds m P) : EW K (tCB r t) ρ μ P := fun A σ H s v Q q =>
  h A σ H s v _ fun A1 H1 xs ds m1 e1 s1 x1 p => p A1 H1 xs s1 x1 Q fun A2 H2 u f m2 e2 s2 y pf => q A2 H2 u f m2 (e1.trans e2) s2 y pf
def rLen (K : PySem.W.Frag) : List V → Hp → VK → Prop := fun xs H Q => ∃ p ys, xs = [.ref p] ∧ (SqL K H p ys ∨ SqT K H p ys) ∧ Q (.int ys.length) H
theorem call_lenS {X : Cx} : CallR X (.builtin "len") (rLen X.K) := call_len_seq
theorem cw_lenT {xs : List Dat} (p : P (.int (xs.length : Int)) μ) : CW K (rLen K) [.tup xs] μ P := fun A H us s x Q q => by
  cases x with
  | cons a t => cases t; cases a with
    | @tup b vs _ h1 t1 => exact ⟨b, vs, rfl, .inr (sqT_hid h1), q A H _ (.int (xs.length : Int)) μ (Ext.refl A H) s (by rw [t1.length]; exact .int _) p⟩
theorem cw_lenL {xs : List Dat} (p : P (.int (xs.length : Int)) μ) : CW K (rLen K) [.lst xs] μ P := fun A H us s x Q q => by
  cases x with
  | cons a t => cases t; cases a with
    | @lst b vs _ h1 t1 => exact ⟨b, vs, rfl, .inl (sqL_hid h1), q A H _ (.int (xs.length : Int)) μ (Ext.refl A H) s (by rw [t1.length]; exact .int _) p⟩
theorem cw_lenC {k : Nat} {xs : List Dat} (hm : μ[k]? = some (some xs)) (p : P (.int (xs.length : Int)) μ) : CW K (rLen K) [.cell k] μ P := fun A H us s x Q q => by
  cases x with
  | cons a t =>
    cases t
    obtain ⟨b, vs, rfl, hk, ho, t1⟩ := s.cell a hm
    exact ⟨b, vs, rfl, .inl (.inl (.inl ho)), q A H _ (.int (xs.length : Int)) μ (Ext.refl A H) s (by rw [t1.length]; exact .int _) p⟩
def rMax2 : List V → Hp → VK → Prop := fun xs H Q => ∃ i j, xs = [.int i, .int j] ∧ Q (.int (if j > i then j else i)) H
theorem call_max2' {X : Cx} (hc : X.calm = true) : CallR X (.builtin "max") rMax2 := call_max2 hc
theorem cw_max2 {i j : Int} (p : P (.int (if j > i then j else i)) μ) : CW K rMax2 [.int i, .int j] μ P := fun A H us s x Q q => by
  cases x with
  | cons a t => cases t with
    | cons b t => cases t; cases a; cases b; exact ⟨i, j, rfl, q A H _ _ μ (Ext.refl A H) s (.int _) p⟩
def rAbs : List V → Hp → VK → Prop := fun xs H Q => ∃ i, xs = [.int i] ∧ Q (.int (if i < 0 then -i else i)) H
theorem call_abs' {X : Cx} : CallR X (.builtin "abs") rAbs := call_abs
theorem cw_abs {i : Int} (p : P (.int (if i < 0 then -i else i)) μ) : CW K rAbs [.int i] μ P := fun A H us s x Q q => by
  cases x with
  | cons a t => cases t; cases a; exact ⟨i, rfl, q A H _ _ μ (Ext.refl A H) s (.int _) p⟩
def rInt1 : List V → Hp → VK → Prop := fun xs H Q => (∃ i, xs = [.int i] ∧ Q (.int i) H) ∨ ∃ k, xs = [.bl k] ∧ Q (.int (if k then 1 else 0)) H
theorem call_int1' {X : Cx} : CallR X (.type "int") rInt1 := call_int1
theorem cw_int1 {i : Int} (p : P (.int i) μ) : CW K rInt1 [.int i] μ P := fun A H us s x Q q => by
  cases x with
  | cons a t => cases t; cases a; exact .inl ⟨i, rfl, q A H _ _ μ (Ext.refl A H) s (.int _) p⟩
def rDm : List V → Hp → VK → Prop := fun xs H Q => ∃ i j, xs = [.int i, .int j] ∧ CDiv i j ∧ ∀ p, H p = none → Q (.ref p) (upd H p (.tup [.int (i / j), .int (i % j)]))
theorem call_dm {X : Cx} : CallR X (.builtin "divmod") rDm := call_divmod
theorem cw_dm {i j : Int} (hc : CDiv i j) (p : P (.tup [.int (i / j), .int (i % j)]) μ) : CW K rDm [.int i, .int j] μ P := fun A H us s x Q q => by
  cases x with
  | cons a t => cases t with
    | cons b t =>
      cases t; cases a; cases b
      exact ⟨i, j, rfl, hc, fun c hc => q A _ _ _ μ (ext_new hc) (s.new hc) (Dn.newT s hc (.cons (.int _) (.cons (.int _) .nil))) p⟩
def rTupOf (K : PySem.W.Frag) : List V → Hp → VK → Prop := fun xs H Q => ∃ p ys, xs = [.ref p] ∧ ((SqL K H p ys ∧ ∀ l, H l = none → Q (.ref l) (upd H l (.tup ys))) ∨ (SqT K H p ys ∧ Q (.ref p) H))
theorem call_tupOf {X : Cx} : CallR X (.type "tuple") (rTupOf X.K) := call_tuple_of
theorem cw_tupL {xs : List Dat} (p : P (.tup xs) μ) : CW K (rTupOf K) [.lst xs] μ P := fun A H us s x Q q => by
  cases x with
  | cons a t => cases t; cases a with
    | @lst b vs _ h1 t1 => exact ⟨b, vs, rfl, .inl ⟨sqL_hid h1, fun c hc => q A _ _ _ μ (ext_new hc) (s.new hc) (Dn.newT s hc t1) p⟩⟩
theorem cw_tupT {xs : List Dat} (p : P (.tup xs) μ) : CW K (rTupOf K) [.tup xs] μ P := fun A H us s x Q q => by
  cases x with
  | cons a t => cases t; cases a with
    | @tup b vs _ h1 t1 => exact ⟨b, vs, rfl, .inr ⟨sqT_hid h1, q A H _ _ μ (Ext.refl A H) s (.tup h1 t1) p⟩⟩
def unB : Dat → Bool | .bl b => b | _ => false
theorem dns_bl {A : As} {H : Hp} : ∀ {vs : List V} {bs : List Bool}, Dns K A H vs (bs.map Dat.bl) → vs = bs.map V.bl
  | _, [], .nil => rfl
  | _, b :: bs, .cons h t => by cases h; rw [dns_bl t]; rfl
theorem cw_all {bs : List Bool} (p : P (.bl (bs.all id)) μ) : CW K (rAll K) [.lst (bs.map Dat.bl)] μ P := fun A H us s x Q q => by
  cases x with
  | cons a t =>
    cases t
    generalize hd : List.map Dat.bl bs = ds at a
    cases a with
    | @lst b vs _ h1 t1 =>
      subst hd
      have := dns_bl t1
      subst this
      exact ⟨b, bs, rfl, sqL_hid h1, q A H _ _ μ (Ext.refl A H) s (.bl _) p⟩

/-! ### isinstance -/
theorem TyX.hid {A : As} {H : Hp} {v : V} {t : Value} (h : Dn K A H v d) (ht : match d with | .non => t = .type "NoneType" | .bl _ => t = .type "bool" | .int _ => t = .type "int" | .str _ => t = .type "str" | _ => False) : TyX K H v t := by
  cases h <;> first | (cases ht; exact .base (by constructor)) | exact ht.elim
end
end DL
namespace DL
open PySem PySem.Spec PyProof.Rows L2
section
variable {K : PySem.W.Frag} {ρ : Ro} {μ : Mu} {P : PD} {ta tb tc te : TE} {d e : Dat} {r : R2}
def tyN : Dat → String
  | .non => "NoneType" | .bl _ => "bool" | .int _ => "int" | .str _ => "str" | .tup _ => "tuple" | .lst _ => "list" | .cell _ => "list" | .dct _ _ => "dict" | .obj _ _ _ => "object" | .dcell _ => "dict" | .dst _ _ => "dict" | .key _ => "tuple"
def tyV : Dat → Value
  | .obj C _ _ => .ref C
  | d => .type (tyN d)
theorem ty_of {A : As} {H : Hp} {v : V} (s : Sto K A H μ) (h : Dn K A H v d) : TyX K H v (tyV d) := by
  cases h with
  | non => exact .base .non
  | bl b => exact .base (.bl b)
  | int i => exact .base (.int i)
  | str x => exact .base (.str x)
  | tup h t =>
    rcases sqT_hid h with (h | ⟨o, h⟩) | ⟨o, _, _, h, c, _⟩
    · exact .base (.tup h)
    · exact .fTuple h
    · exact .kTuple h c
  | lst h t =>
    rcases sqL_hid h with (h | ⟨o, h⟩) | ⟨o, _, _, h, c, _⟩
    · exact .base (.lst h)
    · exact .base (.frz h)
    · exact .kList h c
  | cell h l =>
    obtain ⟨xs, e⟩ := l
    exact .base (.lst e)
  | dcell h l =>
    obtain ⟨xs, e⟩ := l
    exact .base (.dT e)
  | key h => exact .base (.tup (hid_of h).1)
  | dct h t => exact .base (.dT (hid_of h).1)
  | obj c h t => exact .base (.ins (hid_of h).1 c.cls c.ha c.hn c.htk c.hm)
def kitD : Dat → String → Option Bool
  | .obj _ _ _, T => if T ∈ ["int", "bool", "list", "tuple", "str"] then some false else none
  | d, T => kitB (tyN d) T
theorem kit_of' {A : As} {H : Hp} {v : V} {T : String} {b : Bool} (h : Dn K A H v d) (e : kitD d T = some b) : PySem.W.kitOne K (tyV d) (.type T) = some b := by
  cases h with
  | obj c h t =>
    simp only [kitD] at e
    split at e
    · cases e
      exact c.kit _ (by assumption)
    · cases e
  | _ => exact kit_ty e
theorem ew_isi {T : String} (h : EW K ta ρ μ fun d m => ∃ b, kitD d T = some b ∧ P (.bl b) m) : EW K (tCB (rIsi K) (tCons ta (tCons (tC (.ty T)) tNil))) ρ μ P := fun A σ H s v Q q =>
  h A σ H s v _ fun A1 H1 x d m e1 s1 x1 ⟨b, hb, p⟩ => ⟨x, .ty T, tyV d, .type T, b, rfl, .ty T, ty_of s1 x1, kit_of' x1 hb, q A1 H1 _ _ m e1 s1 (.bl b) p⟩
theorem Dn.up {A : As} {H : Hp} {v : V} {p : Addr} {o : HO} (h : H p = none) (x : Dn K A H v d) : Dn K A (upd H p o) v d := x.mono (ext_new h)
theorem ew_isi2 {T U : String} (h : EW K ta ρ μ fun d m => ∃ b c, kitD d T = some b ∧ kitD d U = some c ∧ P (.bl (b || c)) m) :
    EW K (tCB (rIsiT K) (tCons ta (tCons (tTup (tCons (tC (.ty T)) (tCons (tC (.ty U)) tNil))) tNil))) ρ μ P := fun A σ H s v Q q =>
  h A σ H s v _ fun A1 H1 x d m e1 s1 x1 ⟨b, c, hb, hc, p⟩ => ⟨by show 2 ≤ sizeLine; decide, fun a ha => by
    refine ⟨x, a, _, tyV d, [.type T, .type U], b || c, rfl, upd_same, .cons (.ty T) (.cons (.ty U) .nil), ty_of (s1.new ha) (x1.up ha), ?_, q A1 _ _ _ m (e1.trans (ext_new ha)) (s1.new ha) (.bl _) p⟩
    have h1 := kit_of' x1 hb
    have h2 := kit_of' x1 hc
    unfold PySem.W.kitAny
    rw [h1]
    cases b with
    | true => rfl
    | false =>
      show PySem.W.kitAny K (tyV d) [.type U] = some (false || c)
      unfold PySem.W.kitAny
      rw [h2]
      cases c <;> rfl⟩

/-! ### tests -/
theorem tw_test {t : TE} {P : Bool → Mu → Prop} (h : EW K t ρ μ fun d m => ∃ b, d = .bl b ∧ P b m) : TW K (tTest t) ρ μ P := fun A σ H s v Q q =>
  h A σ H s v _ fun A1 H1 x d m e1 s1 x1 ⟨b, hd, p⟩ => by subst hd; cases x1; exact ⟨b, rfl, q A1 H1 b m e1 s1 p⟩
theorem tw_B {t : TE} {P : Bool → Mu → Prop} (h : EW K t ρ μ fun d m => ∃ b, d = .bl b ∧ P b m) : TW K (tB t) ρ μ P := fun A σ H s v Q q =>
  h A σ H s v _ fun A1 H1 x d m e1 s1 x1 ⟨b, hd, p⟩ => by subst hd; cases x1; exact ⟨b, rfl, q A1 H1 b m e1 s1 p⟩
theorem tw_and {t u : TT} {P : Bool → Mu → Prop} (h : TW K t ρ μ fun b m => if b = true then TW K u ρ m P else P false m) : TW K (tAnd t u) ρ μ P := fun A σ H s v Q q =>
  h A σ H s v _ fun A1 H1 b m e1 s1 p => by
    cases b with
    | true => exact p A1 σ H1 s1 (v.mono e1) Q fun A2 H2 c m2 e2 s2 p2 => q A2 H2 c m2 (e1.trans e2) s2 p2
    | false => exact q A1 H1 false m e1 s1 p
theorem tw_or {t u : TT} {P : Bool → Mu → Prop} (h : TW K t ρ μ fun b m => if b = true then P true m else TW K u ρ m P) : TW K (tOr t u) ρ μ P := fun A σ H s v Q q =>
  h A σ H s v _ fun A1 H1 b m e1 s1 p => by
    cases b with
    | true => exact q A1 H1 true m e1 s1 p
    | false => exact p A1 σ H1 s1 (v.mono e1) Q fun A2 H2 c m2 e2 s2 p2 => q A2 H2 c m2 (e1.trans e2) s2 p2
theorem tw_not {t : TT} {P : Bool → Mu → Prop} (h : TW K t ρ μ fun b m => P (!b) m) : TW K (tNot t) ρ μ P := fun A σ H s v Q q =>
  h A σ H s v _ fun A1 H1 b m e1 s1 p => q A1 H1 (!b) m e1 s1 p
def tTru (K : PySem.W.Frag) (ta : TE) : TT := fun σ H Q => ta σ H fun x H' => ∃ k, TruV K x H' k ∧ Q k H'
def tru (μ : Mu) : Dat → Option Bool
  | .non => some false | .bl b => some b | .int i => some (i != 0) | .tup xs => some (!xs.isEmpty) | .lst xs => some (!xs.isEmpty) | .cell k => (match μ[k]? with | some (some xs) => some (!xs.isEmpty) | _ => none) | .str _ => none | .dct _ _ => none | .obj _ _ _ => none | .dcell _ => none | .dst _ _ => none | .key _ => none
theorem isEmpty_dns {A : As} {H : Hp} {vs : List V} {ds : List Dat} (h : Dns K A H vs ds) : vs.isEmpty = ds.isEmpty := by
  cases h <;> rfl
theorem tw_tru {P : Bool → Mu → Prop} (h : EW K ta ρ μ fun d m => ∃ b, tru m d = some b ∧ P b m) : TW K (tTru K ta) ρ μ P := fun A σ H s v Q q =>
  h A σ H s v _ fun A1 H1 x d m e1 s1 x1 ⟨b, hb, p⟩ => by
    refine ⟨b, ?_, q A1 H1 b m e1 s1 p⟩
    cases x1 with
    | non => cases hb; exact rfl
    | bl c => cases hb; exact rfl
    | int i => cases hb; exact rfl
    | str x => cases hb
    | tup h t => cases hb; exact .inr (.inl ⟨_, sqT_hid h, by rw [isEmpty_dns t]⟩)
    | lst h t => cases hb; exact .inl ⟨_, sqL_hid h, by rw [isEmpty_dns t]⟩
    | @cell a k h l =>
      rcases s1.at_ _ _ h with ⟨xs, ds, e, em, t⟩ | ⟨xs, ds, e, _⟩
      · simp only [tru, em] at hb
        cases hb
        exact .inl ⟨xs, .inl (.inl e), by rw [isEmpty_dns t]⟩
      · obtain ⟨z, l⟩ := l
        rw [e] at l
        cases l
    | dcell h l => cases hb
    | key h => cases hb
    | dct h t => cases hb
    | obj c h t => cases hb
theorem ew_if {t : TT} (h : TW K t ρ μ fun b m => if b = true then EW K ta ρ m P else EW K tb ρ m P) : EW K (tIf t ta tb) ρ μ P := fun A σ H s v Q q =>
  h A σ H s v _ fun A1 H1 b m e1 s1 p => by
    cases b with
    | true => exact p A1 σ H1 s1 (v.mono e1) Q fun A2 H2 u f m2 e2 s2 y p2 => q A2 H2 u f m2 (e1.trans e2) s2 y p2
    | false => exact p A1 σ H1 s1 (v.mono e1) Q fun A2 H2 u f m2 e2 s2 y p2 => q A2 H2 u f m2 (e1.trans e2) s2 y p2
theorem ew_andV (h : EW K ta ρ μ fun d m => ∃ b, d = .bl b ∧ if b = true then EW K tb ρ m P else P (.bl false) m) : EW K (tAndV ta tb) ρ μ P := fun A σ H s v Q q =>
  h A σ H s v _ fun A1 H1 x d m e1 s1 x1 ⟨b, hd, p⟩ => by
    subst hd
    cases x1
    refine ⟨b, rfl, ?_⟩
    cases b with
    | true => exact p A1 σ H1 s1 (v.mono e1) Q fun A2 H2 u f m2 e2 s2 y p2 => q A2 H2 u f m2 (e1.trans e2) s2 y p2
    | false => exact q A1 H1 _ _ m e1 s1 (.bl false) p
theorem ew_orV (h : EW K ta ρ μ fun d m => ∃ b, d = .bl b ∧ if b = true then P (.bl true) m else EW K tb ρ m P) : EW K (tOrV ta tb) ρ μ P := fun A σ H s v Q q =>
  h A σ H s v _ fun A1 H1 x d m e1 s1 x1 ⟨b, hd, p⟩ => by
    subst hd
    cases x1
    refine ⟨b, rfl, ?_⟩
    cases b with
    | true => exact q A1 H1 _ _ m e1 s1 (.bl true) p
    | false => exact p A1 σ H1 s1 (v.mono e1) Q fun A2 H2 u f m2 e2 s2 y p2 => q A2 H2 u f m2 (e1.trans e2) s2 y p2
theorem ew_notV (h : EW K ta ρ μ fun d m => ∃ b, d = .bl b ∧ P (.bl (!b)) m) : EW K (tNotV ta) ρ μ P := fun A σ H s v Q q =>
  h A σ H s v _ fun A1 H1 x d m e1 s1 x1 ⟨b, hd, p⟩ => by subst hd; cases x1; exact ⟨b, rfl, q A1 H1 _ _ m e1 s1 (.bl _) p⟩
theorem ew_chain {r r' : R2} (h : EW K ta ρ μ fun d m => EW K tb ρ m fun e m1 => RW K r d e m1 fun z m2 => ∃ k, z = .bl k ∧ if k = true then EW K tc ρ m2 fun f m3 => RW K r' e f m3 P else P (.bl false) m2) : EW K (tChain r r' ta tb tc) ρ μ P := fun A σ H s v Q q =>
  h A σ H s v _ fun A1 H1 x d m e1 s1 x1 p1 => p1 A1 σ H1 s1 (v.mono e1) _ fun A2 H2 y e m2 e2 s2 y2 p2 => p2 A2 H2 x y s2 (x1.mono e2) y2 _ fun A3 H3 z f m3 e3 s3 z3 ⟨k, hk, p3⟩ => by
    subst hk
    cases z3
    refine ⟨k, rfl, ?_⟩
    cases k with
    | true =>
      exact p3 A3 σ H3 s3 (v.mono ((e1.trans e2).trans e3)) _ fun A4 H4 w g m4 e4 s4 w4 p4 => p4 A4 H4 y w s4 (y2.mono (e3.trans e4)) w4 Q fun A5 H5 u f5 m5 e5 s5 u5 p5 => q A5 H5 u f5 m5 ((((e1.trans e2).trans e3).trans e4).trans e5) s5 u5 p5
    | false => exact q A3 H3 _ _ m3 ((e1.trans e2).trans e3) s3 (.bl false) p3

/-! ### statements -/
variable {E : DE} {t u : TS} {tt : TT}
theorem Ends.mono {A A' : As} {H H' : Hp} {D : L2.Ends} (x : Ext A H A' H') (h : Ends K A H D E) : Ends K A' H' D E :=
  ⟨fun A1 H1 a b c e s v p => h.nx A1 H1 a b c (x.trans e) s v p, fun A1 H1 a b c e s v p => h.rt A1 H1 a b c (x.trans e) s v p, fun A1 H1 a b c e s v p => h.bk A1 H1 a b c (x.trans e) s v p, fun A1 H1 a b c e s v p => h.ct A1 H1 a b c (x.trans e) s v p⟩
theorem sw_seq (h : SW K t ρ μ { E with nx := fun ρ' m => SW K u ρ' m E }) : SW K (tSeq t u) ρ μ E := fun A σ H D s v g =>
  h A σ H { D with nx := u D } s v ⟨fun A1 H1 σ1 ρ1 m1 e s1 v1 p => p A1 σ1 H1 D s1 v1 (g.mono e), g.rt, g.bk, g.ct⟩
theorem sw_next (p : E.nx ρ μ) : SW K tNext ρ μ E := fun A σ H D s v g => g.nx A H σ ρ μ (Ext.refl A H) s v p
theorem sw_ret (h : EW K te ρ μ E.rt) : SW K (tRet te) ρ μ E := fun A σ H D s v g =>
  h A σ H s v _ fun A1 H1 x d m e s1 x1 p => g.rt A1 H1 x d m e s1 x1 p
theorem sw_retN (p : E.rt .non μ) : SW K tRetN ρ μ E := fun A σ H D s v g => g.rt A H .non .non μ (Ext.refl A H) s .non p
theorem sw_drop (h : EW K te ρ μ fun _ m => E.nx ρ m) : SW K (tDrop te) ρ μ E := fun A σ H D s v g =>
  h A σ H s v _ fun A1 H1 x d m e s1 x1 p => g.nx A1 H1 σ ρ m e s1 (v.mono e) p
theorem sw_if (h : TW K tt ρ μ fun b m => if b = true then SW K t ρ m E else SW K u ρ m E) : SW K (tIfS tt t u) ρ μ E := fun A σ H D s v g =>
  h A σ H s v _ fun A1 H1 b m e s1 p => by
    cases b with
    | true => exact p A1 σ H1 D s1 (v.mono e) (g.mono e)
    | false => exact p A1 σ H1 D s1 (v.mono e) (g.mono e)
theorem sw_brk (p : E.bk ρ μ) : SW K tBreak ρ μ E := fun A σ H D s v g => g.bk A H σ ρ μ (Ext.refl A H) s v p
theorem sw_cont (p : E.ct ρ μ) : SW K tCont ρ μ E := fun A σ H D s v g => g.ct A H σ ρ μ (Ext.refl A H) s v p
/-- targets -/
def GW (K : PySem.W.Frag) (g : TG) (d : Dat) (ρ : Ro) (μ : Mu) (R : Ro → Mu → Prop) : Prop := ∀ (A : As) (σ : L2.St) (H : Hp) (v : V), Sto K A H μ → DL.Env K A H σ ρ → Dn K A H v d → ∀ Q : L2.St → Hp → Prop,
  (∀ A' H' σ' ρ' μ', Ext A H A' H' → Sto K A' H' μ' → DL.Env K A' H' σ' ρ' → R ρ' μ' → Q σ' H') → g v σ H Q
def GsW (K : PySem.W.Frag) (g : TGs) (ds : List Dat) (ρ : Ro) (μ : Mu) (R : Ro → Mu → Prop) : Prop := ∀ (A : As) (σ : L2.St) (H : Hp) (vs : List V), Sto K A H μ → DL.Env K A H σ ρ → Dns K A H vs ds → ∀ Q : L2.St → Hp → Prop,
  (∀ A' H' σ' ρ' μ', Ext A H A' H' → Sto K A' H' μ' → DL.Env K A' H' σ' ρ' → R ρ' μ' → Q σ' H') → g vs σ H Q
variable {R : Ro → Mu → Prop}
theorem gw_name {i : Nat} (p : R (ρ.set i (some d)) μ) : GW K (gName i) d ρ μ R := fun A σ H v s ev x Q q => q A H _ _ μ (Ext.refl A H) s (ev.set i x) p
theorem gs_nil (p : R ρ μ) : GsW K gNil [] ρ μ R := fun A σ H vs s ev x Q q => by cases x; exact ⟨rfl, q A H σ ρ μ (Ext.refl A H) s ev p⟩
theorem gs_cons {g : TG} {gs : TGs} {ds : List Dat} (h : GW K g d ρ μ fun ρ1 m1 => GsW K gs ds ρ1 m1 R) : GsW K (gCons g gs) (d :: ds) ρ μ R := fun A σ H vs s ev x Q q => by
  cases x with
  | cons x1 x2 => exact ⟨_, _, rfl, h A σ H _ s ev x1 _ fun A1 H1 σ1 ρ1 m1 e s1 v1 p => p A1 σ1 H1 _ s1 v1 (x2.mono e) Q fun A2 H2 σ2 ρ2 m2 e2 s2 v2 p2 => q A2 H2 σ2 ρ2 m2 (e.trans e2) s2 v2 p2⟩
theorem gw_tup {gs : TGs} {n : Nat} {ds : List Dat} (hn : ds.length = n) (h : GsW K gs ds ρ μ R) : GW K (gTup K n gs) (.tup ds) ρ μ R := fun A σ H v s ev x Q q => by
  cases x with
  | @tup a vs _ h1 t1 => exact ⟨a, vs, rfl, sqT_hid h1, by rw [t1.length]; exact hn, h A σ H vs s ev t1 Q q⟩
theorem gw_sub {to ti : TE} (hn : noCell d = true) (h : EW K to ρ μ fun o m1 => EW K ti ρ m1 fun ix m2 => ∃ k i j xs, o = .cell k ∧ ix = .int i ∧ m2[k]? = some (some xs) ∧ ixN xs.length i = some j ∧ R ρ (m2.set k (some (xs.set j d)))) :
    GW K (gSub to ti rSetL) d ρ μ R := fun A σ H v s ev x Q q =>
  h A σ H s ev _ fun A1 H1 o od m1 e1 s1 o1 p1 => p1 A1 σ H1 s1 (ev.mono e1) _ fun A2 H2 ix id m2 e2 s2 i2 ⟨k, i, j, xs, hd, hi, hm, hj, p⟩ => by
    subst hd hi
    cases i2
    obtain ⟨a, vs, rfl, hk, ho, t1⟩ := s2.cell (o1.mono e2) hm
    have w := t1.set (x.mono (e1.trans e2)) j
    exact ⟨a, vs, i, j, rfl, rfl, ho, by rw [t1.length]; exact hj, q A2 _ σ ρ _ ((e1.trans e2).trans (ext_cell hk ho)) (s2.write hk ho w) (ev.mono ((e1.trans e2).trans (ext_cell hk ho))) p⟩
theorem sw_asg {g : TG} (h : EW K te ρ μ fun d m => GW K g d ρ m E.nx) : SW K (tAsg te g) ρ μ E := fun A σ H D s v gg =>
  h A σ H s v _ fun A1 H1 x d m e s1 x1 p => p A1 σ H1 x s1 (v.mono e) x1 _ fun A2 H2 σ2 ρ2 m2 e2 s2 v2 p2 => gg.nx A2 H2 σ2 ρ2 m2 (e.trans e2) s2 v2 p2
theorem sw_set {i : Nat} (h : EW K te ρ μ fun d m => E.nx (ρ.set i (some d)) m) : SW K (tAsg te (gName i)) ρ μ E := sw_asg (h.imp fun d m p => gw_name p)
theorem sw_par {i j : Nat} {t : TA} (h : AW K t ρ μ fun ds m => ∃ a b, ds = [a, b] ∧ E.nx ((ρ.set i (some a)).set j (some b)) m) : SW K (tPar i j t) ρ μ E := fun A σ H D s v g =>
  h A σ H s v _ fun A1 H1 vs ds m e s1 x ⟨a, b, hd, p⟩ => by
    subst hd
    cases x with
    | cons x1 x => cases x with
      | cons x2 x =>
        cases x
        exact ⟨_, _, rfl, g.nx A1 H1 _ _ m e s1 (((v.mono e).set i x1).set j x2) p⟩
theorem sw_aug {i : Nat} {f : Int → Int → Int} {a : Int} (ha : ρ[i]? = some (some (.int a))) (h : EW K te ρ μ fun d m => ∃ b, d = .int b ∧ E.nx (ρ.set i (some (.int (f a b)))) m) : SW K (tAug i te (ipI f)) ρ μ E := fun A σ H D s v g => by
  obtain ⟨x, hx, dx⟩ := v.2 i _ ha
  cases dx
  exact ⟨.int a, hx, h A σ H s v _ fun A1 H1 y d m e s1 y1 ⟨b, hd, p⟩ => by
    subst hd
    cases y1
    exact ⟨a, b, rfl, rfl, g.nx A1 H1 _ _ m e s1 ((v.mono e).set i (.int _)) p⟩⟩

/-! ### loops -/
/-- an invariant, as the heap's -/
def Hd (K : PySem.W.Frag) (A : As) (H : Hp) (I : Ro → Mu → Prop) : L2.St → Hp → Prop := fun σ' H' => ∃ A' ρ' μ', Ext A H A' H' ∧ Sto K A' H' μ' ∧ DL.Env K A' H' σ' ρ' ∧ I ρ' μ'
theorem Hd.ends {A A' : As} {H H' : Hp} {D : L2.Ends} (x : Ext A H A' H') (g : Ends K A H D E) (I : Ro → Mu → Prop) :
    Ends K A' H' { D with nx := Hd K A H I, ct := Hd K A H I, bk := D.nx } { E with nx := I, ct := I, bk := E.nx } :=
  ⟨fun A1 H1 σ1 ρ1 m1 e s v p => ⟨A1, ρ1, m1, x.trans e, s, v, p⟩, fun A1 H1 a b c e s v p => g.rt A1 H1 a b c (x.trans e) s v p, fun A1 H1 a b c e s v p => g.nx A1 H1 a b c (x.trans e) s v p, fun A1 H1 σ1 ρ1 m1 e s v p => ⟨A1, ρ1, m1, x.trans e, s, v, p⟩⟩
theorem sw_forR1 {ta : TA} {g : TG} {tb : TS} (h : AW K ta ρ μ fun ds m => ∃ n : Int, ds = [.int n] ∧ -(2 ^ 62) ≤ n ∧ n < 2 ^ 62 ∧ ∃ I : Nat → Ro → Mu → Prop, I 0 ρ m ∧
      (∀ i ρ' m', i < n.toNat → I i ρ' m' → GW K g (.int (i : Nat)) ρ' m' fun ρ2 m2 => SW K tb ρ2 m2 { E with nx := I (i + 1), ct := I (i + 1), bk := E.nx }) ∧ ∀ ρ' m', I n.toNat ρ' m' → E.nx ρ' m') : SW K (tFor (iRng1 ta) g tb) ρ μ E := fun A σ H D s v gg =>
  h A σ H s v _ fun A1 H1 vs ds m e s1 x ⟨n, hd, b1, b2, I, i0, hs, hd'⟩ => by
    subst hd
    cases x with
    | cons x1 x =>
      cases x
      cases x1
      refine ⟨n, rfl, b1, b2, for_range (lo := 0) (n := n.toNat) (fun i => Hd K A1 H1 (I i)) ⟨A1, ρ, m, Ext.refl _ _, s1, v.mono e, i0⟩ (fun i σ' H' hi ⟨A2, ρ2, m2, e2, s2, v2, p2⟩ => ?_) (fun σ' H' ⟨A2, ρ2, m2, e2, s2, v2, p2⟩ => gg.nx A2 H' σ' ρ2 m2 (e.trans e2) s2 v2 (hd' ρ2 m2 p2))⟩
      have z : (0 : Int) + (i : Int) = ((i : Nat) : Int) := Int.zero_add _
      rw [z]
      exact hs i ρ2 m2 hi p2 A2 σ' H' _ s2 v2 (.int _) _ fun A3 H3 σ3 ρ3 m3 e3 s3 v3 p3 => p3 A3 σ3 H3 _ s3 v3 (Hd.ends (e2.trans e3) (gg.mono e) (I (i + 1)))
theorem sw_forR2 {ta : TA} {g : TG} {tb : TS} (h : AW K ta ρ μ fun ds m => ∃ lo n : Int, ds = [.int lo, .int n] ∧ (-(2 ^ 62) ≤ lo ∧ lo < 2 ^ 62 ∧ -(2 ^ 62) ≤ n ∧ n < 2 ^ 62) ∧ ∃ I : Nat → Ro → Mu → Prop, I 0 ρ m ∧
      (∀ i ρ' m', i < (n - lo).toNat → I i ρ' m' → GW K g (.int (lo + (i : Nat))) ρ' m' fun ρ2 m2 => SW K tb ρ2 m2 { E with nx := I (i + 1), ct := I (i + 1), bk := E.nx }) ∧ ∀ ρ' m', I (n - lo).toNat ρ' m' → E.nx ρ' m') : SW K (tFor (iRng2 ta) g tb) ρ μ E := fun A σ H D s v gg =>
  h A σ H s v _ fun A1 H1 vs ds m e s1 x ⟨lo, n, hd, b, I, i0, hs, hd'⟩ => by
    subst hd
    cases x with
    | cons x1 x => cases x with
      | cons x2 x =>
        cases x
        cases x1
        cases x2
        refine ⟨lo, n, rfl, b, for_range (lo := lo) (n := (n - lo).toNat) (fun i => Hd K A1 H1 (I i)) ⟨A1, ρ, m, Ext.refl _ _, s1, v.mono e, i0⟩ (fun i σ' H' hi ⟨A2, ρ2, m2, e2, s2, v2, p2⟩ => ?_) (fun σ' H' ⟨A2, ρ2, m2, e2, s2, v2, p2⟩ => gg.nx A2 H' σ' ρ2 m2 (e.trans e2) s2 v2 (hd' ρ2 m2 p2))⟩
        exact hs i ρ2 m2 hi p2 A2 σ' H' _ s2 v2 (.int _) _ fun A3 H3 σ3 ρ3 m3 e3 s3 v3 p3 => p3 A3 σ3 H3 _ s3 v3 (Hd.ends (e2.trans e3) (gg.mono e) (I (i + 1)))
theorem sw_forT {g : TG} {tb : TS} (h : EW K te ρ μ fun d m => ∃ xs, d = .tup xs ∧ ∃ I : Nat → Ro → Mu → Prop, I 0 ρ m ∧
      (∀ i x ρ' m', xs[i]? = some x → I i ρ' m' → GW K g x ρ' m' fun ρ2 m2 => SW K tb ρ2 m2 { E with nx := I (i + 1), ct := I (i + 1), bk := E.nx }) ∧ ∀ ρ' m', I xs.length ρ' m' → E.nx ρ' m') : SW K (tFor (iTup K te) g tb) ρ μ E := fun A σ H D s v gg =>
  h A σ H s v _ fun A1 H1 x d m e s1 x1 ⟨xs, hd, I, i0, hs, hd'⟩ => by
    subst hd
    cases x1 with
    | @tup a vs _ h1 t1 =>
      have hl := t1.length
      refine ⟨a, rfl, ⟨vs, sqT_hid h1⟩, for_tup (K := K) (a := a) (xs := vs) (fun i => Hd K A1 H1 (I i)) ⟨A1, ρ, m, Ext.refl _ _, s1, v.mono e, i0⟩ (fun i σ' H' _ ⟨A2, ρ2, m2, e2, s2, v2, p2⟩ => sqT_hid (e2.sqT h1)) (fun i y σ' H' hy ⟨A2, ρ2, m2, e2, s2, v2, p2⟩ => ?_)
        (fun σ' H' ⟨A2, ρ2, m2, e2, s2, v2, p2⟩ => gg.nx A2 H' σ' ρ2 m2 (e.trans e2) s2 v2 (hd' ρ2 m2 (by rw [← hl]; exact p2)))⟩
      obtain ⟨dd, q1, q2⟩ := t1.getV hy
      exact hs i dd ρ2 m2 q1 p2 A2 σ' H' y s2 v2 (q2.mono e2) _ fun A3 H3 σ3 ρ3 m3 e3 s3 v3 p3 => p3 A3 σ3 H3 _ s3 v3 (Hd.ends (e2.trans e3) (gg.mono e) (I (i + 1)))
theorem sw_forL {g : TG} {tb : TS} (h : EW K te ρ μ fun d m => ∃ xs, d = .lst xs ∧ ∃ I : Nat → Ro → Mu → Prop, I 0 ρ m ∧
      (∀ i x ρ' m', xs[i]? = some x → I i ρ' m' → GW K g x ρ' m' fun ρ2 m2 => SW K tb ρ2 m2 { E with nx := I (i + 1), ct := I (i + 1), bk := E.nx }) ∧ ∀ ρ' m', I xs.length ρ' m' → E.nx ρ' m') : SW K (tFor (iList K te) g tb) ρ μ E := fun A σ H D s v gg =>
  h A σ H s v _ fun A1 H1 x d m e s1 x1 ⟨xs, hd, I, i0, hs, hd'⟩ => by
    subst hd
    cases x1 with
    | @lst a vs _ h1 t1 =>
      have hl := t1.length
      refine ⟨a, rfl, ⟨vs, sqL_hid h1⟩, for_list (K := K) (a := a) (xs := vs) (fun i => Hd K A1 H1 (I i)) ⟨A1, ρ, m, Ext.refl _ _, s1, v.mono e, i0⟩ (fun i σ' H' _ ⟨A2, ρ2, m2, e2, s2, v2, p2⟩ => sqL_hid (e2.sqL h1)) (fun i y σ' H' hy ⟨A2, ρ2, m2, e2, s2, v2, p2⟩ => ?_)
        (fun σ' H' ⟨A2, ρ2, m2, e2, s2, v2, p2⟩ => gg.nx A2 H' σ' ρ2 m2 (e.trans e2) s2 v2 (hd' ρ2 m2 (by rw [← hl]; exact p2)))⟩
      obtain ⟨dd, q1, q2⟩ := t1.getV hy
      exact hs i dd ρ2 m2 q1 p2 A2 σ' H' y s2 v2 (q2.mono e2) _ fun A3 H3 σ3 ρ3 m3 e3 s3 v3 p3 => p3 A3 σ3 H3 _ s3 v3 (Hd.ends (e2.trans e3) (gg.mono e) (I (i + 1)))
theorem sw_while {c : TT} {tb : TS} (I : Nat → Ro → Mu → Prop) (h0 : ∃ n, I n ρ μ) (hs : ∀ n ρ' m', I n ρ' m' → TW K c ρ' m' fun b m2 => if b = true then SW K tb ρ' m2 { E with nx := fun ρ3 m3 => ∃ n', n' < n ∧ I n' ρ3 m3, ct := fun ρ3 m3 => ∃ n', n' < n ∧ I n' ρ3 m3, bk := E.nx } else E.nx ρ' m2) :
    SW K (tWhile c tb) ρ μ E := fun A σ H D s v gg => by
  obtain ⟨n, i0⟩ := h0
  refine ⟨fun n => Hd K A H (I n), ⟨n, A, ρ, μ, Ext.refl _ _, s, v, i0⟩, fun n σ' H' ⟨A2, ρ2, m2, e2, s2, v2, p2⟩ => ?_⟩
  refine hs n ρ2 m2 p2 A2 σ' H' s2 v2 _ fun A3 H3 b m3 e3 s3 p3 => ?_
  cases b with
  | true => exact ⟨Hd K A H fun ρ3 m3 => ∃ n', n' < n ∧ I n' ρ3 m3, fun σ4 H4 ⟨A4, ρ4, m4, e4, s4, v4, n', l, p4⟩ => ⟨n', l, A4, ρ4, m4, e4, s4, v4, p4⟩, p3 A3 σ' H3 _ s3 (v2.mono e3) (Hd.ends (e2.trans e3) gg _)⟩
  | false => exact gg.nx A3 H3 σ' ρ2 m3 (e2.trans e3) s3 (v2.mono e3) p3
end
end DL
namespace DL
open PySem PySem.Spec PyProof.Rows L2
section
variable {K : PySem.W.Frag} {ρ : Ro} {μ : Mu} {P : PD} {ta tb tc te : TE} {d e : Dat} {r : R2}
/-! ### comprehensions whose elements change nothing -/
def wipeD (ρ : Ro) (j : Nat) : Ro := ρ.set j none
theorem Env.wipe {A : As} {H : Hp} {σ : L2.St} {ρ : Ro} (h : DL.Env K A H σ ρ) (j : Nat) : DL.Env K A H (L2.wipe σ [j]) (wipeD ρ j) := by
  refine ⟨by show (σ.set j none).length = (ρ.set j none).length; rw [List.length_set, List.length_set]; exact h.1, fun i d q => ?_⟩
  unfold wipeD at q
  by_cases c : j = i
  · subst c
    have hi : j < ρ.length := by
      have := (List.getElem?_eq_some_iff.mp q).1
      rwa [List.length_set] at this
    rw [List.getElem?_set_self hi] at q
    cases q
  · rw [List.getElem?_set_ne c] at q
    obtain ⟨v, a, b⟩ := h.2 i d q
    exact ⟨v, by show (σ.set j none)[i]? = _; rw [List.getElem?_set_ne c]; exact a, b⟩
theorem wipe_set (σ : L2.St) (j : Nat) (x : Option V) : L2.wipe ((L2.wipe σ [j]).set j x) [j] = L2.wipe σ [j] := by
  show (((σ.set j none).set j x).set j none) = σ.set j none
  rw [List.set_set, List.set_set]
/-- the comprehension's list, hidden while it grows -/
structure Grow (K : PySem.W.Frag) (A : As) (H : Hp) (m : Mu) (D : Addr) (acc : List Dat) (H' : Hp) : Prop where
  nc : noCells acc = true
  ex : ∃ A', Ext (A ++ [some D]) (upd H D (.lst [])) A' H' ∧ Sto K A' H' (m ++ [some acc]) ∧ A'[m.length]? = some (some D)
theorem Grow.start {A : As} {H : Hp} {m : Mu} {D : Addr} (s : Sto K A H m) (h : H D = none) : Grow K A H m D [] (upd H D (.lst [])) :=
  ⟨rfl, A ++ [some D], Ext.refl _ _, s.open h .nil, by rw [← s.len]; simp⟩
theorem Grow.done {A : As} {H H' : Hp} {m : Mu} {D : Addr} {acc : List Dat} (s : Sto K A H m) (h : H D = none) (g : Grow K A H m D acc H') : ∃ A', Ext A H A' H' ∧ Sto K A' H' m ∧ Dn K A' H' (.ref D) (.lst acc) := by
  obtain ⟨A2, e2, s2, hD⟩ := g.ex
  have hl : A2.length = m.length + 1 := by rw [s2.len]; simp
  have k0 : ∀ a o, hid A2 H' a = some o → hid (A2.take m.length) H' a = some o := fun a o q => by
    obtain ⟨q1, q2⟩ := hid_of q
    exact hid_to q1 fun z => q2 (List.mem_of_mem_take z)
  have cl : ∀ (k : Nat) (a : Addr), (A2.take m.length)[k]? = some (some a) → A2[k]? = some (some a) ∧ k < m.length := fun k a q => by
    have hk : k < m.length := by
      have := (List.getElem?_eq_some_iff.mp q).1
      rw [List.length_take] at this; omega
    rw [List.getElem?_take_of_lt hk] at q
    exact ⟨q, hk⟩
  have nD : some D ∉ A2.take m.length := fun z => by
    obtain ⟨k, hk⟩ := List.mem_iff_getElem?.mp z
    obtain ⟨q, hk'⟩ := cl k D hk
    have := s2.inj k m.length D q hD
    omega
  have accOk : noCells acc = true := g.nc
  have eB : ExB m.length A2 H' (A2.take m.length) H' := ⟨k0, fun k a hk q => ⟨by rw [List.getElem?_take_of_lt hk]; exact q, rfl⟩⟩
  refine ⟨A2.take m.length, ⟨fun a o q => ?_, fun k a q => ?_, fun k a q l => e2.kl k a ((ext_open (o := .lst []) h).cells k a q) ((ext_open (o := .lst []) h).kl k a q l), fun k a q l => e2.kd k a ((ext_open (o := .lst []) h).cells k a q) ((ext_open (o := .lst []) h).kd k a q l)⟩,
    ⟨by rw [List.length_take]; omega, s.bl, fun k a q => ?_, fun j k a q1 q2 => s2.inj j k a (cl j a q1).1 (cl k a q2).1⟩, ?_⟩
  · exact k0 a o (e2.keep a o ((ext_open h).keep a o q))
  · have hk : k < m.length := by rw [← s.len]; exact (List.getElem?_eq_some_iff.mp q).1
    rw [List.getElem?_take_of_lt hk]
    exact e2.cells k a ((ext_open (o := .lst []) h).cells k a q)
  · obtain ⟨q1, hk⟩ := cl k a q
    refine (s2.at_ k a q1).tr (fun vs ds hds t => t.monoB eB ?_) rfl (List.getElem?_append_left hk).symm
    obtain ⟨ds0, h0, h1⟩ := hds
    rw [List.getElem?_append_left hk] at h0
    have b0 := s.bl k ds0 h0
    rcases h1 with h1 | ⟨ks, h1⟩
    · rw [← h1]; exact b0
    · rw [h1, DL.blws, DL.blw, Bool.and_eq_true] at b0
      exact b0.1
  · obtain ⟨xs, ds, o1, o2, o3⟩ : ∃ xs ds, H' D = some (.lst xs) ∧ (m ++ [some acc])[m.length]? = some (some ds) ∧ Dns K A2 H' xs ds := by
      obtain ⟨zs, hz⟩ := e2.kl m.length D (by rw [← s.len]; simp) ⟨_, upd_same⟩
      rcases s2.at_ m.length D hD with c | ⟨kvs, ds, c, _⟩
      · exact c
      · rw [hz] at c; cases c
    simp at o2
    subst o2
    exact .lst (.inl (.inl (hid_to o1 nD))) (o3.mono0 k0 accOk)
/-- one turn: the value goes to the list's end -/
theorem Grow.turn {A A3 : As} {H H4 : Hp} {m : Mu} {D : Addr} {acc : List Dat} {y : V} (e : Ext (A ++ [some D]) (upd H D (.lst [])) A3 H4) (s3 : Sto K A3 H4 (m ++ [some acc])) (hD : A3[m.length]? = some (some D)) (hac : noCells acc = true) (hy : Dn K A3 H4 y d) (hn : noCell d = true) (hz : acc.length < sizeLine) :
    ∃ ac : List V, H4 D = some (.lst ac) ∧ ac.length < sizeLine ∧ Grow K A H m D (acc ++ [d]) (upd H4 D (.lst (ac ++ [y]))) := by
  obtain ⟨b, xs, eb, hb, o1, o3⟩ := s3.cell (k := m.length) (xs := acc) (.cell hD (e.kl A.length D (by simp) ⟨_, upd_same⟩)) (by simp)
  cases eb
  refine ⟨xs, o1, by rw [o3.length]; exact hz, noCells_append hac (by simp [noCells, hn]), A3, e.trans (ext_cell hD o1), ?_, hD⟩
  have w := s3.write hD o1 (o3.snoc hy)
  have : (m ++ [some acc]).set m.length (some (acc ++ [d])) = m ++ [some (acc ++ [d])] := by
    rw [List.set_append_right _ _ (Nat.le_refl _)]; simp
  rwa [this] at w
/-- what one turn's test and element make of the item x: kept (some) or not -/
def TurnW (K : PySem.W.Frag) (tt : TT) (te : TE) (ρ : Ro) (m : Mu) (f : Option Dat) : Prop :=
  TW K tt ρ m fun b m1 => if b = true then EW K te ρ m1 fun d m2 => m2 = m ∧ noCell d = true ∧ f = some d else m1 = m ∧ f = none
theorem tw_yes {P : Bool → Mu → Prop} (h : P true μ) : TW K tYes ρ μ P := fun A σ H s _ Q q => q A H true μ (Ext.refl A H) s h
theorem turn_yes {f : Dat} (hn : noCell f = true) (h : EW K te ρ μ fun d m2 => d = f ∧ m2 = μ) : TurnW K tYes te ρ μ (some f) := tw_yes (by
  show if true = true then _ else _
  rw [if_pos rfl]
  exact h.imp fun d m ⟨a, b⟩ => by subst a b; exact ⟨rfl, hn, rfl⟩)
theorem turn_run {A A2 : As} {H H2 : Hp} {m : Mu} {D : Addr} {acc : List Dat} {tt : TT} {σ2 : L2.St} {ρ2 : Ro} {f : Option Dat} (t : TurnW K tt te ρ2 (m ++ [some acc]) f) (e : Ext (A ++ [some D]) (upd H D (.lst [])) A2 H2) (s : Sto K A2 H2 (m ++ [some acc]))
    (hD : A2[m.length]? = some (some D)) (v : DL.Env K A2 H2 σ2 ρ2) (hz : acc.length < sizeLine) (hac : noCells acc = true) (Nx : Hp → Prop) (hN : ∀ H', Grow K A H m D (acc ++ f.toList) H' → Nx H') :
    tt σ2 H2 fun b H3 => if b = true then te σ2 H3 fun y H4 => ∃ ac : List V, H4 D = some (.lst ac) ∧ ac.length < sizeLine ∧ Nx (upd H4 D (.lst (ac ++ [y]))) else Nx H3 :=
  t A2 σ2 H2 s v _ fun A3 H3 b m3 e3 s3 p3 => by
    cases b with
    | true =>
      have p3' : EW K te ρ2 m3 fun d m2 => m2 = m ++ [some acc] ∧ noCell d = true ∧ f = some d := p3
      exact p3' A3 σ2 H3 s3 (v.mono e3) _ fun A4 H4 y d m4 e4 s4 y4 ⟨hm, hn, hf⟩ => by
        subst hm hf
        obtain ⟨ac, o1, o2, o3⟩ := Grow.turn ((e.trans e3).trans e4) s4 (e4.cells _ _ (e3.cells _ _ hD)) hac y4 hn hz
        exact ⟨ac, o1, o2, hN _ o3⟩
    | false =>
      obtain ⟨hm, hf⟩ := (show m3 = m ++ [some acc] ∧ f = none from p3)
      subst hm hf
      exact hN _ ⟨by simpa using hac, A3, e.trans e3, by simpa using s3, e3.cells _ _ hD⟩
theorem ew_lcR1 {ta : TA} {j : Nat} {tt : TT} (h : AW K ta ρ μ fun ds m => ∃ n : Int, ds = [.int n] ∧ -(2 ^ 62) ≤ n ∧ n < 2 ^ 62 ∧ n < 1000000 ∧ ∃ f : Nat → Option Dat,
      (∀ i acc, i < n.toNat → acc = (List.range i).filterMap f → TurnW K tt te ((wipeD ρ j).set j (some (.int (i : Nat)))) (m ++ [some acc]) (f i)) ∧ P (.lst ((List.range n.toNat).filterMap f)) m) : EW K (tLc (iRng1 ta) (gName j) tt te [j]) ρ μ P := fun A σ H s v Q q =>
  h A σ H s v _ fun A1 H1 vs ds m e s1 x ⟨n, hd, b1, b2, b3, f, hf, p⟩ => by
    subst hd
    cases x with
    | cons x1 x =>
      cases x
      cases x1
      refine ⟨n, rfl, b1, b2, fun D hD => lc_range (lo := 0) (n := n.toNat) (fun i H' => i ≤ n.toNat ∧ Grow K A1 H1 m D ((List.range i).filterMap f) H') ⟨Nat.zero_le _, Grow.start s1 hD⟩ (fun i H2 hi ⟨_, g⟩ => ?_) (fun H2 ⟨_, g⟩ => ?_)⟩
      · obtain ⟨A2, e2, s2, hD2⟩ := g.ex
        refine ⟨wipe_set σ j _, ?_⟩
        have z : (0 : Int) + (i : Int) = ((i : Nat) : Int) := Int.zero_add _
        rw [z]
        have lz : ((List.range i).filterMap f).length < sizeLine := Nat.lt_of_le_of_lt (List.length_filterMap_le _ _) (by rw [List.length_range, sizeLine_eq]; omega)
        refine turn_run (hf i _ hi rfl) e2 s2 hD2 (((v.mono ((e.trans (ext_open hD)).trans e2)).wipe j).set j (.int _)) lz g.nc _ fun H' g' => ⟨hi, ?_⟩
        rw [List.range_succ, List.filterMap_append]
        have : (List.filterMap f [i]) = (f i).toList := by cases q : f i <;> simp [q]
        rw [this]
        exact g'
      · obtain ⟨A2, e2, s2, d2⟩ := Grow.done s1 hD g
        exact q A2 H2 _ _ m (e.trans e2) s2 d2 p
theorem ew_lcT {j : Nat} {tt : TT} (h : EW K ta ρ μ fun d m => ∃ xs, d = .tup xs ∧ xs.length < sizeLine ∧ ∃ f : Dat → Option Dat,
      (∀ x acc, x ∈ xs → TurnW K tt te ((wipeD ρ j).set j (some x)) (m ++ [some acc]) (f x)) ∧ P (.lst (xs.filterMap f)) m) : EW K (tLc (iTup K ta) (gName j) tt te [j]) ρ μ P := fun A σ H s v Q q =>
  h A σ H s v _ fun A1 H1 y d m e s1 y1 ⟨xs, hd, hz, f, hf, p⟩ => by
    subst hd
    cases y1 with
    | @tup a vs _ h1 t1 =>
      have hl := t1.length
      refine ⟨a, rfl, ⟨vs, sqT_hid h1⟩, fun D hD => lc_tup (K := K) (a := a) (xs := vs) (fun i H' => i ≤ vs.length ∧ Grow K A1 H1 m D ((xs.take i).filterMap f) H') ⟨Nat.zero_le _, by simpa using Grow.start s1 hD⟩ (fun i H' _ ⟨_, g⟩ => ?_) (fun i y H2 hy ⟨_, g⟩ => ?_) (fun H2 ⟨_, g⟩ => ?_)⟩
      · obtain ⟨A2, e2, _, _⟩ := g.ex
        exact sqT_hid (e2.sqT ((ext_open hD).sqT h1))
      · obtain ⟨A2, e2, s2, hD2⟩ := g.ex
        refine ⟨wipe_set σ j _, ?_⟩
        obtain ⟨dd, q1, q2⟩ := t1.getV hy
        have hiv : i < vs.length := (List.getElem?_eq_some_iff.mp hy).1
        have lz : ((xs.take i).filterMap f).length < sizeLine := Nat.lt_of_le_of_lt (List.length_filterMap_le _ _) (by rw [List.length_take]; omega)
        refine turn_run (hf dd _ (List.mem_of_getElem? q1)) e2 s2 hD2 (((v.mono ((e.trans (ext_open hD)).trans e2)).wipe j).set j (q2.mono ((ext_open hD).trans e2))) lz g.nc _ fun H' g' => ⟨hiv, ?_⟩
        have tk : xs.take (i + 1) = xs.take i ++ [dd] := by
          rw [List.take_succ, q1]; rfl
        rw [tk, List.filterMap_append]
        have : (List.filterMap f [dd]) = (f dd).toList := by cases q : f dd <;> simp [q]
        rw [this]
        exact g'
      · obtain ⟨A2, e2, s2, d2⟩ := Grow.done s1 hD g
        rw [hl, List.take_length] at d2
        exact q A2 H2 _ _ m (e.trans e2) s2 d2 p
theorem ew_lcL {j : Nat} {tt : TT} (h : EW K ta ρ μ fun d m => ∃ xs, d = .lst xs ∧ xs.length < sizeLine ∧ ∃ f : Dat → Option Dat,
      (∀ x acc, x ∈ xs → TurnW K tt te ((wipeD ρ j).set j (some x)) (m ++ [some acc]) (f x)) ∧ P (.lst (xs.filterMap f)) m) : EW K (tLc (iList K ta) (gName j) tt te [j]) ρ μ P := fun A σ H s v Q q =>
  h A σ H s v _ fun A1 H1 y d m e s1 y1 ⟨xs, hd, hz, f, hf, p⟩ => by
    subst hd
    cases y1 with
    | @lst a vs _ h1 t1 =>
      have hl := t1.length
      refine ⟨a, rfl, ⟨vs, sqL_hid h1⟩, fun D hD => lc_list (K := K) (a := a) (xs := vs) (fun i H' => i ≤ vs.length ∧ Grow K A1 H1 m D ((xs.take i).filterMap f) H') ⟨Nat.zero_le _, by simpa using Grow.start s1 hD⟩ (fun i H' _ ⟨_, g⟩ => ?_) (fun i y H2 hy ⟨_, g⟩ => ?_) (fun H2 ⟨_, g⟩ => ?_)⟩
      · obtain ⟨A2, e2, _, _⟩ := g.ex
        exact sqL_hid (e2.sqL ((ext_open hD).sqL h1))
      · obtain ⟨A2, e2, s2, hD2⟩ := g.ex
        refine ⟨wipe_set σ j _, ?_⟩
        obtain ⟨dd, q1, q2⟩ := t1.getV hy
        have hiv : i < vs.length := (List.getElem?_eq_some_iff.mp hy).1
        have lz : ((xs.take i).filterMap f).length < sizeLine := Nat.lt_of_le_of_lt (List.length_filterMap_le _ _) (by rw [List.length_take]; omega)
        refine turn_run (hf dd _ (List.mem_of_getElem? q1)) e2 s2 hD2 (((v.mono ((e.trans (ext_open hD)).trans e2)).wipe j).set j (q2.mono ((ext_open hD).trans e2))) lz g.nc _ fun H' g' => ⟨hiv, ?_⟩
        have tk : xs.take (i + 1) = xs.take i ++ [dd] := by
          rw [List.take_succ, q1]; rfl
        rw [tk, List.filterMap_append]
        have : (List.filterMap f [dd]) = (f dd).toList := by cases q : f dd <;> simp [q]
        rw [this]
        exact g'
      · obtain ⟨A2, e2, s2, d2⟩ := Grow.done s1 hD g
        rw [hl, List.take_length] at d2
        exact q A2 H2 _ _ m (e.trans e2) s2 d2 p
theorem ew_lcR2 {ta : TA} {j : Nat} {tt : TT} (h : AW K ta ρ μ fun ds m => ∃ lo n : Int, ds = [.int lo, .int n] ∧ (-(2 ^ 62) ≤ lo ∧ lo < 2 ^ 62 ∧ -(2 ^ 62) ≤ n ∧ n < 2 ^ 62) ∧ n - lo < 1000000 ∧ ∃ f : Nat → Option Dat,
      (∀ i acc, i < (n - lo).toNat → acc = (List.range i).filterMap f → TurnW K tt te ((wipeD ρ j).set j (some (.int (lo + (i : Nat))))) (m ++ [some acc]) (f i)) ∧ P (.lst ((List.range (n - lo).toNat).filterMap f)) m) : EW K (tLc (iRng2 ta) (gName j) tt te [j]) ρ μ P := fun A σ H s v Q q =>
  h A σ H s v _ fun A1 H1 vs ds m e s1 x ⟨lo, n, hd, b, b3, f, hf, p⟩ => by
    subst hd
    cases x with
    | cons x1 x => cases x with
     | cons x2 x =>
      cases x
      cases x1
      cases x2
      refine ⟨lo, n, rfl, b, fun D hD => lc_range (lo := lo) (n := (n - lo).toNat) (fun i H' => i ≤ (n - lo).toNat ∧ Grow K A1 H1 m D ((List.range i).filterMap f) H') ⟨Nat.zero_le _, Grow.start s1 hD⟩ (fun i H2 hi ⟨_, g⟩ => ?_) (fun H2 ⟨_, g⟩ => ?_)⟩
      · obtain ⟨A2, e2, s2, hD2⟩ := g.ex
        refine ⟨wipe_set σ j _, ?_⟩
        have lz : ((List.range i).filterMap f).length < sizeLine := Nat.lt_of_le_of_lt (List.length_filterMap_le _ _) (by rw [List.length_range, sizeLine_eq]; omega)
        refine turn_run (hf i _ hi rfl) e2 s2 hD2 (((v.mono ((e.trans (ext_open hD)).trans e2)).wipe j).set j (.int _)) lz g.nc _ fun H' g' => ⟨hi, ?_⟩
        rw [List.range_succ, List.filterMap_append]
        have : (List.filterMap f [i]) = (f i).toList := by cases q : f i <;> simp [q]
        rw [this]
        exact g'
      · obtain ⟨A2, e2, s2, d2⟩ := Grow.done s1 hD g
        exact q A2 H2 _ _ m (e.trans e2) s2 d2 p
end
end DL
namespace DL
open PySem PySem.Spec PyProof.Rows L2
/-! ### defs by data -/
abbrev FW := List Dat → Mu → PD → Prop
def spD (K : PySem.W.Frag) (F : FW) : Sp := fun vs H Q _ => ∃ A μ ds P, Sto K A H μ ∧ Dns K A H vs ds ∧ F ds μ P ∧ ∀ A' H' v d μ', Ext A H A' H' → Sto K A' H' μ' → Dn K A' H' v d → P d μ' → Q v H'
section
variable {K : PySem.W.Frag} {ρ : Ro} {μ : Mu} {P : PD} {F : FW}
theorem ew_call {E : XK} {t : TA} (h : AW K t ρ μ fun ds m => F ds m P) : EW K (tCall (spD K F) [] E t) ρ μ P := fun A σ H s v Q q =>
  h A σ H s v _ fun A1 H1 vs ds m e s1 x p => ⟨A1, m, ds, P, s1, by rw [List.append_nil]; exact x, p, fun A2 H2 u d m2 e2 s2 y pf => q A2 H2 u d m2 (e.trans e2) s2 y pf⟩
/-- keywords alone, or behind values: gD tells the parameters' sequence -/
theorem ew_callN {n k : Nat} {E : XK} {t tk : TA} {gV : List V → List V → List V} (gD : List Dat → List Dat → List Dat) (hg : ∀ A H vs ds ws es, Dns K A H vs ds → Dns K A H ws es → ds.length = n → es.length = k → Dns K A H (gV vs ws) (gD ds es))
    (h : AW K t ρ μ fun ds m => AW K tk ρ m fun es m2 => ds.length = n ∧ es.length = k ∧ F (gD ds es) m2 P) : EW K (tCallN n k (spD K F) gV E t tk) ρ μ P := fun A σ H s v Q q =>
  h A σ H s v _ fun A1 H1 vs ds m e s1 x p => p A1 σ H1 s1 (v.mono e) _ fun A2 H2 ws es m2 e2 s2 y ⟨l1, l2, pf⟩ => ⟨by rw [x.length]; exact l1, by rw [y.length]; exact l2, A2, m2, gD ds es, P, s2, hg A2 H2 vs ds ws es (x.mono e2) y l1 l2, pf,
    fun A3 H3 u d m3 e3 s3 z pz => q A3 H3 u d m3 ((e.trans e2).trans e3) s3 z pz⟩
def startD (n : Nat) (ds : List Dat) : Ro := ds.map some ++ List.replicate (n - ds.length) none
theorem env_start {A : As} {H : Hp} {vs : List V} {ds : List Dat} (N : List Str) (x : Dns K A H vs ds) : DL.Env K A H (L2.start N vs) (startD N.length ds) := by
  have hl := x.length
  refine ⟨by unfold L2.start startD; simp [hl], fun i d q => ?_⟩
  unfold startD at q
  by_cases c : i < ds.length
  · rw [List.getElem?_append_left (by simpa using c), List.getElem?_map] at q
    cases e : ds[i]? with
    | none => rw [e] at q; cases q
    | some d' =>
      rw [e] at q
      cases q
      obtain ⟨v, h1, h2⟩ := x.get e
      refine ⟨v, ?_, h2⟩
      unfold L2.start
      rw [List.getElem?_append_left (by rw [List.length_map, hl]; exact c), List.getElem?_map, h1]
      rfl
  · rw [List.getElem?_append_right (by simpa using c)] at q
    have := List.mem_of_getElem? q
    have := List.eq_of_mem_replicate this
    cases this
/-- a body's reading, from its data's -/
theorem body_of {N : List Str} {t : TS} {vs : List V} {H : Hp} {Q : VK} {E : XK} (h : spD K F vs H Q E) (b : ∀ ds m P, F ds m P → SW K t (startD N.length ds) m { nx := fun _ m => P .non m, rt := P }) :
    t { nx := fun _ H' => Q .non H', rt := Q } (L2.start N vs) H := by
  obtain ⟨A, m, ds, P, s, x, f, q⟩ := h
  refine b ds m P f A (L2.start N vs) H _ s (env_start N x) ⟨fun A1 H1 σ1 ρ1 m1 e s1 v1 p => q A1 H1 .non .non m1 e s1 .non p, fun A1 H1 v d m1 e s1 y p => q A1 H1 v d m1 e s1 y p, fun _ _ _ _ _ _ _ _ z => z.elim, fun _ _ _ _ _ _ _ _ z => z.elim⟩
theorem sp_len {n : Nat} (hF : ∀ ds m P, F ds m P → ds.length = n) {vs : List V} {H : Hp} {Q : VK} {E : XK} (h : spD K F vs H Q E) : vs.length = n := by
  obtain ⟨A, m, ds, P, s, x, f, q⟩ := h
  rw [x.length]; exact hF ds m P f

/-! ### == of data -/
mutual
def toPy : Dat → PyData
  | .non => .none | .bl b => .bool b | .int i => .int i | .str x => .str x | .tup xs => .tuple (toPys xs) | .lst xs => .list (toPys xs) | .cell _ => .none | .dct _ _ => .none | .obj _ _ _ => .none | .dcell _ => .none | .dst _ _ => .none | .key _ => .none
def toPys : List Dat → List PyData
  | [] => [] | d :: ds => toPy d :: toPys ds
end
/- data without texts, cells -/
mutual
def okD : Dat → Bool
  | .tup xs => okDs xs | .lst xs => okDs xs | .cell _ => false | .str x => PyData.strOk x | .non => true | .bl _ => true | .int _ => true | .dct _ _ => false | .obj _ _ _ => false | .dcell _ => false | .dst _ _ => false | .key _ => false
def okDs : List Dat → Bool
  | [] => true
  | d :: ds => okD d && okDs ds
end
mutual
theorem Dn.py {A : As} {H : Hp} : ∀ {v : V} {d : Dat}, okD d = true → Dn K A H v d → Dp K H v (toPy d)
  | _, _, _, .non => by rw [toPy]; exact .non
  | _, _, _, .bl b => by rw [toPy]; exact .bl b
  | _, _, _, .int i => by rw [toPy]; exact .int i
  | _, _, _, .str x => by rw [toPy]; exact .str x
  | _, _, n, .tup h t => by rw [toPy]; exact .tup (sqT_hid h) (Dns.py (by rw [okD] at n; exact n) t)
  | _, _, n, .lst h t => by rw [toPy]; exact .lst (sqL_hid h) (Dns.py (by rw [okD] at n; exact n) t)
  | _, _, n, .cell h _ => by simp [okD] at n
  | _, _, n, .dcell h _ => by simp [okD] at n
  | _, _, n, .key h => by simp [okD] at n
  | _, _, n, .dct h t => by simp [okD] at n
  | _, _, n, .obj c h t => by simp [okD] at n
theorem Dns.py {A : As} {H : Hp} : ∀ {vs : List V} {ds : List Dat}, okDs ds = true → Dns K A H vs ds → DpAll K H vs (toPys ds)
  | _, _, _, .nil => by rw [toPys]; exact .nil
  | _, _, n, .cons h t => by rw [okDs, Bool.and_eq_true] at n; rw [toPys]; exact .cons (Dn.py n.1 h) (Dns.py n.2 t)
end
mutual
def dep : Dat → Nat
  | .tup xs => deps xs + 1 | .lst xs => deps xs + 1 | .cell _ => 0 | .str _ => 0 | .non => 0 | .bl _ => 0 | .int _ => 0 | .dct _ _ => 0 | .obj _ _ _ => 0 | .dcell _ => 0 | .dst _ _ => 0 | .key _ => 0
def deps : List Dat → Nat
  | [] => 0
  | d :: ds => max (dep d) (deps ds)
end
mutual
theorem ok_shape : ∀ (d : Dat), okD d = true → (toPy d).canLay0 = true ∧ (toPy d).depth = dep d ∧ noCell d = true
  | .non, _ => by simp [toPy, PyData.canLay0, PyData.depth, noCell, dep]
  | .bl b, _ => by simp [toPy, PyData.canLay0, PyData.depth, noCell, dep]
  | .int i, _ => by simp [toPy, PyData.canLay0, PyData.depth, noCell, dep]
  | .str x, h => by rw [okD] at h; simp [toPy, PyData.canLay0, PyData.depth, noCell, dep, h]
  | .cell k, h => by simp [okD] at h
  | .dcell k, h => by simp [okD] at h
  | .dst _ _, h => by simp [okD] at h
  | .key _, h => by simp [okD] at h
  | .dct _ _, h => by simp [okD] at h
  | .obj _ _ _, h => by simp [okD] at h
  | .tup xs, h => by
    rw [okD] at h
    have := ok_shapes xs h
    simp only [toPy, PyData.canLay0, PyData.depth, noCell, dep]
    exact ⟨this.1, by omega, this.2.2⟩
  | .lst xs, h => by
    rw [okD] at h
    have := ok_shapes xs h
    simp only [toPy, PyData.canLay0, PyData.depth, noCell, dep]
    exact ⟨this.1, by omega, this.2.2⟩
theorem ok_shapes : ∀ (ds : List Dat), okDs ds = true → PyData.canLayAll0 (toPys ds) = true ∧ PyData.depthAll (toPys ds) = deps ds ∧ noCells ds = true
  | [], _ => by simp [toPys, PyData.canLayAll0, PyData.depthAll, noCells, deps]
  | d :: ds, h => by
    rw [okDs, Bool.and_eq_true] at h
    have h1 := ok_shape d h.1
    have h2 := ok_shapes ds h.2
    simp only [toPys, PyData.canLayAll0, PyData.depthAll, noCells, h1.1, h2.1, h1.2.2, h2.2.2, Bool.and_self, true_and, deps]
    exact ⟨by omega, trivial⟩
end
def shp (d : Dat) : Bool := okD d && decide (dep d ≤ 64)
theorem shp_ok {d : Dat} (h : shp d = true) : okD d = true := (Bool.and_eq_true_iff.mp h).1
theorem shp_nc {d : Dat} (h : shp d = true) : noCell d = true := (ok_shape d (Bool.and_eq_true_iff.mp h).1).2.2
theorem shaped_of {d : Dat} (h : shp d = true) : SeqAt.shaped (toPy d) = true := by
  have h' := Bool.and_eq_true_iff.mp h
  have := ok_shape d h'.1
  unfold SeqAt.shaped
  rw [this.1, Bool.true_and, this.2.1]
  exact h'.2
def eqD (d e : Dat) : Bool := PyData.eqv (toPy d) (toPy e)
theorem rw_eqD {d e : Dat} (hd : shp d = true) (he : shp e = true) (p : P (.bl (eqD d e)) μ) : RW K (rEqD K) d e μ P := fun A H x y s a b Q q =>
  ⟨toPy d, toPy e, a.py (shp_ok hd), b.py (shp_ok he), shaped_of hd, shaped_of he, q A H _ _ μ (Ext.refl A H) s (.bl _) p⟩
theorem rw_neD {d e : Dat} (hd : shp d = true) (he : shp e = true) (p : P (.bl (!eqD d e)) μ) : RW K (rNeD K) d e μ P := fun A H x y s a b Q q =>
  ⟨toPy d, toPy e, a.py (shp_ok hd), b.py (shp_ok he), shaped_of hd, shaped_of he, q A H _ _ μ (Ext.refl A H) s (.bl _) p⟩
/-! ### words: tuples, lists of whole numbers -/
def wi (l : List Int) : List Dat := l.map Dat.int
abbrev tw (l : List Int) : Dat := .tup (wi l)
theorem ok_wi : ∀ l : List Int, okDs (wi l) = true
  | [] => by simp [wi, okDs]
  | i :: l => by
    show okDs (.int i :: wi l) = true
    rw [okDs, ok_wi l]; simp [okD]
theorem dep_wi : ∀ l : List Int, deps (wi l) = 0
  | [] => by simp [wi, deps]
  | i :: l => by
    show deps (.int i :: wi l) = 0
    rw [deps, dep_wi l]; simp [dep]
theorem nc_wi (l : List Int) : noCells (wi l) = true := (ok_shapes _ (ok_wi l)).2.2
theorem eqv_wi : ∀ l m : List Int, PyData.eqvAll (toPys (wi l)) (toPys (wi m)) = decide (l = m)
  | [], [] => by simp [wi, toPys, PyData.eqvAll]
  | [], _ :: _ => by simp [wi, toPys, PyData.eqvAll]
  | _ :: _, [] => by simp [wi, toPys, PyData.eqvAll]
  | i :: l, j :: m => by
    have ih := eqv_wi l m
    show PyData.eqvAll (toPy (.int i) :: toPys (wi l)) (toPy (.int j) :: toPys (wi m)) = _
    rw [PyData.eqvAll, ih, toPy, toPy, PyData.eqv]
    by_cases h : i = j <;> by_cases h2 : l = m <;> simp [h, h2]
theorem shp_tw (l : List Int) : shp (tw l) = true := by simp [shp, tw, okD, ok_wi, dep, dep_wi]
theorem shp_li (l : List Int) : shp (.lst (wi l)) = true := by simp [shp, okD, ok_wi, dep, dep_wi]
theorem eqD_tw (l m : List Int) : eqD (tw l) (tw m) = decide (l = m) := by
  unfold eqD tw; rw [toPy, toPy, PyData.eqv, eqv_wi]
theorem eqD_li (l m : List Int) : eqD (.lst (wi l)) (.lst (wi m)) = decide (l = m) := by
  unfold eqD; rw [toPy, toPy, PyData.eqv, eqv_wi]
/-- rows: pairs of words -/
abbrev rw_ (B A : List Int) : Dat := .tup [tw B, tw A]
theorem shp_row (B A : List Int) : shp (rw_ B A) = true := by simp [shp, rw_, tw, okD, okDs, ok_wi, dep, deps, dep_wi]
theorem eqD_row (B A B' A' : List Int) : eqD (rw_ B A) (rw_ B' A') = decide (B = B' ∧ A = A') := by
  have h1 := eqD_tw B B'
  have h2 := eqD_tw A A'
  unfold eqD at *
  unfold rw_
  rw [toPy, toPy, PyData.eqv, toPys, toPys, toPys, toPys, toPys, toPys, PyData.eqvAll, PyData.eqvAll, PyData.eqvAll, h1, h2]
  by_cases a : B = B' <;> by_cases b : A = A' <;> simp [a, b]
end
end DL
namespace DL
open PySem PySem.Spec PyProof.Rows L2
/-! ### defs that are called where no repr is under way -/
structure FnG (P : Program) (w : World) (K : PySem.W.Frag) (mg : Str → Option Value) (base : Heap) (k : Nat) (f : Addr) (fd : FuncData) (ps : List Str) (sp : Sp) : Prop where
  len : ∀ vs H Q E, sp vs H Q E → vs.length = ps.length
  go : ∀ (A : Around) (outer : List PySem.Env) (s : Shared) (H : Hp) (args : Args) (us : List Value) (vs : List V) (Q : VK) (E : XK), A.guards = some [] → Room k A → Env0 P w K mg base A outer s H →
    BindsTo s fd args (ps.zip us) → Vals vs us → sp vs H Q E → codeAny (model P w) A (.call (.ref f) args) (CR CX0 outer P w H s Q E) s
theorem FnG.of {P : Program} {w : World} {K : PySem.W.Frag} {mg : Str → Option Value} {base : Heap} {k : Nat} {f : Addr} {fd : FuncData} {ps : List Str} {sp : Sp} (F : FnOk P w K mg base CX0 k f fd ps sp) : FnG P w K mg base k f fd ps sp :=
  ⟨F.len, fun A outer s H args us vs Q E _ => F.run A outer s H args us vs Q E⟩
section
variable {P : Program} {w : World} {K : PySem.W.Frag} {mg : Str → Option Value} {base : Heap}
theorem okG {x qual : Str} {st : Stmt} {f : Addr} {fd : FuncData} {N ps : List Str} {k : Nat} {sp : Sp} (F : Fun K x qual st f fd) (S : FnScope N ps (defScope st)) (len : ∀ vs H Q E, sp vs H Q E → vs.length = ps.length)
    (body : ∀ (cdv : Value) (A : Around) (outer : List PySem.Env) (s : Shared) (H : Hp) (vs : List V) (Q : VK) (E : XK), A.guards = some [] → Room k (A.deeper (envOfC qual (defScope st) s.heap.objs.size f cdv)) → sp vs H Q E →
      ∃ t, PSs (cxOf CX0 P w K mg base N qual (defScope st) f cdv A outer s H E).nox (defBody st) t ∧ t { nx := fun _ H' => Q .non H', rt := Q } (L2.start N vs) H) : FnG P w K mg base (k + 1) f fd ps sp := by
  obtain ⟨oc, od, kV, doc, pm, an, cdv, ct, osl, rfl, lk, hcd⟩ := F.ex
  refine ⟨len, ?_⟩
  intro A outer s H args us vs Q E hG hr e0 hb rv hsp
  have inK : K.In s.heap := by
    refine e0.mod.kin.keeps ?_
    intro b o e
    exact (e0.bs b o e).1
  have noLim : s.heap.NoLimit := by
    refine e0.mod.nolimit.keeps ?_
    intro b o e
    exact (e0.bs b o e).1
  have locOrCell : ∀ y ∈ ps.zip us, (defScope st).names.lookup y.1 = some .local ∨ ((defScope st).names.lookup y.1 = some .cell ∧ ((cellsFrom (s.heap.objs.size + 1) (defScope st).names []).lookup y.1).isSome = true) := by
    rintro ⟨nm, u⟩ hy
    cases S.par nm (List.of_mem_zip hy).1 with
    | inl q => exact Or.inl q
    | inr q => exact Or.inr (And.intro q (PySem.W.cellsFrom_some _ _ _ (Or.inl q)))
  apply codeAny_call_function hr.depth (inK _ _ lk) rfl S.co S.gen rfl (PySem.W.codeRec_of inK hcd)
  apply hb
  apply wpAny_newFunctionEnv_cells S.kind locOrCell
  intro env he s1 x
  subst he
  refine And.intro (noLim.keeps x.toInCall.keep) (codeAny_func ?_)
  obtain ⟨t, ht, hq⟩ := body cdv A outer s H vs Q E hG (hr.deeper _) hsp
  have start0 := inv_start (CX := CX0) (N := N) (f := f) (E := E) S hr.hd e0 (len _ _ _ _ hsp) rv x
  refine wpAny_mono (ht.nox.run [] s1 (L2.start N vs) H _ start0 hq) ?_ (fun _ _ z => z)
  intro fl s' z
  cases fl with
  | ret u =>
    obtain ⟨v, σ', H', J, r2, q⟩ := z
    exact ⟨v, H', J.os, J.bare, J.base, J.hok, r2, q⟩
  | next =>
    obtain ⟨σ', H', J, q⟩ := z
    exact ⟨V.non, H', J.os, J.bare, J.base, J.hok, rfl, q⟩
  | brk => exact z.elim fun _ z => z.elim fun _ z => z.2.elim
  | cont => exact z.elim fun _ z => z.elim fun _ z => z.2.elim
end
section
variable {X : Cx} {k : Nat} {f : Addr} {fd : FuncData} {ps : List Str} {sp : Sp} {x : Str} {p pos : Pos} {e : PySem.Expr} {es : List PySem.Expr} {t : TA}
/-- f(e, ..), no defaults -/
theorem pe_callG (F : FnG X.prog X.w X.K X.mg X.base k f fd ps sp) (hG : X.A.guards = some []) (hr : Room k X.A) (hg : Gl X x) (hm : X.mg x = some (.ref f)) (hk : PySem.W.keepIn X.K (.ref f) = true) (hb : Binds X.K fd ps []) (ha : PA X (e :: es) t)
    (hdb : (x == ("__debug__" : Str)) = false := by decide) (he : starEach (e :: es) X.env = (false, eval e X.env) :: starEach es X.env := by rfl) (hpl : (backTo pos (starEach es X.env)).any (·.1) = false := by rfl) :
    PE X (.Call (.Name x p) (e :: es) [] pos) (tCall sp [] E0 t) := by
  constructor
  intro pins s σ H Q I h
  apply wpAny_Call_Name_kw
  refine ld_glob I hg hm ?_ hdb
  refine PySem.W.callWith_K (h₀ := X.base) I.ok.mod.kin hk ?_ he hpl
  refine thn (ha.run pos pins s σ H _ I h) ?_
  rintro us s1 ⟨vs, H1, I1, rv, q⟩
  refine ⟨I1.kIn, wpAny_call ?_⟩
  have q0 : sp vs H1 Q E0 := by
    have := q
    rwa [List.append_nil] at this
  have bd : BindsTo s1 fd ⟨us, []⟩ (ps.zip us) := by
    have := hb s1 us I1.kIn (by rw [List.append_nil, ← rv.length]; exact F.len _ _ _ _ q0)
    rwa [List.append_nil] at this
  refine codeAny_mono (F.go X.A X.stack s1 H1 ⟨us, []⟩ us vs Q E0 hG hr I1.env0 bd rv q0) ?_
  intro r s' z
  cases r with
  | error er => exact z.elim
  | ok fl =>
    cases fl with
    | ret u => exact I1.after z
    | next => exact z.elim
    | brk => exact z.elim
    | cont => exact z.elim

/-! ### repr -/
def rRepr (K : PySem.W.Frag) : List V → Hp → VK → Prop := fun xs H Q => ∃ a d, xs = [.ref a] ∧ Dp K H (.ref a) d ∧ d.showable = true ∧ d.hasDict = false ∧ d.shown.length ≤ sizeLine ∧ d.depth ≤ 60 ∧ Q (.str d.shown) H
theorem call_repr (hG : X.A.guards = some []) (hu : X.A.units + 64 < cLine) : CallR X (.builtin "repr") (rRepr X.K) := by
  intro pins s σ H xs us Q I rv h
  obtain ⟨a, d, rfl, hd, hs, hn, hz, hdep, q⟩ := h
  obtain ⟨u, rfl, rx⟩ := vals1 rv
  obtain ⟨as, rd⟩ := hd.reads I d (.ref a) u rx
  cases rx
  refine repr_of_reads' rd hs (fun z => by rw [hn] at z; cases z) hG (by omega) (fun _ _ z => z) ?_ hz
  intro h' u tk hk
  exact ⟨.str d.shown, H, I.kept hk, ⟨u, rfl⟩, q⟩
/-- for x in (a tuple or a list) -/
def iSeq (K : PySem.W.Frag) (tl : TE) : TI := fun σ H R => iTup K tl σ H R ∨ iList K tl σ H R
theorem pi_seq {tg : PySem.Expr} {l : PySem.Expr} {tl : TE} (hl : PE X l tl) : PI X tg l (iSeq X.K tl) := ⟨fun pins s σ H R I h => by
  cases h with
  | inl h => exact (pi_tup hl).run pins s σ H R I h
  | inr h => exact (pi_list hl).run pins s σ H R I h⟩
end
section
variable {K : PySem.W.Frag} {ρ : Ro} {μ : Mu} {P : PD} {ta tb tc te : TE} {d e : Dat} {r : R2}
theorem lc_seq {wi wi' : TI} {g : TG} {tt : TT} {vs : List Nat} {σ : L2.St} {H : Hp} {Q : VK} (h : ∀ R, wi σ H R → wi' σ H R) (q : tLc wi g tt te vs σ H Q) : tLc wi' g tt te vs σ H Q := h _ q
/-- the walked thing is a name's -/
theorem ew_lcS {i j : Nat} {xs : List Dat} {tt : TT} (hd : ρ[i]? = some (some (.tup xs)) ∨ ρ[i]? = some (some (.lst xs))) (hz : xs.length < sizeLine) (f : Dat → Option Dat)
    (hf : ∀ x acc, x ∈ xs → TurnW K tt te ((wipeD ρ j).set j (some x)) (μ ++ [some acc]) (f x)) (p : P (.lst (xs.filterMap f)) μ) : EW K (tLc (iSeq K (tVar i)) (gName j) tt te [j]) ρ μ P := by
  cases hd with
  | inl h =>
    have z : EW K (tLc (iTup K (tVar i)) (gName j) tt te [j]) ρ μ P := ew_lcT (ew_var h ⟨xs, rfl, hz, f, hf, p⟩)
    exact fun A σ H s v Q q => lc_seq (fun R r => .inl r) (z A σ H s v Q q)
  | inr h =>
    have z : EW K (tLc (iList K (tVar i)) (gName j) tt te [j]) ρ μ P := ew_lcL (ew_var h ⟨xs, rfl, hz, f, hf, p⟩)
    exact fun A σ H s v Q q => lc_seq (fun R r => .inr r) (z A σ H s v Q q)
theorem cw_repr {d : Dat} (hd : shp d = true) (hr : match d with | .tup _ => true | .lst _ => true | _ => false) (hs : (toPy d).showable = true) (hn : (toPy d).hasDict = false) (hz : (toPy d).shown.length ≤ sizeLine) (hdep : dep d ≤ 60) (p : P (.str (toPy d).shown) μ) : CW K (rRepr K) [d] μ P := fun A H us s x Q q => by
  cases x with
  | cons a t =>
    cases t
    have hp := a.py (shp_ok hd)
    have hdd : (toPy d).depth ≤ 60 := by rw [(ok_shape d (Bool.and_eq_true_iff.mp hd).1).2.1]; exact hdep
    cases a with
    | tup h t => exact ⟨_, _, rfl, hp, hs, hn, hz, hdd, q A H _ _ μ (Ext.refl A H) s (.str _) p⟩
    | lst h t => exact ⟨_, _, rfl, hp, hs, hn, hz, hdd, q A H _ _ μ (Ext.refl A H) s (.str _) p⟩
    | _ => cases hr
end
end DL
namespace DL
open PySem PySem.Spec PyProof.Rows L2
section
variable {X : Cx} {CX : CXT} {k n : Nat} {f : Addr} {fd : FuncData} {ps ks : List Str} {sp : Sp} {E : XK} {x : Str} {p pos : Pos} {kws : List Keyword} {tk : TA} {g : List Value → List Value → List Value} {gV : List V → List V → List V}
/-- f(k = v, ..) -/
theorem pe_callN0 (F : FnOk X.prog X.w X.K X.mg X.base CX k f fd ps sp) (hr : Room k X.A) (hg : Gl X x) (hm : X.mg x = some (.ref f)) (hk : PySem.W.keepIn X.K (.ref f) = true) (hb : KBn X.K fd ps 0 ks g gV) (hx : Passes CX X E) (hkw : PK X kws tk)
    (hall : (backToKw pos (keywordEach kws X.env)).all (·.1.isSome) = true := by rfl) (hks : (backToKw pos (keywordEach kws X.env)).filterMap (·.1) = ks := by rfl) (hdb : (x == ("__debug__" : Str)) = false := by decide)
    (hpl : ((backTo pos (starEach [] X.env)).any (·.1) || (backToKw pos (keywordEach kws X.env)).any (·.1.isNone)) = false := by rfl) : PE X (.Call (.Name x p) [] kws pos) (tCallN 0 ks.length sp gV E tNil tk) := by
  constructor
  intro pins s σ H Q I h
  apply wpAny_Call_Name_kw
  refine ld_glob I hg hm ?_ hdb
  refine PySem.W.callWith_KW0 (h₀ := X.base) I.ok.mod.kin hk hall ?_ hpl
  refine thn (hkw.run pos pins s σ H _ I h) ?_
  rintro ws s2 ⟨zs, H2, I2, rz, l1, l2, q2⟩
  refine And.intro I2.kIn ?_
  rw [hks]
  exact run_fnN (us := []) (vs := []) F hr hb hx I2 .nil rz rfl l2 q2
end
/-- the law's call where no repr is under way -/
theorem enterG {P : Program} {w : World} {K : PySem.W.Frag} {mg mb : Str → Option Value} {k : Nat} {fa a : Addr} {fd : FuncData} {x : Str} {sp : Sp} {s : Shared} {vs : List Value} {ns : List Int}
    (inK : K.In s.heap) (hns : s.heap.Ns mainGlobals mg) (hb : s.heap.Ns builtinsNs mb) (hbb : ∀ y : Str, y ≠ "__name__" → mb y = bootBuiltins y) (hlim : s.heap.NoLimit) (hgens : s.gens = #[])
    (ha : s.heap.get? a = some { cls := .type "list", data := .seq vs.toArray }) (hi : IntsAre vs ns) (hl : ns.length ≤ sizeLine) (hr : Room k callerA)
    (F : ∀ base : Heap, K.In base → base.Ns mainGlobals mg → FnG P w K mg base k fa fd [x] sp) (hbind : ∀ (s : Shared) (u : Value), BindsTo s fd ⟨[u], []⟩ [(x, u)])
    (hsp : ∀ H : Hp, SqL K H a (ns.map V.int) → sp [.ref a] H (fun v _ => v = .bl true) E0) :
    codeAny (model P w) callerA (.call (.ref fa) ⟨[.ref a], []⟩) (fun r s' => r = .ok (.ret (.bool true)) ∧ OldK s.heap s'.heap ∧ s'.os = s.os ∧ AllBare s'.gens) s := by
  have rv := vals_ints hi
  have lenV := hi.length
  -- which heap is tracked: the script alone, or nothing where it is the module's own
  obtain ⟨H, hH, hS, hok, hA, hK⟩ : ∃ H : Hp, (∀ b u, H b = some u → ∃ o xs, u = .frz o (.lst xs)) ∧ SqL K H a (ns.map V.int) ∧ HOk P w H s.heap ∧ (∀ b, H b ≠ none → b = a) ∧ (H a ≠ none → K.lookup a = none) := by
    by_cases hk : K.lookup a = none
    · let ob : Obj := { cls := .type "list", data := .seq vs.toArray }
      have at_ : ∀ b u, (if b = a then some (HO.frz ob (.lst (ns.map V.int))) else none) = some u → b = a ∧ u = .frz ob (.lst (ns.map V.int)) := by
        intro b u z
        by_cases c : b = a
        · rw [if_pos c] at z
          exact ⟨c, (Option.some.inj z).symm⟩
        · rw [if_neg c] at z
          cases z
      refine ⟨fun b => if b = a then some (.frz ob (.lst (ns.map V.int))) else none, ?_, Or.inl (Or.inr ⟨ob, if_pos rfl⟩), ?_, ?_, fun _ => hk⟩
      · intro b u z
        exact ⟨_, _, (at_ b u z).2⟩
      · intro b u z
        obtain ⟨rfl, rfl⟩ := at_ b u z
        exact ⟨ha, by rw [List.length_map]; exact hl, vs, _, rv, ha⟩
      · intro b z
        by_cases c : b = a
        · exact c
        · exact absurd (if_neg c) z
    · obtain ⟨o, e⟩ := Option.ne_none_iff_exists'.mp hk
      have q := inK a o e
      rw [ha] at q
      cases q
      refine ⟨fun _ => none, ?_, Or.inr ⟨_, vs.toArray, _, e, rfl, rfl, rfl, ?_, ?_⟩, ?_, ?_, ?_⟩
      · intro b u z
        cases (show (none : Option HO) = some u from z)
      · rw [List.size_toArray, lenV]; exact hl
      · simpa using rv
      · intro b u z
        cases (show (none : Option HO) = some u from z)
      · exact fun b z => absurd rfl z
      · exact fun z => absurd rfl z
  have see : ∀ {b : Addr} {o : Obj}, s.heap.get? b = some o → H b = none → (hidT s.heap H).get? b = some o := hidT_get
  have noDict : ∀ {b : Addr} {o : Obj} {es : Array DictEntry} {ep : Nat}, s.heap.get? b = some o → o.data = .dict es ep → H b = none := by
    intro b o es ep e d
    cases q : H b with
    | none => rfl
    | some u =>
      have c : b = a := hA b (by rw [q]; exact Option.some_ne_none u)
      subst c
      rw [ha] at e
      cases e
      cases d
  have nsB : ∀ {b : Addr} {m : Str → Option Value}, s.heap.Ns b m → (hidT s.heap H).Ns b m := by
    rintro b m ⟨o, es, ep, e, d, r⟩
    exact ⟨o, es, ep, see e (noDict e d), d, r⟩
  have kB : K.In (hidT s.heap H) := by
    intro b o e
    refine see (inK b o e) ?_
    cases q : H b with
    | none => rfl
    | some u =>
      have c : b = a := hA b (by rw [q]; exact Option.some_ne_none u)
      subst c
      rw [hK (by rw [q]; exact Option.some_ne_none u)] at e
      cases e
  obtain ⟨mc, lim1, lim2⟩ := hlim
  have hM : Mod K mg (hidT s.heap H) := ⟨kB, nsB hns, ⟨mb, nsB hb, hbb⟩, ⟨mc, nsB lim1, lim2⟩⟩
  have e0 : Env0 P w K mg (hidT s.heap H) callerA [] s H :=
    ⟨rfl, hM, fun b o e => of_hidT e, Nat.le_of_eq (hidT_size _ _), trivial, fun b z => absurd (show b ∈ ([] : List Addr) from z) (by simp), hok, .of_eq hgens⟩
  have run := (F _ kB (nsB hns)).go callerA [] s H ⟨[.ref a], []⟩ [.ref a] [.ref a] _ _ rfl hr e0 (hbind s (.ref a)) (.cons rfl .nil) (hsp H hS)
  refine codeAny_mono run ?_
  intro r s' z
  cases r with
  | error er => exact z.elim
  | ok fl =>
    cases fl with
    | next => exact z.elim
    | brk => exact z.elim
    | cont => exact z.elim
    | ret u =>
      obtain ⟨v, H', os, bare, un, hok', r2, q⟩ := z
      cases (show v = .bl true from q)
      cases (show u = Value.bool true from r2)
      refine ⟨rfl, OldK.of_keep ?_, os, bare⟩
      intro b o e
      cases q : H b with
      | none => exact un.keep b o e q (fun z => absurd (show b ∈ ([] : List Addr) from z) (by simp)) (by simp)
      | some u =>
        obtain ⟨ob, xs, rfl⟩ := hH b u q
        have z2 := un.frzs b ob _ q
        obtain ⟨e1, _⟩ := hok b _ q
        obtain ⟨e2, _⟩ := hok' b _ z2
        rw [e] at e1
        cases e1
        exact e2
/-- the end, as walk_of, of a law that is a FnG -/
theorem walkG {l : PySem.W.OpenLaw} {n k : Nat} {q : Program} {loose : List Str} {XP : (Str → Option Value) → Heap → Prop} {YP : World → Heap → Prop} {d : DefRec} {K : Params → PySem.W.Frag} {F0 : PySem.W.Frag → FW} {x : Str}
    (hn : l.most = some n) (hn2 : n ≤ sizeLine) (hdf : d.params.defaults = []) (hr : Room k callerA) (hY : ∀ (w : World) (h : Heap), YP w h → (K w.params).In h)
    (F : ∀ (w : World) (mg : Str → Option Value) (fa : Addr) (h : Heap), (K w.params).In h → h.Ns mainGlobals mg → mg d.name = some (.ref fa) →
      ∃ fd : FuncData, (∀ (s : Shared) (u : Value), BindsTo s fd ⟨[u], []⟩ [(x, u)]) ∧ ∀ base : Heap, (K w.params).In base → base.Ns mainGlobals mg → FnG l.prog w (K w.params) mg base k fa fd [x] (spD (K w.params) (F0 (K w.params))))
    (hF : ∀ (K : PySem.W.Frag) (ns : List Int), ns.length ≤ n → F0 K [.lst (wi ns)] [] fun d _ => d = .bl true) :
    PySem.W.WalkO q loose XP YP l.row.toRowW d [] (fun f vs => PySem.call f vs) := by
  refine Att.attach_call hn hdf ?_
  intro w s0 s1 mg mb fa o pm cd doc a vs ns G Y ho hd hcd hmg hobj hints hlen hgens
  have inK := hY w _ Y
  obtain ⟨fd, hb, hF'⟩ := F w mg fa _ inK G.T.g hmg
  refine enterG inK G.T.g G.T.b G.T.builtins G.T.nolimit hgens hobj hints (Nat.le_trans hlen hn2) hr hF' hb ?_
  intro H hS
  have dn : ∀ ms : List Int, Dns (K w.params) [] H (ms.map V.int) (wi ms) := by
    intro ms
    induction ms with
    | nil => exact .nil
    | cons i ms ih => exact .cons (.int i) ih
  have hS' : SqL (K w.params) (hid [] H) a (ns.map V.int) := by
    have e : hid [] H = H := by
      funext b
      unfold hid
      rw [if_neg (by simp)]
    rw [e]; exact hS
  refine ⟨[], [], [.lst (wi ns)], _, ⟨rfl, fun k ds e => by simp at e, fun k b e => by simp at e, fun j k b e => by simp at e⟩, .cons (.lst hS' (dn ns)) .nil, hF _ ns hlen, ?_⟩
  intro A' H' v d m' e' s' hv hd2
  subst hd2
  cases hv
  rfl
end DL
namespace DL
open PySem PySem.Spec PyProof.Rows L2
section
variable {K : PySem.W.Frag} {ρ : Ro} {μ : Mu} {P : PD} {ta tb tc te : TE} {d e : Dat} {r : R2} {t u : TS} {tt : TT} {nx bk ct : Ro → Mu → Prop} {rt : PD}
/-! ### the statements' rules, the ends written out -/
theorem s_seq (h : SW K t ρ μ (.mk (fun ρ' m => SW K u ρ' m (.mk nx rt bk ct)) rt bk ct)) : SW K (tSeq t u) ρ μ (.mk nx rt bk ct) := sw_seq h
theorem s_next (p : nx ρ μ) : SW K tNext ρ μ (.mk nx rt bk ct) := sw_next p
theorem s_ret (h : EW K te ρ μ rt) : SW K (tRet te) ρ μ (.mk nx rt bk ct) := sw_ret h
theorem s_retN (p : rt .non μ) : SW K tRetN ρ μ (.mk nx rt bk ct) := sw_retN p
theorem s_drop (h : EW K te ρ μ fun _ m => nx ρ m) : SW K (tDrop te) ρ μ (.mk nx rt bk ct) := sw_drop h
theorem s_if (h : TW K tt ρ μ fun b m => if b = true then SW K t ρ m (.mk nx rt bk ct) else SW K u ρ m (.mk nx rt bk ct)) : SW K (tIfS tt t u) ρ μ (.mk nx rt bk ct) := sw_if h
theorem s_brk (p : bk ρ μ) : SW K tBreak ρ μ (.mk nx rt bk ct) := sw_brk p
theorem s_cont (p : ct ρ μ) : SW K tCont ρ μ (.mk nx rt bk ct) := sw_cont p
theorem s_asg {g : TG} (h : EW K te ρ μ fun d m => GW K g d ρ m nx) : SW K (tAsg te g) ρ μ (.mk nx rt bk ct) := sw_asg h
theorem s_set {i : Nat} (h : EW K te ρ μ fun d m => nx (ρ.set i (some d)) m) : SW K (tAsg te (gName i)) ρ μ (.mk nx rt bk ct) := sw_set h
theorem s_par {i j : Nat} {t : TA} (h : AW K t ρ μ fun ds m => ∃ a b, ds = [a, b] ∧ nx ((ρ.set i (some a)).set j (some b)) m) : SW K (tPar i j t) ρ μ (.mk nx rt bk ct) := sw_par h
theorem s_aug {i : Nat} {f : Int → Int → Int} {a : Int} (ha : ρ[i]? = some (some (.int a))) (h : EW K te ρ μ fun d m => ∃ b, d = .int b ∧ nx (ρ.set i (some (.int (f a b)))) m) : SW K (tAug i te (ipI f)) ρ μ (.mk nx rt bk ct) := sw_aug ha h
theorem s_forR1 {ta : TA} {g : TG} {tb : TS} (h : AW K ta ρ μ fun ds m => ∃ n : Int, ds = [.int n] ∧ -(2 ^ 62) ≤ n ∧ n < 2 ^ 62 ∧ ∃ I : Nat → Ro → Mu → Prop, I 0 ρ m ∧
      (∀ i ρ' m', i < n.toNat → I i ρ' m' → GW K g (.int (i : Nat)) ρ' m' fun ρ2 m2 => SW K tb ρ2 m2 (.mk (I (i + 1)) rt nx (I (i + 1)))) ∧ ∀ ρ' m', I n.toNat ρ' m' → nx ρ' m') : SW K (tFor (iRng1 ta) g tb) ρ μ (.mk nx rt bk ct) := sw_forR1 h
theorem s_forR2 {ta : TA} {g : TG} {tb : TS} (h : AW K ta ρ μ fun ds m => ∃ lo n : Int, ds = [.int lo, .int n] ∧ (-(2 ^ 62) ≤ lo ∧ lo < 2 ^ 62 ∧ -(2 ^ 62) ≤ n ∧ n < 2 ^ 62) ∧ ∃ I : Nat → Ro → Mu → Prop, I 0 ρ m ∧
      (∀ i ρ' m', i < (n - lo).toNat → I i ρ' m' → GW K g (.int (lo + (i : Nat))) ρ' m' fun ρ2 m2 => SW K tb ρ2 m2 (.mk (I (i + 1)) rt nx (I (i + 1)))) ∧ ∀ ρ' m', I (n - lo).toNat ρ' m' → nx ρ' m') : SW K (tFor (iRng2 ta) g tb) ρ μ (.mk nx rt bk ct) := sw_forR2 h
theorem s_forT {g : TG} {tb : TS} (h : EW K te ρ μ fun d m => ∃ xs, d = .tup xs ∧ ∃ I : Nat → Ro → Mu → Prop, I 0 ρ m ∧
      (∀ i x ρ' m', xs[i]? = some x → I i ρ' m' → GW K g x ρ' m' fun ρ2 m2 => SW K tb ρ2 m2 (.mk (I (i + 1)) rt nx (I (i + 1)))) ∧ ∀ ρ' m', I xs.length ρ' m' → nx ρ' m') : SW K (tFor (iTup K te) g tb) ρ μ (.mk nx rt bk ct) := sw_forT h
theorem s_forL {g : TG} {tb : TS} (h : EW K te ρ μ fun d m => ∃ xs, d = .lst xs ∧ ∃ I : Nat → Ro → Mu → Prop, I 0 ρ m ∧
      (∀ i x ρ' m', xs[i]? = some x → I i ρ' m' → GW K g x ρ' m' fun ρ2 m2 => SW K tb ρ2 m2 (.mk (I (i + 1)) rt nx (I (i + 1)))) ∧ ∀ ρ' m', I xs.length ρ' m' → nx ρ' m') : SW K (tFor (iList K te) g tb) ρ μ (.mk nx rt bk ct) := sw_forL h
theorem s_while {c : TT} {tb : TS} (I : Nat → Ro → Mu → Prop) (h0 : ∃ n, I n ρ μ) (hs : ∀ n ρ' m', I n ρ' m' → TW K c ρ' m' fun b m2 => if b = true then SW K tb ρ' m2 (.mk (fun ρ3 m3 => ∃ n', n' < n ∧ I n' ρ3 m3) rt nx (fun ρ3 m3 => ∃ n', n' < n ∧ I n' ρ3 m3)) else nx ρ' m2) :
    SW K (tWhile c tb) ρ μ (.mk nx rt bk ct) := sw_while I h0 hs
/-! ### flat equality of ints; a bool's leaf -/
theorem rw_eqI {i j : Int} (p : P (.bl (decide (i = j))) μ) : RW K rEq (.int i) (.int j) μ P := rw_eq rfl (by
  have : decide (fl (.int i) = fl (.int j)) = decide (i = j) := by simp [fl]
  rw [this]; exact p)
theorem rw_neI {i j : Int} (p : P (.bl (!decide (i = j))) μ) : RW K rNe (.int i) (.int j) μ P := rw_ne rfl (by
  have : decide (fl (.int i) = fl (.int j)) = decide (i = j) := by simp [fl]
  rw [this]; exact p)
theorem leaf_bl {b : Bool} {Q : Bool → Prop} (h : Q b) : ∃ c, Dat.bl b = .bl c ∧ Q c := ⟨b, rfl, h⟩
theorem leaf_int {b : Int} {Q : Int → Prop} (h : Q b) : ∃ c, Dat.int b = .int c ∧ Q c := ⟨b, rfl, h⟩
theorem leaf_tup {b : List Dat} {Q : List Dat → Prop} (h : Q b) : ∃ c, Dat.tup b = .tup c ∧ Q c := ⟨b, rfl, h⟩
theorem leaf_two {a b : Dat} {Q : Dat → Dat → Prop} (h : Q a b) : ∃ c d, [a, b] = [c, d] ∧ Q c d := ⟨a, b, rfl, h⟩
theorem if_t {A B : Prop} (h : A) : if true = true then A else B := by rw [if_pos rfl]; exact h
theorem if_f {A B : Prop} (h : B) : if false = true then A else B := by rw [if_neg Bool.false_ne_true]; exact h
theorem if_d {c : Prop} [Decidable c] {A B : Prop} (h1 : c → A) (h2 : ¬ c → B) : if decide c = true then A else B := by
  by_cases h : c
  · rw [if_pos (decide_eq_true h)]; exact h1 h
  · rw [if_neg (by rw [decide_eq_false h]; exact Bool.false_ne_true)]; exact h2 h
theorem if_nd {c : Prop} [Decidable c] {A B : Prop} (h1 : ¬ c → A) (h2 : c → B) : if (!decide c) = true then A else B := by
  by_cases h : c
  · rw [decide_eq_true h]; exact if_f (h2 h)
  · rw [decide_eq_false h]; exact if_t (h1 h)
theorem if_b {b : Bool} {A B : Prop} (h1 : b = true → A) (h2 : b = false → B) : if b = true then A else B := by
  cases b with
  | true => exact if_t (h1 rfl)
  | false => exact if_f (h2 rfl)
end
end DL
namespace DL
open PySem PySem.Spec PyProof.Rows L2
/-! ### how keywords come to parameters -/
def k01 {α : Type} : List α → List α → List α := fun us ws => match us, ws with
  | [], [a] => [a]
  | _, _ => []
def k02 {α : Type} : List α → List α → List α := fun us ws => match us, ws with
  | [], [a, b] => [a, b]
  | _, _ => []
def k02s {α : Type} : List α → List α → List α := fun us ws => match us, ws with
  | [], [a, b] => [b, a]
  | _, _ => []
theorem pr01 {α β : Type} {R : α → β → Prop} : ∀ {us : List α} {vs : List β} {ws : List α} {zs : List β}, Paired R us vs → Paired R ws zs → Paired R (k01 us ws) (k01 vs zs)
  | _, _, _, _, .nil, .nil => .nil
  | _, _, _, _, .nil, .cons a .nil => .cons a .nil
  | _, _, _, _, .nil, .cons _ (.cons _ _) => .nil
  | _, _, _, _, .cons _ _, _ => .nil
theorem pr02 {α β : Type} {R : α → β → Prop} : ∀ {us : List α} {vs : List β} {ws : List α} {zs : List β}, Paired R us vs → Paired R ws zs → Paired R (k02 us ws) (k02 vs zs)
  | _, _, _, _, .nil, .nil => .nil
  | _, _, _, _, .nil, .cons a .nil => .nil
  | _, _, _, _, .nil, .cons a (.cons b .nil) => .cons a (.cons b .nil)
  | _, _, _, _, .nil, .cons _ (.cons _ (.cons _ _)) => .nil
  | _, _, _, _, .cons _ _, _ => .nil
theorem pr02s {α β : Type} {R : α → β → Prop} : ∀ {us : List α} {vs : List β} {ws : List α} {zs : List β}, Paired R us vs → Paired R ws zs → Paired R (k02s us ws) (k02s vs zs)
  | _, _, _, _, .nil, .nil => .nil
  | _, _, _, _, .nil, .cons a .nil => .nil
  | _, _, _, _, .nil, .cons a (.cons b .nil) => .cons b (.cons a .nil)
  | _, _, _, _, .nil, .cons _ (.cons _ (.cons _ _)) => .nil
  | _, _, _, _, .cons _ _, _ => .nil
section
variable {K : PySem.W.Frag} {ρ : Ro} {μ : Mu} {P : PD} {F : FW}
theorem dn_pair {A : As} {H : Hp} : ∀ {vs : List V} {ds : List Dat}, Dns K A H vs ds → Paired (Dn K A H) vs ds
  | _, _, .nil => .nil
  | _, _, .cons a t => .cons a (dn_pair t)
theorem pair_dn {A : As} {H : Hp} : ∀ {vs : List V} {ds : List Dat}, Paired (Dn K A H) vs ds → Dns K A H vs ds
  | _, _, .nil => .nil
  | _, _, .cons a t => .cons a (pair_dn t)
/-- f(k = v), f(k = v, l = w), in the parameters' sequence or the other way about -/
theorem ew_k01 {E : XK} {a : Str} {tk : TA} (h : AW K tk ρ μ fun es m2 => es.length = 1 ∧ F (k01 [] es) m2 P) : EW K (tCallN 0 [a].length (spD K F) k01 E tNil tk) ρ μ P :=
  ew_callN k01 (fun A H vs ds ws es a b _ _ => pair_dn (pr01 (dn_pair a) (dn_pair b))) (aw_nil (fun A σ H s v Q q => h A σ H s v Q fun A' H' vs ds m e s' x ⟨a, b⟩ => q A' H' vs ds m e s' x ⟨rfl, a, b⟩))
theorem ew_k02 {E : XK} {a b : Str} {tk : TA} (h : AW K tk ρ μ fun es m2 => es.length = 2 ∧ F (k02 [] es) m2 P) : EW K (tCallN 0 [a, b].length (spD K F) k02 E tNil tk) ρ μ P :=
  ew_callN k02 (fun A H vs ds ws es a b _ _ => pair_dn (pr02 (dn_pair a) (dn_pair b))) (aw_nil (fun A σ H s v Q q => h A σ H s v Q fun A' H' vs ds m e s' x ⟨a, b⟩ => q A' H' vs ds m e s' x ⟨rfl, a, b⟩))
theorem ew_k02s {E : XK} {a b : Str} {tk : TA} (h : AW K tk ρ μ fun es m2 => es.length = 2 ∧ F (k02s [] es) m2 P) : EW K (tCallN 0 [a, b].length (spD K F) k02s E tNil tk) ρ μ P :=
  ew_callN k02s (fun A H vs ds ws es a b _ _ => pair_dn (pr02s (dn_pair a) (dn_pair b))) (aw_nil (fun A σ H s v Q q => h A σ H s v Q fun A' H' vs ds m e s' x ⟨a, b⟩ => q A' H' vs ds m e s' x ⟨rfl, a, b⟩))
end
/-! ### what defs of the text have -/
structure Df (K : PySem.W.Frag) (mg : Str → Option Value) (x : Str) (st : Stmt) (ps : List Str) where
  f : Addr
  fd : FuncData
  F : Fun K x x st f fd
  g : mg x = some (.ref f)
  b : Binds K fd ps []
/-! ### what isinstance says -/
def tI : Dat → Bool | .int _ => true | .bl _ => true | _ => false
def tBo : Dat → Bool | .bl _ => true | _ => false
def tLi : Dat → Bool | .lst _ => true | .cell _ => true | _ => false
def tTu : Dat → Bool | .tup _ => true | .key _ => true | _ => false
def tSt : Dat → Bool | .str _ => true | _ => false
theorem kb_int (d : Dat) : kitD d "int" = some (tI d) := by
  cases d with
  | non => show kitB "NoneType" "int" = some false; decide +kernel
  | bl b => show kitB "bool" "int" = some true; decide +kernel
  | int i => show kitB "int" "int" = some true; decide +kernel
  | str x => show kitB "str" "int" = some false; decide +kernel
  | tup xs => show kitB "tuple" "int" = some false; decide +kernel
  | lst xs => show kitB "list" "int" = some false; decide +kernel
  | cell k => show kitB "list" "int" = some false; decide +kernel
  | dct ks xs => show kitB "dict" "int" = some false; decide +kernel
  | dcell k => show kitB "dict" "int" = some false; decide +kernel
  | dst ks xs => show kitB "dict" "int" = some false; decide +kernel
  | key l => show kitB "tuple" "int" = some false; decide +kernel
  | obj C ns xs => simp [kitD, tI]
theorem kb_bool (d : Dat) : kitD d "bool" = some (tBo d) := by
  cases d with
  | non => show kitB "NoneType" "bool" = some false; decide +kernel
  | bl b => show kitB "bool" "bool" = some true; decide +kernel
  | int i => show kitB "int" "bool" = some false; decide +kernel
  | str x => show kitB "str" "bool" = some false; decide +kernel
  | tup xs => show kitB "tuple" "bool" = some false; decide +kernel
  | lst xs => show kitB "list" "bool" = some false; decide +kernel
  | cell k => show kitB "list" "bool" = some false; decide +kernel
  | dct ks xs => show kitB "dict" "bool" = some false; decide +kernel
  | dcell k => show kitB "dict" "bool" = some false; decide +kernel
  | dst ks xs => show kitB "dict" "bool" = some false; decide +kernel
  | key l => show kitB "tuple" "bool" = some false; decide +kernel
  | obj C ns xs => simp [kitD, tBo]
theorem kb_list (d : Dat) : kitD d "list" = some (tLi d) := by
  cases d with
  | non => show kitB "NoneType" "list" = some false; decide +kernel
  | bl b => show kitB "bool" "list" = some false; decide +kernel
  | int i => show kitB "int" "list" = some false; decide +kernel
  | str x => show kitB "str" "list" = some false; decide +kernel
  | tup xs => show kitB "tuple" "list" = some false; decide +kernel
  | lst xs => show kitB "list" "list" = some true; decide +kernel
  | cell k => show kitB "list" "list" = some true; decide +kernel
  | dct ks xs => show kitB "dict" "list" = some false; decide +kernel
  | dcell k => show kitB "dict" "list" = some false; decide +kernel
  | dst ks xs => show kitB "dict" "list" = some false; decide +kernel
  | key l => show kitB "tuple" "list" = some false; decide +kernel
  | obj C ns xs => simp [kitD, tLi]
theorem kb_tuple (d : Dat) : kitD d "tuple" = some (tTu d) := by
  cases d with
  | non => show kitB "NoneType" "tuple" = some false; decide +kernel
  | bl b => show kitB "bool" "tuple" = some false; decide +kernel
  | int i => show kitB "int" "tuple" = some false; decide +kernel
  | str x => show kitB "str" "tuple" = some false; decide +kernel
  | tup xs => show kitB "tuple" "tuple" = some true; decide +kernel
  | lst xs => show kitB "list" "tuple" = some false; decide +kernel
  | cell k => show kitB "list" "tuple" = some false; decide +kernel
  | dct ks xs => show kitB "dict" "tuple" = some false; decide +kernel
  | dcell k => show kitB "dict" "tuple" = some false; decide +kernel
  | dst ks xs => show kitB "dict" "tuple" = some false; decide +kernel
  | key l => show kitB "tuple" "tuple" = some true; decide +kernel
  | obj C ns xs => simp [kitD, tTu]
/-! ### signs, cuts, words -/
section
variable {K : PySem.W.Frag} {ρ : Ro} {μ : Mu} {P : PD}
theorem uw_neg {i : Int} (p : P (.int (-i)) μ) : UW K (rU fun i => .int (-i)) (.int i) μ P := fun A H x s a Q q => by
  cases a
  exact ⟨i, rfl, q A H _ _ μ (Ext.refl A H) s (.int _) p⟩
end
theorem cut_to {α : Type} {xs : List α} {k : Int} (h : 0 ≤ k) : cut xs none (some k) = xs.take k.toNat := by
  obtain ⟨n, rfl⟩ : ∃ n : Nat, k = (n : Int) := ⟨k.toNat, by omega⟩
  unfold cut
  rw [HT.sIx_nat, HT.sIx_none, List.drop_zero, Nat.sub_zero, Int.toNat_natCast]
  by_cases c : n ≤ xs.length
  · rw [Nat.min_eq_left c]
  · rw [Nat.min_eq_right (by omega), List.take_length, List.take_of_length_le (by omega)]
theorem cut_from {α : Type} {xs : List α} {k : Int} (h : 0 ≤ k) : cut xs (some k) none = xs.drop k.toNat := by
  obtain ⟨n, rfl⟩ : ∃ n : Nat, k = (n : Int) := ⟨k.toNat, by omega⟩
  unfold cut
  rw [HT.sIx_nat, HT.sIx_none, Int.toNat_natCast]
  by_cases c : n ≤ xs.length
  · rw [Nat.min_eq_left c, List.take_of_length_le (by rw [List.length_drop]; omega)]
  · rw [Nat.min_eq_right (by omega), List.drop_length, List.drop_of_length_le (by omega)]; simp
theorem cut_mid {α : Type} {xs : List α} {a b : Int} (h : 0 ≤ a) (g : 0 ≤ b) : cut xs (some a) (some b) = (xs.drop a.toNat).take (b.toNat - a.toNat) := by
  obtain ⟨n, rfl⟩ : ∃ n : Nat, a = (n : Int) := ⟨a.toNat, by omega⟩
  obtain ⟨m, rfl⟩ : ∃ n : Nat, b = (n : Int) := ⟨b.toNat, by omega⟩
  unfold cut
  rw [HT.sIx_nat, HT.sIx_nat, Int.toNat_natCast, Int.toNat_natCast]
  by_cases c : n ≤ xs.length
  · rw [Nat.min_eq_left c]
    by_cases d : m ≤ xs.length
    · rw [Nat.min_eq_left d]
    · rw [Nat.min_eq_right (by omega), List.take_of_length_le (by rw [List.length_drop]; omega), List.take_of_length_le (by rw [List.length_drop]; omega)]
  · rw [Nat.min_eq_right (show xs.length ≤ n by omega), List.drop_length, List.drop_of_length_le (by omega)]; simp
theorem six_m1 (n d : Nat) : HT.sIx n d (some (-1)) = n - 1 := by
  show (if (-1 : Int) < 0 then ((-1 : Int) + (n : Int)).toNat else min (Int.toNat (-1)) n) = n - 1
  rw [if_pos (by omega)]
  omega
theorem cut_m1 {α : Type} {xs : List α} : cut xs none (some (-1)) = xs.dropLast := by
  unfold cut
  rw [six_m1, HT.sIx_none, List.drop_zero, Nat.sub_zero, List.dropLast_eq_take]
theorem cut_l1 {α : Type} {xs : List α} : cut xs (some (-1)) none = xs.drop (xs.length - 1) := by
  unfold cut
  rw [six_m1, HT.sIx_none, List.take_of_length_le (by rw [List.length_drop]; omega)]
theorem wi_len (l : List Int) : (wi l).length = l.length := List.length_map ..
theorem wi_take (l : List Int) (k : Nat) : (wi l).take k = wi (l.take k) := by unfold wi; rw [List.map_take]
theorem wi_drop (l : List Int) (k : Nat) : (wi l).drop k = wi (l.drop k) := by unfold wi; rw [List.map_drop]
theorem wi_app (l m : List Int) : wi l ++ wi m = wi (l ++ m) := by unfold wi; rw [List.map_append]
theorem wi_dropLast (l : List Int) : (wi l).dropLast = wi l.dropLast := by unfold wi; rw [List.map_dropLast]
theorem wi_rep (l : List Int) : ∀ k : Nat, (List.replicate k (wi l)).flatten = wi (List.replicate k l).flatten
  | 0 => by simp [wi]
  | k + 1 => by rw [List.replicate_succ, List.replicate_succ, List.flatten_cons, List.flatten_cons, wi_rep l k, wi_app]
theorem wi_ne {l : List Int} (h : l ≠ []) : wi l ≠ [] := fun e => h (by
  have := congrArg List.length e
  rw [wi_len] at this
  exact List.eq_nil_of_length_eq_zero this)
theorem wi_one (c : Int) : [Dat.int c] = wi [c] := rfl
theorem atI_wi {l : List Int} {p : Int} (h : 0 ≤ p) (g : p < l.length) : atI (wi l) p = some (.int (l.getD p.toNat 0)) := by
  obtain ⟨n, rfl⟩ : ∃ n : Nat, p = (n : Int) := ⟨p.toNat, by omega⟩
  have hn : n < l.length := by omega
  refine atI_nat ?_
  unfold wi
  rw [List.getElem?_map, List.getElem?_eq_getElem hn, Int.toNat_natCast, List.getD_eq_getElem?_getD, List.getElem?_eq_getElem hn]
  rfl
theorem atI_wi1 {l : List Int} (g : l ≠ []) : atI (wi l) (-1) = some (.int (l.getD (l.length - 1) 0)) := by
  have hn : 0 < l.length := List.length_pos_iff.mpr g
  unfold atI ixN
  rw [if_neg (by omega), wi_len, if_pos (by omega)]
  have e : ((-1 : Int) + (l.length : Int)).toNat = l.length - 1 := by omega
  show (wi l)[((-1 : Int) + (l.length : Int)).toNat]? = _
  rw [e]
  unfold wi
  rw [List.getElem?_map, List.getElem?_eq_getElem (by omega), List.getD_eq_getElem?_getD, List.getElem?_eq_getElem (by omega)]
  rfl
section
variable {X : Cx} {a : PySem.Expr} {ta : TE}
theorem pt_tru (ha : PE X a ta) (he : ∀ whole, isTrue a X.env whole = (do let v ← whole; standAt a.pos; holding [v] (truthy v))) : PT X a (tTru X.K ta) := pt_truth ha he
end
theorem emod_nat (a b : Nat) (c : Int) (h : c = (b : Int)) : (a : Int) % c = ((a % b : Nat) : Int) := by rw [h, Int.natCast_emod]
theorem ediv_nat (a b : Nat) (c : Int) (h : c = (b : Int)) : (a : Int) / c = ((a / b : Nat) : Int) := by rw [h, Int.natCast_ediv]
theorem sz0 {P : Prop} (h : P) : ([] : List Dat).length ≤ sizeLine ∧ P := ⟨by decide, h⟩
theorem sz1 {a : Dat} {P : Prop} (h : P) : [a].length ≤ sizeLine ∧ P := ⟨by show 1 ≤ sizeLine; decide, h⟩
theorem sz2 {a b : Dat} {P : Prop} (h : P) : [a, b].length ≤ sizeLine ∧ P := ⟨by show 2 ≤ sizeLine; decide, h⟩
theorem sz3 {a b c : Dat} {P : Prop} (h : P) : [a, b, c].length ≤ sizeLine ∧ P := ⟨by show 3 ≤ sizeLine; decide, h⟩
theorem sz4 {a b c d : Dat} {P : Prop} (h : P) : [a, b, c, d].length ≤ sizeLine ∧ P := ⟨by show 4 ≤ sizeLine; decide, h⟩
theorem leaf_lst {b : List Dat} {Q : List Dat → Prop} (h : Q b) : ∃ c, Dat.lst b = .lst c ∧ Q c := ⟨b, rfl, h⟩
section
variable {K : PySem.W.Frag} {ρ : Ro} {μ : Mu} {P : PD}
/-- a new list, made again and again -/
theorem rw_repC {k : Nat} {xs : List Dat} {n : Int} (hm : μ[k]? = some (some xs)) (h1 : 0 ≤ n) (h2 : n ≤ 1000) (hz : xs.length ≤ 1000) (p : P (.lst (List.replicate n.toNat xs).flatten) μ) : RW K rRep (.cell k) (.int n) μ P := fun A H x y s u v Q q => by
  cases v
  obtain ⟨a, vs, rfl, hk, ho, t1⟩ := s.cell u hm
  have hl := t1.length
  have hb : vs.length * n.toNat ≤ 1000 * 1000 := Nat.mul_le_mul (by omega) (by omega)
  exact ⟨a, n, vs, rfl, rfl, ho, by omega, by omega, by rw [sizeLine_eq]; omega, fun b hb => q A _ _ _ μ (ext_new hb) (s.new hb) (Dn.newL s hb (t1.rep _)) p⟩
theorem rw_eqB {a b : Bool} (p : P (.bl (decide (a = b))) μ) : RW K rEq (.bl a) (.bl b) μ P := rw_eq rfl (by
  have : decide (fl (.bl a) = fl (.bl b)) = decide (a = b) := by simp [fl]
  rw [this]; exact p)
theorem rw_neS {a b : Str} (p : P (.bl (!decide (a = b))) μ) : RW K rNe (.str a) (.str b) μ P := rw_ne rfl (by
  have : decide (fl (.str a) = fl (.str b)) = decide (a = b) := by simp [fl]
  rw [this]; exact p)
end
section
variable {K : PySem.W.Frag} {ρ : Ro} {μ : Mu} {t : TS} {nx bk ct : Ro → Mu → Prop} {rt : PD}
/-- what holds behind a statement, said once -/
theorem s_cut (J : Ro → Mu → Prop) (h : SW K t ρ μ (.mk J rt bk ct)) (g : ∀ ρ' m', J ρ' m' → nx ρ' m') : SW K t ρ μ (.mk nx rt bk ct) := fun A σ H D s v e =>
  h A σ H D s v ⟨fun A1 H1 σ1 ρ1 m1 x s1 v1 p => e.nx A1 H1 σ1 ρ1 m1 x s1 v1 (g ρ1 m1 p), e.rt, e.bk, e.ct⟩
end
theorem if_nt {A B : Prop} (h : B) : if (!true) = true then A else B := if_f h
theorem if_nf {A B : Prop} (h : A) : if (!false) = true then A else B := if_t h
end DL
/-! sets of tuples of ints: their length, a member added, the comprehension -/
namespace RS
open PySem PySem.Spec PyProof.Rows L2
section
variable {P : Program} {w : World} {h : Heap} {a : Addr} {L : List (Addr × List Int)}
theorem t0_open (R : SetT0 P w h a L) : ∃ (o : Obj) (es : Array (Int × Value)) (ep : Nat) (t : SetTable), h.get? a = some o ∧ o.ExactSet ∧ o.data = .set es ep t ∧ t.fits es.size = true ∧ es.size = L.length := by
  obtain ⟨es, ep, t, ⟨o, ho, hex, hd⟩, rows, tab, _, _, _, room, _⟩ := R.ex
  have sz : es.size = L.length := by
    have e := congrArg List.length rows
    rwa [Array.length_toList, rowsOf, List.length_map] at e
  refine ⟨o, es, ep, t, ho, hex, hd, ?_, sz⟩
  have q := tab.sz
  rw [List.length_map] at q
  simp only [SetTable.fits, SetTable.fill, tab.dm, Bool.and_eq_true, beq_iff_eq, decide_eq_true_eq]
  refine ⟨by show t.place.size = _; omega, ?_⟩
  show t.place.size + 0 ≤ t.mask
  omega
end
section
variable {X : Cx}
/-- len of a set of tuples -/
def rLenST (P : Program) (w : World) : List V → Hp → VK → Prop := fun xs H Q => ∃ (a : Addr) (L : List (Addr × List Int)), xs = [V.ref a] ∧ H a = some (SetTO P w a L) ∧ ((L.map (·.2)).Nodup → Q (.int (L.length : Int)) H)
theorem cr_lenST : CallR X (.builtin "len") (rLenST X.prog X.w) := by
  intro pins s σ H xs us Q I r ⟨a, L, e, ha, q⟩
  subst e
  rw [Vals.ref1 r]
  have R : SetT0 X.prog X.w s.heap a L := (I.hok a _ ha).1
  obtain ⟨o, es, ep, t, ho, hex, hd, hf, hn⟩ := t0_open R
  obtain ⟨_, _, _, _, _, _, nd, _, _, _, few⟩ := R.ex
  exact call_len_set ho hex hd hf (by rw [hn]; omega) ⟨.int (L.length : Int), H, I.tok _, ⟨_, by rw [hn]⟩, q nd⟩
/-- s.add(x), x a tuple of ints -/
theorem add_set {pins : List (Addr × Obj)} {σ : L2.St} {H : Hp} {s : Shared} {E : Value → Shared → Prop} {D x : Addr} {L : List (Addr × List Int)} {k : List Int} {Q : Value → Shared → Prop} (I : Inv X pins σ H s) (hu : X.A.units + 1 < cLine)
    (hD : H D = some (SetTO X.prog X.w D L)) (hL : ∀ p ∈ L, SqT X.K H p.1 (p.2.map V.int)) (hx : SqT X.K H x (k.map V.int)) (few : L.length + 1 < 64)
    (q : ∀ s' L', (k ∈ L.map (·.2) → L' = L) → (k ∉ L.map (·.2) → L'.Perm ((x, k) :: L)) → Inv X pins σ (upd H D (SetTO X.prog X.w D L')) s' → Q .none s') :
    wpAny (model X.prog X.w) X.A (call (.builtin "set.add") [.ref D, .ref x]) Q E s := by
  have R0 : SetT0 X.prog X.w s.heap D L := (I.hok D _ hD).1
  obtain ⟨es, ep, t, R⟩ := R0.full fun p hp => I.isT (hL p hp)
  obtain ⟨o, ho, hex, hd⟩ := R.ob
  have ix := I.isT hx
  refine wpAny_call_entry F.slot_set_add ⟨o, ho, hex.1⟩ F.entry_set_add ?_ (F.args_set_add_2 _ _)
  simp only [Builtin.«set.add», Builtin.Frozenset.oneOther, List.isEmpty_nil, bind_assoc, Builtin.Frozenset.addrOf, setAdd]
  repeat (first | exact wpAny_bind (wpAny_pure ?_) | (refine wpAny_bind (wpAny_pure ?_)) | (refine wpAny_bind (wpAny_holding ?_)))
  have hu1 : X.A.in1.units < cLine := hu
  refine wpAny_bind (wpAny_pyHash_tuple hu1 ix ?_)
  refine add_at (A := X.A.in1) (s := { s with toks := s.toks + (k.length + 1) }) R ix hu1 few fun b h' L' es' ep' t' sb R' c1 c2 => ?_
  refine wpAny_pure ⟨_, rfl, q _ L' c1 c2 ?_⟩
  obtain ⟨o', ho', _⟩ := R'.ob
  exact I.write (e := D) (t' := s.toks + (k.length + 1)) (by rw [hD]; trivial) (.inl rfl) (fun b u hb hu => (sb.2 b hb).trans hu) ⟨o', ho'⟩ (setTO_new R'.t0)
end
end RS
/-! {elt for target in iter if ..}, elt a tuple of ints -/
namespace RS
open PySem PySem.Spec PyProof.Rows L2
/-- one turn's wish: what the block asks of the member, then the rest -/
def putST (P : Program) (w : World) (K : PySem.W.Frag) (D : Addr) (Nx : Hp → Prop) : V → Hp → Prop := fun y G => ∃ (c : Addr) (k : List Int) (L : List (Addr × List Int)), y = .ref c ∧ G D = some (SetTO P w D L) ∧ (∀ p ∈ L, SqT K G p.1 (p.2.map V.int)) ∧
  SqT K G c (k.map V.int) ∧ L.length + 1 < 64 ∧ ∀ L', (k ∈ L.map (·.2) → L' = L) → (k ∉ L.map (·.2) → L'.Perm ((c, k) :: L)) → Nx (upd G D (SetTO P w D L'))
def turnST (P : Program) (w : World) (K : PySem.W.Frag) (D : Addr) (Nx : Hp → Prop) (g : TG) (tt : TT) (te : TE) (vs : List Nat) (σ : L2.St) (x : V) (G : Hp) : Prop :=
  g x (wipe σ vs) G fun σ2 G2 => wipe σ2 vs = wipe σ vs ∧ tt σ2 G2 fun b G3 => if b = true then te σ2 G3 (putST P w K D Nx) else Nx G3
def tScT (P : Program) (w : World) (K : PySem.W.Frag) (wi : TI) (g : TG) (tt : TT) (te : TE) (vs : List Nat) : TE := fun σ H Q => wi σ H fun J H1 => ∀ D, H1 D = none → ∃ Z : Nat → Nat → Hp → Prop, (∃ m, Z 0 m (upd H1 D (SetTO P w D []))) ∧
  ∀ i m G, Z i m G → (J.stop i G ∧ Q (.ref D) G) ∨ (J.go i G ∧ ∃ Nx : Hp → Prop, (∀ G', Nx G' → ∃ m', m' < m ∧ Z (i + 1) m' G') ∧ ∀ x G', J.yld i G x G' → turnST P w K D Nx g tt te vs σ x G')
section
variable {X : Cx}
theorem pe_scT {elt tg iter : Expr} {ifs : List Expr} {scope : Scope} {own : List (PySem.Str × Nat)} {pos : Pos} {wi : TI} {g : TG} {tt : TT} {te : TE} (hu : X.A.units + 1 < cLine) (calm : X.calm = true) (nd : X.N.Nodup) (walk : PI X tg iter wi) (blk : BlkOk X.N X.env.scope scope own)
    (tgt : ∀ (s : Shared) (H : Hp) (C : Addr) (cl : List (PySem.Str × Addr)) (fp : List Addr), PG (X.blk s H scope (compEnvC scope cl C X.env) fp) tg g)
    (tst : ∀ (s : Shared) (H : Hp) (C : Addr) (cl : List (PySem.Str × Addr)) (fp : List Addr), PTs (X.blk s H scope (compEnvC scope cl C X.env) fp) ifs tt)
    (mem : ∀ (s : Shared) (H : Hp) (C : Addr) (cl : List (PySem.Str × Addr)) (fp : List Addr), PE (X.blk s H scope (compEnvC scope cl C X.env) fp) elt te) (fold : ∀ x, foldedSetIterable iter X.env x = pure x := by intro _; rfl) :
    PE X (.SetComp elt [⟨tg, iter, ifs, 0⟩] scope pos) (tScT X.prog X.w X.K wi g tt te (own.map (·.2))) := by
  refine ⟨fun pins s σ H Q I wish => ?_⟩
  rw [PpSet.eval_SetComp]
  have captured : ∀ y ∈ scope.names, y.2 = .free → ∃ c, X.env.cells.lookup y.1 = some c := by
    intro y hy e
    cases blk.free y hy e with
    | inl k => exact I.ok.has _ (Or.inl k)
    | inr k => exact I.ok.has _ (Or.inr k)
  refine wpAny_comprehension_free (use := none) rfl fold (closure_ok captured) blk.kind ?_ (thn (walk.run pins s σ H _ I wish) ?_)
  · intro y hy e
    rw [blk.uniq y hy, e]
  intro xv s1 hx
  refine thn hx ?_
  rintro itv s2 ⟨it, fp, tn, J, H2, rfl, I2, T, st2, f2, q⟩
  refine PpSet.newSet_ok (newEnv_comp ?_)
  obtain ⟨D, hD⟩ : ∃ D, s2.heap.objs.size = D := ⟨_, rfl⟩
  rw [hD]
  have fresh : H2 D = none := I2.hok.fresh (Nat.le_of_eq hD)
  obtain ⟨Z, ⟨m0, z0⟩, turn⟩ := q D fresh
  let G0 : Hp := upd H2 D (SetTO X.prog X.w D [])
  obtain ⟨s3, e3⟩ : ∃ s3 : Shared, s3 = { s2 with heap := s2.heap.push { cls := .type "set", dict := none, data := .set #[] 0 (.fresh 0 0 (!X.w.params.followText "set-order")) } } := ⟨_, rfl⟩
  have I3 : Inv X pins σ G0 s3 := by
    rw [e3]
    refine I2.laid (t' := s2.toks) (fun b o e => Heap.get?_push_of_some _ e) (Nat.le_of_eq hD) ?_
    refine setTO_new (SetTR.t0 (setTR_fresh ?_))
    rw [← hD]
    exact Heap.get?_push_size _ rfl
  have lay3 : ∀ b o, s2.heap.get? b = some o → s3.heap.get? b = some o := by
    intro b o e
    rw [e3]
    exact Heap.get?_push_of_some _ e
  have feet : ∀ b ∈ fp, FpOk X pins G0 b ∧ b < s3.heap.objs.size := by
    intro b hb
    obtain ⟨o, e, _⟩ := T.obj _ _ st2 b hb
    have lt := Heap.lt_size e
    have ne : b ≠ D := by
      rw [← hD]
      exact Nat.ne_of_lt lt
    refine ⟨⟨?_, (f2 b hb).2⟩, Heap.lt_size (lay3 b o e)⟩
    show upd H2 D _ b = none
    rw [upd_ne ne]
    exact (f2 b hb).1
  have st3 : tn 0 s3.heap := T.keep _ _ _ st2 fun b _ o e => lay3 b o e
  have IB := block_start I3 blk nd feet
  have pt := tgt s3 G0 s3.heap.objs.size (cellsFrom (s3.heap.objs.size + 1) scope.names (cloFrom X.env.cells scope.names [])) fp
  have ps := tst s3 G0 s3.heap.objs.size (cellsFrom (s3.heap.objs.size + 1) scope.names (cloFrom X.env.cells scope.names [])) fp
  have pm := mem s3 G0 s3.heap.objs.size (cellsFrom (s3.heap.objs.size + 1) scope.names (cloFrom X.env.cells scope.names [])) fp
  have clear0 : ∀ b ∈ fp, G0 b = none := fun b hb => (feet b hb).1.1
  suffices run : codeAny (model X.prog X.w) X.A (.compStart (.SetComp elt [⟨tg, iter, ifs, 0⟩] scope pos) 0 (.ref it) (.ref D) (compEnvC scope (cellsFrom (s3.heap.objs.size + 1) scope.names (cloFrom X.env.cells scope.names [])) s3.heap.objs.size X.env))
      (compPost (model X.prog X.w) X.A X.xe none (EP X pins σ Q) (.ref D) s3.heap.objs.size) { s3 with heap := pushCells (s3.heap.push { cls := .type "dict", data := .dict #[] }) scope.names } by
    rw [e3] at run
    exact run
  clear e3
  obtain ⟨ce, ece⟩ : ∃ ce, compEnvC scope (cellsFrom (s3.heap.objs.size + 1) scope.names (cloFrom X.env.cells scope.names [])) s3.heap.objs.size X.env = ce := ⟨_, rfl⟩
  have loc : ce.locals = s3.heap.objs.size := by
    rw [← ece]
    rfl
  rw [ece] at IB pt ps pm ⊢
  clear ece
  have z1 : Z 0 m0 G0 := z0
  clear_value G0
  obtain ⟨s4, e4⟩ : ∃ s4 : Shared, ({ s3 with heap := pushCells (s3.heap.push { cls := .type "dict", data := .dict #[] }) scope.names } : Shared) = s4 := ⟨_, rfl⟩
  have lay4 : ∀ b o, s3.heap.get? b = some o → s4.heap.get? b = some o := by
    intro b o e
    rw [← e4]
    exact pushCells_keeps _ _ _ _ (Heap.get?_push_of_some _ e)
  rw [e4] at IB ⊢
  clear e4
  have st4 : tn 0 s4.heap := T.keep _ _ _ st3 fun b _ o e => lay4 b o e
  let B : Cx := X.blk s3 G0 scope ce fp
  have feetB : ∀ {τ : L2.St} {G : Hp} {s' : Shared}, Inv B [] τ G s' → (∀ b ∈ fp, G b = none) → ∀ b ∈ fp, FpOk B [] G b := by
    intro τ G s' I' cl b hb
    refine ⟨cl b hb, (I'.ok.exf b hb).1, I'.ok.exfs b hb, Or.inl hb, ?_, ?_⟩
    · exact fun x c e => (I'.ok.exf b hb).2 x c e
    · intro p hp
      exact absurd (show p ∈ ([] : List (Addr × Obj)) ++ [] from hp) (by simp)
  have loop : codeAny (model X.prog X.w) X.A (.compLoop (.SetComp elt [⟨tg, iter, ifs, 0⟩] scope pos) 0 (.ref it) (.ref D) ce) (compPost (model X.prog X.w) X.A X.xe none (EP X pins σ Q) (.ref D) s3.heap.objs.size) s4 := by
    refine PpSet.compLoopS_any (fun n s' => ∃ i G, Inv B [] (wipe σ (own.map (·.2))) G s' ∧ tn i s'.heap ∧ (∀ b ∈ fp, G b = none) ∧ Z i n G) ?_ m0 ⟨0, G0, IB, st4, clear0, z1⟩
    rintro n s5 ⟨i, G5, I5, st5, cl5, z5⟩
    rcases turn i n G5 z5 with ⟨stop, done⟩ | ⟨go, Nx, next, step⟩
    · refine thnF (T.done B rfl rfl rfl calm i [] s5 _ G5 (fun _ _ => False) I5 (feetB I5 cl5) st5 stop) ?_
      rintro r s6 ⟨rfl, I6⟩
      have I7 : Inv X pins σ G5 s6 := by
        refine I3.call' (ch := fp) I6.os I6.base I6.hok I6.bare fun b hb => ?_
        obtain ⟨⟨_, a1, a2, a3, a4, a5⟩, _⟩ := feet b hb
        exact ⟨a3, a1, a4, a5⟩
      have gone : G5 s3.heap.objs.size = none := by
        have e : G5 ce.locals = none := I6.free
        rwa [loc] at e
      obtain ⟨m, hn, _⟩ := I6.loc
      have hn : s6.heap.Ns ce.locals m := hn
      rw [loc] at hn
      obtain ⟨f0, f1, f2', f3, f4, f5⟩ := I3.fpOk (b := s3.heap.objs.size) (Nat.le_refl _) gone
      refine ⟨m, hn, fun h'' sb => ⟨.ref D, G5, ?_, rfl, done⟩⟩
      exact I7.turned (t' := s6.toks) (fun b o hb e => (sb.2 b hb).trans e) f0 f1 f3 f4 f5
    · refine thnF (T.item B rfl rfl rfl calm i [] s5 _ G5 (fun _ _ => False) I5 (feetB I5 cl5) st5 go) ?_
      rintro r s6 ⟨u, rfl, h6⟩
      refine thnF h6 ?_
      rintro _ s7 ⟨x, G7, I7, r7, y7, st7, cl7⟩
      have I7' := I7.pinned (feetB I7 cl7) (T.obj _ _ st7)
      refine thnF (pt.run _ s7 _ G7 x u _ I7' r7 (step x G7 y7)) ?_
      rintro _ s8 ⟨τ, G8, I8, wp8, q8⟩
      refine thnF (ps.run _ s8 τ G8 _ I8 q8) ?_
      rintro b s9 ⟨G9, I9, q9⟩
      have close : ∀ {s' : Shared} {G' : Hp}, Inv B ([] ++ pinsAt fp s7.heap) τ G' s' → Nx G' → ∃ m, m < n ∧ ∃ i G', Inv B [] (wipe σ (own.map (·.2))) G' s' ∧ tn i s'.heap ∧ (∀ b ∈ fp, G' b = none) ∧ Z i m G' := by
        intro s' G' I' nx
        obtain ⟨m', lt, z'⟩ := next G' nx
        have held : ∀ b ∈ fp, ∀ o, s7.heap.get? b = some o → s'.heap.get? b = some o ∧ G' b = none := by
          intro b hb o e
          have z := I'.pin (b, o) (List.mem_append_right _ (List.mem_append_right _ (mem_pinsAt hb e)))
          exact ⟨z.1, z.2.1⟩
        refine ⟨m', lt, i + 1, G', ?_, ?_, ?_, z'⟩
        · refine (I'.unpinned (pins := [])).weak (by rw [← wp8, wipe_length]) fun j v e => ?_
          rw [← wp8] at e
          exact (wipe_some e).1
        · exact T.keep _ _ _ st7 fun b hb o e => (held b hb o e).1
        · intro b hb
          obtain ⟨o, e, _⟩ := T.obj _ _ st7 b hb
          exact (held b hb o e).2
      cases b with
      | false =>
        rw [if_neg Bool.false_ne_true] at q9
        rw [if_neg Bool.false_ne_true]
        exact close I9 q9
      | true =>
        rw [if_pos rfl] at q9
        rw [if_pos rfl]
        refine thnF (pm.run _ s9 τ G9 _ I9 q9) ?_
        rintro z s10 ⟨y, G10, I10, r10, c, k, L, rfl, hD10, hL, hk, few, nx⟩
        cases (show z = Value.ref c from r10)
        exact add_set (X := B) I10 hu hD10 hL hk few fun s11 L' c1 c2 I11 => close I11 (nx L' c1 c2)
  exact PpSet.codeAny_compStart_set loop (T.self X.A 0 _ _ _ st4 loop)
end
end RS
/-! {k: v for x in a for y in b}: keys tuples -/
namespace RS
open PySem PySem.Spec PyProof.Rows L2
theorem turnD0 (kx vx t0 i0 t1 i1 : Expr) (scope : Scope) (pos : Pos) (it : Value) (D : Addr) (env : Env) :
    compTurn (.DictComp kx vx [⟨t0, i0, [], 0⟩, ⟨t1, i1, [], 0⟩] scope pos) 0 it (.ref D) env = (do
      standAt i0.pos
      match ← pyNext it with
      | none => pure (.done .next)
      | some v =>
        letOwnedTupleGo t0 it v
        assign t0 env v
        let src ← eval i1 env
        standAt i1.pos
        let src ← foldedSetIterable i1 env src
        let _ ← runOwn (.compStart (.DictComp kx vx [⟨t0, i0, [], 0⟩, ⟨t1, i1, [], 0⟩] scope pos) 1 (← holding [src] (pyIter src)) (.ref D) env) env
        again (.compLoop (.DictComp kx vx [⟨t0, i0, [], 0⟩, ⟨t1, i1, [], 0⟩] scope pos) 0 it (.ref D) env)) := by rfl
theorem turnD1 (kx vx t0 i0 t1 i1 : Expr) (scope : Scope) (pos : Pos) (it : Value) (D : Addr) (env : Env) :
    compTurn (.DictComp kx vx [⟨t0, i0, [], 0⟩, ⟨t1, i1, [], 0⟩] scope pos) 1 it (.ref D) env = (do
      standAt i1.pos
      match ← pyNext it with
      | none => pure (.done .next)
      | some v =>
        letOwnedTupleGo t1 it v
        assign t1 env v
        (do
          let kv ← eval kx env
          let vv ← holding [kv] (eval vx env)
          standAt { kx.pos with endLine := vx.pos.endLine, endCol := vx.pos.endCol }
          holding [kv, vv] (dictSet D kv vv))
        again (.compLoop (.DictComp kx vx [⟨t0, i0, [], 0⟩, ⟨t1, i1, [], 0⟩] scope pos) 1 it (.ref D) env)) := by rfl
section
variable {prog : Program} {w : World} {A : Around} {R : Result → Shared → Prop} {s : Shared} {kx vx t0 i0 t1 i1 : Expr} {scope : Scope} {pos : Pos} {it : Value} {D : Addr} {env : Env}
theorem outD (fold : ∀ x, foldedSetIterable i1 env x = pure x) (J : Nat → Shared → Prop)
    (turn : ∀ n s, J n s → wpAny (model prog w) A (pyNext it) (fun r s1 => match r with
      | none => R (.ok .next) s1
      | some v => wpAny (model prog w) A (letOwnedTupleGo t0 it v) (fun _ s2 => wpAny (model prog w) A (assign t0 env v) (fun _ s3 => wpAny (model prog w) A (eval i1 env) (fun x s4 => wpAny (model prog w) A (pyIter x) (fun it1 s5 =>
          codeAny (model prog w) A (.compStart (.DictComp kx vx [⟨t0, i0, [], 0⟩, ⟨t1, i1, [], 0⟩] scope pos) 1 it1 (.ref D) env) (fun r s' => match r with
            | .ok _ => ∃ m, m < n ∧ J m s'
            | .error _ => False) s5) (notedBy (model prog w) A env fun e s' => R (.error e) s') s4) (notedBy (model prog w) A env fun e s' => R (.error e) s') s3)
          (notedBy (model prog w) A env fun e s' => R (.error e) s') s2) (notedBy (model prog w) A env fun e s' => R (.error e) s') s1) (notedBy (model prog w) A env fun e s' => R (.error e) s') s)
    (n : Nat) (h : J n s) : codeAny (model prog w) A (.compLoop (.DictComp kx vx [⟨t0, i0, [], 0⟩, ⟨t1, i1, [], 0⟩] scope pos) 0 it (.ref D) env) R s := by
  refine codeAny_loop rfl J ?_ n h
  intro n s hJ
  show wpAny _ A ((compTurn (.DictComp kx vx [⟨t0, i0, [], 0⟩, ⟨t1, i1, [], 0⟩] scope pos) 0 it (.ref D) env).onRaise (fun x => do noteFrame x env; theTreesLotGoes x)) _ _ s
  refine wpAny_noted ?_
  rw [turnD0]
  refine wpAny_bind (wpAny_standAt (wpAny_bind (wpAny_mono (turn n s hJ) ?_ fun _ _ z => z)))
  intro r s1 h1
  cases r with
  | none => exact wpAny_pure h1
  | some v =>
    refine wpAny_bind (wpAny_mono h1 (fun _ s2 h2 => ?_) fun _ _ z => z)
    refine wpAny_bind (wpAny_mono h2 (fun _ s3 h3 => ?_) fun _ _ z => z)
    refine wpAny_bind (wpAny_mono h3 (fun x s4 h4 => ?_) fun _ _ z => z)
    refine wpAny_bind (wpAny_standAt (wpAny_bind (wpAny_of_eq (fold x) (wpAny_bind (wpAny_holding (wpAny_mono h4 (fun it1 s5 h5 => ?_) fun _ _ z => z))))))
    refine wpAny_bind (wpAny_runOwn ?_)
    rw [Around.mark_none]
    refine codeAny_mono h5 ?_
    intro r s' hr
    cases r with
    | error e => exact hr.elim
    | ok f => exact wpAny_pure ⟨rfl, hr⟩
theorem inD (J : Nat → Shared → Prop)
    (turn : ∀ n s, J n s → wpAny (model prog w) A (pyNext it) (fun r s1 => match r with
      | none => R (.ok .next) s1
      | some v => wpAny (model prog w) A (letOwnedTupleGo t1 it v) (fun _ s2 => wpAny (model prog w) A (assign t1 env v) (fun _ s3 => wpAny (model prog w) A (eval kx env) (fun kv s4 => wpAny (model prog w) A (eval vx env) (fun vv s5 =>
          wpAny (model prog w) A (dictSet D kv vv) (fun _ s6 => ∃ m, m < n ∧ J m s6) (notedBy (model prog w) A env fun e s' => R (.error e) s') s5) (notedBy (model prog w) A env fun e s' => R (.error e) s') s4) (notedBy (model prog w) A env fun e s' => R (.error e) s') s3)
          (notedBy (model prog w) A env fun e s' => R (.error e) s') s2) (notedBy (model prog w) A env fun e s' => R (.error e) s') s1) (notedBy (model prog w) A env fun e s' => R (.error e) s') s)
    (n : Nat) (h : J n s) : codeAny (model prog w) A (.compLoop (.DictComp kx vx [⟨t0, i0, [], 0⟩, ⟨t1, i1, [], 0⟩] scope pos) 1 it (.ref D) env) R s := by
  refine codeAny_loop rfl J ?_ n h
  intro n s hJ
  show wpAny _ A ((compTurn (.DictComp kx vx [⟨t0, i0, [], 0⟩, ⟨t1, i1, [], 0⟩] scope pos) 1 it (.ref D) env).onRaise (fun x => do noteFrame x env; theTreesLotGoes x)) _ _ s
  refine wpAny_noted ?_
  rw [turnD1]
  refine wpAny_bind (wpAny_standAt (wpAny_bind (wpAny_mono (turn n s hJ) ?_ fun _ _ z => z)))
  intro r s1 h1
  cases r with
  | none => exact wpAny_pure h1
  | some v =>
    refine wpAny_bind (wpAny_mono h1 (fun _ s2 h2 => ?_) fun _ _ z => z)
    refine wpAny_bind (wpAny_mono h2 (fun _ s3 h3 => ?_) fun _ _ z => z)
    refine wpAny_bind (wpAny_bind (wpAny_mono h3 (fun kv s4 h4 => ?_) fun _ _ z => z))
    refine wpAny_bind (wpAny_holding (wpAny_mono h4 (fun vv s5 h5 => ?_) fun _ _ z => z))
    refine wpAny_bind (wpAny_standAt (wpAny_holding (wpAny_mono h5 (fun _ s6 h6 => ?_) fun _ _ z => z)))
    exact wpAny_pure ⟨rfl, h6⟩
theorem startD1 (h0 : codeAny (model prog w) A (.compLoop (.DictComp kx vx [⟨t0, i0, [], 0⟩, ⟨t1, i1, [], 0⟩] scope pos) 1 it (.ref D) env) R s)
    (h : wpAny (model prog w) A (pyIter it) (fun it' s' => codeAny (model prog w) A (.compLoop (.DictComp kx vx [⟨t0, i0, [], 0⟩, ⟨t1, i1, [], 0⟩] scope pos) 1 it' (.ref D) env) R s') (notedBy (model prog w) A env fun x s' => R (.error x) s') s) :
    codeAny (model prog w) A (.compStart (.DictComp kx vx [⟨t0, i0, [], 0⟩, ⟨t1, i1, [], 0⟩] scope pos) 1 it (.ref D) env) R s := by
  refine codeAny_of_tree ?_
  show wpAny _ _ ((compStart (.DictComp kx vx [⟨t0, i0, [], 0⟩, ⟨t1, i1, [], 0⟩] scope pos) 1 it (.ref D) env).onRaise (fun x => do noteFrame x env; standAt theWindowsPlace)) _ _ s
  refine wpAny_notedAt ?_
  unfold compStart
  show wpAny _ _ (ask >>= _) _ _ s
  refine wpAny_bind (wpAny_askSetting (wpAny_ite ?_))
  split
  · first
      | exact wpAny_pure (And.intro rfl h0)
      | exact wpAny_bind (wpAny_pure (wpAny_pure (And.intro rfl h0)))
  · refine wpAny_bind (wpAny_rule ?_)
    show wpAny _ _ (standAt i1.pos >>= _) _ _ s
    refine wpAny_bind (wpAny_standAt (wpAny_bind (wpAny_mono h ?_ fun _ _ z => z)))
    intro it' s' hi
    exact wpAny_pure (And.intro rfl hi)
end
section
variable {X : Cx}
/-- d[k] = v in a comprehension, k a tuple -/
theorem put_dict {pins : List (Addr × Obj)} {σ : L2.St} {H : Hp} {s : Shared} {E : Value → Shared → Prop} {D b : Addr} {kvs : List (List Key × V)} {k : List Key} {v : V} {r : Value} {Q : Unit → Shared → Prop} (hu : X.A.units + 1 < cLine) (I : Inv X pins σ H s)
    (hD : H D = some (.dT kvs)) (hb : H b = some (.tup (k.map kV))) (l : kvs.length < sizeLine) (rv : RelV v r) (h : ∀ s', Inv X pins σ (upd H D (.dT (putK kvs k v))) s' → Q () s') : wpAny (model X.prog X.w) X.A (dictSet D (.ref b) r) Q E s := by
  obtain ⟨z, hd, xs, rel, dd⟩ := dt_of I.hok hD
  have hl := length_putK kvs k v
  refine wpAny_dictSet_heap (hsz := by rw [← Paired.length rel]; exact z) (show (tupleKind (mixKind X.prog X.w)).room X.A from by (first | exact (show X.A.units < cLine from by omega) | exact tupleKind_room (by omega))) (key_of I.hok hb) dd ?_
  intro h' dd' hs
  refine h _ ?_
  obtain ⟨q, es, ep, hq, h2, h3, h4, _, h5⟩ := dd'
  refine d_write I (by rw [hD]; exact True.intro) hs ⟨q, hq⟩ ⟨by omega, hd, _, (rel.put k hb rv).keeps ?_, q, es, ep, hq, h2, h3, h4, h5⟩
  intro c ys ec
  rw [upd_ne (ne_of ec hD (fun z => nomatch z))]
  exact ec
end
end RS
namespace RS
open PySem PySem.Spec PyProof.Rows L2
/-- the member's wish -/
def putDT (D : Addr) (Nx : Hp → Prop) : V → V → Hp → Prop := fun y z G => ∃ (b : Addr) (kvs : List (List Key × V)) (k : List Key), y = .ref b ∧ G D = some (.dT kvs) ∧ G b = some (.tup (k.map kV)) ∧ kvs.length < sizeLine ∧ Nx (upd G D (.dT (putK kvs k z)))
/-- the second clause's rounds, out of which Nx is reached -/
def roundDT (wi1 : TI) (g1 : TG) (tk tv : TE) (vs1 : List Nat) (σ2 : L2.St) (D : Addr) (Nx : Hp → Prop) (G : Hp) : Prop := wi1 σ2 G fun J1 G4 => ∃ Z1 : Nat → Nat → Hp → Prop, (∃ m, Z1 0 m G4) ∧ ∀ j k G, Z1 j k G →
  (J1.stop j G ∧ Nx G) ∨ (J1.go j G ∧ ∃ N1 : Hp → Prop, (∀ G', N1 G' → ∃ k', k' < k ∧ Z1 (j + 1) k' G') ∧ ∀ x G', J1.yld j G x G' → g1 x (wipe σ2 vs1) G' fun σ3 G5 => wipe σ3 vs1 = wipe σ2 vs1 ∧ tk σ3 G5 fun y G6 => tv σ3 G6 fun z G7 => putDT D N1 y z G7)
def tDcT2 (wi : TI) (g : TG) (wi1 : TI) (g1 : TG) (tk tv : TE) (vs vs1 : List Nat) : TE := fun σ H Q => wi σ H fun J H1 => ∀ D, H1 D = none → ∃ Z : Nat → Nat → Hp → Prop, (∃ m, Z 0 m (upd H1 D (.dT []))) ∧ ∀ i m G, Z i m G →
  (J.stop i G ∧ Q (.ref D) G) ∨ (J.go i G ∧ ∃ Nx : Hp → Prop, (∀ G', Nx G' → ∃ m', m' < m ∧ Z (i + 1) m' G') ∧ ∀ x G', J.yld i G x G' → g x (wipe σ vs) G' fun σ2 G2 => wipe σ2 vs = wipe σ vs ∧ roundDT wi1 g1 tk tv vs1 σ2 D Nx G2)
section
variable {X : Cx}
theorem pe_dcT2 {kx vx tg iter tg1 iter1 : Expr} {scope : Scope} {own : List (PySem.Str × Nat)} {vs1 : List Nat} {pos : Pos} {wi wi1 : TI} {g g1 : TG} {tk tv : TE} (hu : X.A.units + 1 < cLine) (calm : X.calm = true) (nd : X.N.Nodup) (walk : PI X tg iter wi) (blk : BlkOk X.N X.env.scope scope own) (hv : ∀ i ∈ vs1, i ∈ own.map (·.2))
    (tgt : ∀ (s : Shared) (H : Hp) (C : Addr) (cl : List (PySem.Str × Addr)) (fp : List Addr), PG (X.blk s H scope (compEnvC scope cl C X.env) fp) tg g)
    (walk1 : ∀ (s : Shared) (H : Hp) (C : Addr) (cl : List (PySem.Str × Addr)) (fp : List Addr), PI (X.blk s H scope (compEnvC scope cl C X.env) fp) tg1 iter1 wi1)
    (tgt1 : ∀ (s : Shared) (H : Hp) (C : Addr) (cl : List (PySem.Str × Addr)) (fp : List Addr), PG (X.blk s H scope (compEnvC scope cl C X.env) fp) tg1 g1)
    (key : ∀ (s : Shared) (H : Hp) (C : Addr) (cl : List (PySem.Str × Addr)) (fp : List Addr), PE (X.blk s H scope (compEnvC scope cl C X.env) fp) kx tk)
    (val : ∀ (s : Shared) (H : Hp) (C : Addr) (cl : List (PySem.Str × Addr)) (fp : List Addr), PE (X.blk s H scope (compEnvC scope cl C X.env) fp) vx tv)
    (fold : ∀ x, foldedSetIterable iter X.env x = pure x := by intro _; rfl) (fold1 : ∀ env x, foldedSetIterable iter1 env x = pure x := by intro _ _; rfl) :
    PE X (.DictComp kx vx [⟨tg, iter, [], 0⟩, ⟨tg1, iter1, [], 0⟩] scope pos) (tDcT2 wi g wi1 g1 tk tv (own.map (·.2)) vs1) := by
  refine ⟨fun pins s σ H Q I wish => ?_⟩
  rw [arm_eval_DictComp]
  have captured : ∀ y ∈ scope.names, y.2 = .free → ∃ c, X.env.cells.lookup y.1 = some c := by
    intro y hy e
    cases blk.free y hy e with
    | inl k => exact I.ok.has _ (Or.inl k)
    | inr k => exact I.ok.has _ (Or.inr k)
  refine wpAny_comprehension_free (use := none) rfl fold (closure_ok captured) blk.kind ?_ (thn (walk.run pins s σ H _ I wish) ?_)
  · intro y hy e
    rw [blk.uniq y hy, e]
  intro xv s1 hx
  refine thn hx ?_
  rintro itv s2 ⟨it, fp, tn, J, H2, rfl, I2, T, st2, f2, q⟩
  refine wpAny_newObj_type (newEnv_comp ?_)
  obtain ⟨D, hD⟩ : ∃ D, s2.heap.objs.size = D := ⟨_, rfl⟩
  rw [hD]
  have fresh : H2 D = none := I2.hok.fresh (Nat.le_of_eq hD)
  obtain ⟨Z, ⟨m0, z0⟩, turn⟩ := q D fresh
  let G0 : Hp := upd H2 D (.dT [])
  obtain ⟨s3, e3⟩ : ∃ s3 : Shared, s3 = { s2 with heap := s2.heap.push { cls := .type "dict", data := .dict #[] } } := ⟨_, rfl⟩
  have I3 : Inv X pins σ G0 s3 := by
    rw [e3]
    refine I2.laid (t' := s2.toks) (fun b o e => Heap.get?_push_of_some _ e) (Nat.le_of_eq hD) ?_
    rw [← hD]
    exact dt_empty s2.heap I2.big
  have lay3 : ∀ b o, s2.heap.get? b = some o → s3.heap.get? b = some o := by
    intro b o e
    rw [e3]
    exact Heap.get?_push_of_some _ e
  have feet : ∀ b ∈ fp, FpOk X pins G0 b ∧ b < s3.heap.objs.size := by
    intro b hb
    obtain ⟨o, e, _⟩ := T.obj _ _ st2 b hb
    have lt := Heap.lt_size e
    have ne : b ≠ D := by
      rw [← hD]
      exact Nat.ne_of_lt lt
    refine ⟨⟨?_, (f2 b hb).2⟩, Heap.lt_size (lay3 b o e)⟩
    show upd H2 D _ b = none
    rw [upd_ne ne]
    exact (f2 b hb).1
  have st3 : tn 0 s3.heap := T.keep _ _ _ st2 fun b _ o e => lay3 b o e
  have IB := block_start I3 blk nd feet
  have pt := tgt s3 G0 s3.heap.objs.size (cellsFrom (s3.heap.objs.size + 1) scope.names (cloFrom X.env.cells scope.names [])) fp
  have pi1 := walk1 s3 G0 s3.heap.objs.size (cellsFrom (s3.heap.objs.size + 1) scope.names (cloFrom X.env.cells scope.names [])) fp
  have pt1 := tgt1 s3 G0 s3.heap.objs.size (cellsFrom (s3.heap.objs.size + 1) scope.names (cloFrom X.env.cells scope.names [])) fp
  have pk := key s3 G0 s3.heap.objs.size (cellsFrom (s3.heap.objs.size + 1) scope.names (cloFrom X.env.cells scope.names [])) fp
  have pv := val s3 G0 s3.heap.objs.size (cellsFrom (s3.heap.objs.size + 1) scope.names (cloFrom X.env.cells scope.names [])) fp
  have clear0 : ∀ b ∈ fp, G0 b = none := fun b hb => (feet b hb).1.1
  suffices run : codeAny (model X.prog X.w) X.A (.compStart (.DictComp kx vx [⟨tg, iter, [], 0⟩, ⟨tg1, iter1, [], 0⟩] scope pos) 0 (.ref it) (.ref D) (compEnvC scope (cellsFrom (s3.heap.objs.size + 1) scope.names (cloFrom X.env.cells scope.names [])) s3.heap.objs.size X.env))
      (compPost (model X.prog X.w) X.A X.xe none (EP X pins σ Q) (.ref D) s3.heap.objs.size) { s3 with heap := pushCells (s3.heap.push { cls := .type "dict", data := .dict #[] }) scope.names } by
    rw [e3] at run
    exact run
  clear e3
  obtain ⟨ce, ece⟩ : ∃ ce, compEnvC scope (cellsFrom (s3.heap.objs.size + 1) scope.names (cloFrom X.env.cells scope.names [])) s3.heap.objs.size X.env = ce := ⟨_, rfl⟩
  have loc : ce.locals = s3.heap.objs.size := by
    rw [← ece]
    rfl
  rw [ece] at IB pt pi1 pt1 pk pv ⊢
  clear ece
  have z1 : Z 0 m0 G0 := z0
  clear_value G0
  obtain ⟨s4, e4⟩ : ∃ s4 : Shared, ({ s3 with heap := pushCells (s3.heap.push { cls := .type "dict", data := .dict #[] }) scope.names } : Shared) = s4 := ⟨_, rfl⟩
  have lay4 : ∀ b o, s3.heap.get? b = some o → s4.heap.get? b = some o := by
    intro b o e
    rw [← e4]
    exact pushCells_keeps _ _ _ _ (Heap.get?_push_of_some _ e)
  rw [e4] at IB ⊢
  clear e4
  have st4 : tn 0 s4.heap := T.keep _ _ _ st3 fun b _ o e => lay4 b o e
  let B : Cx := X.blk s3 G0 scope ce fp
  have feetB : ∀ {τ : L2.St} {G : Hp} {s' : Shared}, Inv B [] τ G s' → (∀ b ∈ fp, G b = none) → ∀ b ∈ fp, FpOk B [] G b := by
    intro τ G s' I' cl b hb
    refine ⟨cl b hb, (I'.ok.exf b hb).1, I'.ok.exfs b hb, Or.inl hb, ?_, ?_⟩
    · exact fun x c e => (I'.ok.exf b hb).2 x c e
    · intro p hp
      exact absurd (show p ∈ ([] : List (Addr × Obj)) ++ [] from hp) (by simp)
  have loop : codeAny (model X.prog X.w) X.A (.compLoop (.DictComp kx vx [⟨tg, iter, [], 0⟩, ⟨tg1, iter1, [], 0⟩] scope pos) 0 (.ref it) (.ref D) ce) (compPost (model X.prog X.w) X.A X.xe none (EP X pins σ Q) (.ref D) s3.heap.objs.size) s4 := by
    refine outD (fold1 ce) (fun n s' => ∃ i G, Inv B [] (wipe σ (own.map (·.2))) G s' ∧ tn i s'.heap ∧ (∀ b ∈ fp, G b = none) ∧ Z i n G) ?_ m0 ⟨0, G0, IB, st4, clear0, z1⟩
    rintro n s5 ⟨i, G5, I5, st5, cl5, z5⟩
    rcases turn i n G5 z5 with ⟨stop, done⟩ | ⟨go, Nx, next, step⟩
    · refine thnF (T.done B rfl rfl rfl calm i [] s5 _ G5 (fun _ _ => False) I5 (feetB I5 cl5) st5 stop) ?_
      rintro r s6 ⟨rfl, I6⟩
      have I7 : Inv X pins σ G5 s6 := by
        refine I3.call' (ch := fp) I6.os I6.base I6.hok I6.bare fun b hb => ?_
        obtain ⟨⟨_, a1, a2, a3, a4, a5⟩, _⟩ := feet b hb
        exact ⟨a3, a1, a4, a5⟩
      have gone : G5 s3.heap.objs.size = none := by
        have e : G5 ce.locals = none := I6.free
        rwa [loc] at e
      obtain ⟨m, hn, _⟩ := I6.loc
      have hn : s6.heap.Ns ce.locals m := hn
      rw [loc] at hn
      obtain ⟨f0, f1, f2', f3, f4, f5⟩ := I3.fpOk (b := s3.heap.objs.size) (Nat.le_refl _) gone
      refine ⟨m, hn, fun h'' sb => ⟨.ref D, G5, ?_, rfl, done⟩⟩
      exact I7.turned (t' := s6.toks) (fun b o hb e => (sb.2 b hb).trans e) f0 f1 f3 f4 f5
    · refine thnF (T.item B rfl rfl rfl calm i [] s5 _ G5 (fun _ _ => False) I5 (feetB I5 cl5) st5 go) ?_
      rintro r s6 ⟨u, rfl, h6⟩
      refine thnF h6 ?_
      rintro _ s7 ⟨x, G7, I7, r7, y7, st7, cl7⟩
      have I7' := I7.pinned (feetB I7 cl7) (T.obj _ _ st7)
      refine thnF (pt.run _ s7 _ G7 x u _ I7' r7 (step x G7 y7)) ?_
      rintro _ s8 ⟨τ, G8, I8, wp8, q8⟩
      -- the turn's end
      have close : ∀ {τ' : L2.St} {s' : Shared} {G' : Hp}, Inv B ([] ++ pinsAt fp s7.heap) τ' G' s' → (wipe σ (own.map (·.2))).length = τ'.length → (∀ (j : Nat) v, (wipe σ (own.map (·.2)))[j]? = some (some v) → τ'[j]? = some (some v)) → Nx G' →
          ∃ m, m < n ∧ ∃ i G', Inv B [] (wipe σ (own.map (·.2))) G' s' ∧ tn i s'.heap ∧ (∀ b ∈ fp, G' b = none) ∧ Z i m G' := by
        intro τ' s' G' I' hl hk nx
        obtain ⟨m', lt, z'⟩ := next G' nx
        have held : ∀ b ∈ fp, ∀ o, s7.heap.get? b = some o → s'.heap.get? b = some o ∧ G' b = none := by
          intro b hb o e
          have z := I'.pin (b, o) (List.mem_append_right _ (List.mem_append_right _ (mem_pinsAt hb e)))
          exact ⟨z.1, z.2.1⟩
        refine ⟨m', lt, i + 1, G', (I'.unpinned (pins := [])).weak hl hk, ?_, ?_, z'⟩
        · exact T.keep _ _ _ st7 fun b hb o e => (held b hb o e).1
        · intro b hb
          obtain ⟨o, e, _⟩ := T.obj _ _ st7 b hb
          exact (held b hb o e).2
      have len8 : (wipe σ (own.map (·.2))).length = (wipe τ vs1).length := by
        rw [← wp8, wipe_length, wipe_length]
      have know : ∀ (j : Nat) v, (wipe σ (own.map (·.2)))[j]? = some (some v) → (wipe τ vs1)[j]? = some (some v) := by
        intro j v e
        rw [← wp8] at e
        obtain ⟨a, b⟩ := wipe_some e
        rw [wipe_out fun z => b (hv j z)]
        exact a
      refine thnF (pi1.run _ s8 τ G8 _ I8 q8) ?_
      intro xv1 s9 hx1
      refine thnF hx1 ?_
      rintro itv1 s10 ⟨it1, fp1, tn1, J1, G10, rfl, I10, T1, st10, f10, Z1, ⟨m1, w1⟩, turn1⟩
      have feet1 : ∀ {G' : Hp}, (∀ b ∈ fp1, G' b = none) → ∀ b ∈ fp1, FpOk B ([] ++ pinsAt fp s7.heap) G' b := fun cl b hb => ⟨cl b hb, (f10 b hb).2⟩
      have inner : codeAny (model X.prog X.w) X.A (.compLoop (.DictComp kx vx [⟨tg, iter, [], 0⟩, ⟨tg1, iter1, [], 0⟩] scope pos) 1 (.ref it1) (.ref D) ce)
          (fun r s' => match r with
            | .ok _ => ∃ m, m < n ∧ ∃ i G', Inv B [] (wipe σ (own.map (·.2))) G' s' ∧ tn i s'.heap ∧ (∀ b ∈ fp, G' b = none) ∧ Z i m G'
            | .error _ => False) s10 := by
        refine inD (fun k s' => ∃ j G', Inv B ([] ++ pinsAt fp s7.heap) (wipe τ vs1) G' s' ∧ tn1 j s'.heap ∧ (∀ b ∈ fp1, G' b = none) ∧ Z1 j k G') ?_ m1 ⟨0, G10, I10.weak (wipe_length _ _) (fun j v e => (wipe_some e).1), st10, fun b hb => (f10 b hb).1, w1⟩
        rintro k s11 ⟨j, G11, I11, st11, cl11, z11⟩
        rcases turn1 j k G11 z11 with ⟨stop1, nx1⟩ | ⟨go1, N1, next1, step1⟩
        · refine thnF (T1.done B rfl rfl rfl calm j _ s11 (wipe τ vs1) G11 (fun _ _ => False) I11 (feet1 cl11) st11 stop1) ?_
          rintro r s12 ⟨rfl, I12⟩
          exact close I12 len8 know nx1
        · refine thnF (T1.item B rfl rfl rfl calm j _ s11 (wipe τ vs1) G11 (fun _ _ => False) I11 (feet1 cl11) st11 go1) ?_
          rintro r s12 ⟨u1, rfl, h12⟩
          refine thnF h12 ?_
          rintro _ s13 ⟨x1, G13, I13, r13, y13, st13, cl13⟩
          have I13' := I13.pinned (feet1 cl13) (T1.obj _ _ st13)
          refine thnF (pt1.run _ s13 (wipe τ vs1) G13 x1 u1 _ I13' r13 (step1 x1 G13 y13)) ?_
          rintro _ s14 ⟨τ2, G14, I14, wp14, q14⟩
          refine thnF (pk.run _ s14 τ2 G14 _ I14 q14) ?_
          rintro kv s15 ⟨y, G15, I15, r15, q15⟩
          refine thnF (pv.run _ s15 τ2 G15 _ I15 q15) ?_
          rintro vv s16 ⟨z, G16, I16, r16, b, kvs, kk, rfl, hD16, hb16, few, nx⟩
          cases (show kv = Value.ref b from r15)
          refine put_dict (X := B) hu I16 hD16 hb16 few r16 fun s17 I17 => ?_
          obtain ⟨k', lt, z'⟩ := next1 _ nx
          have held : ∀ b ∈ fp1, ∀ o, s13.heap.get? b = some o → s17.heap.get? b = some o ∧ upd G16 D (.dT (putK kvs kk z)) b = none := by
            intro b hb o e
            have z := I17.pin (b, o) (List.mem_append_right _ (List.mem_append_right _ (mem_pinsAt hb e)))
            exact ⟨z.1, z.2.1⟩
          refine ⟨k', lt, j + 1, _, I17.unpinned.weak (by rw [← wp14, wipe_length]) ?_, ?_, ?_, z'⟩
          · intro j v e
            rw [← wp14] at e
            exact (wipe_some e).1
          · exact T1.keep _ _ _ st13 fun b hb o e => (held b hb o e).1
          · intro b hb
            obtain ⟨o, e, _⟩ := T1.obj _ _ st13 b hb
            exact (held b hb o e).2
      exact startD1 inner (T1.self X.A 0 _ _ _ st10 inner)
  exact codeAny_compStart_dict loop (T.self X.A 0 _ _ _ st4 loop)
end
end RS
namespace DL
open PySem PySem.Spec PyProof.Rows L2
/-! ### own classes' instances by data -/
section
variable {K : PySem.W.Frag} {ρ : Ro} {μ : Mu} {P : PD} {ta tb tc te : TE} {d e : Dat}
def fldD (ns : List Str) (xs : List Dat) (f : Str) : Option Dat := (ns.zip xs).lookup f
theorem fld_look {A : As} {H : Hp} {f : Str} : ∀ {fs : List (Str × V)} {ds : List Dat}, Dns K A H (fs.map (·.2)) ds → fldD (fs.map (·.1)) ds f = some d → ∃ v, fs.lookup f = some v ∧ Dn K A H v d
  | [], ds, h, e => by simp [fldD] at e
  | (g, v) :: fs, _, .cons (d := d0) (ds := ds0) h t, e => by
    have e' : (((g, d0) :: (fs.map (·.1)).zip ds0).lookup f) = some d := e
    by_cases c : f = g
    · subst c
      simp [List.lookup] at e'
      subst e'
      exact ⟨v, by simp [List.lookup], h⟩
    · have ne : (f == g) = false := by simpa using c
      rw [List.lookup, ne] at e'
      obtain ⟨u, q1, q2⟩ := fld_look (fs := fs) t e'
      exact ⟨u, by rw [List.lookup, ne]; exact q1, q2⟩
theorem no_look {f : Str} : ∀ {fs : List (Str × V)}, f ∉ fs.map (·.1) → fs.lookup f = none
  | [], _ => rfl
  | (g, v) :: fs, h => by
    have ne : (f == g) = false := by
      have : f ≠ g := fun e => h (by simp [e])
      simpa using this
    rw [List.lookup, ne]
    exact no_look fun m => h (List.mem_cons_of_mem _ m)
theorem ew_fld {f : Str} (h : EW K ta ρ μ fun d m => ∃ C ns xs e, d = .obj C ns xs ∧ NoAttr K C f ∧ fldD ns xs f = some e ∧ P e m) : EW K (tFld K ta f) ρ μ P := fun A σ H s v Q q =>
  h A σ H s v _ fun A1 H1 x d m e1 s1 x1 ⟨C, ns, xs, e, hd, na, hf, p⟩ => by
    cases x1 with
    | @obj a C' dx fs ds oc ho t =>
      cases hd
      obtain ⟨u, q1, q2⟩ := fld_look t hf
      exact ⟨a, _, dx, fs, u, rfl, (hid_of ho).1, oc.cls, na, q1, q A1 H1 u e m e1 s1 q2 p⟩
    | _ => cases hd
theorem ew_prop {C : Addr} {F : FW} {E : XK} (h : EW K ta ρ μ fun d m => (∃ ns xs, d = .obj C ns xs) ∧ F [d] m P) : EW K (tProp C (spD K F) [] E ta) ρ μ P := fun A σ H s v Q q =>
  h A σ H s v _ fun A1 H1 x d m e1 s1 x1 ⟨⟨ns, xs, hd⟩, p⟩ => by
    subst hd
    cases x1 with
    | @obj a _ dx fs ds oc ho t =>
      exact ⟨a, dx, fs, rfl, (hid_of ho).1, A1, m, [.obj C _ _], P, s1, .cons (.obj oc ho t) .nil, p, fun A2 H2 u d2 m2 e2 s2 y pf => q A2 H2 u d2 m2 (e1.trans e2) s2 y pf⟩
theorem ew_meth {C : Addr} {me : Str} {F : FW} {E : XK} {t : TA} (h : EW K ta ρ μ fun d m1 => ∃ ns xs, d = .obj C ns xs ∧ me ∉ ns ∧ AW K t ρ m1 fun ds m2 => F (d :: ds) m2 P) : EW K (tMeth C me (spD K F) [] E ta t) ρ μ P := fun A σ H s v Q q =>
  h A σ H s v _ fun A1 H1 x d m e1 s1 x1 ⟨ns, xs, hd, hm, p⟩ => by
    subst hd
    cases x1 with
    | @obj a _ dx fs ds oc ho t =>
      refine ⟨a, dx, fs, rfl, (hid_of ho).1, no_look hm, ?_⟩
      refine p A1 σ H1 s1 (v.mono e1) _ fun A2 H2 vs es m2 e2 s2 y pf => ?_
      exact ⟨A2, m2, _ :: es, P, s2, .cons ((Dn.obj oc ho t).mono e2) (by rw [List.append_nil]; exact y), pf, fun A3 H3 u d3 m3 e3 s3 z pz => q A3 H3 u d3 m3 ((e1.trans e2).trans e3) s3 z pz⟩
theorem ew_isiC {C : Addr} (h : EW K ta ρ μ fun d m => ∃ b, PySem.W.kitOne K (tyV d) (.ref C) = some b ∧ P (.bl b) m) : EW K (tCB (rIsi K) (tCons ta (tCons (tC (.ref C)) tNil))) ρ μ P := fun A σ H s v Q q =>
  h A σ H s v _ fun A1 H1 x d m e1 s1 x1 ⟨b, hb, p⟩ => ⟨x, .ref C, tyV d, .ref C, b, rfl, .own C, ty_of s1 x1, hb, q A1 H1 _ _ m e1 s1 (.bl b) p⟩

/-! ### a new instance -/
theorem ext_stay {A : As} {H H' : Hp} (k : ∀ a o, H a = some o → H' a = some o) : Ext A H A H' := ⟨fun b o q => by
  obtain ⟨q1, q2⟩ := hid_of q
  exact hid_to (k _ _ q1) q2, fun _ _ q => q, fun _ _ _ ⟨xs, e⟩ => ⟨xs, k _ _ e⟩, fun _ _ _ ⟨xs, e⟩ => ⟨xs, k _ _ e⟩⟩
/-- what is kept while older things stay as they are -/
theorem Sto.stay {A : As} {H H' : Hp} (s : Sto K A H μ) (k : ∀ a o, H a = some o → H' a = some o) : Sto K A H' μ :=
  ⟨s.len, s.bl, fun i a e => by
    obtain ⟨o, ho⟩ := (s.at_ i a e).has
    exact (s.at_ i a e).tr (fun vs ds _ t => t.mono (ext_stay k)) (by rw [k _ _ ho, ho]) rfl, s.inj⟩
/-- what __init__ promises: F tells of the arguments' data the attributes' names and data -/
abbrev FI := List Dat → (List Str → List Dat → Prop) → Prop
def spI (K : PySem.W.Frag) (C : Addr) (F : FI) : Sp := fun vs H Q _ => ∃ (A : As) (x dx : Addr) (ws : List V) (ds : List Dat) (R : List Str → List Dat → Prop), vs = .ref x :: ws ∧ (∀ a, some a ∈ A → H a ≠ none) ∧ H x = some (.ins C dx []) ∧ Dns K (A ++ [some x]) H ws ds ∧ F ds R ∧
  ∀ H' fs xs, (∀ a o, a ≠ x → H a = some o → H' a = some o) → H' x = some (.ins C dx fs) → Dns K (A ++ [some x]) H' (fs.map (·.2)) xs → noCells xs = true → R (fs.map (·.1)) xs → Q .non H'
theorem spI_len {C : Addr} {F : FI} {n : Nat} (hF : ∀ ds R, F ds R → ds.length = n) {vs : List V} {H : Hp} {Q : VK} {E : XK} (h : spI K C F vs H Q E) : vs.length = n + 1 := by
  obtain ⟨A, x, dx, ws, ds, R, rfl, _, _, hds, f, _⟩ := h
  rw [List.length_cons, hds.length, hF ds R f]
theorem ew_make {C : Addr} {F : FI} {E : XK} {t : TA} (oc : OC K C) (h : AW K t ρ μ fun ds m => F ds fun ns xs => P (.obj C ns xs) m) : EW K (tMake C (spI K C F) [] E t) ρ μ P := fun A σ H s v Q q =>
  h A σ H s v _ fun A1 H1 vs ds m e1 s1 x1 p => fun x dx hx hdx hne => by
    have keep0 : ∀ a o, H1 a = some o → upd (upd H1 dx (.own x)) x (.ins C dx []) a = some o := fun a o e => by
      rw [upd_ne (ne_of_none e hx), upd_ne (ne_of_none e hdx)]
      exact e
    have e2 : Ext A1 H1 (A1 ++ [some x]) (upd (upd H1 dx (.own x)) x (.ins C dx [])) := ⟨fun a o e => by
      obtain ⟨q1, q2⟩ := hid_of e
      refine hid_to (keep0 a o q1) fun z => ?_
      rcases List.mem_append.mp z with z | z
      · exact q2 z
      · have := Option.some.inj (List.mem_singleton.mp z)
        exact ne_of_none q1 hx this, fun k a e => by rw [List.getElem?_append_left (List.getElem?_eq_some_iff.mp e).1]; exact e, fun _ _ _ ⟨xs, e⟩ => ⟨xs, keep0 _ _ e⟩, fun _ _ _ ⟨xs, e⟩ => ⟨xs, keep0 _ _ e⟩⟩
    refine ⟨A1, x, dx, vs, ds, _, by rw [List.append_nil], fun a ha => ?_, upd_same, x1.mono e2, p, fun H' fs xs kp hx' hfs nc r => ⟨rfl, ?_⟩⟩
    · obtain ⟨k, hk⟩ := List.mem_iff_getElem?.mp ha
      obtain ⟨o, z⟩ := (s1.at_ k a hk).has
      rw [keep0 a _ z]
      exact fun z => nomatch z
    have keep1 : ∀ a o, H1 a = some o → H' a = some o := fun a o e => kp a o (ne_of_none e hx) (keep0 a o e)
    refine q A1 H' (.ref x) _ m (e1.trans (ext_stay keep1)) (s1.stay keep1) (.obj oc (hid_to hx' (s1.fresh hx)) (hfs.mono0 (fun a o e => ?_) nc)) r
    obtain ⟨q1, q2⟩ := hid_of e
    exact hid_to q1 fun z => q2 (List.mem_append_left _ z)
/-- a def that changes nothing it was handed, called where more is going on: by plain data -/
theorem call_raw {A : As} {F : FW} {vs : List V} {ds : List Dat} {H : Hp} {Q : VK} {E : XK} {R : Dat → Prop} (h : Dns K A H vs ds) (nc : noCells ds = true) (f : F ds [] fun d m => R d ∧ m = []) (k : ∀ H' v d, (∀ a o, H a = some o → H' a = some o) → Dn K [] H' v d → R d → Q v H') : spD K F vs H Q E := by
  refine ⟨[], [], ds, _, ⟨rfl, fun k ds e => by simp at e, fun k b e => by simp at e, fun j k b e => by simp at e⟩, h.mono0 (fun a o e => ?_) nc, f, fun A' H' v d m e s y ⟨r, hm⟩ => ?_⟩
  · exact hid_to (hid_of e).1 (by simp)
  · subst hm
    have : A' = [] := List.eq_nil_of_length_eq_zero (by rw [s.len]; rfl)
    subst this
    refine k H' v d (fun a o q => ?_) y r
    exact (hid_of (e.keep a o (hid_to q (by simp)))).1
end
end DL
namespace DL
open PySem PySem.Spec PyProof.Rows L2
/-- a method -/
structure Dm (K : PySem.W.Frag) (x qual : Str) (st : Stmt) (ps : List Str) where
  f : Addr
  fd : FuncData
  F : Fun K x qual st f fd
  b : Binds K fd ps []
end DL
namespace DL
open PySem PySem.Spec PyProof.Rows L2 RS
/-! ### sets of tuples of ints, by their size -/
section
variable {K : PySem.W.Frag} {ρ : Ro} {μ : Mu} {P : PD} {ta te : TE} {d e : Dat} {prog : Program} {w : World}
/-- a set's object takes no part in data -/
theorem other_hid {A : As} {G : Hp} {D a : Addr} {o u : HO} {φ : Heap → Prop} (hD : G D = some (.ext φ)) (h : hid A G a = some u) (n : u ≠ .ext φ) : hid A (upd G D o) a = some u := by
  obtain ⟨q1, q2⟩ := hid_of h
  have ne : a ≠ D := fun z => by
    rw [z, hD] at q1
    exact n (Option.some.inj q1).symm
  exact hid_to (by rw [upd_ne ne]; exact q1) q2
mutual
theorem Dn.other {A : As} {G : Hp} {D : Addr} {o : HO} {φ : Heap → Prop} (hD : G D = some (.ext φ)) : ∀ {v : V} {d : Dat}, Dn K A G v d → Dn K A (upd G D o) v d
  | _, _, .non => .non
  | _, _, .bl b => .bl b
  | _, _, .int i => .int i
  | _, _, .str x => .str x
  | _, _, .tup h t => .tup (by
      rcases h with (h | ⟨q, h⟩) | h
      · exact .inl (.inl (other_hid hD h (fun z => nomatch z)))
      · exact .inl (.inr ⟨q, other_hid hD h (fun z => nomatch z)⟩)
      · exact .inr h) (Dns.other hD t)
  | _, _, .lst h t => .lst (by
      rcases h with (h | ⟨q, h⟩) | h
      · exact .inl (.inl (other_hid hD h (fun z => nomatch z)))
      · exact .inl (.inr ⟨q, other_hid hD h (fun z => nomatch z)⟩)
      · exact .inr h) (Dns.other hD t)
  | _, _, .cell h ⟨xs, l⟩ => .cell h ⟨xs, by rw [upd_ne fun z => by rw [z, hD] at l; exact (nomatch (Option.some.inj l))]; exact l⟩
  | _, _, .key h => .key (other_hid hD h (fun z => nomatch z))
  | _, _, .dcell h ⟨xs, l⟩ => .dcell h ⟨xs, by rw [upd_ne fun z => by rw [z, hD] at l; exact (nomatch (Option.some.inj l))]; exact l⟩
  | _, _, .dct h t => .dct (other_hid hD h (fun z => nomatch z)) (Dns.other hD t)
  | _, _, .obj c h t => .obj c (other_hid hD h (fun z => nomatch z)) (Dns.other hD t)
theorem Dns.other {A : As} {G : Hp} {D : Addr} {o : HO} {φ : Heap → Prop} (hD : G D = some (.ext φ)) : ∀ {vs : List V} {ds : List Dat}, Dns K A G vs ds → Dns K A (upd G D o) vs ds
  | _, _, .nil => .nil
  | _, _, .cons h t => .cons (Dn.other hD h) (Dns.other hD t)
end
theorem sqT_other {A : As} {G : Hp} {D a : Addr} {o : HO} {φ : Heap → Prop} {xs : List V} (hD : G D = some (.ext φ)) (h : SqT K (hid A G) a xs) : SqT K (hid A (upd G D o)) a xs := by
  rcases h with (h | ⟨q, h⟩) | h
  · exact .inl (.inl (other_hid hD h (fun z => nomatch z)))
  · exact .inl (.inr ⟨q, other_hid hD h (fun z => nomatch z)⟩)
  · exact .inr h
theorem Sto.other {A : As} {G : Hp} {D : Addr} {o : HO} {φ : Heap → Prop} (hD : G D = some (.ext φ)) (s : Sto K A G μ) : Sto K A (upd G D o) μ :=
  ⟨s.len, s.bl, fun i a e => by
    have ne : a ≠ D := fun z => by
      rcases s.at_ i a e with ⟨_, _, h1, _⟩ | ⟨_, _, h1, _⟩ <;> rw [z, hD] at h1 <;> cases h1
    exact (s.at_ i a e).tr (fun vs ds _ t => t.other hD) (upd_ne ne) rfl, s.inj⟩
theorem ints_of {A : As} {H : Hp} : ∀ {vs : List V} {l : List Int}, Dns K A H vs (wi l) → vs = l.map V.int
  | _, [], .nil => rfl
  | _, i :: l, h => by
    have h' : Dns K A H _ (Dat.int i :: wi l) := h
    cases h' with
    | cons a t => cases a; rw [ints_of t]; rfl
theorem tup_of {A : As} {H : Hp} {v : V} {l : List Int} (h : Dn K A H v (tw l)) : ∃ a, v = .ref a ∧ SqT K (hid A H) a (l.map V.int) := by
  generalize e : tw l = d at h
  cases h with
  | tup h1 t =>
    have e' : wi l = _ := Dat.tup.inj e
    subst e'
    rw [← ints_of t]
    exact ⟨_, rfl, h1⟩
  | _ => cases e
theorem tups_of {A : As} {H : Hp} : ∀ {vs : List V} {ts : List (List Int)}, Dns K A H vs (ts.map tw) → ∃ ks : List (Addr × List Int), vs = ks.map (fun p => V.ref p.1) ∧ ks.map (·.2) = ts ∧ ∀ p ∈ ks, SqT K (hid A H) p.1 (p.2.map V.int)
  | _, [], .nil => ⟨[], rfl, rfl, fun p h => by cases h⟩
  | _, l :: ts, h => by
    have h' : Dns K A H _ (tw l :: ts.map tw) := h
    cases h' with
    | cons a t =>
      obtain ⟨x, rfl, hx⟩ := tup_of a
      obtain ⟨ks, rfl, e2, e3⟩ := tups_of t
      refine ⟨(x, l) :: ks, rfl, by rw [List.map_cons, e2], fun p hp => ?_⟩
      rcases List.mem_cons.mp hp with z | z
      · rw [z]; exact hx
      · exact e3 p z
def dis : List (List Int) → List (List Int)
  | [] => []
  | t :: ts => if t ∈ ts then dis ts else t :: dis ts
theorem mem_dis {t : List Int} : ∀ {ts : List (List Int)}, t ∈ dis ts ↔ t ∈ ts
  | [] => Iff.rfl
  | a :: ts => by
    unfold dis
    by_cases c : a ∈ ts
    · rw [if_pos c, mem_dis, List.mem_cons]
      exact ⟨.inr, fun z => z.elim (fun e => e ▸ c) id⟩
    · rw [if_neg c, List.mem_cons, List.mem_cons, mem_dis]
theorem nodup_dis : ∀ ts : List (List Int), (dis ts).Nodup
  | [] => List.nodup_nil
  | a :: ts => by
    unfold dis
    by_cases c : a ∈ ts
    · rw [if_pos c]; exact nodup_dis ts
    · rw [if_neg c]; exact List.nodup_cons.mpr ⟨fun z => c (mem_dis.mp z), nodup_dis ts⟩
theorem dis_len {ts l : List (List Int)} (nd : l.Nodup) (h : ∀ t, t ∈ l ↔ t ∈ ts) : l.length = (dis ts).length :=
  ((List.perm_ext_iff_of_nodup nd (nodup_dis ts)).mpr fun t => (h t).trans mem_dis.symm).length_eq
/-- len(set(xs)) -/
theorem ew_lenSet (h : EW K ta ρ μ fun d m => ∃ ts : List (List Int), d = .lst (ts.map tw) ∧ ts.length < 64 ∧ P (.int ((dis ts).length : Nat)) m) : EW K (tCB (rLenST prog w) (tCons (tCB (rSetOfT K prog w) (tCons ta tNil)) tNil)) ρ μ P := fun A σ H s v Q q =>
  h A σ H s v _ fun A1 H1 x d m e1 s1 x1 ⟨ts, hd, hl, p⟩ => by
    generalize ets : List.map tw ts = dd at hd
    subst hd
    cases x1 with
    | @lst l vs _ hL t =>
      subst ets
      obtain ⟨ks, rfl, e2, e3⟩ := tups_of t
      refine ⟨l, ks, rfl, sqL_hid hL, fun p hp => sqT_hid (e3 p hp), by rw [← e2, List.length_map] at hl; exact hl, fun a L ha c1 c2 => ?_⟩
      refine ⟨a, L, rfl, upd_same, fun nd => ?_⟩
      have : L.length = (dis ts).length := by
        rw [← dis_len nd, List.length_map]
        intro t
        rw [← e2]
        constructor
        · intro z
          obtain ⟨p, hp, ep⟩ := List.mem_map.mp z
          exact List.mem_map.mpr ⟨p, c1 p hp, ep⟩
        · intro z
          obtain ⟨p, hp, ep⟩ := List.mem_map.mp z
          rw [← ep]
          exact c2 p hp
      rw [this]
      exact q A1 _ _ _ m (e1.trans (ext_new ha)) (s1.new ha) (.int _) p
/-- len({te for x in xs}) -/
theorem ew_lenSc {i j : Nat} (xs : List Dat) (f : Dat → List Int) (hd : ρ[i]? = some (some (.lst xs))) (hz : xs.length < 64)
    (hf : ∀ x, x ∈ xs → EW K te ((wipeD ρ j).set j (some x)) μ fun d m => d = tw (f x) ∧ m = μ) (p : P (.int ((dis (xs.map f)).length : Nat)) μ) :
    EW K (tCB (rLenST prog w) (tCons (tScT prog w K (iSeq K (tVar i)) (gName j) tYes te [j]) tNil)) ρ μ P := fun A σ H s v Q q => by
  obtain ⟨u, hu, du⟩ := v.2 i _ hd
  generalize ed : Dat.lst xs = dd at du
  cases du with
  | @lst a vs ds h1 t1 =>
    cases ed
    have hl := t1.length
    refine Or.inr ?_
    refine ⟨.ref a, hu, a, rfl, ⟨vs, sqL_hid h1⟩, fun D hD => ?_⟩
    let Iv : Nat → Hp → Prop := fun i G => ∃ A' L, Ext A H A' G ∧ Sto K A' G μ ∧ hid A' G D = some (SetTO prog w D L) ∧ L.length ≤ i ∧ (∀ t, t ∈ L.map (·.2) ↔ t ∈ (xs.take i).map f) ∧ ∀ p ∈ L, SqT K (hid A' G) p.1 (p.2.map V.int)
    refine ⟨fun i m G => m = vs.length - i ∧ i ≤ vs.length ∧ Iv i G, ⟨vs.length, rfl, Nat.zero_le _, A, [], ext_new hD, s.new hD, hid_to upd_same (s.fresh hD), Nat.le_refl _, fun t => by simp, fun p hp => by cases hp⟩, ?_⟩
    rintro i m G ⟨rfl, hi, A', L, eG, sG, hG, lL, mL, tL⟩
    by_cases hlt : i < vs.length
    · refine Or.inr ⟨⟨vs, vs[i], sqL_hid (eG.sqL h1), by simp [hlt]⟩, Iv (i + 1), fun G' iv => ⟨vs.length - (i + 1), by omega, rfl, hlt, iv⟩, ?_⟩
      rintro y G' ⟨rfl, hy⟩
      have hy := hy vs (sqL_hid (eG.sqL h1))
      obtain ⟨dx, q1, q2⟩ := t1.getV hy
      have hx := hf dx (List.mem_of_getElem? q1)
      refine ⟨wipe_set σ j _, ?_⟩
      show (if (true : Bool) = true then te _ G' (putST prog w K D (Iv (i + 1))) else Iv (i + 1) G')
      rw [if_pos rfl]
      refine hx A' _ G' sG (((v.mono eG).wipe j).set j (q2.mono eG)) _ fun A2 G4 y' d4 m4 e4 s4 y4 ⟨hd4, hm4⟩ => ?_
      subst hd4 hm4
      obtain ⟨c, rfl, hc⟩ := tup_of y4
      have hD4 := e4.keep _ _ hG
      have tL4 : ∀ p ∈ L, SqT K (hid A2 G4) p.1 (p.2.map V.int) := fun p hp => e4.sqT (tL p hp)
      refine ⟨c, f dx, L, rfl, (hid_of hD4).1, fun p hp => sqT_hid (tL4 p hp), sqT_hid hc, by omega, fun L' c1 c2 => ?_⟩
      have eD : G4 D = some (.ext fun h => SetT0 prog w h D L) := (hid_of hD4).1
      refine ⟨A2, L', ⟨fun b o hb => ?_, fun k b hb => e4.cells _ _ (eG.cells _ _ hb), fun k b hb l => ?_, fun k b hb l => ?_⟩, s4.other eD, hid_to upd_same (hid_of hD4).2, ?_, ?_, ?_⟩
      · have nb : b ≠ D := ne_of_none (hid_of hb).1 hD
        obtain ⟨z1, z2⟩ := hid_of (e4.keep _ _ (eG.keep _ _ hb))
        exact hid_to (by rw [upd_ne nb]; exact z1) z2
      · obtain ⟨zs, l'⟩ := e4.kl _ _ (eG.cells _ _ hb) (eG.kl _ _ hb l)
        exact ⟨zs, by rw [upd_ne fun z => by rw [z, eD] at l'; exact (nomatch (Option.some.inj l'))]; exact l'⟩
      · obtain ⟨zs, l'⟩ := e4.kd _ _ (eG.cells _ _ hb) (eG.kd _ _ hb l)
        exact ⟨zs, by rw [upd_ne fun z => by rw [z, eD] at l'; exact (nomatch (Option.some.inj l'))]; exact l'⟩
      · rcases Classical.em (f dx ∈ L.map (·.2)) with z | z
        · rw [c1 z]; omega
        · rw [(c2 z).length_eq, List.length_cons]; omega
      · intro t
        have tk : xs.take (i + 1) = xs.take i ++ [dx] := by rw [List.take_succ, q1]; rfl
        rw [tk, List.map_append, List.mem_append, ← mL t]
        rcases Classical.em (f dx ∈ L.map (·.2)) with z | z
        · rw [c1 z]
          exact ⟨.inl, fun y => y.elim id fun y => by
            have : t = f dx := by simpa using y
            rw [this]; exact z⟩
        · rw [((c2 z).map (·.2)).mem_iff]
          simp [or_comm]
      · intro p hp
        have inL : p = (c, f dx) ∨ p ∈ L := by
          rcases Classical.em (f dx ∈ L.map (·.2)) with z | z
          · rw [c1 z] at hp; exact .inr hp
          · have := (c2 z).mem_iff.mp hp
            simpa using this
        refine sqT_other eD ?_
        rcases inL with z | z
        · rw [z]; exact hc
        · exact tL4 p z
    · have ei : i = vs.length := by omega
      subst ei
      refine Or.inl ⟨⟨vs, sqL_hid (eG.sqL h1), Nat.le_refl _⟩, D, L, rfl, (hid_of hG).1, fun nd => ?_⟩
      have : L.length = (dis (xs.map f)).length := by
        rw [← dis_len nd (fun t => ?_), List.length_map]
        rw [mL t, hl, List.take_length]
      rw [this]
      exact q A' G _ _ μ eG sG (.int _) p
  | _ => cases ed
end
end DL
namespace DL
open PySem PySem.Spec PyProof.Rows L2 RS
section
variable {K : PySem.W.Frag} {A : As} {H H' : Hp}
theorem keep_hidden {x : Addr} {o : HO} (hx : some x ∈ A) : ∀ a u, hid A H a = some u → hid A (upd H x o) a = some u := fun a u e => by
  obtain ⟨q1, q2⟩ := hid_of e
  exact hid_to (by rw [upd_ne fun z => q2 (by rw [z]; exact hx)]; exact q1) q2
theorem keep_old {x : Addr} (hx : some x ∈ A) (k : ∀ a o, a ≠ x → H a = some o → H' a = some o) : ∀ a u, hid A H a = some u → hid A H' a = some u := fun a u e => by
  obtain ⟨q1, q2⟩ := hid_of e
  exact hid_to (k a u (fun z => q2 (by rw [z]; exact hx)) q1) q2
theorem sqL_keep {A' : As} {a : Addr} {xs : List V} (e : ∀ a u, hid A H a = some u → hid A' H' a = some u) (h : SqL K (hid A H) a xs) : SqL K (hid A' H') a xs := by
  rcases h with (h | ⟨o, h⟩) | h
  · exact .inl (.inl (e _ _ h))
  · exact .inl (.inr ⟨o, e _ _ h⟩)
  · exact .inr h
theorem nc_tws (ws : List (List Int)) : noCells (ws.map tw) = true := noCells_iff.mpr fun d hd => by
  obtain ⟨w, _, rfl⟩ := List.mem_map.mp hd
  rw [noCell]
  exact nc_wi w
theorem nc_ltws (ws : List (List Int)) : noCell (.lst (ws.map tw)) = true := by rw [noCell]; exact nc_tws ws
/-- a list's data go where its items go -/
theorem dns_perm {xs ys : List V} (p : ys.Perm xs) : ∀ {ws : List (List Int)}, Dns K A H xs (ws.map tw) → ∃ ws' : List (List Int), ws'.Perm ws ∧ Dns K A H ys (ws'.map tw) := by
  induction p with
  | nil =>
    intro ws h
    exact ⟨ws, List.Perm.refl _, h⟩
  | @cons x l1 l2 _ ih =>
    intro ws h
    cases ws with
    | nil => cases h
    | cons w ws =>
      have h' : Dns K A H (x :: l2) (tw w :: ws.map tw) := h
      cases h' with
      | cons a t =>
        obtain ⟨ws', p', h2⟩ := ih t
        exact ⟨w :: ws', p'.cons w, .cons a h2⟩
  | @swap x y l =>
    intro ws h
    match ws, h with
    | [], h => cases h
    | [w], h =>
      have h' : Dns K A H (x :: y :: l) (tw w :: []) := h
      cases h' with
      | cons a t => cases t
    | w :: u :: ws, h =>
      have h' : Dns K A H (x :: y :: l) (tw w :: tw u :: ws.map tw) := h
      cases h' with
      | cons a t => cases t with
        | cons b t => exact ⟨u :: w :: ws, List.Perm.swap _ _ _, .cons b (.cons a t)⟩
  | trans _ _ ih1 ih2 =>
    intro ws h
    obtain ⟨w1, p1, h1⟩ := ih2 h
    obtain ⟨w2, p2, h2⟩ := ih1 h1
    exact ⟨w2, p2.trans p1, h2⟩
theorem dns_pair {R : V → V → Prop} {S : List Int → List Int → Prop} : ∀ {ys : List V} {ws : List (List Int)}, Dns K A H ys (ws.map tw) → ys.Pairwise R → (∀ x y n m, R x y → Dn K A H x (tw n) → Dn K A H y (tw m) → S n m) → ws.Pairwise S
  | _, [], _, _, _ => List.Pairwise.nil
  | [], w :: ws, h, _, _ => by cases h
  | y :: ys, w :: ws, h, p, f => by
    have h' : Dns K A H (y :: ys) (tw w :: ws.map tw) := h
    cases h' with
    | cons a t =>
      have p' := List.pairwise_cons.mp p
      refine List.pairwise_cons.mpr ⟨fun m hm => ?_, dns_pair t p'.2 f⟩
      obtain ⟨i, hi⟩ := List.mem_iff_getElem?.mp hm
      obtain ⟨v, hv, dv⟩ := t.get (i := i) (d := tw m) (by rw [List.getElem?_map, hi]; rfl)
      exact f y v w m (p'.1 v (List.mem_of_getElem? hv)) a dv
/-- a tuple of ints as the sorts have it -/
theorem tupI_of {v : V} {l : List Int} (h : Dn K A H v (tw l)) : TupI K H v l := by
  obtain ⟨a, rfl, q⟩ := tup_of h
  exact ⟨a, rfl, sqT_hid q⟩
/-! ### dicts with tuple keys -/
theorem mem_put {kvs : List (List L2.Key × V)} {k : List L2.Key} {v : V} {q : List L2.Key × V} (h : q ∈ putK kvs k v) : q ∈ kvs ∨ q.2 = v := by
  unfold putK at h
  split at h
  · obtain ⟨p, hp, e⟩ := List.mem_map.mp h
    by_cases c : p.1 = k
    · rw [if_pos (by simpa using c)] at e
      exact .inr (by rw [← e])
    · rw [if_neg (by simpa using c)] at e
      exact .inl (by rw [← e]; exact hp)
  · rcases List.mem_append.mp h with z | z
    · exact .inl z
    · exact .inr (by rw [List.mem_singleton.mp z])
theorem valV_mem {kvs : List (List L2.Key × V)} {k : List L2.Key} {v : V} (h : valV kvs k = some v) : ∃ q ∈ kvs, q.2 = v := by
  unfold valV at h
  cases e : kvs.find? (fun kv => decide (kv.1 = k)) with
  | none => rw [e] at h; cases h
  | some p =>
    rw [e] at h
    exact ⟨p, List.mem_of_find?_eq_some e, Option.some.inj h⟩
/-- the dict's lists: new since Hb, no longer than j -/
def Good (Hb : Hp) (j : Nat) (kvs : List (List L2.Key × V)) (G : Hp) : Prop := ∀ q ∈ kvs, ∃ (l : Addr) (ns : List Int), q.2 = .ref l ∧ Hb l = none ∧ G l = some (.lst (ns.map V.int)) ∧ ns.length ≤ j
def Has (kvs : List (List L2.Key × V)) (a b : Int) : Prop := (valV kvs [.inl a, .inl b]).isSome = true
theorem has_put {kvs : List (List L2.Key × V)} {k : List L2.Key} {v : V} {a b : Int} (h : Has kvs a b) : Has (putK kvs k v) a b := by
  unfold Has at *
  rw [valV_put]
  split
  · rfl
  · exact h
theorem has_new {kvs : List (List L2.Key × V)} {v : V} {a b : Int} : Has (putK kvs [.inl a, .inl b] v) a b := by
  unfold Has
  rw [valV_put, if_pos rfl]
  rfl
theorem nums_comp {vx va : V} {L N : Int} {H7 : Hp} {Q : VK} (hL : 1 ≤ L ∧ L ≤ 4) (hN : 1 ≤ N ∧ N ≤ 12)
    (q : ∀ D kvs G, (∀ a o, H7 a = some o → G a = some o) → H7 D = none → G D = some (.dT kvs) → Good H7 0 kvs G → (∀ a b, 0 ≤ a → a < N → 0 ≤ b → b < L → Has kvs a b) → Q (.ref D) G) :
    tDcT2 (iRng1 (tCons (tVar 2) tNil)) (gName 6) (iRng1 (tCons (tVar 1) tNil)) (gName 7) (tTup (tCons (tVar 6) (tCons (tVar 7) tNil))) (tLst tNil) [6, 7] [7] [some vx, some (.int L), some (.int N), some va, none, none, none, none] H7 Q := by
  refine ⟨.int N, rfl, N, rfl, by omega, by omega, fun D hD => ?_⟩
  let Iv : Nat → Nat → Hp → Prop := fun i j G => (∀ a o, H7 a = some o → G a = some o) ∧ ∃ kvs, G D = some (.dT kvs) ∧ kvs.length ≤ i * L.toNat + j ∧ Good H7 0 kvs G ∧ (∀ a b, 0 ≤ a → a < (i : Int) → 0 ≤ b → b < L → Has kvs a b) ∧ ∀ b, 0 ≤ b → b < (j : Int) → Has kvs i b
  refine ⟨fun i m G => m = N.toNat - i ∧ i ≤ N.toNat ∧ Iv i 0 G, ⟨N.toNat, rfl, Nat.zero_le _, fun a o e => by rw [upd_ne (ne_of_none e hD)]; exact e, [], upd_same, Nat.zero_le _, (fun q h => nomatch h : Good H7 0 [] _), fun a b h1 h2 => by omega, fun b h1 h2 => by omega⟩, ?_⟩
  rintro i m G ⟨rfl, hi, kp, kvs, gD, ln, gd, h1, _⟩
  by_cases hlt : i < N.toNat
  · refine Or.inr ⟨hlt, Iv (i + 1) 0, fun G' iv => ⟨N.toNat - (i + 1), by omega, rfl, hlt, iv⟩, ?_⟩
    rintro y G' ⟨rfl, rfl⟩
    refine ⟨rfl, ?_⟩
    refine ⟨.int L, rfl, L, rfl, by omega, by omega, ?_⟩
    refine ⟨fun j k G => k = L.toNat - j ∧ j ≤ L.toNat ∧ Iv i j G, ⟨L.toNat, rfl, Nat.zero_le _, kp, kvs, gD, ln, gd, h1, fun b h1 h2 => by omega⟩, ?_⟩
    rintro j k G2 ⟨rfl, hj, kp2, kvs2, gD2, ln2, gd2, h3, h4⟩
    by_cases hlt2 : j < L.toNat
    · refine Or.inr ⟨hlt2, Iv i (j + 1), fun G' iv => ⟨L.toNat - (j + 1), by omega, rfl, hlt2, iv⟩, ?_⟩
      rintro y G4 ⟨rfl, rfl⟩
      refine ⟨rfl, .int (0 + i), rfl, .int (0 + j), rfl, by show 2 ≤ sizeLine; decide, fun p hp => ⟨by show 0 ≤ sizeLine; decide, fun l hl => ?_⟩⟩
      have nDp : D ≠ p := ne_of_none gD2 hp
      have gD5 : upd G4 p (.tup [.int (0 + i), .int (0 + j)]) D = some (.dT kvs2) := by rw [upd_ne nDp]; exact gD2
      have nDl : D ≠ l := ne_of_none gD5 hl
      have npl : p ≠ l := ne_of_none upd_same hl
      have sm : kvs2.length < sizeLine := by
        have : i * L.toNat ≤ 12 * 4 := Nat.mul_le_mul (by omega) (by omega)
        rw [sizeLine_eq]
        omega
      have e0 : ∀ n : Nat, (0 : Int) + (n : Int) = n := fun n => Int.zero_add _
      have free : H7 l = none := by
        cases z : H7 l with
        | none => rfl
        | some o =>
          have := kp2 l o z
          have z2 : upd G4 p (.tup [.int (0 + i), .int (0 + j)]) l = some o := by rw [upd_ne (fun e => npl e.symm)]; exact this
          rw [hl] at z2
          cases z2
      refine ⟨p, kvs2, [.inl (i : Int), .inl (j : Int)], rfl, by rw [upd_ne nDl]; exact gD5, by rw [upd_ne npl, upd_same, e0, e0]; rfl, sm, fun a o e => ?_, _, upd_same, ?_, ?_, ?_, ?_⟩
      · have k0 := kp2 a o e
        have n1 : a ≠ p := ne_of_none k0 hp
        have n2 : a ≠ l := fun z => by rw [z, free] at e; cases e
        have n3 : a ≠ D := ne_of_none e hD
        rw [upd_ne n3, upd_ne n2, upd_ne n1]
        exact k0
      · have := length_putK kvs2 [.inl (i : Int), .inl (j : Int)] (V.ref l)
        omega
      · intro q hq
        rcases mem_put hq with z | z
        · obtain ⟨l2, ns, a1, a2, a3, a4⟩ := gd2 q z
          have n1 : l2 ≠ p := ne_of_none a3 hp
          have n2 : l2 ≠ l := fun e => by
            have : upd G4 p (.tup [.int (0 + i), .int (0 + j)]) l2 = some (.lst (ns.map V.int)) := by rw [upd_ne n1]; exact a3
            rw [e, hl] at this
            cases this
          have n3 : l2 ≠ D := fun e => by rw [e, gD2] at a3; cases a3
          exact ⟨l2, ns, a1, a2, by rw [upd_ne n3, upd_ne n2, upd_ne n1]; exact a3, a4⟩
        · exact ⟨l, [], z, free, by rw [upd_ne (fun e => nDl e.symm), upd_same]; rfl, Nat.zero_le _⟩
      · exact fun a b x1 x2 x3 x4 => has_put (h3 a b x1 x2 x3 x4)
      · intro b x1 x2
        by_cases e : b = (j : Int)
        · rw [e]
          exact has_new
        · exact has_put (h4 b x1 (by omega))
    · refine Or.inl ⟨by show L.toNat ≤ j; omega, kp2, kvs2, gD2, ?_, gd2, ?_, fun b x1 x2 => by omega⟩
      · have : (i + 1) * L.toNat = i * L.toNat + L.toNat := Nat.succ_mul _ _
        omega
      · intro a b x1 x2 x3 x4
        by_cases e : a = (i : Int)
        · rw [e]
          exact h4 b x3 (by omega)
        · exact h3 a b x1 (by omega) x3 x4
  · exact Or.inl ⟨by show N.toNat ≤ i; omega, q D kvs G kp hD gD gd fun a b x1 x2 x3 x4 => h1 a b x1 (by omega) x3 x4⟩
end
end DL
namespace DL
open PySem PySem.Spec PyProof.Rows L2 RS
section
variable {K : PySem.W.Frag} {B : As}
/-- for number, way in enumerate(self._ways): self._numbers[way[:2]].append(number) -/
theorem nums_loop {x C dx p D : Addr} {fs : List (Str × V)} {va : V} {L N : Int} {ws : List (List Int)} {ys : List V} {kvs : List (List L2.Key × V)} {Hb H8 : Hp} {E : L2.Ends}
    (cl : Cls K C) (n1 : NoAttr K C "_ways") (n2 : NoAttr K C "_numbers") (hB : some x ∈ B) (kp : ∀ a o, a ≠ x → Hb a = some o → H8 a = some o) (hx : H8 x = some (.ins C dx fs)) (f1 : fs.lookup ("_ways" : Str) = some (V.ref p)) (f2 : fs.lookup ("_numbers" : Str) = some (V.ref D))
    (nDb : Hb D = none) (xb : Hb x ≠ none) (gD : H8 D = some (.dT kvs)) (gd : Good Hb 0 kvs H8) (hp : SqL K (hid B Hb) p ys) (dy : Dns K B Hb ys (ws.map tw)) (few : ws.length < 64)
    (hw : ∀ w ∈ ws, ∃ a b c s, w = [a, b, c, s] ∧ Has kvs a b)
    (q : ∀ σ G, (∀ a o, a ≠ x → Hb a = some o → G a = some o) → G x = some (.ins C dx fs) → G D = some (.dT kvs) → Good Hb ws.length kvs G → E.nx σ G) :
    tFor (iEnum K (tCons (tFld K (tVar 0) "_ways") tNil)) (gTup K 2 (gCons (gName 4) (gCons (gName 5) gNil)))
      (tDrop (tBM K "list" rAppend (tDGet (tFld K (tVar 0) "_numbers") (tSl (rSlA K) (tVar 5) tNoPart (tPart (tC (.int 2))))) (tCons (tVar 4) tNil))) E [some (.ref x), some (.int L), some (.int N), some va, none, none, none, none] H8 := by
  have hl : ys.length = ws.length := by rw [dy.length, List.length_map]
  have ways : ∀ {G : Hp}, (∀ a o, a ≠ x → Hb a = some o → G a = some o) → SqL K (hid B G) p ys ∧ Dns K B G ys (ws.map tw) := fun k => ⟨sqL_keep (keep_old hB k) hp, dy.mono0 (keep_old hB k) (nc_tws ws)⟩
  refine ⟨.ref x, rfl, x, C, dx, fs, .ref p, rfl, hx, cl, n1, f1, p, ys, rfl, sqL_hid (ways kp).1, ?_⟩
  let Iv : Nat → L2.St → Hp → Prop := fun i σ G => (∃ u v, σ = [some (.ref x), some (.int L), some (.int N), some va, u, v, none, none]) ∧ (∀ a o, a ≠ x → Hb a = some o → G a = some o) ∧ G x = some (.ins C dx fs) ∧ G D = some (.dT kvs) ∧ Good Hb i kvs G
  refine ⟨fun i m σ G => m = ys.length - i ∧ i ≤ ys.length ∧ Iv i σ G, ⟨ys.length, rfl, Nat.zero_le _, ⟨none, none, rfl⟩, kp, hx, gD, gd⟩, ?_⟩
  rintro i m σ G ⟨rfl, hi, ⟨u, v, rfl⟩, kG, xG, DG, gG⟩
  by_cases hlt : i < ys.length
  · refine Or.inr ⟨⟨ys, ys[i], sqL_hid (ways kG).1, by simp [hlt]⟩, Iv (i + 1), fun σ' G' iv => ⟨ys.length - (i + 1), by omega, rfl, hlt, iv⟩, ?_⟩
    rintro z G' ⟨T, y, rfl, hT, rfl, hy⟩
    have hy := hy ys (sqL_hid (ways kG).1)
    obtain ⟨dd, q1, q2⟩ := (ways kG).2.getV hy
    rw [List.getElem?_map] at q1
    obtain ⟨w, hwi, rfl⟩ := Option.map_eq_some_iff.mp q1
    obtain ⟨wa, wb, wc, wt, rfl, has⟩ := hw w (List.mem_of_getElem? hwi)
    have nTx : x ≠ T := ne_of_none xG hT
    have nTD : D ≠ T := ne_of_none DG hT
    have k1 : ∀ a o, a ≠ x → Hb a = some o → upd G T (.tup [.int (i : Nat), y]) a = some o := fun a o na e => by
      have := kG a o na e
      rw [upd_ne (ne_of_none this hT)]
      exact this
    have q2' : Dn K B (upd G T (.tup [.int (i : Nat), y])) y (tw [wa, wb, wc, wt]) := q2.mono (ext_new hT)
    obtain ⟨ay, rfl, sy⟩ := tup_of q2'
    refine ⟨T, _, rfl, .inl (.inl upd_same), rfl, _, _, rfl, _, _, rfl, rfl, ?_⟩
    refine ⟨.ref x, rfl, x, C, dx, fs, .ref D, rfl, by rw [upd_ne nTx]; exact xG, cl, n2, f2, ?_⟩
    refine ⟨.ref ay, rfl, ?_⟩
    refine ⟨2, rfl, ay, _, rfl, sqT_hid sy, fun z => ?_, fun _ t ht => ?_⟩
    · exact absurd z.2 (by show ¬ HT.sIx 4 4 (some 2) = 4; decide)
    · have nxt : x ≠ t := fun e => by
        rw [← e, upd_ne nTx, xG] at ht
        cases ht
      have nDt : D ≠ t := fun e => by
        rw [← e, upd_ne nTD, DG] at ht
        cases ht
      have cutw : cutV [V.int wa, V.int wb, V.int wc, V.int wt] none (some 2) = [V.int wa, V.int wb] := rfl
      have vs : valV kvs [.inl wa, .inl wb] ≠ none := fun e => by
        unfold Has at has
        rw [e] at has
        cases has
      obtain ⟨vv, hv⟩ := Option.ne_none_iff_exists'.mp vs
      obtain ⟨kv, hkv, ekv⟩ := valV_mem hv
      obtain ⟨l, ns, e1, e2, e3, e4⟩ := gG kv hkv
      have evv : vv = .ref l := by rw [← ekv]; exact e1
      subst evv
      have nlT : l ≠ T := ne_of_none e3 hT
      have l1 : upd G T (.tup [.int (i : Nat), .ref ay]) l = some (.lst (ns.map V.int)) := by rw [upd_ne nlT]; exact e3
      have nlt : l ≠ t := ne_of_none l1 ht
      have nlx : l ≠ x := fun e => xb (by rw [← e]; exact e2)
      have nlD : l ≠ D := fun e => by rw [e, DG] at e3; cases e3
      refine ⟨D, .ref l, rfl, .inr ⟨kvs, [.inl wa, .inl wb], t, .inl (by rw [upd_ne nDt, upd_ne nTD]; exact DG), rfl, upd_same, hv.symm⟩, ?_⟩
      have l2 : upd (upd G T (.tup [.int (i : Nat), .ref ay])) t (.tup [.int wa, .int wb]) l = some (.lst (ns.map V.int)) := by rw [upd_ne nlt]; exact l1
      refine ⟨.inl ⟨rfl, _, .inl (.inl l2)⟩, .int (i : Nat), rfl, l, ns.map V.int, _, rfl, rfl, l2, ?_, ?_⟩
      · rw [List.length_map, sizeLine_eq]
        omega
      · refine ⟨⟨_, _, rfl⟩, fun a o na e => ?_, ?_, ?_, ?_⟩
        · have nal : a ≠ l := fun z => by rw [z, e2] at e; cases e
          have := k1 a o na e
          rw [upd_ne nal, upd_ne (ne_of_none this ht)]
          exact this
        · rw [upd_ne (fun e => nlx e.symm), upd_ne nxt, upd_ne nTx]
          exact xG
        · rw [upd_ne (fun e => nlD e.symm), upd_ne nDt, upd_ne nTD]
          exact DG
        · intro q hq
          obtain ⟨l', ns', a1, a2, a3, a4⟩ := gG q hq
          by_cases c : l' = l
          · subst c
            have : ns' = ns := by
              have h := a3.symm.trans e3
              have h2 : ns'.map V.int = ns.map V.int := HO.lst.inj (Option.some.inj h)
              exact (List.map_inj_right (fun a b e => V.int.inj e)).mp h2
            subst this
            refine ⟨l', ns' ++ [(i : Int)], a1, a2, ?_, by simp; omega⟩
            rw [upd_same, List.map_append]
            rfl
          · refine ⟨l', ns', a1, a2, ?_, by omega⟩
            have n1 : l' ≠ T := ne_of_none a3 hT
            have z1 : upd G T (.tup [.int (i : Nat), .ref ay]) l' = some (.lst (ns'.map V.int)) := by rw [upd_ne n1]; exact a3
            rw [upd_ne c, upd_ne (ne_of_none z1 ht)]
            exact z1
  · have ei : i = ws.length := by omega
    rw [ei] at gG
    exact Or.inl ⟨⟨ys, sqL_hid (ways kG).1, by omega⟩, q _ G kG xG DG gG⟩
theorem lst_of {A : As} {H : Hp} {v : V} {ds : List Dat} (h : Dn K A H v (.lst ds)) : ∃ a xs, v = .ref a ∧ SqL K (hid A H) a xs ∧ Dns K A H xs ds := by
  cases h with
  | lst h1 t => exact ⟨_, _, rfl, h1, t⟩
theorem good_dns {Hb G : Hp} {j : Nat} (inB : ∀ a, some a ∈ B → Hb a ≠ none) : ∀ {kvs : List (List L2.Key × V)}, Good Hb j kvs G → ∃ ds, Dns K B G (kvs.map (·.2)) ds ∧ noCells ds = true
  | [], _ => ⟨[], .nil, rfl⟩
  | q :: kvs, g => by
    obtain ⟨ds, h1, h2⟩ := good_dns inB (fun q hq => g q (List.mem_cons_of_mem _ hq))
    obtain ⟨l, ns, e, hb, hl, _⟩ := g q (List.mem_cons_self)
    have nl : some l ∉ B := fun z => inB l z hb
    have dw : ∀ ms : List Int, Dns K B G (ms.map V.int) (wi ms) := by
      intro ms
      induction ms with
      | nil => exact .nil
      | cons i ms ih => exact .cons (.int i) ih
    refine ⟨.lst (wi ns) :: ds, ?_, ?_⟩
    · rw [List.map_cons, e]
      exact .cons (.lst (.inl (.inl (hid_to hl nl))) (dw ns)) h1
    · rw [noCells, h2, noCell, nc_wi]
      rfl
end
end DL
namespace DL
open PySem PySem.Spec PyProof.Rows L2 StX
/-! ### list + list, of lists of any standing -/
theorem list_addW (l : Addr) (items : Array Value) (n : Nat) (sl : Array (Option Value)) (b : Addr)
    (items2 : Array Value) (n2 : Nat) (sl2 : Array (Option Value)) (hc0 : items.size + items2.size ≤ sizeLine) :
    Meets (Builtin.«list.__add__» ⟨[.ref l, .ref b], []⟩) (fun _ R s =>
      (s.heap.get? l = some { cls := .type "list", data := .seq items n, slots := sl } ∧
        s.heap.get? b = some { cls := .type "list", data := .seq items2 n2, slots := sl2 }) ∧
      R (.ok (.ret (Value.ref s.heap.objs.size)))
        { s with heap := s.heap.push { cls := Value.type "list", data := Data.seq (items ++ items2) } }) :=
  .of_wp fun prog w A R s h => by
    obtain ⟨hp, g, d, tk, os⟩ := s
    obtain ⟨⟨hl, hb⟩, h⟩ := h
    have f1 := AutoSeq1.idx_int
    have f2 := AutoSeq1.sub_tuple_tuple
    have f3 := AutoSeq1.sub_list_list
    have f4 := AutoSeq1.sub_tuple_list
    have f5 := AutoSeq1.sub_list_tuple
    wp_walk using wpAny_loadPart' hl, wpAny_loadPart' hb
    exact ⟨_, rfl, h⟩
theorem list_extendW (l : Addr) (items : Array Value) (n : Nat) (b : Addr) (items2 : Array Value) (n2 : Nat)
    (sl2 : Array (Option Value)) (hs0 : ¬(!items.isEmpty && Builtin.List.listTooLong (items.size + items2.size)) = true)
    (hs1 : items.size ≤ sizeLine) (hs2 : items.size + items2.size ≤ sizeLine + 1) :
    Meets (Builtin.«list.extend» ⟨[.ref l, .ref b], []⟩) (fun _ R s =>
      (s.heap.get? l = some { cls := .type "list", data := .seq items n } ∧
        s.heap.get? b = some { cls := .type "list", data := .seq items2 n2, slots := sl2 }) ∧
      R (.ok (.ret Value.none)) { s with heap := s.heap.update l (Obj.mapSeq fun x => x ++ items2) }) :=
  .of_wp fun prog w A R s h => by
    obtain ⟨hp, g, d, tk, os⟩ := s
    obtain ⟨⟨hl, hb⟩, h⟩ := h
    have f1 := AutoSeq1.idx_int
    have f2 := AutoSeq1.sub_tuple_tuple
    have f3 := AutoSeq1.sub_list_list
    have f4 := AutoSeq1.sub_tuple_list
    have f5 := AutoSeq1.sub_list_tuple
    have hz2 : (items ++ items2).size ≤ sizeLine + 1 := by
      rw [Array.size_append]
      exact hs2
    wp_walk using (wpAny_updateSeq hl rfl (hz := hs1) (_hz' := hz2)), wpAny_loadPart' hl, wpAny_loadPart' hb
    exact ⟨_, rfl, h⟩
/-- a list's object as it stands -/
theorem list_at {X : Cx} {pins : List (Addr × Obj)} {σ : L2.St} {H : Hp} {s : Shared} {a : Addr} {xs : List V} (I : Inv X pins σ H s) (h : SqL X.K H a xs) :
    ∃ (its : List Value) (n : Nat) (sl : Array (Option Value)), Vals xs its ∧ s.heap.get? a = some { cls := .type "list", data := .seq its.toArray n, slots := sl } := by
  obtain ⟨its, r, ⟨⟨cls, dd, data, sl⟩, n, e, h1, h2, h3⟩, _⟩ := I.list h
  simp only at h1 h2 h3
  subst h1 h2 h3
  exact ⟨its, n, sl, r, e⟩
def rCatL (K : PySem.W.Frag) : R2 := fun x y H Q => ∃ l b xs zs, x = .ref l ∧ y = .ref b ∧ SqL K H l xs ∧ SqL K H b zs ∧ xs.length + zs.length ≤ sizeLine ∧
  ∀ p, H p = none → Q (.ref p) (upd H p (.lst (xs ++ zs)))
def rExtL (K : PySem.W.Frag) : V → List V → Hp → VK → Prop := fun x vs H Q => ∃ l b xs zs, x = .ref l ∧ vs = [.ref b] ∧ H l = some (.lst xs) ∧ SqL K H b zs ∧ xs.length + zs.length ≤ sizeLine ∧
  Q .non (upd H l (.lst (xs ++ zs)))
section
variable {X : Cx}
theorem op_catL : OpR X (binaryOp .Add) (rCatL X.K) := by
  intro pins s σ H x y v u Q I rx ry h
  obtain ⟨l, b, xs, zs, rfl, rfl, hL, hB, hz, q⟩ := h
  cases rx
  cases ry
  obtain ⟨its, n, sl, r, e⟩ := list_at I hL
  obtain ⟨its2, n2, sl2, r2, e2⟩ := list_at I hB
  have l1 := r.length
  have l2 := r2.length
  refine concat_meets ⟨_, e, rfl⟩ ⟨_, e2, rfl⟩ noFill_list_add seq_list_add F.slot_list_add F.entry_list_add (F.args_list_add_2 _ _)
    (list_addW l its.toArray n sl b its2.toArray n2 sl2 (by rw [List.size_toArray, List.size_toArray]; omega)) ⟨⟨e, e2⟩, ?_⟩
  have ea : its.toArray ++ its2.toArray = (its ++ its2).toArray := by simp
  rw [ea]
  exact ⟨.ref _, _, I.lnew (t' := s.toks) (r.append r2) (by rw [List.length_append]; omega), rfl, q _ I.fresh⟩
theorem mt_extL : MtM X "list.extend" (rExtL X.K) := by
  intro pins s σ H x vs v us Q I rx rv h
  obtain ⟨l, b, xs, zs, rfl, rfl, hH, hB, hz, q⟩ := h
  cases rx
  obtain ⟨u, rfl, ru⟩ := rv.one
  cases ru
  obtain ⟨z, its, n, r, hl, e⟩ := I.lstM hH
  obtain ⟨its2, n2, sl2, r2, e2⟩ := list_at I hB
  have l2 := r2.length
  have hsz : its.toArray.size + its2.toArray.size ≤ sizeLine := by
    rw [List.size_toArray, List.size_toArray]
    omega
  have hlong : ¬ (!its.toArray.isEmpty && Builtin.List.listTooLong (its.toArray.size + its2.toArray.size)) = true := by
    rw [notLongL hsz, Bool.and_false]
    decide
  refine call_meets F.slot_list_extend ⟨_, e, rfl⟩ F.entry_list_extend (F.args_list_extend_2 _ _)
    (list_extendW l its.toArray n b its2.toArray n2 sl2 hlong (by rw [List.size_toArray]; omega) (by omega)) ⟨⟨e, e2⟩, ?_⟩
  refine ⟨.non, _, I.lset (its' := its ++ its2) hH e (by simp) (r.append r2) ?_, rfl, q⟩
  rw [List.length_append]
  omega
end
section
variable {K : PySem.W.Frag} {ρ : Ro} {μ : Mu} {P : PD} {ta tb tc te to : TE} {d e : Dat} {r : R2}
theorem rw_catL {xs ys : List Dat} (hz : xs.length + ys.length ≤ sizeLine) (p : P (.lst (xs ++ ys)) μ) : RW K (rCatL K) (.lst xs) (.lst ys) μ P := fun A H x y s u v Q q => by
  cases u with
  | @lst a vs _ h1 t1 =>
    cases v with
    | @lst b ws _ h2 t2 =>
      have l1 := t1.length
      have l2 := t2.length
      exact ⟨a, b, vs, ws, rfl, rfl, sqL_hid h1, sqL_hid h2, by omega, fun c hc => q A _ _ _ μ (ext_new hc) (s.new hc) (Dn.newL s hc (t1.append t2)) p⟩
theorem aw_star {tr : TA} {P : List Dat → Mu → Prop} (h : EW K ta ρ μ fun d m => ∃ xs, (d = .tup xs ∨ d = .lst xs) ∧ AW K tr ρ m fun ds m2 => P (xs ++ ds) m2) : AW K (tStar K ta tr) ρ μ P := fun A σ H s v Q q =>
  h A σ H s v _ fun A1 H1 x d m1 e1 s1 x1 ⟨xs, hd, p1⟩ => by
    rcases hd with hd | hd
    · subst hd
      cases x1 with
      | @tup a vs _ h1 t1 => exact ⟨a, vs, rfl, .inl (sqT_hid h1), p1 A1 σ H1 s1 (v.mono e1) _ fun A2 H2 ws ds m2 e2 s2 x2 p2 => q A2 H2 (vs ++ ws) (xs ++ ds) m2 (e1.trans e2) s2 ((t1.mono e2).append x2) p2⟩
    · subst hd
      cases x1 with
      | @lst a vs _ h1 t1 => exact ⟨a, vs, rfl, .inr (sqL_hid h1), p1 A1 σ H1 s1 (v.mono e1) _ fun A2 H2 ws ds m2 e2 s2 x2 p2 => q A2 H2 (vs ++ ws) (xs ++ ds) m2 (e1.trans e2) s2 ((t1.mono e2).append x2) p2⟩
/-! ### methods of lists that change -/
theorem ew_append {t : TA} (h : EW K to ρ μ fun o m1 => (∃ k xs, o = .cell k ∧ m1[k]? = some (some xs)) ∧ AW K t ρ m1 fun ds m2 => ∃ k d xs, o = .cell k ∧ ds = [d] ∧ noCell d = true ∧ m2[k]? = some (some xs) ∧ xs.length < sizeLine ∧ P .non (m2.set k (some (xs ++ [d])))) :
    EW K (tBM K "list" rAppend to t) ρ μ P := fun A σ H s v Q q =>
  h A σ H s v _ fun A1 H1 x o m1 e1 s1 x1 ⟨⟨k0, xs0, ho0, hm0⟩, p⟩ => by
    subst ho0
    obtain ⟨a, vs, rfl, hk, hH, t1⟩ := s1.cell x1 hm0
    refine ⟨.inl ⟨rfl, vs, .of hH⟩, p A1 σ H1 s1 (v.mono e1) _ fun A2 H2 ws ds m2 e2 s2 y2 ⟨k, d, xs, hk', hd, hn, hm, hz, pf⟩ => ?_⟩
    cases hk'
    subst hd
    cases y2 with
    | cons y y' =>
      cases y'
      obtain ⟨b, us, eb, hkb, hH2, t2⟩ := s2.cell (x1.mono e2) hm
      cases eb
      refine ⟨a, us, _, rfl, rfl, hH2, by rw [t2.length]; exact hz, q A2 _ .non .non _ ((e1.trans e2).trans (ext_cell hkb hH2)) (s2.write hkb hH2 (t2.snoc y)) .non pf⟩
theorem ew_extend {t : TA} (h : EW K to ρ μ fun o m1 => (∃ k xs, o = .cell k ∧ m1[k]? = some (some xs)) ∧ AW K t ρ m1 fun ds m2 => ∃ k ys xs, o = .cell k ∧ ds = [.lst ys] ∧ noCells ys = true ∧ m2[k]? = some (some xs) ∧ xs.length + ys.length ≤ sizeLine ∧ P .non (m2.set k (some (xs ++ ys)))) :
    EW K (tBM K "list" (rExtL K) to t) ρ μ P := fun A σ H s v Q q =>
  h A σ H s v _ fun A1 H1 x o m1 e1 s1 x1 ⟨⟨k0, xs0, ho0, hm0⟩, p⟩ => by
    subst ho0
    obtain ⟨a, vs, rfl, hk, hH, t1⟩ := s1.cell x1 hm0
    refine ⟨.inl ⟨rfl, vs, .of hH⟩, p A1 σ H1 s1 (v.mono e1) _ fun A2 H2 ws ds m2 e2 s2 y2 ⟨k, ys, xs, hk', hd, hn, hm, hz, pf⟩ => ?_⟩
    cases hk'
    subst hd
    cases y2 with
    | cons y y' =>
      cases y'
      obtain ⟨b, us, eb, hkb, hH2, t2⟩ := s2.cell (x1.mono e2) hm
      cases eb
      cases y with
      | @lst c zs _ h3 t3 =>
        refine ⟨a, c, us, zs, rfl, rfl, hH2, sqL_hid h3, by rw [t2.length, t3.length]; exact hz, q A2 _ .non .non _ ((e1.trans e2).trans (ext_cell hkb hH2)) (s2.write hkb hH2 (t2.append t3)) .non pf⟩
theorem ew_slC {tl th : TO} (h : EW K te ρ μ fun d m1 => OW K tl ρ m1 fun lo m2 => OW K th ρ m2 fun hi m3 => ∃ k xs, d = .cell k ∧ m3[k]? = some (some xs) ∧ P (.lst (cut xs lo hi)) m3) : EW K (tSl (rSlL K) te tl th) ρ μ P := fun A σ H s v Q q =>
  h A σ H s v _ fun A1 H1 x d m1 e1 s1 x1 p1 => p1 A1 σ H1 s1 (v.mono e1) _ fun A2 H2 lo m2 e2 s2 p2 => p2 A2 σ H2 s2 (v.mono (e1.trans e2)) _ fun A3 H3 hi m3 e3 s3 ⟨k, xs, hd, hm, p⟩ => by
    subst hd
    obtain ⟨a, vs, rfl, hk, hH, t1⟩ := s3.cell (x1.mono (e2.trans e3)) hm
    exact ⟨a, vs, rfl, .of hH, fun b hb => q A3 _ _ _ m3 (((e1.trans e2).trans e3).trans (ext_new hb)) (s3.new hb) (Dn.newL s3 hb (t1.cut lo hi)) p⟩
/-! ### sum, list, sorted -/
theorem cw_sum {ns : List Int} (p : P (.int ns.sum) μ) : CW K (rSum K) [.lst (wi ns)] μ P := fun A H us s x Q q => by
  cases x with
  | cons a t =>
    cases t
    obtain ⟨b, vs, rfl, hL, hD⟩ := lst_of a
    have := ints_of hD
    subst this
    exact ⟨b, ns, rfl, sqL_hid hL, q A H _ _ μ (Ext.refl A H) s (.int _) p⟩
def rListOf (K : PySem.W.Frag) : List V → Hp → VK → Prop := fun xs H Q => ∃ p ys, xs = [.ref p] ∧ (SqL K H p ys ∨ SqT K H p ys) ∧ ∀ l, H l = none → Q (.ref l) (upd H l (.lst ys))
theorem call_listOf {X : Cx} : CallR X (.type "list") (rListOf X.K) := call_list_of
theorem cw_listL {xs : List Dat} (p : P (.lst xs) μ) : CW K (rListOf K) [.lst xs] μ P := fun A H us s x Q q => by
  cases x with
  | cons a t => cases t; cases a with
    | @lst b vs _ h1 t1 => exact ⟨b, vs, rfl, .inl (sqL_hid h1), fun c hc => q A _ _ _ μ (ext_new hc) (s.new hc) (Dn.newL s hc t1) p⟩
theorem cw_listT {xs : List Dat} (p : P (.lst xs) μ) : CW K (rListOf K) [.tup xs] μ P := fun A H us s x Q q => by
  cases x with
  | cons a t => cases t; cases a with
    | @tup b vs _ h1 t1 => exact ⟨b, vs, rfl, .inr (sqT_hid h1), fun c hc => q A _ _ _ μ (ext_new hc) (s.new hc) (Dn.newL s hc t1) p⟩
theorem cw_tupC {k : Nat} {xs : List Dat} (hm : μ[k]? = some (some xs)) (p : P (.tup xs) μ) : CW K (rTupOf K) [.cell k] μ P := fun A H us s x Q q => by
  cases x with
  | cons a t =>
    cases t
    obtain ⟨b, vs, rfl, hk, hH, t1⟩ := s.cell a hm
    exact ⟨b, vs, rfl, .inl ⟨.of hH, fun c hc => q A _ _ _ μ (ext_new hc) (s.new hc) (Dn.newT s hc t1) p⟩⟩
/-- sorted(a list of tuples of so many small counts) -/
theorem cw_sortC {dd : Nat} {B : Int} {k : Nat} {ws : List (List Int)} (hm : μ[k]? = some (some (ws.map tw))) (hl : ws.length < 64) (hb : ∀ w ∈ ws, w.length = dd ∧ TS.Bd B w)
    (p : ∀ ws' : List (List Int), ws'.Perm ws → ws'.Pairwise (fun x y => TS.code B x ≤ TS.code B y) → P (.lst (ws'.map tw)) μ) : CW K (rSortU K dd B) [.cell k] μ P := fun A H us s x Q q => by
  cases x with
  | cons a t =>
    cases t
    obtain ⟨b, vs, rfl, hk, hH, t1⟩ := s.cell a hm
    have len4 : vs.length = ws.length := by rw [t1.length, List.length_map]
    refine ⟨b, vs, rfl, .of hH, by omega, fun y hy => ?_, fun ys c pm pw hc => ?_⟩
    · obtain ⟨i, hi⟩ := List.mem_iff_getElem?.mp hy
      obtain ⟨d, hd, dd⟩ := t1.getV hi
      rw [List.getElem?_map] at hd
      obtain ⟨w, hwi, rfl⟩ := Option.map_eq_some_iff.mp hd
      exact ⟨w, tupI_of dd, hb w (List.mem_of_getElem? hwi)⟩
    · obtain ⟨ws', pmw, dys⟩ := dns_perm pm t1
      have pww : ws'.Pairwise (fun x y => TS.code B x ≤ TS.code B y) := dns_pair dys pw fun y z n m hR h1 h2 => hR n m (tupI_of h1) (tupI_of h2)
      exact q A _ _ _ μ (ext_new hc) (s.new hc) (Dn.newL s hc dys) (p ws' pmw pww)
end
end DL
namespace DL
open PySem PySem.Spec PyProof.Rows L2 StX
section
variable {K : PySem.W.Frag} {ρ : Ro} {μ : Mu} {P : PD} {ta tb tc te to : TE} {d e : Dat} {r : R2} {E : DE} {R : Ro → Mu → Prop}
/-! ### a list as it stands: a fixed one, or a cell's -/
/-- d is the list xs wherever J holds -/
def Is (d : Dat) (xs : List Dat) (J : Mu → Prop) : Prop := d = .lst xs ∨ ∃ k, d = .cell k ∧ ∀ m, J m → m[k]? = some (some xs)
theorem Is.at_ {A1 A2 : As} {H1 H2 : Hp} {m2 : Mu} {v : V} {xs : List Dat} {J : Mu → Prop} (h : Is d xs J) (x : Dn K A1 H1 v d) : ∃ a, v = .ref a ∧ ∀ (A2 : As) (H2 : Hp) (m2 : Mu), Ext A1 H1 A2 H2 → Sto K A2 H2 m2 → J m2 → ∃ ys, SqL K H2 a ys ∧ Dns K A2 H2 ys xs := by
  rcases h with h | ⟨k, h, hj⟩
  · subst h
    obtain ⟨a, ys, rfl, h1, h2⟩ := lst_of x
    exact ⟨a, rfl, fun A2 H2 m2 e s j => ⟨ys, sqL_hid (e.sqL h1), h2.mono e⟩⟩
  · subst h
    cases x with
    | @cell a _ hk hl =>
      refine ⟨a, rfl, fun A2 H2 m2 e s j => ?_⟩
      obtain ⟨a', ys, ea, hk2, hH, t⟩ := s.cell (.cell (e.cells _ _ hk) (e.kl _ _ hk hl)) (hj m2 j)
      cases ea
      exact ⟨ys, .of hH, t⟩
/-! ### for over a list or a tuple -/
theorem sw_forV {i : Nat} {g : TG} {tb : TS} {xs : List Dat} (hd : ρ[i]? = some (some (.tup xs)) ∨ ρ[i]? = some (some (.lst xs))) (I : Nat → Ro → Mu → Prop) (i0 : I 0 ρ μ)
    (hs : ∀ i x ρ' m', xs[i]? = some x → I i ρ' m' → GW K g x ρ' m' fun ρ2 m2 => SW K tb ρ2 m2 { E with nx := I (i + 1), ct := I (i + 1), bk := E.nx }) (hf : ∀ ρ' m', I xs.length ρ' m' → E.nx ρ' m') : SW K (tFor (iSeq K (tVar i)) g tb) ρ μ E := fun A σ H D s v gg => by
  rcases hd with h | h
  · exact Or.inl (sw_forT (ew_var h ⟨xs, rfl, I, i0, hs, hf⟩) A σ H D s v gg)
  · exact Or.inr (sw_forL (ew_var h ⟨xs, rfl, I, i0, hs, hf⟩) A σ H D s v gg)
theorem sw_forC {g : TG} {tb : TS} (h : EW K te ρ μ fun d m => ∃ xs, ∃ I : Nat → Ro → Mu → Prop, Is d xs (fun m' => ∃ i ρ', I i ρ' m') ∧ I 0 ρ m ∧
      (∀ i x ρ' m', xs[i]? = some x → I i ρ' m' → GW K g x ρ' m' fun ρ2 m2 => SW K tb ρ2 m2 { E with nx := I (i + 1), ct := I (i + 1), bk := E.nx }) ∧ ∀ ρ' m', I xs.length ρ' m' → E.nx ρ' m') : SW K (tFor (iList K te) g tb) ρ μ E := fun A σ H D s v gg =>
  h A σ H s v _ fun A1 H1 x d m e s1 x1 ⟨xs, I, hk, i0, hs, hf⟩ => by
    obtain ⟨a, rfl, src⟩ := hk.at_ (A2 := A1) (H2 := H1) (m2 := m) x1
    obtain ⟨ys0, sq0, _⟩ := src A1 H1 m (Ext.refl _ _) s1 ⟨0, ρ, i0⟩
    refine ⟨a, rfl, ⟨ys0, sq0⟩, fun i k σ' H' => k = xs.length - i ∧ i ≤ xs.length ∧ Hd K A1 H1 (I i) σ' H', ⟨xs.length, rfl, Nat.zero_le _, A1, ρ, m, Ext.refl _ _, s1, v.mono e, i0⟩, ?_⟩
    rintro i k σ' H' ⟨rfl, hi, A2, ρ2, m2, e2, s2, v2, p2⟩
    obtain ⟨ys, sq, dy⟩ := src A2 H' m2 e2 s2 ⟨i, ρ2, p2⟩
    have ly := dy.length
    by_cases hlt : i < xs.length
    · have hy : ys[i]? = some (ys[i]'(by omega)) := List.getElem?_eq_getElem _
      refine .inr ⟨⟨ys, _, sq, hy⟩, Hd K A1 H1 (I (i + 1)), fun σ3 H3 p3 => ⟨xs.length - (i + 1), by omega, rfl, hlt, p3⟩, fun x H3 yy => ?_⟩
      obtain ⟨eH, hx⟩ := yy
      subst eH
      obtain ⟨dd, q1, q2⟩ := dy.getV (hx ys sq)
      exact hs i dd ρ2 m2 q1 p2 A2 σ' _ x s2 v2 q2 _ fun A3 H3 σ3 ρ3 m3 e3 s3 v3 p3 => p3 A3 σ3 H3 _ s3 v3 (Hd.ends (e2.trans e3) (gg.mono e) (I (i + 1)))
    · have : i = xs.length := by omega
      subst this
      exact .inl ⟨⟨ys, sq, by omega⟩, gg.nx A2 H' σ' ρ2 m2 (e.trans e2) s2 v2 (hf ρ2 m2 p2)⟩
theorem sw_forE {ta : TA} {g : TG} {tb : TS} (h : AW K ta ρ μ fun ds m => ∃ d xs, ds = [d] ∧ ∃ I : Nat → Ro → Mu → Prop, Is d xs (fun m' => ∃ i ρ', I i ρ' m') ∧ I 0 ρ m ∧
      (∀ i x ρ' m', xs[i]? = some x → I i ρ' m' → GW K g (.tup [.int (i : Nat), x]) ρ' m' fun ρ2 m2 => SW K tb ρ2 m2 { E with nx := I (i + 1), ct := I (i + 1), bk := E.nx }) ∧ ∀ ρ' m', I xs.length ρ' m' → E.nx ρ' m') : SW K (tFor (iEnum K ta) g tb) ρ μ E := fun A σ H D s v gg =>
  h A σ H s v _ fun A1 H1 vs ds m e s1 x ⟨d, xs, hd, I, hk, i0, hs, hf⟩ => by
    subst hd
    cases x with
    | cons x1 x =>
      cases x
      obtain ⟨a, rfl, src⟩ := hk.at_ (A2 := A1) (H2 := H1) (m2 := m) x1
      obtain ⟨ys0, sq0, _⟩ := src A1 H1 m (Ext.refl _ _) s1 ⟨0, ρ, i0⟩
      refine ⟨a, ys0, rfl, sq0, fun i k σ' H' => k = xs.length - i ∧ i ≤ xs.length ∧ Hd K A1 H1 (I i) σ' H', ⟨xs.length, rfl, Nat.zero_le _, A1, ρ, m, Ext.refl _ _, s1, v.mono e, i0⟩, ?_⟩
      rintro i k σ' H' ⟨rfl, hi, A2, ρ2, m2, e2, s2, v2, p2⟩
      obtain ⟨ys, sq, dy⟩ := src A2 H' m2 e2 s2 ⟨i, ρ2, p2⟩
      have ly := dy.length
      by_cases hlt : i < xs.length
      · have hy : ys[i]? = some (ys[i]'(by omega)) := List.getElem?_eq_getElem _
        refine .inr ⟨⟨ys, _, sq, hy⟩, Hd K A1 H1 (I (i + 1)), fun σ3 H3 p3 => ⟨xs.length - (i + 1), by omega, rfl, hlt, p3⟩, fun x H3 yy => ?_⟩
        obtain ⟨T, z, rfl, hT, rfl, hx⟩ := yy
        obtain ⟨dd, q1, q2⟩ := dy.getV (hx ys sq)
        exact hs i dd ρ2 m2 q1 p2 A2 σ' _ _ (s2.new hT) (v2.mono (ext_new hT)) (Dn.newT s2 hT (.cons (.int _) (.cons q2 .nil))) _ fun A3 H3 σ3 ρ3 m3 e3 s3 v3 p3 => p3 A3 σ3 H3 _ s3 v3 (Hd.ends ((e2.trans (ext_new hT)).trans e3) (gg.mono e) (I (i + 1)))
      · have : i = xs.length := by omega
        subst this
        exact .inl ⟨⟨ys, sq, by omega⟩, gg.nx A2 H' σ' ρ2 m2 (e.trans e2) s2 v2 (hf ρ2 m2 p2)⟩
/-! ### comprehensions over enumerate, the target two names -/
def wipe2 (ρ : Ro) (i j : Nat) : Ro := (ρ.set j none).set i none
theorem wipe2_set {σ : L2.St} {i j : Nat} {x y : Option V} : L2.wipe (((L2.wipe σ [i, j]).set i x).set j y) [i, j] = L2.wipe σ [i, j] := by
  show ((((((σ.set j none).set i none).set i x).set j y).set j none).set i none) = (σ.set j none).set i none
  apply List.ext_getElem?
  intro n
  simp only [List.getElem?_set, List.length_set]
  by_cases h1 : i = n
  · subst h1; simp
  · by_cases h2 : j = n
    · subst h2; simp [h1]
    · simp [h1, h2]
theorem Env.wipe2 {A : As} {H : Hp} {σ : L2.St} {ρ : Ro} (h : DL.Env K A H σ ρ) (i j : Nat) : DL.Env K A H (L2.wipe σ [i, j]) (wipe2 ρ i j) := (h.wipe j).wipe i
theorem ew_lcE {ta : TA} {i j : Nat} {tt : TT} (h : AW K ta ρ μ fun ds m => ∃ d xs, ds = [d] ∧ (d = .lst xs ∨ ∃ k, d = .cell k ∧ m[k]? = some (some xs)) ∧ xs.length < sizeLine ∧ ∃ f : Nat → Dat → Option Dat,
      (∀ n x acc, xs[n]? = some x → TurnW K tt te (((wipe2 ρ i j).set i (some (.int (n : Nat)))).set j (some x)) (m ++ [some acc]) (f n x)) ∧ P (.lst ((List.range xs.length).filterMap fun n => (xs[n]?).bind (f n))) m) :
    EW K (tLc (iEnum K ta) (gTup K 2 (gCons (gName i) (gCons (gName j) gNil))) tt te [i, j]) ρ μ P := fun A σ H s v Q q =>
  h A σ H s v _ fun A1 H1 vs ds m e s1 x ⟨d, xs, hd, hk, hz, f, hf, p⟩ => by
    subst hd
    cases x with
    | cons x1 x =>
      cases x
      have hk' : Is d xs (fun m' => ∃ acc, m' = m ∨ m' = m ++ [some acc]) := hk.imp id fun ⟨k, e1, e2⟩ => ⟨k, e1, fun m' ⟨acc, hm⟩ => by
        rcases hm with hm | hm
        · rw [hm]; exact e2
        · rw [hm, List.getElem?_append_left (List.getElem?_eq_some_iff.mp e2).1]; exact e2⟩
      obtain ⟨a, rfl, src⟩ := hk'.at_ (A2 := A1) (H2 := H1) (m2 := m) x1
      obtain ⟨ys0, sq0, _⟩ := src A1 H1 m (Ext.refl _ _) s1 ⟨[], .inl rfl⟩
      refine ⟨a, ys0, rfl, sq0, fun D hD => ?_⟩
      refine ⟨fun n k H' => k = xs.length - n ∧ n ≤ xs.length ∧ Grow K A1 H1 m D ((List.range n).filterMap fun n => (xs[n]?).bind (f n)) H', ⟨xs.length, rfl, Nat.zero_le _, Grow.start s1 hD⟩, ?_⟩
      rintro n k H2 ⟨rfl, hn, g⟩
      obtain ⟨A2, e2, s2, hD2⟩ := g.ex
      obtain ⟨ys, sq, dy⟩ := src A2 H2 _ ((ext_open hD).trans e2) s2 ⟨_, .inr rfl⟩
      have ly := dy.length
      by_cases hlt : n < xs.length
      · have hy : ys[n]? = some (ys[n]'(by omega)) := List.getElem?_eq_getElem _
        refine .inr ⟨⟨ys, _, sq, hy⟩, Grow K A1 H1 m D ((List.range (n + 1)).filterMap fun n => (xs[n]?).bind (f n)), fun H3 p3 => ⟨xs.length - (n + 1), by omega, rfl, hlt, p3⟩, fun x H3 yy => ?_⟩
        obtain ⟨T, z, rfl, hT, rfl, hx⟩ := yy
        obtain ⟨dd, q1, q2⟩ := dy.getV (hx ys sq)
        have hT' := ext_new (A := A2) (o := .tup [.int (n : Nat), z]) hT
        refine ⟨T, [.int (n : Nat), z], rfl, .of upd_same, rfl, .int (n : Nat), [z], rfl, z, [], rfl, rfl, wipe2_set, ?_⟩
        have lz : ((List.range n).filterMap fun n => (xs[n]?).bind (f n)).length < sizeLine := Nat.lt_of_le_of_lt (List.length_filterMap_le _ _) (by rw [List.length_range]; omega)
        refine turn_run (hf n dd _ q1) (e2.trans hT') (s2.new hT) (hT'.cells _ _ hD2) ((((v.mono (((e.trans (ext_open hD)).trans e2).trans hT')).wipe2 i j).set i (.int _)).set j (q2.mono hT')) lz g.nc _ fun H' g' => ?_
        rw [List.range_succ, List.filterMap_append]
        have : (List.filterMap (fun n => (xs[n]?).bind (f n)) [n]) = (f n dd).toList := by
          cases q : f n dd <;> simp [q1, q]
        rw [this]
        exact g'
      · have : n = xs.length := by omega
        subst this
        obtain ⟨A3, e3, s3, d3⟩ := Grow.done s1 hD g
        exact .inl ⟨⟨ys, sq, by omega⟩, q A3 H2 _ _ m (e.trans e3) s3 d3 p⟩
/-! ### keywords: three, turned about -/
def k3t {α : Type} : List α → List α → List α := fun us ws => match us, ws with
  | [], [a, b, c] => [c, b, a]
  | _, _ => []
theorem pr3t {α β : Type} {R : α → β → Prop} : ∀ {us : List α} {vs : List β} {ws : List α} {zs : List β}, Paired R us vs → Paired R ws zs → Paired R (k3t us ws) (k3t vs zs)
  | _, _, _, _, .nil, .cons a (.cons b (.cons c .nil)) => .cons c (.cons b (.cons a .nil))
  | _, _, _, _, .nil, .nil => .nil
  | _, _, _, _, .nil, .cons _ .nil => .nil
  | _, _, _, _, .nil, .cons _ (.cons _ .nil) => .nil
  | _, _, _, _, .nil, .cons _ (.cons _ (.cons _ (.cons _ _))) => .nil
  | _, _, _, _, .cons _ _, _ => .nil
theorem ew_k3t {F : FW} {E : XK} {a b c : Str} {tk : TA} (h : AW K tk ρ μ fun es m2 => es.length = 3 ∧ F (k3t [] es) m2 P) : EW K (tCallN 0 [a, b, c].length (spD K F) k3t E tNil tk) ρ μ P :=
  ew_callN k3t (fun A H vs ds ws es x y _ _ => pair_dn (pr3t (dn_pair x) (dn_pair y)))
    (aw_nil (fun A σ H s v Q q => h A σ H s v Q fun A' H' vs ds m e s' x ⟨a, b⟩ =>
      q A' H' vs ds m e s' x ⟨rfl, a, b⟩))
end
end DL
namespace DL
open PySem PySem.Spec PyProof.Rows L2 StX
section
variable {K : PySem.W.Frag} {ρ : Ro} {μ : Mu} {ta te : TE} {nx bk ct : Ro → Mu → Prop} {rt : PD}
theorem s_forV {i : Nat} {g : TG} {tb : TS} {xs : List Dat} (hd : ρ[i]? = some (some (.tup xs)) ∨ ρ[i]? = some (some (.lst xs))) (I : Nat → Ro → Mu → Prop) (i0 : I 0 ρ μ)
    (hs : ∀ i x ρ' m', xs[i]? = some x → I i ρ' m' → GW K g x ρ' m' fun ρ2 m2 => SW K tb ρ2 m2 (.mk (I (i + 1)) rt nx (I (i + 1)))) (hf : ∀ ρ' m', I xs.length ρ' m' → nx ρ' m') : SW K (tFor (iSeq K (tVar i)) g tb) ρ μ (.mk nx rt bk ct) := sw_forV hd I i0 hs hf
theorem s_forC {g : TG} {tb : TS} (h : EW K te ρ μ fun d m => ∃ xs, ∃ I : Nat → Ro → Mu → Prop, Is d xs (fun m' => ∃ i ρ', I i ρ' m') ∧ I 0 ρ m ∧
      (∀ i x ρ' m', xs[i]? = some x → I i ρ' m' → GW K g x ρ' m' fun ρ2 m2 => SW K tb ρ2 m2 (.mk (I (i + 1)) rt nx (I (i + 1)))) ∧ ∀ ρ' m', I xs.length ρ' m' → nx ρ' m') : SW K (tFor (iList K te) g tb) ρ μ (.mk nx rt bk ct) := sw_forC h
theorem s_forE {ta : TA} {g : TG} {tb : TS} (h : AW K ta ρ μ fun ds m => ∃ d xs, ds = [d] ∧ ∃ I : Nat → Ro → Mu → Prop, Is d xs (fun m' => ∃ i ρ', I i ρ' m') ∧ I 0 ρ m ∧
      (∀ i x ρ' m', xs[i]? = some x → I i ρ' m' → GW K g (.tup [.int (i : Nat), x]) ρ' m' fun ρ2 m2 => SW K tb ρ2 m2 (.mk (I (i + 1)) rt nx (I (i + 1)))) ∧ ∀ ρ' m', I xs.length ρ' m' → nx ρ' m') : SW K (tFor (iEnum K ta) g tb) ρ μ (.mk nx rt bk ct) := sw_forE h
end
end DL
namespace DL
open PySem PySem.Spec PyProof.Rows L2 StX
/-! ### repr of more kinds -/
def rReprX (K : PySem.W.Frag) : List V → Hp → VK → Prop := fun xs H Q => rRepr K xs H Q ∨ (∃ b : Bool, xs = [.bl b] ∧ Q (.str (if b then "True" else "False")) H) ∨ (xs = [.non] ∧ Q (.str ("None" : String)) H) ∨
  (∃ x : Str, xs = [.str x] ∧ (reprText x).length ≤ sizeLine ∧ Q (.str (reprText x)) H) ∨ ∃ a, xs = [.ref a] ∧ H a = some (.dT []) ∧ Q (.str (PyData.shown (.dict []))) H
theorem call_reprX {X : Cx} (hG : X.A.guards = some []) (hu : X.A.units + 64 < cLine) : CallR X (.builtin "repr") (rReprX X.K) := by
  intro pins s σ H xs us Q I rv h
  rcases h with h | ⟨b, rfl, q⟩ | ⟨rfl, q⟩ | ⟨x, rfl, hz, q⟩ | ⟨a, rfl, hH, q⟩
  · exact call_repr hG hu pins s σ H xs us Q I rv h
  · obtain ⟨u, rfl, ru⟩ := vals1 rv
    cases ru
    exact PySem.P.repr_of_bool ⟨.str _, H, I.tok _, ⟨_, rfl⟩, q⟩
  · obtain ⟨u, rfl, ru⟩ := vals1 rv
    cases ru
    exact PySem.P.repr_of_none ⟨.str _, H, I.tok _, ⟨_, rfl⟩, q⟩
  · obtain ⟨u, rfl, t, rfl⟩ := vals1 rv
    exact PySem.P.repr_of_str ⟨.str _, H, I.tok _, ⟨_, rfl⟩, q⟩ hz
  · obtain ⟨u, rfl, ru⟩ := vals1 rv
    cases ru
    obtain ⟨_, ns, ys, r, o, es, ep, e1, e2, e3, e4, _⟩ := (show ObjOk X.prog X.w H s.heap a (.dT []) from I.hok a _ hH)
    cases r
    have ee : es.toList = [] := by rw [e4]; rfl
    have rd : Reads s.heap (.ref a) (.dict []) (a :: [] ++ []) := Reads.dict e1 e2.1 e3 (by rw [ee]; exact .nil) (by rw [ee]; exact .nil)
    refine repr_of_reads' rd rfl (fun _ z => ?_) hG (by show X.A.units + (_ + 1) < cLine; simp [PyData.depth, PyData.depthKv]; omega) (fun _ _ z => z) ?_ (by decide)
    · have : sysModules = a := by simpa using z
      rw [← this] at ns
      simp at ns
    · intro h' u tk hk
      exact ⟨.str _, H, I.kept hk, ⟨u, rfl⟩, q⟩
/-! ### how long a text -/
mutual
def small : Dat → Bool
  | .int i => decide (i.natAbs < 1000) | .tup xs => smalls xs | .lst xs => smalls xs | .str x => decide ((reprText x).length ≤ 5) | _ => true
def smalls : List Dat → Bool
  | [] => true
  | d :: ds => small d && smalls ds
end
mutual
def wt : Dat → Nat
  | .tup xs => wts xs + 4 | .lst xs => wts xs + 4 | _ => 5
def wts : List Dat → Nat
  | [] => 0
  | d :: ds => wt d + 2 + wts ds
end
theorem listText_le (ts : List Str) : (listText ts).length ≤ piled ts + 2 := by
  unfold listText
  rw [strLen_append]
  have e1 : ((("]" : String) : Str)).length = 1 := rfl
  rw [e1]
  cases ts with
  | nil =>
    show (("[" : String) : Str).length + 1 ≤ 0 + 2
    decide
  | cons t r =>
    have : (textFrom 0 "[" (t :: r)).length = _ := textFrom_length_pos r 1 ((("[" : String) : Str) ++ (if (0 : Nat) > 0 then ", " else "" : String) ++ t) (by decide)
    rw [this, strLen_append, strLen_append, piled_cons]
    have e2 : ((("[" : String) : Str)).length = 1 := rfl
    have e3 : (((if (0 : Nat) > 0 then ", " else "" : String) : Str)).length = 0 := rfl
    rw [e2, e3]
    omega
theorem tupleText_le (ts : List Str) : (tupleText ts).length ≤ piled ts + 3 := by
  unfold tupleText
  rw [strLen_append, strLen_append]
  have e1 : ((("(" : String) : Str)).length = 1 := rfl
  have e3 : (((if ts.length == 1 then ",)" else ")" : String) : Str)).length ≤ 2 := by split <;> decide
  rw [e1]
  by_cases h : ts = []
  · subst h
    have : (Str.join ", " []).length = 0 := rfl
    rw [this]
    have e4 : (((if ([] : List Str).length == 1 then ",)" else ")" : String) : Str)).length = 1 := rfl
    rw [e4]
    simp [piled]
  · have := join_length_add ts h
    omega
mutual
theorem shown_le : ∀ d : Dat, okD d = true → small d = true → (toPy d).shown.length ≤ wt d ∧ (toPy d).showable = true
  | .non, _, _ => by simp only [toPy, PyData.shown, PyData.showable, wt]; decide
  | .bl b, _, _ => by
    simp only [toPy, PyData.shown, PyData.showable, wt]
    cases b <;> decide
  | .int i, _, h => by
    have hi : i.natAbs < 1000 := by simpa [small] using h
    simp only [toPy, PyData.shown, PyData.showable, wt]
    refine ⟨?_, ?_⟩
    · have := int_text_length_le10 (a := i) (k := 3) (by decide) hi
      show (Str.ofString (toString i)).length ≤ 5
      rw [PySem.ofString_length]
      omega
    · refine decide_eq_true ?_
      by_cases h0 : i.natAbs = 0
      · rw [h0]; decide
      · refine (Nat.log2_lt h0).mpr (Nat.lt_of_lt_of_le hi ?_)
        exact Nat.le_trans (by decide : 1000 ≤ 2 ^ 10) (Nat.pow_le_pow_right (by decide) (by decide))
  | .str x, _, h => by
    have hi : (reprText x).length ≤ 5 := by simpa [small] using h
    simp only [toPy, PyData.shown, PyData.showable, wt]
    exact ⟨hi, trivial⟩
  | .cell k, h, _ => by simp [okD] at h
  | .dcell k, h, _ => by simp [okD] at h
  | .dst _ _, h, _ => by simp [okD] at h
  | .key _, h, _ => by simp [okD] at h
  | .dct _ _, h, _ => by simp [okD] at h
  | .obj _ _ _, h, _ => by simp [okD] at h
  | .tup xs, h, g => by
    rw [okD] at h
    rw [small] at g
    have := shown_les xs h g
    simp only [toPy, PyData.shown, PyData.showable, wt]
    have t := tupleText_le (PyData.shownAll (toPys xs))
    exact ⟨by omega, this.2⟩
  | .lst xs, h, g => by
    rw [okD] at h
    rw [small] at g
    have := shown_les xs h g
    simp only [toPy, PyData.shown, PyData.showable, wt]
    have t := listText_le (PyData.shownAll (toPys xs))
    exact ⟨by omega, this.2⟩
theorem shown_les : ∀ ds : List Dat, okDs ds = true → smalls ds = true → piled (PyData.shownAll (toPys ds)) ≤ wts ds ∧ PyData.showableAll (toPys ds) = true
  | [], _, _ => by simp [toPys, PyData.shownAll, PyData.showableAll, piled, wts]
  | d :: ds, h, g => by
    rw [okDs, Bool.and_eq_true] at h
    rw [smalls, Bool.and_eq_true] at g
    have h1 := shown_le d h.1 g.1
    have h2 := shown_les ds h.2 g.2
    simp only [toPys, PyData.shownAll, PyData.showableAll, piled_cons, h1.2, h2.2, Bool.and_self, wts]
    exact ⟨by omega, trivial⟩
end
mutual
theorem noDict : ∀ d : Dat, okD d = true → (toPy d).hasDict = false
  | .non, _ => by simp only [toPy, PyData.hasDict]
  | .bl b, _ => by simp only [toPy, PyData.hasDict]
  | .int i, _ => by simp only [toPy, PyData.hasDict]
  | .str x, _ => by simp only [toPy, PyData.hasDict]
  | .cell k, h => by simp [okD] at h
  | .dcell k, h => by simp [okD] at h
  | .dst _ _, h => by simp [okD] at h
  | .key _, h => by simp [okD] at h
  | .dct _ _, h => by simp [okD] at h
  | .obj _ _ _, h => by simp [okD] at h
  | .tup xs, h => by
    rw [okD] at h
    simp only [toPy, PyData.hasDict, noDicts xs h]
  | .lst xs, h => by
    rw [okD] at h
    simp only [toPy, PyData.hasDict, noDicts xs h]
theorem noDicts : ∀ ds : List Dat, okDs ds = true → PyData.hasDictAll (toPys ds) = false
  | [], _ => by simp only [toPys, PyData.hasDictAll]
  | d :: ds, h => by
    rw [okDs, Bool.and_eq_true] at h
    simp only [toPys, PyData.hasDictAll, noDict d h.1, noDicts ds h.2, Bool.or_self]
end
/-- what a law shows -/
inductive Rp : Dat → Prop
  | non : Rp .non
  | bl (b : Bool) : Rp (.bl b)
  | str (x : Str) : (reprText x).length ≤ sizeLine → Rp (.str x)
  | dct : Rp (.dct [] [])
  | tup (xs : List Dat) : okDs xs = true → smalls xs = true → deps xs ≤ 50 → wts xs ≤ 1000000 → Rp (.tup xs)
  | lst (xs : List Dat) : okDs xs = true → smalls xs = true → deps xs ≤ 50 → wts xs ≤ 1000000 → Rp (.lst xs)
def shw : Dat → Str
  | .dct _ _ => PyData.shown (.dict [])
  | d => (toPy d).shown
section
variable {K : PySem.W.Frag} {ρ : Ro} {μ : Mu} {P : PD}
theorem cw_rp {d : Dat} (h : Rp d) (p : P (.str (shw d)) μ) : CW K (rReprX K) [d] μ P := fun A H us s x Q q => by
  cases x with
  | cons a t =>
    cases t
    cases h with
    | non => cases a; exact .inr (.inr (.inl ⟨rfl, q A H _ _ μ (Ext.refl A H) s (.str _) p⟩))
    | bl b => cases a; exact .inr (.inl ⟨b, rfl, q A H _ _ μ (Ext.refl A H) s (.str _) p⟩)
    | str x hx => cases a; exact .inr (.inr (.inr (.inl ⟨x, rfl, hx, q A H _ _ μ (Ext.refl A H) s (.str _) p⟩)))
    | dct =>
      generalize e1 : ([] : List (List L2.Key)) = ks at a
      generalize e2 : ([] : List Dat) = xs at a
      cases a with
      | @dct b kvs ds h1 h2 =>
        have : kvs = [] := by
          cases kvs with
          | nil => rfl
          | cons p r => simp at e1
        subst this
        exact .inr (.inr (.inr (.inr ⟨b, rfl, (hid_of h1).1, q A H _ _ μ (Ext.refl A H) s (.str _) p⟩)))
    | tup xs h1 h2 h3 h4 =>
      have ok : okD (.tup xs) = true := by rw [okD]; exact h1
      have sh : shp (.tup xs) = true := by
        unfold shp
        rw [ok, Bool.true_and]
        refine decide_eq_true ?_
        simp only [dep]
        omega
      have s1 := shown_le (.tup xs) ok (by rw [small]; exact h2)
      have l1 : (toPy (.tup xs)).shown.length ≤ sizeLine := Nat.le_trans s1.1 (by simp only [wt]; rw [sizeLine_eq]; omega)
      exact .inl (cw_repr sh rfl s1.2 (noDict _ ok) l1 (by simp only [dep]; omega) p A H _ s (.cons a .nil) Q q)
    | lst xs h1 h2 h3 h4 =>
      have ok : okD (.lst xs) = true := by rw [okD]; exact h1
      have sh : shp (.lst xs) = true := by
        unfold shp
        rw [ok, Bool.true_and]
        refine decide_eq_true ?_
        simp only [dep]
        omega
      have s1 := shown_le (.lst xs) ok (by rw [small]; exact h2)
      have l1 : (toPy (.lst xs)).shown.length ≤ sizeLine := Nat.le_trans s1.1 (by simp only [wt]; rw [sizeLine_eq]; omega)
      exact .inl (cw_repr sh rfl s1.2 (noDict _ ok) l1 (by simp only [dep]; omega) p A H _ s (.cons a .nil) Q q)
theorem ew_dict0 (p : P (.dct [] []) μ) : EW K tDNewT ρ μ P := fun A σ H s v Q q b hb =>
  q A _ (.ref b) (.dct [] []) μ (ext_new hb) (s.new hb) (.dct (kvs := []) (hid_to upd_same (s.fresh hb)) .nil) p
end
end DL
namespace DL
open PySem PySem.Spec PyProof.Rows L2 StX
section
variable {K : PySem.W.Frag} {ρ : Ro} {μ : Mu} {ta te : TE} {nx bk ct : Ro → Mu → Prop} {rt : PD} {E : DE}
theorem sw_par3 {i j l : Nat} {t : TA} (h : AW K t ρ μ fun ds m => ∃ a b c, ds = [a, b, c] ∧ E.nx (((ρ.set i (some a)).set j (some b)).set l (some c)) m) : SW K (tPar3 i j l t) ρ μ E := fun A σ H D s v g =>
  h A σ H s v _ fun A1 H1 vs ds m e s1 x ⟨a, b, c, hd, p⟩ => by
    subst hd
    cases x with
    | cons x1 x => cases x with
      | cons x2 x => cases x with
        | cons x3 x =>
          cases x
          exact ⟨_, _, _, rfl, g.nx A1 H1 _ _ m e s1 ((((v.mono e).set i x1).set j x2).set l x3) p⟩
theorem s_par3 {i j l : Nat} {t : TA} (h : AW K t ρ μ fun ds m => ∃ a b c, ds = [a, b, c] ∧ nx (((ρ.set i (some a)).set j (some b)).set l (some c)) m) : SW K (tPar3 i j l t) ρ μ (.mk nx rt bk ct) := sw_par3 h
theorem leaf_three {a b c : Dat} {Q : Dat → Dat → Dat → Prop} (h : Q a b c) : ∃ x y z, [a, b, c] = [x, y, z] ∧ Q x y z := ⟨a, b, c, rfl, h⟩
end
end DL
namespace DL
open PySem PySem.Spec PyProof.Rows L2
open AutoSeq1 (wpAny_loadPart')
/-! ### enumerate(a tuple) -/
theorem enum_newT (a : Addr) (its : Array Value) (n : Nat) (dd : Option Addr) (sl : Array (Option Value)) : Meets (Builtin.«enumerate.__new__» ⟨[.type "enumerate", .ref a], []⟩) (fun _ R s => s.heap.get? a = some { cls := .type "tuple", dict := dd, data := .seq its n, slots := sl } ∧
      R (.ok (.ret (.ref (s.heap.push { cls := .type "tuple_iterator", data := .fields #[.ref a, .int 0 0] }).objs.size)))
        { s with heap := (s.heap.push { cls := .type "tuple_iterator", data := .fields #[.ref a, .int 0 0] }).push { cls := .type "enumerate", data := .fields #[.none, .bool false, .ref s.heap.objs.size, rawInt 0, .none, .none] } }) :=
  .of_wp fun prog w A R s h => by
    obtain ⟨hp, gg, dr, tk, os⟩ := s
    obtain ⟨hl, h⟩ := h
    have hs := sub_enumerate
    have hT : Heap.IsTuple (Shared.heap ⟨hp, gg, dr, tk, os⟩) a its := ⟨_, hl, rfl, n, rfl⟩
    wp_walk using wpAny_loadPart' hl
    refine wpAny_stack_any fun st => wpAny_pure ?_
    split
    · rename_i c _ _ _ _ _
      cases (c == Value.type "enumerate") <;> (wp_walk using wpAny_loadPart' hl, wpAny_pyIter_tuple hT) <;> exact ⟨_, rfl, h⟩
    · wp_walk using wpAny_loadPart' hl, wpAny_pyIter_tuple hT
      exact ⟨_, rfl, h⟩
theorem call_enumT {prog : Program} {w : World} {A : Around} {E : Value → Shared → Prop} {s : Shared} {a : Addr} {its : Array Value} {Q : Value → Shared → Prop} (hT : s.heap.IsTuple a its)
    (h : ∀ h2, IsEnum h2 (s.heap.objs.size + 1) s.heap.objs.size 0 .none → h2.IsTupleIter s.heap.objs.size a 0 → h2.objs.size = s.heap.objs.size + 2 → (∀ b o, s.heap.get? b = some o → h2.get? b = some o) → Q (.ref (s.heap.objs.size + 1)) { s with heap := h2 }) :
    wpAny (model prog w) A (call (.type "enumerate") [.ref a]) Q E s := by
  obtain ⟨⟨c, dd, dt, sl⟩, hl, hc, n, hd⟩ := hT
  simp only at hc hd
  subst hc hd
  refine callType_new F.called_enumerate (by decide) (F.typeCall_enumerate_1 _) (F.newCall_enumerate_1 _) (fun obj => F.args_object_init_2 obj _) F.entry_enumerate_new (enum_newT a its n dd sl) ⟨hl, ?_⟩
  have z : (s.heap.push { cls := .type "tuple_iterator", data := .fields #[.ref a, .int 0 0] }).objs.size = s.heap.objs.size + 1 := by rw [Heap.size_push]
  rw [z]
  have q := Heap.get?_push_size (s.heap.push { cls := .type "tuple_iterator", data := .fields #[.ref a, .int 0 0] }) (o := { cls := .type "enumerate", data := .fields #[.none, .bool false, .ref s.heap.objs.size, rawInt 0, .none, .none] }) rfl
  rw [z] at q
  exact ⟨⟨_, q, rfl⟩, h _ q ⟨_, Heap.get?_push_of_some _ (Heap.get?_push_size _ rfl), rfl, rfl⟩ (by rw [Heap.size_push, z]) fun b o e => Heap.get?_push_of_some _ (Heap.get?_push_of_some _ e)⟩
/-- the tuple at a, its items in new pairs with their places -/
def IteT (K : PySem.W.Frag) (a : Addr) : It where
  go i H := ∃ (us : List V) (x : V), SqT K H a us ∧ us[i]? = some x
  yld i H v H' := ∃ T x, v = .ref T ∧ H T = none ∧ H' = upd H T (.tup [.int (i : Nat), x]) ∧ ∀ us, SqT K H a us → us[i]? = some x
  stop i H := ∃ us : List V, SqT K H a us ∧ us.length = i
theorem two_of {b e it : Addr} (h : b ∈ [e, it]) : b = e ∨ b = it := by simpa using h
theorem turn_enumT {P : Program} {w : World} {K : PySem.W.Frag} {elts : List Expr} {kk : Nat} {tpos : Pos} (a e it : Addr) : Turn P w K (.Tuple elts kk tpos) (IteT K a) [e, it] e (fun i h => (∃ old, IsEnum h e it ((i : Nat) : Int) old) ∧ h.IsTupleIter it a i ∧ e ≠ it ∧ a ≠ it ∧ e ≠ a) where
  mem := List.mem_cons_self ..
  obj i h st b hb := by
    obtain ⟨⟨old, he⟩, ⟨o, ho, _, hd⟩, _⟩ := st
    rcases two_of hb with z | z <;> rw [z]
    · exact ⟨_, he, fun v q => nomatch q⟩
    · exact ⟨o, ho, fun v q => by rw [hd] at q; exact nomatch q⟩
  keep i h h' st k := by
    obtain ⟨⟨old, he⟩, hi, r⟩ := st
    exact ⟨⟨old, k e (by simp) _ he⟩, hi.at fun o q => k it (by simp) o q, r⟩
  item := by
    intro X hP hw hK hc i pins s σ H E I hf st hg
    subst hP hw hK
    obtain ⟨⟨old, he⟩, hit, hne, hai, hea⟩ := st
    obtain ⟨us, x, hq, hx⟩ := hg
    obtain ⟨its, rv, p, _⟩ := I.tuple hq
    obtain ⟨u, hu, ru⟩ := rv.get hx
    have hT : s.heap.IsTuple a its.toArray := p
    have hel : e < s.heap.objs.size := Heap.lt_size he
    have hil : it < s.heap.objs.size := by obtain ⟨_, q, _⟩ := hit; exact Heap.lt_size q
    have il : i < its.toArray.size := by
      have := (List.getElem?_eq_some_iff.mp hu).1
      simpa using this
    refine wpAny_pyNext_enum_itemD (Draws.tuple (A := X.A.in1) (I.ok.hd hc) it a hai its.toArray) he ⟨hit, hT⟩ il hne (by simp [hne, hea]) fun y h' tk hy ho st' hT' hsz hk => ?_
    obtain ⟨hit', _⟩ := st'
    have ey : y = u := by
      have hu' : its.toArray[i]? = some u := by simpa using hu
      rw [hu'] at hy
      exact (Option.some.inj hy).symm
    subst ey
    refine ⟨_, rfl, wpAny_letOwnedTupleGo_enum (s := { s with heap := h', toks := tk + 1 }) ho fun h2 he2 sb => ?_⟩
    have at2 : h2.get? s.heap.objs.size = some { cls := .type "tuple", data := .seq #[.int i tk, y] } := (sb.2 _ (Nat.ne_of_gt hel)).trans hT'
    have new : ObjOk X.prog X.w (upd H s.heap.objs.size (.tup [.int (i : Nat), x])) h2 s.heap.objs.size (.tup [.int (i : Nat), x]) :=
      ⟨by show 2 ≤ sizeLine; decide, [.int i tk, y], .cons ⟨_, rfl⟩ (.cons ru .nil), ⟨_, at2, rfl, _, rfl⟩⟩
    have I1 : Inv X pins σ (upd H s.heap.objs.size (.tup [.int (i : Nat), x])) { s with heap := h2, toks := tk + 1 } :=
      I.turnedNew (t' := tk + 1) (ch := [e, it]) (fun b ob hb q => (sb.2 b fun z => hb (by simp [z])).trans (hk b ob (fun z => hb (by simp [z])) (fun z => hb (by simp [z])) q)) hf (Nat.le_refl _) new
    refine ⟨.ref s.heap.objs.size, _, I1, rfl, ⟨_, x, rfl, I.hok.fresh (Nat.le_refl _), rfl, fun ys hy => by rw [I.tuple_inj hy hq]; exact hx⟩, ⟨⟨y, ?_⟩, hit'.at fun o q => (sb.2 it (Ne.symm hne)).trans q, hne, hai, hea⟩, fun b hb => ?_⟩
    · have e1 : ((i + 1 : Nat) : Int) = (i : Int) + 1 := by omega
      rw [e1]
      exact he2
    · have lt : b < s.heap.objs.size := by rcases two_of hb with z | z <;> rw [z] <;> assumption
      rw [upd_ne (Nat.ne_of_lt lt)]
      exact (hf b hb).1
  done := by
    intro X hP hw hK hc i pins s σ H E I hf st hg
    subst hP hw hK
    obtain ⟨⟨old, he⟩, hit, hne, hai, hea⟩ := st
    obtain ⟨us, hq, hx⟩ := hg
    obtain ⟨its, rv, p, _⟩ := I.tuple hq
    obtain ⟨f0, f1, f2, f3, f4, f5⟩ := hf it (by simp)
    have hl := rv.length
    have hT : s.heap.IsTuple a its.toArray := p
    have ei : i = its.toArray.size := by simp; omega
    refine wpAny_pyNext_enum_endD (Draws.tuple (A := X.A.in1) (I.ok.hd hc) it a hai its.toArray) he ⟨ei ▸ hit, hT⟩ fun h' eb => ⟨rfl, I.turned (t' := s.toks) (fun b o hb e => eb b o hb e) f0 f1 f3 f4 f5⟩
  self A i s Q E st h := wpAny_pyIter_enum st.1.choose_spec h
/-- enumerate of a list or of a tuple -/
def iEnumA (K : PySem.W.Frag) (ta : TA) : TI := fun σ H R => ta σ H fun vs H1 => ∃ a xs, vs = [.ref a] ∧ ((SqL K H1 a xs ∧ R (Ite K a) H1) ∨ (SqT K H1 a xs ∧ R (IteT K a) H1))
theorem pi_enumA {X : Cx} {e : PySem.Expr} {ta : TA} {p pos tpos : Pos} {elts : List PySem.Expr} {kk : Nat} (hg : Gl X "enumerate") (hm : X.mg "enumerate" = none) (ha : PA X [e] ta) (hs : starEach [e] X.env = [(false, eval e X.env)] := by rfl) :
    PI X (.Tuple elts kk tpos) (.Call (.Name "enumerate" p) [e] [] pos) (iEnumA X.K ta) := ⟨fun pins s σ H R I h => by
  refine Call_ (ld_blt I hg hm boot_enumerate (PyProof.Rows.callWith_type1 (thn (ha.run pos pins s σ H _ I h) fun us s1 ⟨vs, H1, I1, r1, a, xs, ex, q1⟩ => ?_) hs rfl))
  subst ex
  cases r1 with
  | cons r rr =>
    cases rr
    cases r
    have fp : ∀ b ∈ [s1.heap.objs.size + 1, s1.heap.objs.size], FpOk X pins H1 b := fun b hb => by
      have hle : s1.heap.objs.size ≤ b := by
        rcases two_of hb with z | z
        · rw [z]; exact Nat.le_add_right _ _
        · rw [z]; exact Nat.le_refl _
      exact I1.fpOk hle (I1.hok.fresh hle)
    rcases q1 with ⟨hq, q⟩ | ⟨hq, q⟩
    · obtain ⟨its, rv, pl, _⟩ := I1.list hq
      refine call_enumerate_list pl.isList fun h2 he hit _ hk => wpAny_pyIter_enum he ?_
      exact ⟨_, _, _, _, H1, rfl, I1.kept (t' := s1.toks) hk, turn_enum a (s1.heap.objs.size + 1) s1.heap.objs.size, ⟨⟨.none, he⟩, hit, Nat.succ_ne_self _⟩, fp, q⟩
    · obtain ⟨its, rv, pl, _⟩ := I1.tuple hq
      obtain ⟨o, ho, _⟩ := id pl
      have la : a < s1.heap.objs.size := Heap.lt_size ho
      refine call_enumT (show s1.heap.IsTuple a its.toArray from pl) fun h2 he hit _ hk => wpAny_pyIter_enum he ?_
      exact ⟨_, _, _, _, H1, rfl, I1.kept (t' := s1.toks) hk, turn_enumT a (s1.heap.objs.size + 1) s1.heap.objs.size, ⟨⟨.none, he⟩, hit, Nat.succ_ne_self _, Nat.ne_of_lt la, Nat.ne_of_gt (Nat.lt_succ_of_lt la)⟩, fp, q⟩⟩
end DL
namespace DL
open PySem PySem.Spec PyProof.Rows L2
/-! ### cells that are closed: what is told of them stays as data -/
mutual
inductive Res (m : Mu) (n : Nat) : Dat → Dat → Prop
  | id {d : Dat} : blw n d = true → Res m n d d
  | cell {k : Nat} {xs ys : List Dat} : n ≤ k → m[k]? = some (some xs) → Ress m n xs ys → Res m n (.cell k) (.lst ys)
  | tup {xs ys : List Dat} : Ress m n xs ys → Res m n (.tup xs) (.tup ys)
  | lst {xs ys : List Dat} : Ress m n xs ys → Res m n (.lst xs) (.lst ys)
inductive Ress (m : Mu) (n : Nat) : List Dat → List Dat → Prop
  | nil : Ress m n [] []
  | cons {x y : Dat} {xs ys : List Dat} : Res m n x y → Ress m n xs ys → Ress m n (x :: xs) (y :: ys)
end
mutual
theorem nc_blw (n : Nat) : ∀ {d : Dat}, noCell d = true → blw n d = true
  | .non, _ => rfl
  | .bl _, _ => rfl
  | .int _, _ => rfl
  | .str _, _ => rfl
  | .tup xs, h => by rw [noCell] at h; rw [blw]; exact ncs_blws n h
  | .lst xs, h => by rw [noCell] at h; rw [blw]; exact ncs_blws n h
  | .cell k, h => by simp [noCell] at h
  | .dcell k, h => by simp [noCell] at h
  | .dst _ _, h => by simp [noCell] at h
  | .key _, h => by simp [noCell] at h
  | .dct _ xs, h => by rw [noCell] at h; rw [blw]; exact ncs_blws n h
  | .obj _ _ xs, h => by rw [noCell] at h; rw [blw]; exact ncs_blws n h
theorem ncs_blws (n : Nat) : ∀ {ds : List Dat}, noCells ds = true → blws n ds = true
  | [], _ => rfl
  | d :: ds, h => by rw [noCells, Bool.and_eq_true] at h; rw [blws, nc_blw n h.1, ncs_blws n h.2]; rfl
end
theorem Res.nc {m : Mu} {n : Nat} {d : Dat} (h : noCell d = true) : Res m n d d := .id (nc_blw n h)
theorem Ress.ncs {m : Mu} {n : Nat} : ∀ {ds : List Dat}, noCells ds = true → Ress m n ds ds
  | [], _ => .nil
  | d :: ds, h => by rw [noCells, Bool.and_eq_true] at h; exact .cons (.nc h.1) (Ress.ncs h.2)
section
variable {K : PySem.W.Frag} {A : As} {H : Hp} {m : Mu} {n : Nat}
theorem exB_take (s : Sto K A H m) : ExB n A H (A.take n) H := ⟨fun a o q => by
  obtain ⟨q1, q2⟩ := hid_of q
  exact hid_to q1 fun z => q2 (List.mem_of_mem_take z), fun k a hk q => ⟨by rw [List.getElem?_take_of_lt hk]; exact q, rfl⟩⟩
theorem not_take (s : Sto K A H m) {k : Nat} {a : Addr} (hk : n ≤ k) (h : A[k]? = some (some a)) : some a ∉ A.take n := fun z => by
  obtain ⟨j, hj⟩ := List.mem_iff_getElem?.mp z
  have lj : j < n := by
    have := (List.getElem?_eq_some_iff.mp hj).1
    rw [List.length_take] at this; omega
  rw [List.getElem?_take_of_lt lj] at hj
  have := s.inj j k a hj h
  omega
mutual
theorem Dn.res (s : Sto K A H m) : ∀ {v : V} {d d' : Dat}, Res m n d d' → Dn K A H v d → Dn K (A.take n) H v d'
  | _, _, _, .id b, h => h.monoB (exB_take s) b
  | _, _, _, .cell hk hm r, h => by
    obtain ⟨a, vs, rfl, hA, hH, t⟩ := s.cell h hm
    exact .lst (.inl (.inl (hid_to hH (not_take s hk hA)))) (Dns.res s r t)
  | _, _, _, .tup r, h => by
    cases h with
    | tup h1 t => exact .tup ((exB_take (n := n) s).sqT h1) (Dns.res s r t)
  | _, _, _, .lst r, h => by
    cases h with
    | lst h1 t => exact .lst ((exB_take (n := n) s).sqL h1) (Dns.res s r t)
theorem Dns.res (s : Sto K A H m) : ∀ {vs : List V} {ds ds' : List Dat}, Ress m n ds ds' → Dns K A H vs ds → Dns K (A.take n) H vs ds'
  | _, _, _, .nil, h => by cases h; exact .nil
  | _, _, _, .cons r rs, h => by
    cases h with
    | cons h1 t => exact .cons (Dn.res s r h1) (Dns.res s rs t)
end
/-- the cells below stand as they stood, or hold no cells -/
def KeepB (μ m : Mu) : Prop := ∀ j ds, j < μ.length → m[j]? = some (some ds) → μ[j]? = some (some ds) ∨ noCells ds = true
def ResE (m : Mu) (n : Nat) (ρ ρ' : Ro) : Prop := ρ.length = ρ'.length ∧ ∀ (i : Nat) (d' : Dat), ρ'[i]? = some (some d') → ∃ d, ρ[i]? = some (some d) ∧ Res m n d d'
theorem Env.res {σ : L2.St} {ρ ρ' : Ro} (s : Sto K A H m) (r : ResE m n ρ ρ') (v : DL.Env K A H σ ρ) : DL.Env K (A.take n) H σ ρ' :=
  ⟨v.1.trans r.1, fun i d' q => by
    obtain ⟨d, h1, h2⟩ := r.2 i d' q
    obtain ⟨u, h3, h4⟩ := v.2 i d h1
    exact ⟨u, h3, h4.res s h2⟩⟩
theorem Sto.take {μ : Mu} {A0 : As} {H0 : Hp} (s0 : Sto K A0 H0 μ) (s : Sto K A H m) (l : μ.length ≤ m.length) (kb : KeepB μ m) : Sto K (A.take μ.length) H (m.take μ.length) := by
  have b0 : ∀ (k : Nat) (ds : List Dat), k < μ.length → m[k]? = some (some ds) → blws μ.length ds = true := fun k ds hk q => by
    rcases kb k ds hk q with z | z
    · exact s0.bl k ds z
    · exact ncs_blws _ z
  have lm : (m.take μ.length).length = μ.length := by rw [List.length_take]; omega
  refine ⟨by rw [lm, List.length_take, s.len]; omega, fun k ds q => ?_, fun k a q => ?_, fun j k a q1 q2 => ?_⟩
  · have hk : k < μ.length := by
      have := (List.getElem?_eq_some_iff.mp q).1
      omega
    rw [List.getElem?_take_of_lt hk] at q
    rw [lm]
    exact b0 k ds hk q
  · have hk : k < μ.length := by
      have := (List.getElem?_eq_some_iff.mp q).1
      rw [List.length_take] at this; omega
    rw [List.getElem?_take_of_lt hk] at q
    refine (s.at_ k a q).tr (fun vs ds hds t => t.monoB (exB_take s) ?_) rfl (List.getElem?_take_of_lt hk)
    obtain ⟨ds0, h0, h1⟩ := hds
    have b := b0 k ds0 hk h0
    rcases h1 with h1 | ⟨ks, h1⟩
    · rw [← h1]; exact b
    · rw [h1, blws, blw, Bool.and_eq_true] at b
      exact b.1
  · have cl : ∀ {i : Nat}, (A.take μ.length)[i]? = some (some a) → A[i]? = some (some a) := fun {i} z => by
      have hi : i < μ.length := by
        have := (List.getElem?_eq_some_iff.mp z).1
        rw [List.length_take] at this; omega
      rwa [List.getElem?_take_of_lt hi] at z
    exact s.inj j k a (cl q1) (cl q2)
theorem ext_take {A0 : As} {H0 : Hp} (hn : A0.length ≤ n) (s : Sto K A H m) (e : Ext A0 H0 A H) : Ext A0 H0 (A.take n) H :=
  ⟨fun a o q => (exB_take (n := n) s).keep a o (e.keep a o q), fun k a q => by
    have hk : k < n := by have := (List.getElem?_eq_some_iff.mp q).1; omega
    rw [List.getElem?_take_of_lt hk]
    exact e.cells k a q, e.kl, e.kd⟩
end
section
variable {K : PySem.W.Frag} {ρ : Ro} {μ : Mu} {P : PD} {ta tb tc te to : TE} {d e : Dat} {r : R2} {t u : TS} {nx bk ct : Ro → Mu → Prop} {rt : PD}
/-- from here on all cells that are newer than now are closed -/
theorem s_close (h : SW K t ρ μ (.mk (fun ρ2 m2 => ∃ ρ3, ResE m2 μ.length ρ2 ρ3 ∧ μ.length ≤ m2.length ∧ KeepB μ m2 ∧ SW K u ρ3 (m2.take μ.length) (.mk nx rt bk ct))
      (fun d m2 => ∃ d', Res m2 μ.length d d' ∧ μ.length ≤ m2.length ∧ KeepB μ m2 ∧ rt d' (m2.take μ.length)) bk ct)) : SW K (tSeq t u) ρ μ (.mk nx rt bk ct) := fun A σ H D s v g =>
  h A σ H { D with nx := u D } s v ⟨fun A1 H1 σ1 ρ1 m1 e s1 v1 ⟨ρ3, hr, l, kb, hu⟩ => hu (A1.take μ.length) σ1 H1 D (s.take s1 l kb) (v1.res s1 hr) (g.mono (ext_take (by rw [s.len]; exact Nat.le_refl _) s1 e)),
    fun A1 H1 x d m1 e s1 x1 ⟨d', hr, l, kb, p⟩ => g.rt (A1.take μ.length) H1 x d' _ (ext_take (by rw [s.len]; exact Nat.le_refl _) s1 e) (s.take s1 l kb) (x1.res s1 hr) p, g.bk, g.ct⟩
theorem s_assoc {a b c : TS} {E : DE} (h : SW K (tSeq (tSeq a b) c) ρ μ E) : SW K (tSeq a (tSeq b c)) ρ μ E := h
/-- at the def's end -/
theorem s_fin (h : SW K t ρ μ (.mk (fun _ _ => False) (fun d m2 => ∃ d', Res m2 μ.length d d' ∧ μ.length ≤ m2.length ∧ KeepB μ m2 ∧ rt d' (m2.take μ.length)) bk ct)) : SW K t ρ μ (.mk nx rt bk ct) := fun A σ H D s v g =>
  h A σ H D s v ⟨fun A1 H1 σ1 ρ1 m1 e s1 v1 z => z.elim,
    fun A1 H1 x d m1 e s1 x1 ⟨d', hr, l, kb, p⟩ => g.rt (A1.take μ.length) H1 x d' _ (ext_take (by rw [s.len]; exact Nat.le_refl _) s1 e) (s.take s1 l kb) (x1.res s1 hr) p, g.bk, g.ct⟩
/-! ### lists that change, with any items -/
theorem ew_appendN {t : TA} (h : EW K to ρ μ fun o m1 => (∃ k xs, o = .cell k ∧ m1[k]? = some (some xs)) ∧ AW K t ρ m1 fun ds m2 => ∃ k d xs, o = .cell k ∧ ds = [d] ∧ m2[k]? = some (some xs) ∧ xs.length < sizeLine ∧ P .non (m2.set k (some (xs ++ [d])))) :
    EW K (tBM K "list" rAppend to t) ρ μ P := fun A σ H s v Q q =>
  h A σ H s v _ fun A1 H1 x o m1 e1 s1 x1 ⟨⟨k0, xs0, ho0, hm0⟩, p⟩ => by
    subst ho0
    obtain ⟨a, vs, rfl, hk, hH, t1⟩ := s1.cell x1 hm0
    refine ⟨.inl ⟨rfl, vs, .of hH⟩, p A1 σ H1 s1 (v.mono e1) _ fun A2 H2 ws ds m2 e2 s2 y2 ⟨k, d, xs, hk', hd, hm, hz, pf⟩ => ?_⟩
    cases hk'
    subst hd
    cases y2 with
    | cons y y' =>
      cases y'
      obtain ⟨b, us, eb, hkb, hH2, t2⟩ := s2.cell (x1.mono e2) hm
      cases eb
      exact ⟨a, us, _, rfl, rfl, hH2, by rw [t2.length]; exact hz, q A2 _ .non .non _ ((e1.trans e2).trans (ext_cell hkb hH2)) (s2.write hkb hH2 (t2.snoc y)) .non pf⟩
/-- a list that changes, its items from one that changes -/
theorem ew_extendC {t : TA} (h : EW K to ρ μ fun o m1 => (∃ k xs, o = .cell k ∧ m1[k]? = some (some xs)) ∧ AW K t ρ m1 fun ds m2 => ∃ k j ys xs, o = .cell k ∧ ds = [.cell j] ∧ m2[j]? = some (some ys) ∧ m2[k]? = some (some xs) ∧ xs.length + ys.length ≤ sizeLine ∧ P .non (m2.set k (some (xs ++ ys)))) :
    EW K (tBM K "list" (rExtL K) to t) ρ μ P := fun A σ H s v Q q =>
  h A σ H s v _ fun A1 H1 x o m1 e1 s1 x1 ⟨⟨k0, xs0, ho0, hm0⟩, p⟩ => by
    subst ho0
    obtain ⟨a, vs, rfl, hk, hH, t1⟩ := s1.cell x1 hm0
    refine ⟨.inl ⟨rfl, vs, .of hH⟩, p A1 σ H1 s1 (v.mono e1) _ fun A2 H2 ws ds m2 e2 s2 y2 ⟨k, j, ys, xs, hk', hd, hj, hm, hz, pf⟩ => ?_⟩
    cases hk'
    subst hd
    cases y2 with
    | cons y y' =>
      cases y'
      obtain ⟨b, us, eb, hkb, hH2, t2⟩ := s2.cell (x1.mono e2) hm
      obtain ⟨c, zs, rfl, _, hc, t3⟩ := s2.cell y hj
      cases eb
      exact ⟨a, c, us, zs, rfl, rfl, hH2, .of hc, by rw [t2.length, t3.length]; exact hz, q A2 _ .non .non _ ((e1.trans e2).trans (ext_cell hkb hH2)) (s2.write hkb hH2 (t2.append t3)) .non pf⟩
/-- a list: as it stands, or as data -/
def Lv (m : Mu) (d : Dat) (xs : List Dat) : Prop := d = .lst xs ∨ ∃ k, d = .cell k ∧ m[k]? = some (some xs)
theorem Lv.at_ {A : As} {H : Hp} {m : Mu} {v : V} {xs : List Dat} (h : Lv m d xs) (s : Sto K A H m) (x : Dn K A H v d) : ∃ a vs, v = .ref a ∧ SqL K H a vs ∧ Dns K A H vs xs := by
  rcases h with rfl | ⟨k, rfl, hm⟩
  · obtain ⟨a, vs, e, h1, h2⟩ := lst_of x
    exact ⟨a, vs, e, sqL_hid h1, h2⟩
  · obtain ⟨a, vs, e, _, h1, h2⟩ := s.cell x hm
    exact ⟨a, vs, e, .of h1, h2⟩
/-- list + list, of any standing -/
theorem rw_catV {xs ys : List Dat} (hd : Lv μ d xs) (he : Lv μ e ys) (hz : xs.length + ys.length ≤ sizeLine) (p : P (.lst (xs ++ ys)) μ) : RW K (rCatL K) d e μ P := fun A H x y s u v Q q => by
  obtain ⟨a, vs, rfl, h1, t1⟩ := hd.at_ s u
  obtain ⟨b, ws, rfl, h2, t2⟩ := he.at_ s v
  have l1 := t1.length
  have l2 := t2.length
  exact ⟨a, b, vs, ws, rfl, rfl, h1, h2, by omega, fun c hc => q A _ _ _ μ (ext_new hc) (s.new hc) (Dn.newL s hc (t1.append t2)) p⟩
/-- list(a list), to be changed -/
theorem cw_listN {xs : List Dat} (hd : d = .tup xs ∨ Lv μ d xs) (p : P (.cell μ.length) (μ ++ [some xs])) : CW K (rListOf K) [d] μ P := fun A H us s x Q q => by
  cases x with
  | @cons v0 _ _ _ a t =>
    cases t
    obtain ⟨b, vs, rfl, h1, t1⟩ : ∃ b vs, v0 = V.ref b ∧ (SqL K H b vs ∨ SqT K H b vs) ∧ Dns K A H vs xs := by
      rcases hd with rfl | hd
      · cases a with
        | tup h1 t1 => exact ⟨_, _, rfl, .inr (sqT_hid h1), t1⟩
      · obtain ⟨b, vs, e, h1, t1⟩ := hd.at_ s a
        exact ⟨b, vs, e, .inl h1, t1⟩
    exact ⟨b, vs, rfl, h1, fun c hc => q (A ++ [some c]) _ _ _ _ (ext_open hc) (s.open hc t1) (.cell (by rw [← s.len]; simp) ⟨_, upd_same⟩) p⟩
/-- x in xs, x not in xs: data by == -/
theorem py_mem {x : Dat} : ∀ {xs : List Dat}, okDs xs = true → (toPys xs).any (fun z => PyData.eqv z (toPy x)) = xs.any fun z => eqD z x
  | [], _ => rfl
  | y :: ys, h => by
    rw [okDs, Bool.and_eq_true] at h
    rw [toPys, List.any_cons, List.any_cons, py_mem h.2]
    rfl
theorem in_dp {A : As} {H : Hp} {m : Mu} {v : V} {xs : List Dat} (h : Lv m e xs) (ok : shp (.lst xs) = true) (s : Sto K A H m) (x : Dn K A H v e) : Dp K H v (.list (toPys xs)) := by
  obtain ⟨a, vs, rfl, h1, t1⟩ := h.at_ s x
  exact .lst h1 (t1.py (by have := shp_ok ok; rwa [okD] at this))
theorem rw_notInV {xs : List Dat} (he : Lv μ e xs) (hd : shp d = true) (ok : shp (.lst xs) = true) (p : P (.bl (!xs.any fun z => eqD z d)) μ) : RW K (rNotInD K) d e μ P := fun A H x y s u v Q q => by
  refine ⟨toPy d, toPys xs, u.py (shp_ok hd), in_dp he ok s v, shaped_of hd, by have := shaped_of ok; rwa [toPy] at this, ?_⟩
  rw [py_mem (by have := shp_ok ok; rwa [okD] at this)]
  exact q A H _ _ μ (Ext.refl A H) s (.bl _) p
/-- an item of a list, of a tuple -/
def rIxA (K : PySem.W.Frag) : R2 := fun x y H Q => rIxL K x y H Q ∨ rIxT K x y H Q
theorem ix_any {X : Cx} : IxR X (rIxA X.K) := by
  intro ev es pins s σ H x y v u Q I rx ry h hs
  rcases h with h | h
  · exact ix_list ev es pins s σ H x y v u Q I rx ry h hs
  · exact ix_tup ev es pins s σ H x y v u Q I rx ry h hs
theorem rw_ixA {xs : List Dat} {i : Int} {f : Dat} (hd : d = .tup xs ∨ Lv μ d xs) (h : atI xs i = some f) (p : P f μ) : RW K (rIxA K) d (.int i) μ P := fun A H x y s u v Q q => by
  rcases hd with rfl | hd | ⟨k, rfl, hm⟩
  · exact .inr (rw_ixT h p A H x y s u v Q q)
  · subst hd; exact .inl (rw_ixL h p A H x y s u v Q q)
  · exact .inl (rw_ixC hm h p A H x y s u v Q q)
end
end DL
namespace DL
open PySem PySem.Spec PyProof.Rows L2
/-! ### dicts that change, their keys tuples of ints -/
def kI (l : List Int) : List L2.Key := l.map Sum.inl
theorem kI_kV (l : List Int) : (kI l).map kV = l.map V.int := by unfold kI; rw [List.map_map]; rfl
theorem kI_inj {l m : List Int} (h : kI l = kI m) : l = m := by
  unfold kI at h
  exact List.map_inj_right (f := (Sum.inl : Int → L2.Key)) (fun x y e => by injection e) |>.mp h
def valD : List (List L2.Key) → List Dat → List L2.Key → Option Dat
  | k :: ks, x :: xs, j => if k = j then some x else valD ks xs j
  | _, _, _ => none
section
variable {K : PySem.W.Frag} {ρ : Ro} {μ : Mu} {P : PD} {ta tb tc te td ty : TE} {d e : Dat} {r : R2} {t u : TS} {R : Ro → Mu → Prop}
theorem val_rel {A : As} {H : Hp} : ∀ {kvs : List (List L2.Key × V)} {xs : List Dat} (j : List L2.Key), Dns K A H (kvs.map (·.2)) xs →
    (valV kvs j = none ∧ valD (kvs.map (·.1)) xs j = none) ∨ ∃ v d, valV kvs j = some v ∧ valD (kvs.map (·.1)) xs j = some d ∧ Dn K A H v d
  | [], _, j, .nil => .inl ⟨rfl, rfl⟩
  | p :: kvs, _, j, .cons h t => by
    by_cases c : p.1 = j
    · exact .inr ⟨_, _, valV_pos c, by rw [List.map_cons, valD, if_pos c], h⟩
    · rw [valV_neg c, List.map_cons, valD, if_neg c]
      exact val_rel j t
theorem ew_dnew (p : P (.dcell μ.length) (μ ++ [some [.dst [] []]])) : EW K tDNewT ρ μ P := fun A σ H s v Q q b hb =>
  q (A ++ [some b]) _ (.ref b) (.dcell μ.length) _ (ext_open hb) (s.openD hb) (.dcell (by rw [← s.len]; simp) ⟨_, upd_same⟩) p
theorem key_at {A : As} {H : Hp} {v : V} {l : List Int} (h : Dn K A H v (.key l)) : ∃ b, v = .ref b ∧ H b = some (.tup ((kI l).map kV)) := by
  cases h with
  | @key a _ h => exact ⟨a, rfl, by rw [kI_kV]; exact (hid_of h).1⟩
theorem ew_dnotin (h : EW K ty ρ μ fun y m1 => EW K td ρ m1 fun x m2 => ∃ l k ks xs, y = .key l ∧ x = .dcell k ∧ m2[k]? = some (some [.dst ks xs]) ∧ P (.bl (!(valD ks xs (kI l)).isSome)) m2) : EW K (tDNotIn ty td) ρ μ P := fun A σ H s v Q q =>
  h A σ H s v _ fun A1 H1 y yd m1 e1 s1 y1 p1 => p1 A1 σ H1 s1 (v.mono e1) _ fun A2 H2 x xd m2 e2 s2 x2 ⟨l, k, ks, xs, hy, hx, hm, p⟩ => by
    subst hy hx
    obtain ⟨b, rfl, hb⟩ := key_at (y1.mono e2)
    obtain ⟨a, kvs, rfl, hk, hH, rfl, t⟩ := s2.dcell x2 hm
    refine ⟨a, valV kvs (kI l), rfl, DGet.t hH hb, q A2 H2 _ _ m2 (e1.trans e2) s2 (.bl _) ?_⟩
    rcases val_rel (kI l) t with ⟨z1, z2⟩ | ⟨w, d, z1, z2, _⟩
    · rw [z1]; rw [z2] at p; exact p
    · rw [z1]; rw [z2] at p; exact p
theorem ew_dget (h : EW K td ρ μ fun x m1 => EW K ty ρ m1 fun y m2 => ∃ l k ks xs f, y = .key l ∧ x = .dcell k ∧ m2[k]? = some (some [.dst ks xs]) ∧ valD ks xs (kI l) = some f ∧ P f m2) : EW K (tDGet td ty) ρ μ P := fun A σ H s v Q q =>
  h A σ H s v _ fun A1 H1 x xd m1 e1 s1 x1 p1 => p1 A1 σ H1 s1 (v.mono e1) _ fun A2 H2 y yd m2 e2 s2 y2 ⟨l, k, ks, xs, f, hy, hx, hm, hf, p⟩ => by
    subst hy hx
    obtain ⟨b, rfl, hb⟩ := key_at y2
    obtain ⟨a, kvs, rfl, hk, hH, rfl, t⟩ := s2.dcell (x1.mono e2) hm
    rcases val_rel (kI l) t with ⟨z1, z2⟩ | ⟨w, d, z1, z2, z3⟩
    · rw [z2] at hf; cases hf
    · rw [z2] at hf
      cases hf
      exact ⟨a, w, rfl, by rw [← z1]; exact DGet.t hH hb, q A2 H2 _ _ m2 (e1.trans e2) s2 z3 p⟩
/-- d[k] = v, k not there as yet -/
theorem gw_subD {to ti : TE} (h : EW K to ρ μ fun o m1 => EW K ti ρ m1 fun ix m2 => ∃ l k ks xs, o = .dcell k ∧ ix = .key l ∧ m2[k]? = some (some [.dst ks xs]) ∧ valD ks xs (kI l) = none ∧ ks.length < sizeLine ∧ R ρ (m2.set k (some [.dst (ks ++ [kI l]) (xs ++ [d])]))) :
    GW K (gSub to ti rSetD) d ρ μ R := fun A σ H v s ev x Q q =>
  h A σ H s ev _ fun A1 H1 o od m1 e1 s1 o1 p1 => p1 A1 σ H1 s1 (ev.mono e1) _ fun A2 H2 ix id m2 e2 s2 i2 ⟨l, k, ks, xs, hd, hi, hm, hn, hz, p⟩ => by
    subst hd hi
    obtain ⟨b, rfl, hb⟩ := key_at i2
    obtain ⟨a, kvs, rfl, hk, hH, rfl, t⟩ := s2.dcell (o1.mono e2) hm
    have z1 : valV kvs (kI l) = none := by
      rcases val_rel (kI l) t with ⟨z, _⟩ | ⟨w, d, z, z2, _⟩
      · exact z
      · rw [z2] at hn; cases hn
    have ep := putK_new v z1
    have w := s2.writeD (kvs := putK kvs (kI l) v) (ds := xs ++ [d]) hk hH (by rw [ep, List.map_append]; exact t.snoc (x.mono (e1.trans e2)))
    have ek : (putK kvs (kI l) v).map (·.1) = kvs.map (·.1) ++ [kI l] := by rw [ep, List.map_append]; rfl
    rw [ek] at w
    exact ⟨a, _, rfl, DPut.t hH hb (by rw [List.length_map] at hz; exact hz), q A2 _ σ ρ _ ((e1.trans e2).trans (ext_dcell hk hH)) w (ev.mono ((e1.trans e2).trans (ext_dcell hk hH))) p⟩
/-- a tuple of ints that may be a key -/
theorem ew_key {t : TA} (h : AW K t ρ μ fun ds m => ∃ l, ds = wi l ∧ l.length ≤ sizeLine ∧ P (.key l) m) : EW K (tTup t) ρ μ P := fun A σ H s v Q q =>
  h A σ H s v _ fun A1 H1 xs ds m1 e1 s1 x1 ⟨l, hd, hl, p⟩ => by
    subst hd
    have := ints_of x1
    subst this
    exact ⟨by rw [List.length_map]; exact hl, fun a ha => q A1 _ _ (.key l) m1 (e1.trans (ext_new ha)) (s1.new ha) (.key (hid_to upd_same (s1.fresh ha))) p⟩
theorem dns_wi {A : As} {H : Hp} : ∀ l : List Int, Dns K A H (l.map V.int) (wi l)
  | [] => .nil
  | i :: l => .cons (.int i) (dns_wi l)
theorem key_tup {A : As} {H : Hp} {v : V} {l : List Int} (h : Dn K A H v (.key l)) : Dn K A H v (tw l) := by
  cases h with
  | key h => exact .tup (.inl (.inl h)) (dns_wi l)
theorem gw_key {gs : TGs} {n : Nat} {l : List Int} (hn : l.length = n) (h : GsW K gs (wi l) ρ μ R) : GW K (gTup K n gs) (.key l) ρ μ R := fun A σ H v s ev x Q q =>
  gw_tup (by rw [wi_len]; exact hn) h A σ H v s ev (key_tup x) Q q
/-! ### comprehensions whose list is changed later, its items anything -/
theorem ew_lcK {i j : Nat} {xs : List Dat} (hd : ρ[i]? = some (some (.tup xs)) ∨ ρ[i]? = some (some (.lst xs))) (hz : xs.length < sizeLine) (J : Nat → List Dat → Mu → Prop) (j0 : J 0 [] (μ ++ [some []]))
    (hs : ∀ n x acc m, xs[n]? = some x → J n acc m → m[μ.length]? = some (some acc) → EW K te ((wipeD ρ j).set j (some x)) m fun d m2 => m2[μ.length]? = some (some acc) ∧ J (n + 1) (acc ++ [d]) (m2.set μ.length (some (acc ++ [d]))))
    (p : ∀ acc m, J xs.length acc m → m[μ.length]? = some (some acc) → P (.cell μ.length) m) : EW K (tLc (iSeq K (tVar i)) (gName j) tYes te [j]) ρ μ P := fun A σ H s v Q q => by
  obtain ⟨u, hu, du⟩ : ∃ u, σ[i]? = some (some u) ∧ (Dn K A H u (.tup xs) ∨ Dn K A H u (.lst xs)) := by
    rcases hd with h | h
    · obtain ⟨u, a, b⟩ := v.2 i _ h
      exact ⟨u, a, .inl b⟩
    · obtain ⟨u, a, b⟩ := v.2 i _ h
      exact ⟨u, a, .inr b⟩
  let Iv : Addr → Nat → Hp → Prop := fun D n H' => ∃ A' m acc, Ext A H A' H' ∧ Sto K A' H' m ∧ A'[μ.length]? = some (some D) ∧ (∃ ys, H' D = some (.lst ys)) ∧ J n acc m ∧ m[μ.length]? = some (some acc) ∧ acc.length = n ∧ n ≤ xs.length
  have start : ∀ D, H D = none → Iv D 0 (upd H D (.lst [])) := fun D hD => ⟨A ++ [some D], _, [], ext_open hD, s.open hD .nil, by rw [← s.len]; simp, ⟨_, upd_same⟩, j0, by simp, rfl, Nat.zero_le _⟩
  have turn : ∀ D n y dd H2, xs[n]? = some dd → Iv D n H2 → (∀ A' , Ext A H A' H2 → Dn K A' H2 y dd) → te ((L2.wipe σ [j]).set j (some y)) H2 fun y H4 => ∃ ac : List V, H4 D = some (.lst ac) ∧ ac.length < sizeLine ∧ Iv D (n + 1) (upd H4 D (.lst (ac ++ [y]))) := fun D n y dd H2 hx ⟨A', m, acc, e2, s2, hD, lD, hJ, hm, la, ln⟩ dy =>
    hs n dd acc m hx hJ hm A' _ H2 s2 (((v.mono e2).wipe j).set j (dy A' e2)) _ fun A3 H3 z d m3 e3 s3 z3 ⟨hm3, hJ3⟩ => by
      have hD3 := e3.cells _ _ hD
      have lD3 := e3.kl _ _ hD lD
      obtain ⟨b, ac, eb, _, hH, t⟩ := s3.cell (.cell hD3 lD3) hm3
      cases eb
      have hn : n < xs.length := (List.getElem?_eq_some_iff.mp hx).1
      refine ⟨ac, hH, by rw [t.length]; omega, A3, _, acc ++ [d], (e2.trans e3).trans (ext_cell hD3 hH), s3.write hD3 hH (t.snoc z3), hD3, ⟨_, upd_same⟩, hJ3, ?_, by rw [List.length_append, la]; rfl, by omega⟩
      rw [List.getElem?_set_self (List.getElem?_eq_some_iff.mp hm3).1]
  have fin : ∀ D H2, Iv D xs.length H2 → Q (.ref D) H2 := fun D H2 ⟨A', m, acc, e2, s2, hD, lD, hJ, hm, la, ln⟩ => q A' H2 _ _ m e2 s2 (.cell hD lD) (p acc m hJ hm)
  rcases du with du | du
  · cases du with
    | @tup a vs _ h1 t1 =>
      have hl := t1.length
      refine Or.inl ⟨.ref a, hu, a, rfl, ⟨vs, sqT_hid h1⟩, fun D hD => lc_tup (K := K) (a := a) (xs := vs) (Iv D) (start D hD) (fun n H' _ iv => ?_) (fun n y H2 hy iv => ⟨wipe_set σ j _, ?_⟩) (fun H2 iv => fin D H2 (by rw [← hl]; exact iv))⟩
      · obtain ⟨A', m, acc, e2, _⟩ := iv
        exact sqT_hid (e2.sqT h1)
      · obtain ⟨dd, q1, q2⟩ := t1.getV hy
        exact (if_pos rfl : (if true = true then te ((L2.wipe σ [j]).set j (some y)) H2 (fun y H4 => ∃ ac : List V, H4 D = some (.lst ac) ∧ ac.length < sizeLine ∧ Iv D (n + 1) (upd H4 D (.lst (ac ++ [y])))) else Iv D (n + 1) H2) = _).mpr (turn D n y dd H2 q1 iv fun A' e' => q2.mono e')
  · cases du with
    | @lst a vs _ h1 t1 =>
      have hl := t1.length
      refine Or.inr ⟨.ref a, hu, a, rfl, ⟨vs, sqL_hid h1⟩, fun D hD => lc_list (K := K) (a := a) (xs := vs) (Iv D) (start D hD) (fun n H' _ iv => ?_) (fun n y H2 hy iv => ⟨wipe_set σ j _, ?_⟩) (fun H2 iv => fin D H2 (by rw [← hl]; exact iv))⟩
      · obtain ⟨A', m, acc, e2, _⟩ := iv
        exact sqL_hid (e2.sqL h1)
      · obtain ⟨dd, q1, q2⟩ := t1.getV hy
        exact (if_pos rfl : (if true = true then te ((L2.wipe σ [j]).set j (some y)) H2 (fun y H4 => ∃ ac : List V, H4 D = some (.lst ac) ∧ ac.length < sizeLine ∧ Iv D (n + 1) (upd H4 D (.lst (ac ++ [y])))) else Iv D (n + 1) H2) = _).mpr (turn D n y dd H2 q1 iv fun A' e' => q2.mono e')
end
end DL
namespace DL
open PySem PySem.Spec PyProof.Rows L2
section
variable {K : PySem.W.Frag} {ρ : Ro} {μ : Mu} {P : PD} {ta : TA} {tb : TS} {te : TE} {tt : TT} {d e : Dat} {g : TG} {E : DE}
/-! ### enumerate of a list or a tuple -/
theorem sw_forEA (h : AW K ta ρ μ fun ds m => ∃ d xs, ds = [d] ∧ ∃ I : Nat → Ro → Mu → Prop, (d = .tup xs ∨ d = .lst xs) ∧ I 0 ρ m ∧
      (∀ i x ρ' m', xs[i]? = some x → I i ρ' m' → GW K g (.tup [.int (i : Nat), x]) ρ' m' fun ρ2 m2 => SW K tb ρ2 m2 { E with nx := I (i + 1), ct := I (i + 1), bk := E.nx }) ∧ ∀ ρ' m', I xs.length ρ' m' → E.nx ρ' m') : SW K (tFor (iEnumA K ta) g tb) ρ μ E := fun A σ H D s v gg =>
  h A σ H s v _ fun A1 H1 vs ds m e s1 x ⟨d, xs, hd, I, hk, i0, hs, hf⟩ => by
    subst hd
    cases x with
    | cons x1 x =>
      cases x
      rcases hk with hk | hk
      · subst hk
        cases x1 with
        | @tup a ys _ h1 t1 =>
          have ly := t1.length
          refine ⟨a, ys, rfl, .inr ⟨sqT_hid h1, fun i k σ' H' => k = xs.length - i ∧ i ≤ xs.length ∧ Hd K A1 H1 (I i) σ' H', ⟨xs.length, rfl, Nat.zero_le _, A1, ρ, m, Ext.refl _ _, s1, v.mono e, i0⟩, ?_⟩⟩
          rintro i k σ' H' ⟨rfl, hi, A2, ρ2, m2, e2, s2, v2, p2⟩
          have sq := sqT_hid (e2.sqT h1)
          have dy := t1.mono e2
          by_cases hlt : i < xs.length
          · have hy : ys[i]? = some (ys[i]'(by omega)) := List.getElem?_eq_getElem _
            refine .inr ⟨⟨ys, _, sq, hy⟩, Hd K A1 H1 (I (i + 1)), fun σ3 H3 p3 => ⟨xs.length - (i + 1), by omega, rfl, hlt, p3⟩, fun x H3 yy => ?_⟩
            obtain ⟨T, z, rfl, hT, rfl, hx⟩ := yy
            obtain ⟨dd, q1, q2⟩ := dy.getV (hx ys sq)
            exact hs i dd ρ2 m2 q1 p2 A2 σ' _ _ (s2.new hT) (v2.mono (ext_new hT)) (Dn.newT s2 hT (.cons (.int _) (.cons q2 .nil))) _ fun A3 H3 σ3 ρ3 m3 e3 s3 v3 p3 => p3 A3 σ3 H3 _ s3 v3 (Hd.ends ((e2.trans (ext_new hT)).trans e3) (gg.mono e) (I (i + 1)))
          · have : i = xs.length := by omega
            subst this
            exact .inl ⟨⟨ys, sq, by omega⟩, gg.nx A2 H' σ' ρ2 m2 (e.trans e2) s2 v2 (hf ρ2 m2 p2)⟩
      · subst hk
        cases x1 with
        | @lst a ys _ h1 t1 =>
          have ly := t1.length
          refine ⟨a, ys, rfl, .inl ⟨sqL_hid h1, fun i k σ' H' => k = xs.length - i ∧ i ≤ xs.length ∧ Hd K A1 H1 (I i) σ' H', ⟨xs.length, rfl, Nat.zero_le _, A1, ρ, m, Ext.refl _ _, s1, v.mono e, i0⟩, ?_⟩⟩
          rintro i k σ' H' ⟨rfl, hi, A2, ρ2, m2, e2, s2, v2, p2⟩
          have sq := sqL_hid (e2.sqL h1)
          have dy := t1.mono e2
          by_cases hlt : i < xs.length
          · have hy : ys[i]? = some (ys[i]'(by omega)) := List.getElem?_eq_getElem _
            refine .inr ⟨⟨ys, _, sq, hy⟩, Hd K A1 H1 (I (i + 1)), fun σ3 H3 p3 => ⟨xs.length - (i + 1), by omega, rfl, hlt, p3⟩, fun x H3 yy => ?_⟩
            obtain ⟨T, z, rfl, hT, rfl, hx⟩ := yy
            obtain ⟨dd, q1, q2⟩ := dy.getV (hx ys sq)
            exact hs i dd ρ2 m2 q1 p2 A2 σ' _ _ (s2.new hT) (v2.mono (ext_new hT)) (Dn.newT s2 hT (.cons (.int _) (.cons q2 .nil))) _ fun A3 H3 σ3 ρ3 m3 e3 s3 v3 p3 => p3 A3 σ3 H3 _ s3 v3 (Hd.ends ((e2.trans (ext_new hT)).trans e3) (gg.mono e) (I (i + 1)))
          · have : i = xs.length := by omega
            subst this
            exact .inl ⟨⟨ys, sq, by omega⟩, gg.nx A2 H' σ' ρ2 m2 (e.trans e2) s2 v2 (hf ρ2 m2 p2)⟩
theorem ew_lcEA {i j : Nat} (h : AW K ta ρ μ fun ds m => ∃ d xs, ds = [d] ∧ (d = .tup xs ∨ d = .lst xs) ∧ xs.length < sizeLine ∧ ∃ f : Nat → Dat → Option Dat,
      (∀ n x acc, xs[n]? = some x → TurnW K tt te (((wipe2 ρ i j).set i (some (.int (n : Nat)))).set j (some x)) (m ++ [some acc]) (f n x)) ∧ P (.lst ((List.range xs.length).filterMap fun n => (xs[n]?).bind (f n))) m) :
    EW K (tLc (iEnumA K ta) (gTup K 2 (gCons (gName i) (gCons (gName j) gNil))) tt te [i, j]) ρ μ P := fun A σ H s v Q q =>
  h A σ H s v _ fun A1 H1 vs ds m e s1 x ⟨d, xs, hd, hk, hz, f, hf, p⟩ => by
    subst hd
    cases x with
    | cons x1 x =>
      cases x
      rcases hk with hk | hk
      · subst hk
        cases x1 with
        | @tup a ys _ h1 t1 =>
          have ly := t1.length
          refine ⟨a, ys, rfl, .inr ⟨sqT_hid h1, fun D hD => ?_⟩⟩
          refine ⟨fun n k H' => k = xs.length - n ∧ n ≤ xs.length ∧ Grow K A1 H1 m D ((List.range n).filterMap fun n => (xs[n]?).bind (f n)) H', ⟨xs.length, rfl, Nat.zero_le _, Grow.start s1 hD⟩, ?_⟩
          rintro n k H2 ⟨rfl, hn, g⟩
          obtain ⟨A2, e2, s2, hD2⟩ := g.ex
          have sq := sqT_hid (e2.sqT ((ext_open hD).sqT h1))
          have dy := t1.mono ((ext_open hD).trans e2)
          by_cases hlt : n < xs.length
          · have hy : ys[n]? = some (ys[n]'(by omega)) := List.getElem?_eq_getElem _
            refine .inr ⟨⟨ys, _, sq, hy⟩, Grow K A1 H1 m D ((List.range (n + 1)).filterMap fun n => (xs[n]?).bind (f n)), fun H3 p3 => ⟨xs.length - (n + 1), by omega, rfl, hlt, p3⟩, fun x H3 yy => ?_⟩
            obtain ⟨T, z, rfl, hT, rfl, hx⟩ := yy
            obtain ⟨dd, q1, q2⟩ := dy.getV (hx ys sq)
            have hT' := ext_new (A := A2) (o := .tup [.int (n : Nat), z]) hT
            refine ⟨T, [.int (n : Nat), z], rfl, .of upd_same, rfl, .int (n : Nat), [z], rfl, z, [], rfl, rfl, wipe2_set, ?_⟩
            have lz : ((List.range n).filterMap fun n => (xs[n]?).bind (f n)).length < sizeLine := Nat.lt_of_le_of_lt (List.length_filterMap_le _ _) (by rw [List.length_range]; omega)
            refine turn_run (hf n dd _ q1) (e2.trans hT') (s2.new hT) (hT'.cells _ _ hD2) ((((v.mono (((e.trans (ext_open hD)).trans e2).trans hT')).wipe2 i j).set i (.int _)).set j (q2.mono hT')) lz g.nc _ fun H' g' => ?_
            rw [List.range_succ, List.filterMap_append]
            have : (List.filterMap (fun n => (xs[n]?).bind (f n)) [n]) = (f n dd).toList := by cases q : f n dd <;> simp [q1, q]
            rw [this]
            exact g'
          · have : n = xs.length := by omega
            subst this
            obtain ⟨A3, e3, s3, d3⟩ := Grow.done s1 hD g
            exact .inl ⟨⟨ys, sq, by omega⟩, q A3 H2 _ _ m (e.trans e3) s3 d3 p⟩
      · subst hk
        cases x1 with
        | @lst a ys _ h1 t1 =>
          have ly := t1.length
          refine ⟨a, ys, rfl, .inl ⟨sqL_hid h1, fun D hD => ?_⟩⟩
          refine ⟨fun n k H' => k = xs.length - n ∧ n ≤ xs.length ∧ Grow K A1 H1 m D ((List.range n).filterMap fun n => (xs[n]?).bind (f n)) H', ⟨xs.length, rfl, Nat.zero_le _, Grow.start s1 hD⟩, ?_⟩
          rintro n k H2 ⟨rfl, hn, g⟩
          obtain ⟨A2, e2, s2, hD2⟩ := g.ex
          have sq := sqL_hid (e2.sqL ((ext_open hD).sqL h1))
          have dy := t1.mono ((ext_open hD).trans e2)
          by_cases hlt : n < xs.length
          · have hy : ys[n]? = some (ys[n]'(by omega)) := List.getElem?_eq_getElem _
            refine .inr ⟨⟨ys, _, sq, hy⟩, Grow K A1 H1 m D ((List.range (n + 1)).filterMap fun n => (xs[n]?).bind (f n)), fun H3 p3 => ⟨xs.length - (n + 1), by omega, rfl, hlt, p3⟩, fun x H3 yy => ?_⟩
            obtain ⟨T, z, rfl, hT, rfl, hx⟩ := yy
            obtain ⟨dd, q1, q2⟩ := dy.getV (hx ys sq)
            have hT' := ext_new (A := A2) (o := .tup [.int (n : Nat), z]) hT
            refine ⟨T, [.int (n : Nat), z], rfl, .of upd_same, rfl, .int (n : Nat), [z], rfl, z, [], rfl, rfl, wipe2_set, ?_⟩
            have lz : ((List.range n).filterMap fun n => (xs[n]?).bind (f n)).length < sizeLine := Nat.lt_of_le_of_lt (List.length_filterMap_le _ _) (by rw [List.length_range]; omega)
            refine turn_run (hf n dd _ q1) (e2.trans hT') (s2.new hT) (hT'.cells _ _ hD2) ((((v.mono (((e.trans (ext_open hD)).trans e2).trans hT')).wipe2 i j).set i (.int _)).set j (q2.mono hT')) lz g.nc _ fun H' g' => ?_
            rw [List.range_succ, List.filterMap_append]
            have : (List.filterMap (fun n => (xs[n]?).bind (f n)) [n]) = (f n dd).toList := by cases q : f n dd <;> simp [q1, q]
            rw [this]
            exact g'
          · have : n = xs.length := by omega
            subst this
            obtain ⟨A3, e3, s3, d3⟩ := Grow.done s1 hD g
            exact .inl ⟨⟨ys, sq, by omega⟩, q A3 H2 _ _ m (e.trans e3) s3 d3 p⟩
/-! ### comprehensions over zip of two lists -/
theorem Lv.more {m : Mu} {xs : List Dat} {o : Option (List Dat)} (h : Lv m d xs) : Lv (m ++ [o]) d xs := h.imp id fun ⟨k, e1, e2⟩ => ⟨k, e1, by rw [List.getElem?_append_left (List.getElem?_eq_some_iff.mp e2).1]; exact e2⟩
theorem ew_lcZ {i j : Nat} (h : AW K ta ρ μ fun ds m => ∃ d e xs ys, ds = [d, e] ∧ Lv m d xs ∧ Lv m e ys ∧ xs.length = ys.length ∧ xs.length < sizeLine ∧ ∃ f : Dat → Dat → Option Dat,
      (∀ (n : Nat) x y acc, xs[n]? = some x → ys[n]? = some y → TurnW K tt te (((wipe2 ρ i j).set i (some x)).set j (some y)) (m ++ [some acc]) (f x y)) ∧ P (.lst ((List.range xs.length).filterMap fun n => (xs[n]?).bind fun x => (ys[n]?).bind (f x))) m) :
    EW K (tLc (iZip K ta) (gTup K 2 (gCons (gName i) (gCons (gName j) gNil))) tt te [i, j]) ρ μ P := fun A σ H s v Q q =>
  h A σ H s v _ fun A1 H1 vs ds m e s1 x ⟨d, e0, xs, ys, hd, hx, hy, hl, hz, f, hf, p⟩ => by
    subst hd
    cases x with
    | cons x1 x => cases x with
     | cons x2 x =>
      cases x
      obtain ⟨a, us, rfl, sa, ta⟩ := hx.at_ s1 x1
      obtain ⟨b, ws, rfl, sb, tb⟩ := hy.at_ s1 x2
      refine ⟨a, b, us, ws, rfl, sa, sb, fun D hD => ?_⟩
      refine ⟨fun n k H' => k = xs.length - n ∧ n ≤ xs.length ∧ Grow K A1 H1 m D ((List.range n).filterMap fun n => (xs[n]?).bind fun x => (ys[n]?).bind (f x)) H', ⟨xs.length, rfl, Nat.zero_le _, Grow.start s1 hD⟩, ?_⟩
      rintro n k H2 ⟨rfl, hn, g⟩
      obtain ⟨A2, e2, s2, hD2⟩ := g.ex
      have eE := (ext_open (o := .lst []) hD).trans e2
      obtain ⟨a', us2, ea, sa2, ta2⟩ := hx.more.at_ s2 (x1.mono eE)
      obtain ⟨b', ws2, eb, sb2, tb2⟩ := hy.more.at_ s2 (x2.mono eE)
      cases ea
      cases eb
      have la := ta2.length
      have lb := tb2.length
      by_cases hlt : n < xs.length
      · have hu : us2[n]? = some (us2[n]'(by omega)) := List.getElem?_eq_getElem _
        have hw : ws2[n]? = some (ws2[n]'(by omega)) := List.getElem?_eq_getElem _
        refine .inr ⟨⟨us2, ws2, _, _, sa2, sb2, hu, hw⟩, Grow K A1 H1 m D ((List.range (n + 1)).filterMap fun n => (xs[n]?).bind fun x => (ys[n]?).bind (f x)), fun H3 p3 => ⟨xs.length - (n + 1), by omega, rfl, hlt, p3⟩, fun x H3 yy => ?_⟩
        obtain ⟨T, z1, z2, rfl, hT, rfl, h1, h2⟩ := yy
        obtain ⟨dd, q1, q2⟩ := ta2.getV (h1 us2 sa2)
        obtain ⟨de, q3, q4⟩ := tb2.getV (h2 ws2 sb2)
        have hT' := ext_new (A := A2) (o := .tup [z1, z2]) hT
        refine ⟨T, [z1, z2], rfl, .of upd_same, rfl, z1, [z2], rfl, z2, [], rfl, rfl, wipe2_set, ?_⟩
        have lz : ((List.range n).filterMap fun n => (xs[n]?).bind fun x => (ys[n]?).bind (f x)).length < sizeLine := Nat.lt_of_le_of_lt (List.length_filterMap_le _ _) (by rw [List.length_range]; omega)
        refine turn_run (hf n dd de _ q1 q3) (e2.trans hT') (s2.new hT) (hT'.cells _ _ hD2) ((((v.mono (((e.trans (ext_open hD)).trans e2).trans hT')).wipe2 i j).set i (q2.mono hT')).set j (q4.mono hT')) lz g.nc _ fun H' g' => ?_
        rw [List.range_succ, List.filterMap_append]
        have : (List.filterMap (fun n => (xs[n]?).bind fun x => (ys[n]?).bind (f x)) [n]) = (f dd de).toList := by cases q : f dd de <;> simp [q1, q3, q]
        rw [this]
        exact g'
      · have : n = xs.length := by omega
        subst this
        obtain ⟨A3, e3, s3, d3⟩ := Grow.done s1 hD g
        exact .inl ⟨⟨us2, ws2, sa2, sb2, by omega⟩, q A3 H2 _ _ m (e.trans e3) s3 d3 p⟩
end
section
variable {K : PySem.W.Frag} {ρ : Ro} {μ : Mu} {ta : TA} {tb : TS} {g : TG} {nx bk ct : Ro → Mu → Prop} {rt : PD}
theorem s_forEA (h : AW K ta ρ μ fun ds m => ∃ d xs, ds = [d] ∧ ∃ I : Nat → Ro → Mu → Prop, (d = .tup xs ∨ d = .lst xs) ∧ I 0 ρ m ∧
      (∀ i x ρ' m', xs[i]? = some x → I i ρ' m' → GW K g (.tup [.int (i : Nat), x]) ρ' m' fun ρ2 m2 => SW K tb ρ2 m2 (.mk (I (i + 1)) rt nx (I (i + 1)))) ∧ ∀ ρ' m', I xs.length ρ' m' → nx ρ' m') : SW K (tFor (iEnumA K ta) g tb) ρ μ (.mk nx rt bk ct) := sw_forEA h
end
end DL
namespace DL
open PySem PySem.Spec PyProof.Rows L2 StX
/-! ### repr: whole numbers too -/
def rReprY (K : PySem.W.Frag) : List V → Hp → VK → Prop := fun xs H Q => rReprX K xs H Q ∨ ∃ i : Int, xs = [.int i] ∧ i.natAbs.log2 < 1920 ∧ Q (.str (toString i)) H
theorem call_reprY {X : Cx} (hG : X.A.guards = some []) (hu : X.A.units + 64 < cLine) : CallR X (.builtin "repr") (rReprY X.K) := by
  intro pins s σ H xs us Q I rv h
  rcases h with h | h
  · exact call_reprX hG hu pins s σ H xs us Q I rv h
  · exact SkE.call_repr_int pins s σ H xs us Q I rv h
inductive Rq : Dat → Prop
  | rp {d : Dat} : Rp d → Rq d
  | int (i : Int) : i.natAbs < 1000 → Rq (.int i)
def shq : Dat → Str
  | .int i => toString i
  | d => shw d
section
variable {K : PySem.W.Frag} {ρ : Ro} {μ : Mu} {P : PD} {ta : TA} {tb : TS} {te : TE} {tt : TT} {d e : Dat} {g : TG} {E : DE} {R : Ro → Mu → Prop}
theorem cw_rq {d : Dat} (h : Rq d) (p : P (.str (shq d)) μ) : CW K (rReprY K) [d] μ P := fun A H us s x Q q => by
  cases h with
  | rp h => exact .inl (cw_rp h (by cases h <;> exact p) A H us s x Q q)
  | int i hi =>
    cases x with
    | cons a t =>
      cases t
      cases a
      refine .inr ⟨i, rfl, ?_, q A H _ _ μ (Ext.refl A H) s (.str _) p⟩
      by_cases h0 : i.natAbs = 0
      · rw [h0]; decide
      · exact (Nat.log2_lt h0).mpr (Nat.lt_of_lt_of_le hi (Nat.le_trans (by decide : 1000 ≤ 2 ^ 10) (Nat.pow_le_pow_right (by decide) (by decide))))
/-- d[i] = anything -/
theorem gw_subN {to ti : TE} (h : EW K to ρ μ fun o m1 => EW K ti ρ m1 fun ix m2 => ∃ k i j xs, o = .cell k ∧ ix = .int i ∧ m2[k]? = some (some xs) ∧ ixN xs.length i = some j ∧ R ρ (m2.set k (some (xs.set j d)))) :
    GW K (gSub to ti rSetL) d ρ μ R := fun A σ H v s ev x Q q =>
  h A σ H s ev _ fun A1 H1 o od m1 e1 s1 o1 p1 => p1 A1 σ H1 s1 (ev.mono e1) _ fun A2 H2 ix id m2 e2 s2 i2 ⟨k, i, j, xs, hd, hi, hm, hj, p⟩ => by
    subst hd hi
    cases i2
    obtain ⟨a, vs, rfl, hk, ho, t1⟩ := s2.cell (o1.mono e2) hm
    have w := t1.set (x.mono (e1.trans e2)) j
    exact ⟨a, vs, i, j, rfl, rfl, ho, by rw [t1.length]; exact hj, q A2 _ σ ρ _ ((e1.trans e2).trans (ext_cell hk ho)) (s2.write hk ho w) (ev.mono ((e1.trans e2).trans (ext_cell hk ho))) p⟩
/-- a slice of a list, of any standing -/
theorem ew_slV {to : TE} {tl th : TO} (h : EW K to ρ μ fun d m1 => OW K tl ρ m1 fun lo m2 => OW K th ρ m2 fun hi m3 => ∃ xs, Lv m3 d xs ∧ P (.lst (cut xs lo hi)) m3) : EW K (tSl (rSlL K) to tl th) ρ μ P := fun A σ H s v Q q =>
  h A σ H s v _ fun A1 H1 x d m1 e1 s1 x1 p1 => p1 A1 σ H1 s1 (v.mono e1) _ fun A2 H2 lo m2 e2 s2 p2 => p2 A2 σ H2 s2 (v.mono (e1.trans e2)) _ fun A3 H3 hi m3 e3 s3 ⟨xs, hd, p⟩ => by
    obtain ⟨a, vs, rfl, h1, t1⟩ := hd.at_ s3 (x1.mono (e2.trans e3))
    exact ⟨a, vs, rfl, h1, fun b hb => q A3 _ _ _ m3 (((e1.trans e2).trans e3).trans (ext_new hb)) (s3.new hb) (Dn.newL s3 hb (t1.cut lo hi)) p⟩
/-- tuple(a list), of any standing -/
theorem cw_tupV {xs : List Dat} (hd : Lv μ d xs) (p : P (.tup xs) μ) : CW K (rTupOf K) [d] μ P := by
  rcases hd with h | ⟨k, h, hm⟩
  · rw [h]; exact cw_tupL p
  · rw [h]; exact cw_tupC hm p
theorem cw_lenW {xs : List Dat} (hd : Lv μ d xs) (p : P (.int (xs.length : Nat)) μ) : CW K (rLen K) [d] μ P := by
  rcases hd with h | ⟨k, h, hm⟩
  · rw [h]; exact cw_lenL p
  · rw [h]; exact cw_lenC hm p
theorem rw_ixV {xs : List Dat} {i : Int} {f : Dat} (hd : Lv μ d xs) (h : atI xs i = some f) (p : P f μ) : RW K (rIxL K) d (.int i) μ P := by
  rcases hd with e | ⟨k, e, hm⟩
  · rw [e]; exact rw_ixL h p
  · rw [e]; exact rw_ixC hm h p
/-- the walked thing is a name's, a list of any standing -/
theorem ew_lcV {i j : Nat} {xs : List Dat} (hd : ρ[i]? = some (some d)) (hl : Lv μ d xs) (hz : xs.length < sizeLine) (f : Dat → Option Dat)
    (hf : ∀ x acc, x ∈ xs → TurnW K tt te ((wipeD ρ j).set j (some x)) (μ ++ [some acc]) (f x)) (p : P (.lst (xs.filterMap f)) μ) : EW K (tLc (iSeq K (tVar i)) (gName j) tt te [j]) ρ μ P := by
  have z : EW K (tLc (iList K (tVar i)) (gName j) tt te [j]) ρ μ P := fun A σ H s v Q q => by
    obtain ⟨u, hu, x1⟩ := v.2 i _ hd
    refine ⟨u, hu, ?_⟩
    have hk' : Is d xs (fun m' => ∃ acc, m' = μ ∨ m' = μ ++ [some acc]) := hl.imp id fun ⟨k, e1, e2⟩ => ⟨k, e1, fun m' ⟨acc, hm⟩ => by
      rcases hm with hm | hm
      · rw [hm]; exact e2
      · rw [hm, List.getElem?_append_left (List.getElem?_eq_some_iff.mp e2).1]; exact e2⟩
    obtain ⟨a, rfl, src⟩ := hk'.at_ (A2 := A) (H2 := H) (m2 := μ) x1
    obtain ⟨ys0, sq0, _⟩ := src A H μ (Ext.refl _ _) s ⟨[], .inl rfl⟩
    refine ⟨a, rfl, ⟨ys0, sq0⟩, fun D hD => ?_⟩
    refine ⟨fun n k H' => k = xs.length - n ∧ n ≤ xs.length ∧ Grow K A H μ D ((xs.take n).filterMap f) H', ⟨xs.length, rfl, Nat.zero_le _, by simpa using Grow.start s hD⟩, ?_⟩
    rintro n k H2 ⟨rfl, hn, g⟩
    obtain ⟨A2, e2, s2, hD2⟩ := g.ex
    obtain ⟨ys, sq, dy⟩ := src A2 H2 _ ((ext_open hD).trans e2) s2 ⟨_, .inr rfl⟩
    have ly := dy.length
    by_cases hlt : n < xs.length
    · have hy : ys[n]? = some (ys[n]'(by omega)) := List.getElem?_eq_getElem _
      refine .inr ⟨⟨ys, _, sq, hy⟩, Grow K A H μ D ((xs.take (n + 1)).filterMap f), fun H3 p3 => ⟨xs.length - (n + 1), by omega, rfl, hlt, p3⟩, fun x H3 yy => ?_⟩
      obtain ⟨eH, hx⟩ := yy
      subst eH
      obtain ⟨dd, q1, q2⟩ := dy.getV (hx ys sq)
      refine ⟨wipe_set σ j _, ?_⟩
      have lz : ((xs.take n).filterMap f).length < sizeLine := Nat.lt_of_le_of_lt (List.length_filterMap_le _ _) (by rw [List.length_take]; omega)
      refine turn_run (hf dd _ (List.mem_of_getElem? q1)) e2 s2 hD2 (((v.mono ((ext_open hD).trans e2)).wipe j).set j q2) lz g.nc _ fun H' g' => ?_
      have tk : xs.take (n + 1) = xs.take n ++ [dd] := by
        rw [List.take_succ, q1]; rfl
      rw [tk, List.filterMap_append]
      have : (List.filterMap f [dd]) = (f dd).toList := by cases q : f dd <;> simp [q]
      rw [this]
      exact g'
    · have : n = xs.length := by omega
      subst this
      rw [List.take_length] at g
      obtain ⟨A3, e3, s3, d3⟩ := Grow.done s hD g
      exact .inl ⟨⟨ys, sq, by omega⟩, q A3 H2 _ _ μ e3 s3 d3 p⟩
  exact fun A σ H s v Q q => lc_seq (fun R r => .inr r) (z A σ H s v Q q)
end
end DL
namespace KM
/-! endless rows that go round, as functions of the place -/
def seq (B A : List Int) (i : Nat) : Int := if i < B.length then B.getD i 0 else A.getD ((i - B.length) % A.length) 0
def Per (x : Nat → Int) (m s : Nat) : Prop := ∀ i, m ≤ i → x (i + s) = x i
structure IsN (x : Nat → Int) (m s : Nat) : Prop where
  per : Per x m s
  pos : 1 ≤ s
  least : ∀ m' s', 1 ≤ s' → Per x m' s' → m ≤ m' ∧ s ≤ s'
def pre (x : Nat → Int) (m : Nat) : List Int := (List.range m).map x
def cyc (x : Nat → Int) (m s : Nat) : List Int := (List.range s).map fun i => x (m + i)
def NR (x : Nat → Int) (B A : List Int) : Prop := ∃ m s, IsN x m s ∧ B = pre x m ∧ A = cyc x m s
theorem NR.unique {x : Nat → Int} {B A B' A' : List Int} (h : NR x B A) (g : NR x B' A') : B = B' ∧ A = A' := by
  obtain ⟨m, s, h1, rfl, rfl⟩ := h
  obtain ⟨m', s', g1, rfl, rfl⟩ := g
  have a := h1.least m' s' g1.pos g1.per
  have b := g1.least m s h1.pos h1.per
  have e1 : m = m' := by omega
  have e2 : s = s' := by omega
  subst e1 e2
  exact ⟨rfl, rfl⟩
theorem per_seq {B A : List Int} : Per (seq B A) B.length A.length := fun i hi => by
  unfold seq
  rw [if_neg (by omega), if_neg (by omega)]
  have : i + A.length - B.length = (i - B.length) + A.length := by omega
  rw [this, Nat.add_mod_right]
theorem per_mul {x : Nat → Int} {m s : Nat} (h : Per x m s) : ∀ k, Per x m (s * k)
  | 0 => fun i _ => by simp
  | k + 1 => fun i hi => by
    rw [Nat.mul_succ, ← Nat.add_assoc, h _ (by omega)]
    exact per_mul h k i hi
theorem per_mix {x : Nat → Int} {m s m' s' : Nat} (h : Per x m s) (g : Per x m' s') (hs : 1 ≤ s) : Per x m s' := fun i hi => by
  have big : m' ≤ i + s * m' := by
    have := Nat.mul_le_mul_right m' hs
    omega
  have e1 := per_mul h m' (i + s') (by omega)
  have e2 := per_mul h m' i hi
  have e3 := g (i + s * m') big
  have c : i + s' + s * m' = i + s * m' + s' := by omega
  rw [← e1, c, e3, e2]
theorem per_sub {x : Nat → Int} {m s t : Nat} (h : Per x m s) (g : Per x m t) (l : s ≤ t) : Per x m (t - s) := fun i hi => by
  have e1 := h (i + (t - s)) (by omega)
  have e2 := g i hi
  have c : i + (t - s) + s = i + t := by omega
  rw [c] at e1
  rw [← e1, e2]
theorem per_mod {x : Nat → Int} {m s t : Nat} (h : Per x m s) (g : Per x m t) : Per x m (t % s) := by
  have e : t % s = t - s * (t / s) := by
    have := Nat.div_add_mod t s
    omega
  rw [e]
  exact per_sub (per_mul h _) g (Nat.mul_div_le t s)
theorem per_gcd {x : Nat → Int} {m : Nat} : ∀ s t : Nat, Per x m s → Per x m t → Per x m (Nat.gcd s t) := fun s t =>
  Nat.gcd.induction (P := fun s t => Per x m s → Per x m t → Per x m (Nat.gcd s t)) s t (fun n _ h => by rw [Nat.gcd_zero_left]; exact h) fun a b _ ih h g => by
    rw [Nat.gcd_rec]
    exact ih (per_mod h g) h
/-! ### the shortest round -/
/-- the first l letters, again and again, are all of A -/
def Rnd (A : List Int) (l : Nat) : Prop := 1 ≤ l ∧ A.length % l = 0 ∧ ∀ i, i < A.length → A.getD i 0 = A.getD (i % l) 0
theorem rnd_per {B A : List Int} {l : Nat} (h : Rnd A l) (hA : A ≠ []) : Per (seq B A) B.length l := fun i hi => by
  obtain ⟨h1, h2, h3⟩ := h
  have hn : 0 < A.length := List.length_pos_iff.mpr hA
  unfold seq
  rw [if_neg (by omega), if_neg (by omega)]
  have e : i + l - B.length = (i - B.length) + l := by omega
  rw [e, h3 _ (Nat.mod_lt _ hn), h3 ((i - B.length) % A.length) (Nat.mod_lt _ hn)]
  have d : l ∣ A.length := Nat.dvd_of_mod_eq_zero h2
  rw [Nat.mod_mod_of_dvd _ d, Nat.mod_mod_of_dvd _ d, Nat.add_mod_right]
theorem per_rnd {B A : List Int} {l : Nat} (h : Per (seq B A) B.length l) (h1 : 1 ≤ l) (h2 : A.length % l = 0) : Rnd A l := by
  refine ⟨h1, h2, fun i hi => ?_⟩
  have e := per_mul h (i / l) (B.length + i % l) (by omega)
  have c : B.length + i % l + l * (i / l) = B.length + i := by
    have := Nat.div_add_mod i l
    omega
  rw [c] at e
  unfold seq at e
  rw [if_neg (by omega), if_neg (by omega)] at e
  have q1 : (B.length + i - B.length) % A.length = i := by rw [Nat.add_sub_cancel_left]; exact Nat.mod_eq_of_lt hi
  have q2 : (B.length + i % l - B.length) % A.length = i % l := by
    rw [Nat.add_sub_cancel_left]
    exact Nat.mod_eq_of_lt (Nat.lt_of_le_of_lt (Nat.mod_le i l) hi)
  rw [q1, q2] at e
  exact e
/-- the least round is the least period -/
theorem least_round {B A : List Int} {p m' s' : Nat} (hA : A ≠ []) (hp : ∀ l, l < p → ¬ Rnd A l) (hs : 1 ≤ s') (h : Per (seq B A) m' s') : p ≤ s' := by
  have hn : 1 ≤ A.length := List.length_pos_iff.mpr hA
  have h1 : Per (seq B A) B.length s' := per_mix per_seq h hn
  have h2 := per_gcd _ _ h1 (per_seq (B := B) (A := A))
  have gp : 1 ≤ Nat.gcd s' A.length := Nat.gcd_pos_of_pos_left _ hs
  have gl : Nat.gcd s' A.length ≤ s' := Nat.gcd_le_left _ hs
  have r := per_rnd h2 gp (Nat.mod_eq_zero_of_dvd (Nat.gcd_dvd_right _ _))
  by_cases c : p ≤ s'
  · exact c
  · exact absurd r (hp _ (by omega))
theorem seq_rnd {B A : List Int} {l : Nat} (h : Rnd A l) (hA : A ≠ []) (hl : l ≤ A.length) : seq B (A.take l) = seq B A := by
  funext i
  obtain ⟨h1, h2, h3⟩ := h
  have hn : 0 < A.length := List.length_pos_iff.mpr hA
  unfold seq
  by_cases c : i < B.length
  · rw [if_pos c, if_pos c]
  · rw [if_neg c, if_neg c]
    have tl : (A.take l).length = l := by rw [List.length_take]; omega
    rw [tl, h3 _ (Nat.mod_lt _ hn), Nat.mod_mod_of_dvd _ (Nat.dvd_of_mod_eq_zero h2)]
    rw [List.getD_eq_getElem?_getD, List.getD_eq_getElem?_getD, List.getElem?_take_of_lt (Nat.mod_lt _ (by omega))]
theorem rep_get (w : List Int) : ∀ (k i : Nat), i < k * w.length → (List.replicate k w).flatten.getD i 0 = w.getD (i % w.length) 0
  | 0, i, h => by simp at h
  | k + 1, i, h => by
    rw [List.replicate_succ, List.flatten_cons]
    by_cases c : i < w.length
    · rw [Nat.mod_eq_of_lt c, List.getD_eq_getElem?_getD, List.getD_eq_getElem?_getD, List.getElem?_append_left c]
    · have e : i % w.length = (i - w.length) % w.length := by
        have : i = (i - w.length) + w.length := by omega
        conv => lhs; rw [this]
        rw [Nat.add_mod_right]
      rw [e, ← rep_get w k (i - w.length) (by rw [Nat.succ_mul] at h; omega)]
      rw [List.getD_eq_getElem?_getD, List.getD_eq_getElem?_getD, List.getElem?_append_right (by omega)]
theorem rep_len (w : List Int) : ∀ k : Nat, (List.replicate k w).flatten.length = k * w.length
  | 0 => by simp
  | k + 1 => by rw [List.replicate_succ, List.flatten_cons, List.length_append, rep_len w k, Nat.succ_mul, Nat.add_comm]
theorem ext_getD {a b : List Int} (hl : a.length = b.length) (h : ∀ i, i < a.length → a.getD i 0 = b.getD i 0) : a = b := by
  apply List.ext_getElem hl
  intro i h1 h2
  have := h i h1
  rw [List.getD_eq_getElem?_getD, List.getD_eq_getElem?_getD, List.getElem?_eq_getElem h1, List.getElem?_eq_getElem h2] at this
  simpa using this
/-- what the program asks of a length -/
theorem rnd_iff {A : List Int} {l : Nat} (h1 : 1 ≤ l) (hl : l ≤ A.length) : Rnd A l ↔ A.length % l = 0 ∧ (List.replicate (A.length / l) (A.take l)).flatten = A := by
  have tl : (A.take l).length = l := by rw [List.length_take]; omega
  have tg : ∀ i, (A.take l).getD (i % l) 0 = A.getD (i % l) 0 := fun i => by
    rw [List.getD_eq_getElem?_getD, List.getD_eq_getElem?_getD, List.getElem?_take_of_lt (Nat.mod_lt _ (by omega))]
  have dv : A.length % l = 0 → A.length / l * l = A.length := fun h => Nat.div_mul_cancel (Nat.dvd_of_mod_eq_zero h)
  constructor
  · rintro ⟨_, h2, h3⟩
    refine ⟨h2, ext_getD (by rw [rep_len, tl, dv h2]) fun i hi => ?_⟩
    rw [rep_len, tl] at hi
    rw [rep_get _ _ _ (by rw [tl]; exact hi), tl, tg, ← h3 i (by rw [dv h2] at hi; exact hi)]
  · rintro ⟨h2, h3⟩
    refine ⟨h1, h2, fun i hi => ?_⟩
    have e := rep_get (A.take l) (A.length / l) i (by rw [tl, dv h2]; exact hi)
    rw [h3, tl, tg] at e
    exact e
theorem rnd_self {A : List Int} (h : A ≠ []) : Rnd A A.length := ⟨List.length_pos_iff.mpr h, Nat.mod_self _, fun i hi => by rw [Nat.mod_eq_of_lt hi]⟩
/-! ### the letter that goes from begin's end to again's front -/
theorem rot_seq (B A : List Int) (c : Int) : seq (B ++ [c]) (A ++ [c]) = seq B (c :: A) := by
  funext i
  unfold seq
  rw [List.length_append, List.length_append, List.length_singleton, List.length_cons]
  by_cases h : i < B.length
  · rw [if_pos h, if_pos (by omega), List.getD_eq_getElem?_getD, List.getD_eq_getElem?_getD, List.getElem?_append_left h]
  · rw [if_neg h]
    by_cases g : i < B.length + 1
    · have e : i = B.length := by omega
      subst e
      rw [if_pos g, Nat.sub_self, Nat.zero_mod, List.getD_eq_getElem?_getD, List.getElem?_append_right (Nat.le_refl _), Nat.sub_self]
      rfl
    · rw [if_neg g]
      have e : i - B.length = (i - (B.length + 1)) + 1 := by omega
      rw [e]
      generalize i - (B.length + 1) = j
      have key : ∀ q, q < A.length + 1 → (A ++ [c]).getD q 0 = (c :: A).getD ((q + 1) % (A.length + 1)) 0 := fun q hq => by
        by_cases z : q = A.length
        · subst z
          rw [Nat.mod_self, List.getD_eq_getElem?_getD, List.getElem?_append_right (Nat.le_refl _), Nat.sub_self]
          rfl
        · rw [Nat.mod_eq_of_lt (by omega), List.getD_eq_getElem?_getD, List.getElem?_append_left (by omega), List.getD_cons_succ, List.getD_eq_getElem?_getD]
      rw [key _ (Nat.mod_lt _ (by omega)), Nat.mod_add_mod]
theorem pre_seq (B A : List Int) : pre (seq B A) B.length = B := by
  apply ext_getD
  · simp [pre]
  · intro i hi
    have hi' : i < B.length := by simpa [pre] using hi
    unfold pre
    rw [List.getD_eq_getElem?_getD, List.getElem?_map, List.getElem?_range hi']
    show (some (seq B A i)).getD 0 = _
    unfold seq
    rw [if_pos hi']
    rfl
theorem cyc_seq (B A : List Int) : cyc (seq B A) B.length A.length = A := by
  apply ext_getD
  · simp [cyc]
  · intro i hi
    have hi' : i < A.length := by simpa [cyc] using hi
    unfold cyc
    rw [List.getD_eq_getElem?_getD, List.getElem?_map, List.getElem?_range hi']
    show (some (seq B A (B.length + i))).getD 0 = _
    unfold seq
    rw [if_neg (by omega), Nat.add_sub_cancel_left, Nat.mod_eq_of_lt hi']
    rfl
/-- the program's end: shortest again, begin that does not end as again does -/
theorem nr_of {B A : List Int} {x : Nat → Int} (e : seq B A = x) (hA : A ≠ []) (hp : ∀ m' s', 1 ≤ s' → Per x m' s' → A.length ≤ s') (hl : B = [] ∨ B.getD (B.length - 1) 0 ≠ A.getD (A.length - 1) 0) : NR x B A := by
  subst e
  have hn : 1 ≤ A.length := List.length_pos_iff.mpr hA
  refine ⟨B.length, A.length, ⟨per_seq, hn, fun m' s' hs h => ⟨?_, hp m' s' hs h⟩⟩, (pre_seq B A).symm, (cyc_seq B A).symm⟩
  by_cases c : B.length ≤ m'
  · exact c
  · rcases hl with rfl | hl
    · simp
    · have q : Per (seq B A) m' A.length := per_mix h per_seq hs
      have z := q (B.length - 1) (by omega)
      refine absurd ?_ hl
      unfold seq at z
      rw [if_neg (by omega), if_pos (by omega)] at z
      have : (B.length - 1 + A.length - B.length) % A.length = A.length - 1 := by
        have : B.length - 1 + A.length - B.length = A.length - 1 := by omega
        rw [this]
        exact Nat.mod_eq_of_lt (by omega)
      rw [this] at z
      exact z.symm
theorem nr_seq {x : Nat → Int} {B A : List Int} (h : NR x B A) : seq B A = x := by
  obtain ⟨m, s, h, rfl, rfl⟩ := h
  funext i
  have l1 : (pre x m).length = m := by simp [pre]
  have l2 : (cyc x m s).length = s := by simp [cyc]
  unfold seq
  rw [l1, l2]
  by_cases c : i < m
  · rw [if_pos c]
    unfold pre
    rw [List.getD_eq_getElem?_getD, List.getElem?_map, List.getElem?_range c]
    rfl
  · rw [if_neg c]
    have hs := h.pos
    unfold cyc
    rw [List.getD_eq_getElem?_getD, List.getElem?_map, List.getElem?_range (Nat.mod_lt _ hs)]
    show x (m + (i - m) % s) = x i
    have e := per_mul h.per ((i - m) / s) (m + (i - m) % s) (by omega)
    have c2 : m + (i - m) % s + s * ((i - m) / s) = i := by
      have := Nat.div_add_mod (i - m) s
      omega
    rw [c2] at e
    exact e.symm
theorem nr_same {x y : Nat → Int} {B A B' A' : List Int} (h : NR x B A) (g : NR y B' A') : (B = B' ∧ A = A') ↔ ∀ i, x i = y i := by
  constructor
  · rintro ⟨rfl, rfl⟩ i
    rw [← nr_seq h, ← nr_seq g]
  · intro e
    have : x = y := funext e
    subst this
    exact h.unique g
/-! ### the law's search -/
/-- the windows that the law compares -/
def Win (x : Nat → Int) (b n m s : Nat) : Prop := ∀ i, i < b + n + 1 - m → x (m + i) = x (m + s + i)
theorem win_per {x : Nat → Int} {b n m s : Nat} (h : Per x b n) (hm : m ≤ b) (hn : 1 ≤ n) : Win x b n m s ↔ Per x m s := by
  constructor
  · intro w i
    induction i using Nat.strongRecOn with
    | ind i ih =>
      intro hi
      by_cases c : i < b + n + 1
      · have := w (i - m) (by omega)
        have e1 : m + (i - m) = i := by omega
        have e2 : m + s + (i - m) = i + s := by omega
        rw [e1, e2] at this
        exact this.symm
      · have e1 := h (i - n + s) (by omega)
        have e2 := h (i - n) (by omega)
        have c1 : i - n + s + n = i + s := by omega
        have c2 : i - n + n = i := by omega
        rw [c1] at e1
        rw [c2] at e2
        rw [e1, e2]
        exact ih (i - n) (by omega) (by omega)
  · intro p i _
    have := p (m + i) (by omega)
    have e : m + i + s = m + s + i := by omega
    rw [e] at this
    exact this.symm
theorem found {x : Nat → Int} {b n m s : Nat} (h : Per x b n) (hn : 1 ≤ n) (hs : 1 ≤ s) (hm : m ≤ b) (p : Per x m s) (h1 : ∀ m' s', m' < m → 1 ≤ s' → s' ≤ n → ¬ Per x m' s') (h2 : ∀ s', 1 ≤ s' → s' < s → ¬ Per x m s') : IsN x m s := by
  refine ⟨p, hs, fun m' s' hs' q => ⟨?_, ?_⟩⟩
  · by_cases c : m ≤ m'
    · exact c
    · exact absurd (per_mix q h hs') (h1 m' n (by omega) hn (Nat.le_refl _))
  · by_cases c : s ≤ s'
    · exact c
    · exact absurd (per_mix p q hs) (h2 s' hs' (by omega))
/-! ### first unlike places -/
def FD (x y : Nat → Int) : Option Nat → Prop
  | none => ∀ i, x i = y i
  | some p => x p ≠ y p ∧ ∀ i, i < p → x i = y i
theorem FD.unique {x y : Nat → Int} : ∀ {a b : Option Nat}, FD x y a → FD x y b → a = b
  | none, none, _, _ => rfl
  | none, some q, h, g => absurd (h q) g.1
  | some p, none, h, g => absurd (g p) h.1
  | some p, some q, h, g => by
    have a : ¬ p < q := fun c => h.1 (g.2 p c)
    have b : ¬ q < p := fun c => g.1 (h.2 q c)
    have : p = q := by omega
    rw [this]
theorem FD.symm {x y : Nat → Int} : ∀ {a : Option Nat}, FD x y a → FD y x a
  | none, h => fun i => (h i).symm
  | some p, h => ⟨fun e => h.1 e.symm, fun i c => (h.2 i c).symm⟩
theorem agree_sum {x y : Nat → Int} {M n n' : Nat} (h : Per x M n) (g : Per y M n') (hn : 1 ≤ n) (hn' : 1 ≤ n') (w : ∀ i, i < M + n + n' → x i = y i) : ∀ i, x i = y i := fun i => by
  induction i using Nat.strongRecOn with
  | ind i ih =>
    by_cases c : i < M + n + n'
    · exact w i c
    · have a1 := h (i - n) (by omega)
      have a2 := h (i - n - n') (by omega)
      have b1 := g (i - n') (by omega)
      have b2 := g (i - n - n') (by omega)
      have c1 : i - n + n = i := by omega
      have c2 : i - n - n' + n = i - n' := by omega
      have c3 : i - n' + n' = i := by omega
      have c4 : i - n - n' + n' = i - n := by omega
      rw [c1] at a1
      rw [c2] at a2
      rw [c3] at b1
      rw [c4] at b2
      rw [a1, b1, ih (i - n) (by omega), b2, ← ih (i - n - n') (by omega), ← a2, ih (i - n') (by omega)]
theorem agree_prod {x y : Nat → Int} {M n n' : Nat} (h : Per x M n) (g : Per y M n') (hn : 1 ≤ n) (hn' : 1 ≤ n') (w : ∀ i, i < M + n * n' → x i = y i) : ∀ i, x i = y i := fun i => by
  have hp : 1 ≤ n * n' := Nat.mul_pos hn hn'
  induction i using Nat.strongRecOn with
  | ind i ih =>
    by_cases c : i < M + n * n'
    · exact w i c
    · have a1 := per_mul h n' (i - n * n') (by omega)
      have b1 := per_mul g n (i - n * n') (by omega)
      rw [Nat.mul_comm n' n] at b1
      have c1 : i - n * n' + n * n' = i := by omega
      rw [c1] at a1 b1
      rw [a1, b1]
      exact ih _ (by omega)
theorem per_more {x : Nat → Int} {m m' s : Nat} (h : Per x m s) (l : m ≤ m') : Per x m' s := fun i hi => h i (by omega)
/-! ### turned on -/
theorem drop_seq (B A : List Int) (k : Nat) (h : k ≤ B.length) : seq (B.drop k) A = fun i => seq B A (i + k) := by
  funext i
  unfold seq
  rw [List.length_drop]
  by_cases c : i < B.length - k
  · rw [if_pos c, if_pos (by omega), List.getD_eq_getElem?_getD, List.getD_eq_getElem?_getD, List.getElem?_drop, Nat.add_comm]
  · rw [if_neg c, if_neg (by omega)]
    have : i - (B.length - k) = i + k - B.length := by omega
    rw [this]
theorem spin_seq (B A : List Int) (k g : Nat) (h : B.length ≤ k) (hA : A ≠ []) (hg : g = (k - B.length) % A.length) : seq [] (A.drop g ++ A.take g) = fun i => seq B A (i + k) := by
  have hn : 0 < A.length := List.length_pos_iff.mpr hA
  have gl : g < A.length := hg ▸ Nat.mod_lt _ hn
  funext i
  unfold seq
  have l : (A.drop g ++ A.take g).length = A.length := by
    rw [List.length_append, List.length_drop, List.length_take]; omega
  rw [if_neg (by simp), if_neg (by omega), l]
  have e : (i + k - B.length) % A.length = (i % A.length + g) % A.length := by
    have : i + k - B.length = i + (k - B.length) := by omega
    rw [this, hg, ← Nat.add_mod]
  rw [e]
  show (A.drop g ++ A.take g).getD ((i - 0) % A.length) 0 = _
  rw [Nat.sub_zero]
  have hj : i % A.length < A.length := Nat.mod_lt _ hn
  generalize i % A.length = j at hj
  by_cases c : j < A.length - g
  · rw [Nat.mod_eq_of_lt (by omega), List.getD_eq_getElem?_getD, List.getD_eq_getElem?_getD, List.getElem?_append_left (by rw [List.length_drop]; exact c), List.getElem?_drop, Nat.add_comm]
  · have e2 : (j + g) % A.length = j + g - A.length := by
      have : j + g = (j + g - A.length) + A.length := by omega
      conv => lhs; rw [this]
      rw [Nat.add_mod_right]
      exact Nat.mod_eq_of_lt (by omega)
    rw [e2, List.getD_eq_getElem?_getD, List.getD_eq_getElem?_getD, List.getElem?_append_right (by rw [List.length_drop]; omega), List.length_drop, List.getElem?_take_of_lt (by omega)]
    congr 2
    omega
/-! ### rows that are let -/
structure Ok (L : Int) (B A : List Int) : Prop where
  lb : B.length ≤ 40
  la : A.length ≤ 40
  ne : A ≠ []
  b : ∀ c ∈ B, 0 ≤ c ∧ c < L
  a : ∀ c ∈ A, 0 ≤ c ∧ c < L
theorem getD_ok {L : Int} {l : List Int} (h : ∀ c ∈ l, 0 ≤ c ∧ c < L) {i : Nat} (hi : i < l.length) : 0 ≤ l.getD i 0 ∧ l.getD i 0 < L := by
  rw [List.getD_eq_getElem?_getD, List.getElem?_eq_getElem hi]
  exact h _ (List.getElem_mem hi)
theorem Ok.at {L : Int} {B A : List Int} (h : Ok L B A) (i : Nat) : 0 ≤ seq B A i ∧ seq B A i < L := by
  unfold seq
  by_cases c : i < B.length
  · rw [if_pos c]; exact getD_ok h.b c
  · rw [if_neg c]; exact getD_ok h.a (Nat.mod_lt _ (List.length_pos_iff.mpr h.ne))
theorem Ok.nr {L : Int} {B A B' A' : List Int} (h : Ok L B A) (g : NR (seq B A) B' A') : Ok L B' A' ∧ B'.length ≤ B.length ∧ A'.length ≤ A.length := by
  obtain ⟨m, s, n, rfl, rfl⟩ := g
  have hn : 1 ≤ A.length := List.length_pos_iff.mpr h.ne
  have l := n.least _ _ hn (per_seq (B := B) (A := A))
  have l1 : (pre (seq B A) m).length = m := by simp [pre]
  have l2 : (cyc (seq B A) m s).length = s := by simp [cyc]
  have h1 := h.lb
  have h2 := h.la
  refine ⟨⟨by omega, by omega, fun z => ?_, fun c hc => ?_, fun c hc => ?_⟩, by omega, by omega⟩
  · have := n.pos
    rw [z] at l2
    simp at l2
    omega
  · obtain ⟨i, _, rfl⟩ := List.mem_map.mp hc
    exact h.at i
  · obtain ⟨i, _, rfl⟩ := List.mem_map.mp hc
    exact h.at _
theorem Ok.mono {L L' : Int} {B A : List Int} (h : Ok L B A) (l : L ≤ L') : Ok L' B A := ⟨h.lb, h.la, h.ne, fun c m => ⟨(h.b c m).1, Int.lt_of_lt_of_le (h.b c m).2 l⟩, fun c m => ⟨(h.a c m).1, Int.lt_of_lt_of_le (h.a c m).2 l⟩⟩
end KM
namespace RM
open PySem PySem.Spec PyProof.Rows L2 DL KM
/-! ### ways, runs -/
def at4 (ws : List (List Int)) (n k : Nat) : Int := (ws.getD n []).getD k 0
def led (ws : List (List Int)) : Int → List Nat → Option Int
  | r, [] => some r
  | r, n :: ns => if at4 ws n 0 = r then led ws (at4 ws n 2) ns else none
theorem led_app (ws : List (List Int)) : ∀ (r : Int) (a b : List Nat), led ws r (a ++ b) = (led ws r a).bind fun h => led ws h b
  | r, [], b => rfl
  | r, n :: a, b => by
    rw [List.cons_append, led, led]
    by_cases h : at4 ws n 0 = r
    · rw [if_pos h, if_pos h, led_app ws _ a b]
    · rw [if_neg h, if_neg h]; rfl
theorem led_head {ws : List (List Int)} {r r' : Int} {n : Nat} {ns : List Nat} (h : led ws r (n :: ns) = some r') : at4 ws n 0 = r := by
  rw [led] at h
  by_cases c : at4 ws n 0 = r
  · exact c
  · rw [if_neg c] at h; cases h
def ni (ns : List Nat) : List Dat := ns.map fun k => Dat.int (k : Nat)
/-- a list or a tuple of numbers below n -/
def Nl (n : Nat) (d : Dat) (ns : List Nat) : Prop := (d = .tup (ni ns) ∨ d = .lst (ni ns)) ∧ ∀ k ∈ ns, k < n
def ToldV (n : Nat) (d : Dat) (hs ls : List Nat) : Prop := ∃ h l, d = .tup [h, l] ∧ Nl n h hs ∧ Nl n l ls
def Told (ws : List (List Int)) (hs ls : List Nat) : Prop := hs.length ≤ 520 ∧ 1 ≤ ls.length ∧ ls.length ≤ 480 ∧ ∃ h, led ws 0 hs = some h ∧ led ws h ls = some h
def ToldD (ws : List (List Int)) (d : Dat) : Prop := ∃ hs ls, ToldV ws.length d hs ls ∧ Told ws hs ls
def Along (ws : List (List Int)) (B A : List Int) (hs ls : List Nat) : Prop := B.length ≤ hs.length ∧ (hs.length - B.length) % A.length = 0 ∧ ls.length % A.length = 0 ∧ ∀ i, i < (hs ++ ls).length → at4 ws ((hs ++ ls).getD i 0) 1 = seq B A i
def RunD (ws : List (List Int)) (B A : List Int) (d : Dat) : Prop := ∃ hs ls, ToldV ws.length d hs ls ∧ Told ws hs ls ∧ Along ws B A hs ls
theorem ni_inj : ∀ {a b : List Nat}, ni a = ni b → a = b
  | [], [], _ => rfl
  | x :: a, y :: b, h => by
    have h' : Dat.int (x : Nat) :: ni a = Dat.int (y : Nat) :: ni b := h
    injection h' with h1 h2
    injection h1 with h1
    rw [ni_inj h2]
    congr 1
    omega
  | [], y :: b, h => by cases h
  | x :: a, [], h => by cases h
theorem Nl.inj {n m : Nat} {d : Dat} {a b : List Nat} (h : Nl n d a) (g : Nl m d b) : a = b := by
  rcases h.1 with e | e <;> rcases g.1 with f | f <;> rw [e] at f
  · injection f with f; exact ni_inj f
  · cases f
  · cases f
  · injection f with f; exact ni_inj f
theorem ToldV.inj {n m : Nat} {d : Dat} {a b a' b' : List Nat} (h : ToldV n d a b) (g : ToldV m d a' b') : a = a' ∧ b = b' := by
  obtain ⟨h1, l1, e1, x1, y1⟩ := h
  obtain ⟨h2, l2, e2, x2, y2⟩ := g
  rw [e1] at e2
  injection e2 with e2
  injection e2 with e3 e4
  injection e4 with e4
  subst e3 e4
  exact ⟨x1.inj x2, y1.inj y2⟩
theorem ni_len (a : List Nat) : (ni a).length = a.length := List.length_map ..
theorem ni_app (a b : List Nat) : ni a ++ ni b = ni (a ++ b) := by unfold ni; rw [List.map_append]
theorem ni_wi (a : List Nat) : ni a = wi (a.map fun k : Nat => (k : Int)) := by unfold ni wi; rw [List.map_map]; rfl
/-- what a row of A's repeated looks like -/
theorem rep_seq {B A : List Int} {k n i : Nat} (hn : n = B.length + k * A.length) (hi : i < n) : (B ++ (List.replicate k A).flatten).getD i 0 = seq B A i := by
  subst hn
  unfold seq
  by_cases c : i < B.length
  · rw [if_pos c, List.getD_eq_getElem?_getD, List.getElem?_append_left c, List.getD_eq_getElem?_getD]
  · rw [if_neg c, List.getD_eq_getElem?_getD, List.getElem?_append_right (by omega), ← List.getD_eq_getElem?_getD, rep_get A k (i - B.length) (by omega)]
/-- the program's and the law's way of asking the letters -/
theorem along_iff {ws : List (List Int)} {B A : List Int} {hs ls : List Nat} (hA : A ≠ []) (h1 : B.length ≤ hs.length) (h2 : (hs.length - B.length) % A.length = 0) (h3 : ls.length % A.length = 0) :
    ((hs ++ ls).map fun n => at4 ws n 1) = B ++ (List.replicate ((hs.length - B.length + ls.length) / A.length) A).flatten ↔ ∀ i, i < (hs ++ ls).length → at4 ws ((hs ++ ls).getD i 0) 1 = seq B A i := by
  have pos : 0 < A.length := List.length_pos_iff.mpr hA
  have dv : (hs.length - B.length + ls.length) / A.length * A.length = hs.length - B.length + ls.length := by
    have : (hs.length - B.length + ls.length) % A.length = 0 := by rw [Nat.add_mod, h2, h3]; simp
    exact Nat.div_mul_cancel (Nat.dvd_of_mod_eq_zero this)
  have ln : (hs ++ ls).length = B.length + (hs.length - B.length + ls.length) / A.length * A.length := by rw [dv, List.length_append]; omega
  have gl : ∀ i, i < (hs ++ ls).length → ((hs ++ ls).map fun n => at4 ws n 1).getD i 0 = at4 ws ((hs ++ ls).getD i 0) 1 := fun i hi => by
    rw [List.getD_eq_getElem?_getD, List.getElem?_map, List.getElem?_eq_getElem hi, List.getD_eq_getElem?_getD, List.getElem?_eq_getElem hi]
    rfl
  constructor
  · intro e i hi
    rw [← gl i hi, e, rep_seq ln hi]
  · intro h
    apply ext_getD
    · rw [List.length_map, ln, List.length_append, rep_len]
    · intro i hi
      rw [List.length_map] at hi
      rw [gl i hi, rep_seq ln hi]
      exact h i hi
/-- the law's path: through head and loop at once, then home -/
theorem path_iff {ws : List (List Int)} {hs ls : List Nat} (hl : ls ≠ []) : (∃ h, led ws 0 hs = some h ∧ led ws h ls = some h) ↔ led ws 0 (hs ++ ls) = some (at4 ws (ls.getD 0 0) 0) := by
  rw [led_app]
  cases ls with
  | nil => exact absurd rfl hl
  | cons n r =>
    constructor
    · rintro ⟨h, a, b⟩
      rw [a]
      have := led_head b
      show led ws h (n :: r) = some (at4 ws n 0)
      rw [b, this]
    · intro e
      cases q : led ws 0 hs with
      | none => rw [q] at e; cases e
      | some h =>
        rw [q] at e
        have e' : led ws h (n :: r) = some (at4 ws n 0) := e
        have := led_head e'
        rw [this] at e'
        exact ⟨h, rfl, e'⟩
end RM
namespace RM
open PySem PySem.Spec PyProof.Rows L2 DL KM
/-! ### walks along a row, their marks -/
structure Mks (ws : List (List Int)) (N : Int) (B A : List Int) (ns : List Nat) (i : Nat) (ms : List (List Int)) : Prop where
  each : ∀ w ∈ ms, ∃ (x : Int) (q : Nat), w = [x, (q : Int)] ∧ 0 ≤ x ∧ x < N ∧ B.length ≤ q ∧ (q - B.length) % A.length = 0 ∧ q ≤ ns.length ∧ led ws 0 (ns.take q) = some x
  up : ms.Pairwise fun u v => u.getD 1 0 < v.getD 1 0
  below : ∀ w ∈ ms, w.getD 1 0 < (i : Int)
  many : i ≤ B.length + A.length * ms.length
  few : ms.length ≤ i
section
variable {ws : List (List Int)} {N : Int} {B A : List Int} {ns : List Nat} {i : Nat} {ms : List (List Int)}
theorem Mks.zero : Mks ws N B A [] 0 [] := ⟨fun w h => absurd h List.not_mem_nil, List.Pairwise.nil, fun w h => absurd h List.not_mem_nil, by omega, by simp⟩
theorem Mks.mark (h : Mks ws N B A ns i ms) (hA : 0 < A.length) (hl : ns.length = i) {x : Int} (hx : led ws 0 ns = some x) (x0 : 0 ≤ x) (x1 : x < N) (h1 : B.length ≤ i) (h2 : (i - B.length) % A.length = 0) : Mks ws N B A ns (i + 1) (ms ++ [[x, (i : Int)]]) := by
  refine ⟨fun w hw => ?_, ?_, fun w hw => ?_, ?_, ?_⟩
  · rcases List.mem_append.mp hw with z | z
    · exact h.each w z
    · rw [List.mem_singleton.mp z]
      exact ⟨x, i, rfl, x0, x1, h1, h2, by omega, by rw [← hl, List.take_length]; exact hx⟩
  · refine List.pairwise_append.mpr ⟨h.up, List.pairwise_singleton _ _, fun u hu v hv => ?_⟩
    rw [List.mem_singleton.mp hv]
    exact h.below u hu
  · rcases List.mem_append.mp hw with z | z
    · have := h.below w z
      omega
    · rw [List.mem_singleton.mp z]
      show (i : Int) < _
      omega
  · have := h.many
    rw [List.length_append, List.length_singleton, Nat.mul_add]
    omega
  · have := h.few
    rw [List.length_append, List.length_singleton]
    omega
theorem Mks.skip (h : Mks ws N B A ns i ms) (hn : ¬ (B.length ≤ i ∧ (i - B.length) % A.length = 0)) : Mks ws N B A ns (i + 1) ms := by
  refine ⟨h.each, h.up, fun w hw => by have := h.below w hw; omega, ?_, by have := h.few; omega⟩
  have m := h.many
  by_cases c : B.length ≤ i
  · have c2 : (i - B.length) % A.length ≠ 0 := fun z => hn ⟨c, z⟩
    have ne : i - B.length ≠ A.length * ms.length := fun z => c2 (by rw [z]; exact Nat.mul_mod_right _ _)
    omega
  · omega
theorem Mks.grow (h : Mks ws N B A ns i ms) (k : Nat) : Mks ws N B A (ns ++ [k]) i ms :=
  ⟨fun w hw => by
    obtain ⟨x, q, e, a, b, c, d, f, g⟩ := h.each w hw
    refine ⟨x, q, e, a, b, c, d, by rw [List.length_append]; omega, ?_⟩
    rw [List.take_append_of_le_length f]
    exact g, h.up, h.below, h.many, h.few⟩
theorem Mks.two (h : Mks ws N B A ns i ms) (hN : N ≤ 3) (h4 : 4 ≤ ms.length) : ∃ (j k : Nat) (u v : List Int), j < k ∧ ms[j]? = some u ∧ ms[k]? = some v ∧ u.getD 0 0 = v.getD 0 0 := by
  match ms, h, h4 with
  | a :: b :: c :: d :: r, h, _ =>
    have bd : ∀ w ∈ a :: b :: c :: d :: r, 0 ≤ w.getD 0 0 ∧ w.getD 0 0 < 3 := fun w hw => by
      obtain ⟨x, q, e, x0, x1, _⟩ := h.each w hw
      rw [e]
      exact ⟨x0, by show x < 3; omega⟩
    have ha := bd a (by simp)
    have hb := bd b (by simp)
    have hc := bd c (by simp)
    have hd := bd d (by simp)
    have : a.getD 0 0 = b.getD 0 0 ∨ a.getD 0 0 = c.getD 0 0 ∨ a.getD 0 0 = d.getD 0 0 ∨ b.getD 0 0 = c.getD 0 0 ∨ b.getD 0 0 = d.getD 0 0 ∨ c.getD 0 0 = d.getD 0 0 := by omega
    rcases this with e | e | e | e | e | e
    · exact ⟨0, 1, a, b, by omega, rfl, rfl, e⟩
    · exact ⟨0, 2, a, c, by omega, rfl, rfl, e⟩
    · exact ⟨0, 3, a, d, by omega, rfl, rfl, e⟩
    · exact ⟨1, 2, b, c, by omega, rfl, rfl, e⟩
    · exact ⟨1, 3, b, d, by omega, rfl, rfl, e⟩
    · exact ⟨2, 3, c, d, by omega, rfl, rfl, e⟩
/-- two marks of one room make a told run -/
theorem Mks.run (h : Mks ws N B A ns i ms) (hl : ns.length ≤ 100) (let_ : ∀ j, j < ns.length → at4 ws (ns.getD j 0) 1 = seq B A j) {j k : Nat} {u v : List Int} (hjk : j < k) (hu : ms[j]? = some u) (hv : ms[k]? = some v) (e : u.getD 0 0 = v.getD 0 0) :
    ∃ (x : Int) (p q : Nat), u = [x, (p : Int)] ∧ v = [x, (q : Int)] ∧ p < q ∧ q ≤ ns.length ∧ Told ws (ns.take p) ((ns.drop p).take (q - p)) ∧ Along ws B A (ns.take p) ((ns.drop p).take (q - p)) := by
  obtain ⟨x, p, rfl, x0, x1, p1, p2, p3, p4⟩ := h.each u (List.mem_of_getElem? hu)
  obtain ⟨y, q, rfl, y0, y1, q1, q2, q3, q4⟩ := h.each v (List.mem_of_getElem? hv)
  have xy : x = y := e
  subst xy
  have pq : p < q := by
    obtain ⟨hj, ej⟩ := List.getElem?_eq_some_iff.mp hu
    obtain ⟨hk, ek⟩ := List.getElem?_eq_some_iff.mp hv
    have := List.pairwise_iff_getElem.mp h.up j k hj hk hjk
    rw [ej, ek] at this
    have t : (p : Int) < (q : Int) := this
    omega
  have tk : ns.take p ++ (ns.drop p).take (q - p) = ns.take q := by
    have : q = p + (q - p) := by omega
    conv => rhs; rw [this, List.take_add]
  have l1 : (ns.take p).length = p := by rw [List.length_take]; omega
  have l2 : ((ns.drop p).take (q - p)).length = q - p := by rw [List.length_take, List.length_drop]; omega
  refine ⟨x, p, q, rfl, rfl, pq, q3, ⟨by omega, by omega, by omega, x, p4, ?_⟩, by omega, by rw [l1]; exact p2, ?_, fun t ht => ?_⟩
  · rw [← tk, led_app, p4] at q4
    exact q4
  · rw [l2]
    have : q - p = (q - B.length) - (p - B.length) := by omega
    rw [this]
    have d1 := Nat.dvd_of_mod_eq_zero q2
    have d2 := Nat.dvd_of_mod_eq_zero p2
    exact Nat.mod_eq_zero_of_dvd (Nat.dvd_sub d1 d2)
  · rw [tk] at ht ⊢
    have tl : t < q := by rw [List.length_take] at ht; omega
    have : (ns.take q).getD t 0 = ns.getD t 0 := by
      rw [List.getD_eq_getElem?_getD, List.getElem?_take_of_lt tl, ← List.getD_eq_getElem?_getD]
    rw [this]
    exact let_ t (by omega)
end
/-! ### the pairs of marks -/
def pairF (u : List Int) : Dat → Option Dat
  | .tup (.int y :: r) => if u.getD 0 0 = y then some (.tup [tw u, .tup (.int y :: r)]) else none
  | _ => none
def prw (p : List Int × List Int) : Dat := rw_ p.1 p.2
theorem pairF_map (u : List Int) : ∀ ms : List (List Int), (∀ w ∈ ms, ∃ x q, w = [x, q]) → (ms.map tw).filterMap (pairF u) = ((ms.filter fun w => decide (u.getD 0 0 = w.getD 0 0)).map fun w => (u, w)).map prw
  | [], _ => rfl
  | w :: ms, h => by
    obtain ⟨x, q, rfl⟩ := h w (by simp)
    have ih := pairF_map u ms fun w hw => h w (by simp [hw])
    rw [List.map_cons, List.filterMap_cons]
    have e : pairF u (tw [x, q]) = if u.getD 0 0 = x then some (.tup [tw u, tw [x, q]]) else none := rfl
    rw [e]
    have gx : ([x, q] : List Int).getD 0 0 = x := rfl
    by_cases c : u.getD 0 0 = x
    · rw [if_pos c, List.filter_cons, gx, if_pos (decide_eq_true c)]
      show _ :: _ = _ :: _
      rw [ih]
      rfl
    · rw [if_neg c, List.filter_cons, gx, if_neg (by simpa using c)]
      exact ih
/-- pairs found among ms, all of those with the first one below n -/
structure Prs (ms : List (List Int)) (n : Nat) (PS : List (List Int × List Int)) : Prop where
  ok : ∀ p ∈ PS, ∃ j k : Nat, j < k ∧ ms[j]? = some p.1 ∧ ms[k]? = some p.2 ∧ p.1.getD 0 0 = p.2.getD 0 0
  all : ∀ (j k : Nat) (u v : List Int), j < n → j < k → ms[j]? = some u → ms[k]? = some v → u.getD 0 0 = v.getD 0 0 → PS ≠ []
  few : PS.length ≤ n * ms.length
theorem Prs.zero {ms : List (List Int)} : Prs ms 0 [] := ⟨fun p h => absurd h List.not_mem_nil, fun j k u v h => absurd h (Nat.not_lt_zero _), by simp⟩
theorem Prs.step {ms : List (List Int)} {n : Nat} {PS : List (List Int × List Int)} (h : Prs ms n PS) {u : List Int} (hu : ms[n]? = some u) :
    Prs ms (n + 1) (PS ++ ((ms.drop (n + 1)).filter fun w => decide (u.getD 0 0 = w.getD 0 0)).map fun w => (u, w)) := by
  refine ⟨fun p hp => ?_, fun j k u' v hj hjk h1 h2 e => ?_, ?_⟩
  · rcases List.mem_append.mp hp with z | z
    · exact h.ok p z
    · obtain ⟨w, hw, rfl⟩ := List.mem_map.mp z
      obtain ⟨hw1, hw2⟩ := List.mem_filter.mp hw
      obtain ⟨t, ht⟩ := List.mem_iff_getElem?.mp hw1
      rw [List.getElem?_drop] at ht
      exact ⟨n, n + 1 + t, by omega, hu, ht, of_decide_eq_true hw2⟩
  · by_cases c : j < n
    · intro z
      exact h.all j k u' v c hjk h1 h2 e (List.append_eq_nil_iff.mp z).1
    · have : j = n := by omega
      subst this
      rw [hu] at h1
      cases h1
      intro z
      have z2 := (List.append_eq_nil_iff.mp z).2
      have hv : v ∈ (ms.drop (j + 1)).filter fun w => decide (u.getD 0 0 = w.getD 0 0) := by
        refine List.mem_filter.mpr ⟨?_, decide_eq_true e⟩
        refine List.mem_iff_getElem?.mpr ⟨k - (j + 1), ?_⟩
        rw [List.getElem?_drop]
        have : j + 1 + (k - (j + 1)) = k := by omega
        rw [this]
        exact h2
      rw [List.map_eq_nil_iff] at z2
      rw [z2] at hv
      cases hv
  · have := h.few
    rw [List.length_append, List.length_map, Nat.add_mul, Nat.one_mul]
    have l : ((ms.drop (n + 1)).filter fun w => decide (u.getD 0 0 = w.getD 0 0)).length ≤ ms.length := Nat.le_trans (List.length_filter_le _ _) (by rw [List.length_drop]; omega)
    omega
/-- the ways by a letter from a room -/
def sel (ws : List (List Int)) (r c : Int) : List Nat := (List.range ws.length).filter fun n => decide (at4 ws n 0 = r) && decide (at4 ws n 1 = c)
theorem sel_fm (ws : List (List Int)) (r c : Int) : ((List.range (ws.map tw).length).filterMap fun n => ((ws.map tw)[n]?).bind fun _ => if at4 ws n 0 = r ∧ at4 ws n 1 = c then some (Dat.int (n : Nat)) else none) = ni (sel ws r c) := by
  rw [List.length_map]
  have key : ∀ l : List Nat, (∀ n ∈ l, n < ws.length) → (l.filterMap fun n => ((ws.map tw)[n]?).bind fun _ => if at4 ws n 0 = r ∧ at4 ws n 1 = c then some (Dat.int (n : Nat)) else none) = ni (l.filter fun n => decide (at4 ws n 0 = r) && decide (at4 ws n 1 = c)) := by
    intro l
    induction l with
    | nil => intro _; rfl
    | cons n l ih =>
      intro h
      have hn := h n (by simp)
      have e : (ws.map tw)[n]? = some (tw ws[n]) := by rw [List.getElem?_map, List.getElem?_eq_getElem hn]; rfl
      rw [List.filterMap_cons, e, Option.bind_some, List.filter_cons]
      have ih' := ih fun m hm => h m (by simp [hm])
      by_cases c1 : at4 ws n 0 = r ∧ at4 ws n 1 = c
      · rw [if_pos c1, if_pos (by simp [c1])]
        show _ :: _ = _ :: _
        rw [ih']
        rfl
      · rw [if_neg c1, if_neg (by simpa using c1)]
        exact ih'
  exact key _ fun n hn => List.mem_range.mp hn
theorem sel_mem {ws : List (List Int)} {r c : Int} {n : Nat} : n ∈ sel ws r c ↔ n < ws.length ∧ at4 ws n 0 = r ∧ at4 ws n 1 = c := by
  unfold sel
  rw [List.mem_filter, List.mem_range, Bool.and_eq_true, decide_eq_true_iff, decide_eq_true_iff]
end RM
namespace L56
open PySem PySem.Spec PyProof.Rows L2 DL StX KM RM
def top (i : Nat) : Stmt := PySem.Challenge.pw_tworivals_k56_whole_runs_of_tables.main.body.getD i (.Pass ⟨0, 0, 0, 0⟩)
def inCls (st : Stmt) (j : Nat) : Stmt := match st with | .ClassDef _ _ _ body _ _ _ _ _ _ _ => body.getD j (.Pass ⟨0, 0, 0, 0⟩) | _ => .Pass ⟨0, 0, 0, 0⟩
abbrev s_is_integer : Stmt := top 2
abbrev N_is_integer : List Str := ["value"]
theorem sc_is_integer : FnScope N_is_integer ["value"] (defScope s_is_integer) := ⟨rfl, rfl, rfl, by decide +kernel, rfl, by decide +kernel, by decide +kernel⟩
abbrev s_is_count : Stmt := top 3
abbrev N_is_count : List Str := ["value"]
theorem sc_is_count : FnScope N_is_count ["value"] (defScope s_is_count) := ⟨rfl, rfl, rfl, by decide +kernel, rfl, by decide +kernel, by decide +kernel⟩
abbrev s_is_below : Stmt := top 4
abbrev N_is_below : List Str := ["value", "bound"]
theorem sc_is_below : FnScope N_is_below ["value", "bound"] (defScope s_is_below) := ⟨rfl, rfl, rfl, by decide +kernel, rfl, by decide +kernel, by decide +kernel⟩
abbrev s_is_list : Stmt := top 5
abbrev N_is_list : List Str := ["value"]
theorem sc_is_list : FnScope N_is_list ["value"] (defScope s_is_list) := ⟨rfl, rfl, rfl, by decide +kernel, rfl, by decide +kernel, by decide +kernel⟩
abbrev s_is_pair : Stmt := top 6
abbrev N_is_pair : List Str := ["value"]
theorem sc_is_pair : FnScope N_is_pair ["value"] (defScope s_is_pair) := ⟨rfl, rfl, rfl, by decide +kernel, rfl, by decide +kernel, by decide +kernel⟩
abbrev s_is_word : Stmt := top 22
abbrev N_is_word : List Str := ["letters", "value", "letter"]
theorem sc_is_word : FnScope N_is_word ["letters", "value"] (defScope s_is_word) := ⟨rfl, rfl, rfl, by decide +kernel, rfl, by decide +kernel, by decide +kernel⟩
abbrev s_is_row_of : Stmt := top 23
abbrev N_is_row_of : List Str := ["letters", "value"]
theorem sc_is_row_of : FnScope N_is_row_of ["letters", "value"] (defScope s_is_row_of) := ⟨rfl, rfl, rfl, by decide +kernel, rfl, by decide +kernel, by decide +kernel⟩
abbrev s_check_letters : Stmt := top 24
abbrev N_check_letters : List Str := ["letters"]
theorem sc_check_letters : FnScope N_check_letters ["letters"] (defScope s_check_letters) := ⟨rfl, rfl, rfl, by decide +kernel, rfl, by decide +kernel, by decide +kernel⟩
abbrev s_check_rooms : Stmt := top 25
abbrev N_check_rooms : List Str := ["rooms"]
theorem sc_check_rooms : FnScope N_check_rooms ["rooms"] (defScope s_check_rooms) := ⟨rfl, rfl, rfl, by decide +kernel, rfl, by decide +kernel, by decide +kernel⟩
abbrev s_check_row : Stmt := top 26
abbrev N_check_row : List Str := ["letters", "row"]
theorem sc_check_row : FnScope N_check_row ["letters", "row"] (defScope s_check_row) := ⟨rfl, rfl, rfl, by decide +kernel, rfl, by decide +kernel, by decide +kernel⟩
abbrev s__is_way : Stmt := top 29
abbrev N__is_way : List Str := ["letters", "rooms", "value", "room", "letter", "to", "slip"]
theorem sc__is_way : FnScope N__is_way ["letters", "rooms", "value"] (defScope s__is_way) := ⟨rfl, rfl, rfl, by decide +kernel, rfl, by decide +kernel, by decide +kernel⟩
abbrev s_are_ways : Stmt := top 30
abbrev N_are_ways : List Str := ["letters", "rooms", "value", "way"]
theorem sc_are_ways : FnScope N_are_ways ["letters", "rooms", "value"] (defScope s_are_ways) := ⟨rfl, rfl, rfl, by decide +kernel, rfl, by decide +kernel, by decide +kernel⟩
abbrev s_check_reader : Stmt := top 32
abbrev N_check_reader : List Str := ["reader"]
theorem sc_check_reader : FnScope N_check_reader ["reader"] (defScope s_check_reader) := ⟨rfl, rfl, rfl, by decide +kernel, rfl, by decide +kernel, by decide +kernel⟩
abbrev s_is_run : Stmt := top 36
abbrev N_is_run : List Str := ["reader", "row", "value", "begin", "again", "head", "loop", "longer", "taken", "rounds", "number"]
theorem sc_is_run : FnScope N_is_run ["reader", "row", "value"] (defScope s_is_run) := ⟨rfl, rfl, rfl, by decide +kernel, rfl, by decide +kernel, by decide +kernel⟩
abbrev s_is_told_run : Stmt := top 37
abbrev N_is_told_run : List Str := ["reader", "value", "head", "loop", "home", "number"]
theorem sc_is_told_run : FnScope N_is_told_run ["reader", "value"] (defScope s_is_told_run) := ⟨rfl, rfl, rfl, by decide +kernel, rfl, by decide +kernel, by decide +kernel⟩
abbrev s__led : Stmt := top 38
abbrev N__led : List Str := ["reader", "room", "numbers", "number", "start", "_", "to"]
theorem sc__led : FnScope N__led ["reader", "room", "numbers"] (defScope s__led) := ⟨rfl, rfl, rfl, by decide +kernel, rfl, by decide +kernel, by decide +kernel⟩
abbrev s_is_table : Stmt := top 41
abbrev N_is_table : List Str := ["reader", "value", "rooms"]
theorem sc_is_table : FnScope N_is_table ["reader", "value"] (defScope s_is_table) := ⟨rfl, rfl, rfl, by decide +kernel, rfl, by decide +kernel, by decide +kernel⟩
abbrev s_run_by : Stmt := top 42
abbrev N_run_by : List Str := ["reader", "table", "row", "head", "loop"]
theorem sc_run_by : FnScope N_run_by ["reader", "table", "row"] (defScope s_run_by) := ⟨rfl, rfl, rfl, by decide +kernel, rfl, by decide +kernel, by decide +kernel⟩
abbrev s_keeps : Stmt := top 43
abbrev N_keeps : List Str := ["reader", "table", "row", "_", "loop", "number"]
theorem sc_keeps : FnScope N_keeps ["reader", "table", "row"] (defScope s_keeps) := ⟨rfl, rfl, rfl, by decide +kernel, rfl, by decide +kernel, by decide +kernel⟩
abbrev s_check_table : Stmt := top 44
abbrev N_check_table : List Str := ["reader", "table"]
theorem sc_check_table : FnScope N_check_table ["reader", "table"] (defScope s_check_table) := ⟨rfl, rfl, rfl, by decide +kernel, rfl, by decide +kernel, by decide +kernel⟩
abbrev s__is_memory : Stmt := top 45
abbrev N__is_memory : List Str := ["reader", "memories", "value", "room", "letters"]
theorem sc__is_memory : FnScope N__is_memory ["reader", "memories", "value"] (defScope s__is_memory) := ⟨rfl, rfl, rfl, by decide +kernel, rfl, by decide +kernel, by decide +kernel⟩
abbrev s__is_room : Stmt := top 46
abbrev N__is_room : List Str := ["reader", "memories", "room", "value", "letter", "item"]
theorem sc__is_room : FnScope N__is_room ["reader", "memories", "room", "value"] (defScope s__is_room) := ⟨rfl, rfl, rfl, by decide +kernel, rfl, by decide +kernel, by decide +kernel⟩
abbrev s__run : Stmt := top 47
abbrev N__run : List Str := ["reader", "table", "row", "begin", "again", "ways", "pair", "came", "more"]
theorem sc__run : FnScope N__run ["reader", "table", "row"] (defScope s__run) := ⟨rfl, rfl, rfl, by decide +kernel, rfl, by decide +kernel, by decide +kernel⟩
abbrev s__gone : Stmt := top 48
abbrev N__gone : List Str := ["reader", "table", "pair", "word", "memory", "room", "ways", "letter", "way"]
theorem sc__gone : FnScope N__gone ["reader", "table", "pair", "word"] (defScope s__gone) := ⟨rfl, rfl, rfl, by decide +kernel, rfl, by decide +kernel, by decide +kernel⟩
abbrev s__law_pot : Stmt := top 50
abbrev N__law_pot : List Str := ["_law_script", "_law_k", "_law_cell", "_law_mixed"]
theorem sc__law_pot : FnScope N__law_pot ["_law_script", "_law_k"] (defScope s__law_pot) := ⟨rfl, rfl, rfl, by decide +kernel, rfl, by decide +kernel, by decide +kernel⟩
abbrev s__law_draw : Stmt := top 51
abbrev N__law_draw : List Str := ["_law_pot_here", "_law_size", "_law_digit"]
theorem sc__law_draw : FnScope N__law_draw ["_law_pot_here", "_law_size"] (defScope s__law_draw) := ⟨rfl, rfl, rfl, by decide +kernel, rfl, by decide +kernel, by decide +kernel⟩
abbrev s__law_pick : Stmt := top 52
abbrev N__law_pick : List Str := ["_law_pot_here", "_law_some"]
theorem sc__law_pick : FnScope N__law_pick ["_law_pot_here", "_law_some"] (defScope s__law_pick) := ⟨rfl, rfl, rfl, by decide +kernel, rfl, by decide +kernel, by decide +kernel⟩
abbrev s__law_world : Stmt := top 53
abbrev N__law_world : List Str := ["_law_pot_here", "_law_way", "_law_ways", "_law_letters_here", "_law_rooms", "_law_left", "_law_room", "_law_letter", "_law_one", "_law_other"]
theorem sc__law_world : FnScope N__law_world ["_law_pot_here"] (defScope s__law_world) := ⟨rfl, rfl, rfl, by decide +kernel, rfl, by decide +kernel, by decide +kernel⟩
abbrev s__law_numbers : Stmt := top 54
abbrev N__law_numbers : List Str := ["_law_world_here", "_law_room", "_law_letter", "_law_at", "_law_way"]
theorem sc__law_numbers : FnScope N__law_numbers ["_law_world_here", "_law_room", "_law_letter"] (defScope s__law_numbers) := ⟨rfl, rfl, rfl, by decide +kernel, rfl, by decide +kernel, by decide +kernel⟩
abbrev s__law_letters : Stmt := top 55
abbrev N__law_letters : List Str := ["_law_pot_here", "_law_letters_here", "_law_most", "_law_found", "_law_turn"]
theorem sc__law_letters : FnScope N__law_letters ["_law_pot_here", "_law_letters_here", "_law_most"] (defScope s__law_letters) := ⟨rfl, rfl, rfl, by decide +kernel, rfl, by decide +kernel, by decide +kernel⟩
abbrev s__law_row : Stmt := top 56
abbrev N__law_row : List Str := ["_law_pot_here", "_law_letters_here", "_law_most", "_law_begin"]
theorem sc__law_row : FnScope N__law_row ["_law_pot_here", "_law_letters_here", "_law_most"] (defScope s__law_row) := ⟨rfl, rfl, rfl, by decide +kernel, rfl, by decide +kernel, by decide +kernel⟩
abbrev s__law_table : Stmt := top 57
abbrev N__law_table : List Str := ["_law_pot_here", "_law_world_here", "_law_most", "_law_many", "_law_found", "_law_memory", "_law_rooms", "_law_room", "_law_row_here", "_law_letter", "_law_way"]
theorem sc__law_table : FnScope N__law_table ["_law_pot_here", "_law_world_here", "_law_most"] (defScope s__law_table) := ⟨rfl, rfl, rfl, by decide +kernel, rfl, by decide +kernel, by decide +kernel⟩
abbrev s__law_along : Stmt := top 58
abbrev N__law_along : List Str := ["_law_world_here", "_law_table_here", "_law_pair", "_law_letters_here", "_law_memory", "_law_room", "_law_found", "_law_letter", "_law_number"]
theorem sc__law_along : FnScope N__law_along ["_law_world_here", "_law_table_here", "_law_pair", "_law_letters_here"] (defScope s__law_along) := ⟨rfl, rfl, rfl, by decide +kernel, rfl, by decide +kernel, by decide +kernel⟩
abbrev s__law_run : Stmt := top 59
abbrev N__law_run : List Str := ["_law_world_here", "_law_table_here", "_law_row_here", "_law_pair", "_law_ways", "_law_pairs", "_law_begins", "_law_more", "_law_cut", "_law_one", "_law_begin"]
theorem sc__law_run : FnScope N__law_run ["_law_world_here", "_law_table_here", "_law_row_here"] (defScope s__law_run) := ⟨rfl, rfl, rfl, by decide +kernel, rfl, by decide +kernel, by decide +kernel⟩
abbrev s__law_keeps : Stmt := top 60
abbrev N__law_keeps : List Str := ["_law_world_here", "_law_table_here", "_law_row_here", "_law_number"]
theorem sc__law_keeps : FnScope N__law_keeps ["_law_world_here", "_law_table_here", "_law_row_here"] (defScope s__law_keeps) := ⟨rfl, rfl, rfl, by decide +kernel, rfl, by decide +kernel, by decide +kernel⟩
abbrev s__law_is_count : Stmt := top 61
abbrev N__law_is_count : List Str := ["_law_value", "_law_most"]
theorem sc__law_is_count : FnScope N__law_is_count ["_law_value", "_law_most"] (defScope s__law_is_count) := ⟨rfl, rfl, rfl, by decide +kernel, rfl, by decide +kernel, by decide +kernel⟩
abbrev s__law_is_table : Stmt := top 62
abbrev N__law_is_table : List Str := ["_law_world_here", "_law_value", "_law_memory", "_law_room", "_law_row_here", "_law_letter", "_law_one"]
theorem sc__law_is_table : FnScope N__law_is_table ["_law_world_here", "_law_value"] (defScope s__law_is_table) := ⟨rfl, rfl, rfl, by decide +kernel, rfl, by decide +kernel, by decide +kernel⟩
abbrev s__law_frozen : Stmt := top 63
abbrev N__law_frozen : List Str := ["_law_table_here", "_law_rooms", "_law_row_here"]
theorem sc__law_frozen : FnScope N__law_frozen ["_law_table_here"] (defScope s__law_frozen) := ⟨rfl, rfl, rfl, by decide +kernel, rfl, by decide +kernel, by decide +kernel⟩
abbrev s__law_bent : Stmt := top 64
abbrev N__law_bent : List Str := ["_law_pot_here", "_law_world_here", "_law_table_here", "_law_memory", "_law_room", "_law_letter", "_law_found", "_law_way", "_law_number", "_law_late", "_law_rooms", "_law_row_here"]
theorem sc__law_bent : FnScope N__law_bent ["_law_pot_here", "_law_world_here", "_law_table_here"] (defScope s__law_bent) := ⟨rfl, rfl, rfl, by decide +kernel, rfl, by decide +kernel, by decide +kernel⟩
abbrev s__law_right : Stmt := top 65
abbrev N__law_right : List Str := ["_law_pot_here", "_law_world_here", "_law_reader", "_law_table_here", "_law_values", "_law_turn", "_law_value", "_law_looked", "_law_heard", "_law_row_here", "_law_due"]
theorem sc__law_right : FnScope N__law_right ["_law_pot_here"] (defScope s__law_right) := ⟨rfl, rfl, rfl, by decide +kernel, rfl, by decide +kernel, by decide +kernel⟩
abbrev s_law : Stmt := top 66
abbrev N_law : List Str := ["_law_script"]
theorem sc_law : FnScope N_law ["_law_script"] (defScope s_law) := ⟨rfl, rfl, rfl, by decide +kernel, rfl, by decide +kernel, by decide +kernel⟩
abbrev s_Reader___init__ : Stmt := inCls (top 31) 0
abbrev N_Reader___init__ : List Str := ["self", "letters", "rooms", "ways", "number", "way", "room", "letter"]
theorem sc_Reader___init__ : FnScope N_Reader___init__ ["self", "letters", "rooms", "ways"] (defScope s_Reader___init__) := ⟨rfl, rfl, rfl, by decide +kernel, rfl, by decide +kernel, by decide +kernel⟩
abbrev s_Reader_letters : Stmt := inCls (top 31) 2
abbrev N_Reader_letters : List Str := ["self"]
theorem sc_Reader_letters : FnScope N_Reader_letters ["self"] (defScope s_Reader_letters) := ⟨rfl, rfl, rfl, by decide +kernel, rfl, by decide +kernel, by decide +kernel⟩
abbrev s_Reader_rooms : Stmt := inCls (top 31) 3
abbrev N_Reader_rooms : List Str := ["self"]
theorem sc_Reader_rooms : FnScope N_Reader_rooms ["self"] (defScope s_Reader_rooms) := ⟨rfl, rfl, rfl, by decide +kernel, rfl, by decide +kernel, by decide +kernel⟩
abbrev s_Reader_many : Stmt := inCls (top 31) 4
abbrev N_Reader_many : List Str := ["self"]
theorem sc_Reader_many : FnScope N_Reader_many ["self"] (defScope s_Reader_many) := ⟨rfl, rfl, rfl, by decide +kernel, rfl, by decide +kernel, by decide +kernel⟩
abbrev s_Reader_way : Stmt := inCls (top 31) 6
abbrev N_Reader_way : List Str := ["self", "number"]
theorem sc_Reader_way : FnScope N_Reader_way ["self", "number"] (defScope s_Reader_way) := ⟨rfl, rfl, rfl, by decide +kernel, rfl, by decide +kernel, by decide +kernel⟩
structure All (K : PySem.W.Frag) (mg : Str → Option Value) where
  C_Reader : Addr
  g_Reader : mg "Reader" = some (.ref C_Reader)
  oc_Reader : OC K C_Reader
  d_is_integer : Df K mg "is_integer" s_is_integer ["value"]
  d_is_count : Df K mg "is_count" s_is_count ["value"]
  d_is_below : Df K mg "is_below" s_is_below ["value", "bound"]
  d_is_list : Df K mg "is_list" s_is_list ["value"]
  d_is_pair : Df K mg "is_pair" s_is_pair ["value"]
  d_is_word : Df K mg "is_word" s_is_word ["letters", "value"]
  d_is_row_of : Df K mg "is_row_of" s_is_row_of ["letters", "value"]
  d_check_letters : Df K mg "check_letters" s_check_letters ["letters"]
  d_check_rooms : Df K mg "check_rooms" s_check_rooms ["rooms"]
  d_check_row : Df K mg "check_row" s_check_row ["letters", "row"]
  d__is_way : Df K mg "_is_way" s__is_way ["letters", "rooms", "value"]
  d_are_ways : Df K mg "are_ways" s_are_ways ["letters", "rooms", "value"]
  d_check_reader : Df K mg "check_reader" s_check_reader ["reader"]
  d_is_run : Df K mg "is_run" s_is_run ["reader", "row", "value"]
  d_is_told_run : Df K mg "is_told_run" s_is_told_run ["reader", "value"]
  d__led : Df K mg "_led" s__led ["reader", "room", "numbers"]
  d_is_table : Df K mg "is_table" s_is_table ["reader", "value"]
  d_run_by : Df K mg "run_by" s_run_by ["reader", "table", "row"]
  d_keeps : Df K mg "keeps" s_keeps ["reader", "table", "row"]
  d_check_table : Df K mg "check_table" s_check_table ["reader", "table"]
  d__is_memory : Df K mg "_is_memory" s__is_memory ["reader", "memories", "value"]
  d__is_room : Df K mg "_is_room" s__is_room ["reader", "memories", "room", "value"]
  d__run : Df K mg "_run" s__run ["reader", "table", "row"]
  d__gone : Df K mg "_gone" s__gone ["reader", "table", "pair", "word"]
  d__law_pot : Df K mg "_law_pot" s__law_pot ["_law_script", "_law_k"]
  d__law_draw : Df K mg "_law_draw" s__law_draw ["_law_pot_here", "_law_size"]
  d__law_pick : Df K mg "_law_pick" s__law_pick ["_law_pot_here", "_law_some"]
  d__law_world : Df K mg "_law_world" s__law_world ["_law_pot_here"]
  d__law_numbers : Df K mg "_law_numbers" s__law_numbers ["_law_world_here", "_law_room", "_law_letter"]
  d__law_letters : Df K mg "_law_letters" s__law_letters ["_law_pot_here", "_law_letters_here", "_law_most"]
  d__law_row : Df K mg "_law_row" s__law_row ["_law_pot_here", "_law_letters_here", "_law_most"]
  d__law_table : Df K mg "_law_table" s__law_table ["_law_pot_here", "_law_world_here", "_law_most"]
  d__law_along : Df K mg "_law_along" s__law_along ["_law_world_here", "_law_table_here", "_law_pair", "_law_letters_here"]
  d__law_run : Df K mg "_law_run" s__law_run ["_law_world_here", "_law_table_here", "_law_row_here"]
  d__law_keeps : Df K mg "_law_keeps" s__law_keeps ["_law_world_here", "_law_table_here", "_law_row_here"]
  d__law_is_count : Df K mg "_law_is_count" s__law_is_count ["_law_value", "_law_most"]
  d__law_is_table : Df K mg "_law_is_table" s__law_is_table ["_law_world_here", "_law_value"]
  d__law_frozen : Df K mg "_law_frozen" s__law_frozen ["_law_table_here"]
  d__law_bent : Df K mg "_law_bent" s__law_bent ["_law_pot_here", "_law_world_here", "_law_table_here"]
  d__law_right : Df K mg "_law_right" s__law_right ["_law_pot_here"]
  d_law : Df K mg "law" s_law ["_law_script"]
  d_Reader___init__ : Dm K "__init__" "Reader.__init__" s_Reader___init__ ["self", "letters", "rooms", "ways"]
  mk_Reader : Mk K C_Reader d_Reader___init__.f
  d_Reader_letters : Dm K "letters" "Reader.letters" s_Reader_letters ["self"]
  q_Reader_letters : Addr
  p_Reader_letters : PropOf K C_Reader "letters" q_Reader_letters d_Reader_letters.f
  d_Reader_rooms : Dm K "rooms" "Reader.rooms" s_Reader_rooms ["self"]
  q_Reader_rooms : Addr
  p_Reader_rooms : PropOf K C_Reader "rooms" q_Reader_rooms d_Reader_rooms.f
  d_Reader_many : Dm K "many" "Reader.many" s_Reader_many ["self"]
  q_Reader_many : Addr
  p_Reader_many : PropOf K C_Reader "many" q_Reader_many d_Reader_many.f
  d_Reader_way : Dm K "way" "Reader.way" s_Reader_way ["self", "number"]
  m_Reader_way : Meth K C_Reader "way" d_Reader_way.f
  n_Reader_letters : NoAttr K C_Reader "_letters"
  n_Reader_rooms : NoAttr K C_Reader "_rooms"
  n_Reader_ways : NoAttr K C_Reader "_ways"
  n_Reader_numbers : NoAttr K C_Reader "_numbers"
  c_LONGEST : ∃ u, mg "LONGEST" = some u ∧ RelV (.int 40) u
  c_MOST_HEAD : ∃ u, mg "MOST_HEAD" = some u ∧ RelV (.int 520) u
  c_MOST_LETTERS : ∃ u, mg "MOST_LETTERS" = some u ∧ RelV (.int 4) u
  c_MOST_LOOP : ∃ u, mg "MOST_LOOP" = some u ∧ RelV (.int 480) u
  c_MOST_MEMORIES : ∃ u, mg "MOST_MEMORIES" = some u ∧ RelV (.int 60) u
  c_MOST_ROOMS : ∃ u, mg "MOST_ROOMS" = some u ∧ RelV (.int 12) u
  c_MOST_WAYS : ∃ u, mg "MOST_WAYS" = some u ∧ RelV (.int 96) u
  z_abs : mg "abs" = none
  z_all : mg "all" = none
  z_bool : mg "bool" = none
  z_divmod : mg "divmod" = none
  z_enumerate : mg "enumerate" = none
  z_int : mg "int" = none
  z_isinstance : mg "isinstance" = none
  z_len : mg "len" = none
  z_list : mg "list" = none
  z_max : mg "max" = none
  z_range : mg "range" = none
  z_repr : mg "repr" = none
  z_set : mg "set" = none
  z_sorted : mg "sorted" = none
  z_tuple : mg "tuple" = none
  z_zip : mg "zip" = none
  kc_Reader : PySem.W.kitOne K (.ref C_Reader) (.ref C_Reader) = some true
theorem kb_is_table_0_value_reader {K : PySem.W.Frag} {mg : Str → Option Value} (D : Df K mg "is_table" s_is_table ["reader", "value"]) : KBn K D.fd ["reader", "value"] 0 ["value", "reader"] k02s k02s := by
  obtain ⟨oc, od, kV, doc, pm, an, cdv, ct, osl, e, lk, hcd⟩ := D.F.ex
  rw [e]
  exact ⟨fun s us ws _ hu hw => match us, ws, hu, hw with | [], [w0, w1], _, _ => .of_eq rfl, fun r1 r2 => pr02s r1 r2⟩
theorem kb_run_by_0_row_table_reader {K : PySem.W.Frag} {mg : Str → Option Value} (D : Df K mg "run_by" s_run_by ["reader", "table", "row"]) : KBn K D.fd ["reader", "table", "row"] 0 ["row", "table", "reader"] k3t k3t := by
  obtain ⟨oc, od, kV, doc, pm, an, cdv, ct, osl, e, lk, hcd⟩ := D.F.ex
  rw [e]
  exact ⟨fun s us ws _ hu hw => match us, ws, hu, hw with | [], [w0, w1, w2], _, _ => .of_eq rfl, fun r1 r2 => pr3t r1 r2⟩
theorem kb_keeps_0_row_table_reader {K : PySem.W.Frag} {mg : Str → Option Value} (D : Df K mg "keeps" s_keeps ["reader", "table", "row"]) : KBn K D.fd ["reader", "table", "row"] 0 ["row", "table", "reader"] k3t k3t := by
  obtain ⟨oc, od, kV, doc, pm, an, cdv, ct, osl, e, lk, hcd⟩ := D.F.ex
  rw [e]
  exact ⟨fun s us ws _ hu hw => match us, ws, hu, hw with | [], [w0, w1, w2], _, _ => .of_eq rfl, fun r1 r2 => pr3t r1 r2⟩
end L56
namespace L56
open PySem PySem.Spec PyProof.Rows L2 DL StX KM RM
section
variable {P : Program} {w : World} {K : PySem.W.Frag} {mg : Str → Option Value} {base : Heap}
/- one rule a construct; what asks for a fact is left -/
local macro_rules | `(tactic| walk_at "dl") => `(tactic| repeat (first
  | ((with_reducible refine' ew_var ?hv ?_); (case hv => exact rfl))
  | with_reducible refine ew_int ?_
  | with_reducible refine ew_bl ?_
  | with_reducible refine ew_non ?_
  | with_reducible refine ew_str ?_
  | with_reducible refine aw_nil ?_
  | with_reducible refine aw_cons ?_
  | with_reducible refine ew_isi ?_
  | with_reducible refine ew_isi2 ?_
  | with_reducible refine ew_isiC ?_
  | with_reducible refine ew_op ?_
  | with_reducible refine ew_un ?_
  | with_reducible refine uw_neg ?_
  | with_reducible refine ew_cb ?_
  | with_reducible refine ew_call ?_
  | with_reducible refine ew_k01 ?_
  | with_reducible refine ew_k02 ?_
  | with_reducible refine ew_k02s ?_
  | with_reducible refine ew_k3t ?_
  | with_reducible refine ew_chain ?_
  | with_reducible refine ew_andV ?_
  | with_reducible refine ew_orV ?_
  | with_reducible refine ew_notV ?_
  | with_reducible refine ew_if ?_
  | with_reducible refine ew_slT ?_
  | with_reducible refine ew_slL ?_
  | with_reducible refine ow_none ?_
  | with_reducible refine ow_some ?_
  | with_reducible refine tw_test ?_
  | with_reducible refine tw_B ?_
  | with_reducible refine tw_and ?_
  | with_reducible refine tw_or ?_
  | with_reducible refine tw_not ?_
  | with_reducible refine tw_tru ?_
  | with_reducible refine s_seq ?_
  | with_reducible refine s_set ?_
  | with_reducible refine s_asg ?_
  | with_reducible refine s_ret ?_
  | with_reducible refine s_retN ?_
  | with_reducible refine s_if ?_
  | with_reducible refine s_drop ?_
  | with_reducible refine s_par ?_
  | with_reducible refine s_par3 ?_
  | with_reducible refine s_next ?_
  | with_reducible refine gw_tup rfl ?_
  | with_reducible refine gs_cons ?_
  | with_reducible refine gs_nil ?_
  | with_reducible refine gw_name ?_
  | with_reducible refine rw_add ?_
  | with_reducible refine rw_sub ?_
  | with_reducible refine rw_lt ?_
  | with_reducible refine rw_le ?_
  | with_reducible refine rw_gt ?_
  | with_reducible refine rw_ge ?_
  | with_reducible refine rw_eqI ?_
  | with_reducible refine rw_neI ?_
  | with_reducible refine rw_eqB ?_
  | with_reducible refine rw_neS ?_
  | with_reducible refine rw_isN ?_
  | with_reducible refine rw_notN ?_
  | with_reducible refine rw_isB ?_
  | with_reducible refine rw_notB ?_
  | ((with_reducible refine' rw_ixT ?hi ?_); (case hi => exact rfl))
  | ((with_reducible refine' rw_ixL ?hi ?_); (case hi => exact rfl))
  | with_reducible refine cw_lenT ?_
  | with_reducible refine cw_lenL ?_
  | with_reducible refine cw_tupL ?_
  | with_reducible refine cw_max2 ?_
  | with_reducible refine cw_abs ?_
  | with_reducible refine cw_int1 ?_
  | with_reducible refine leaf_bl ?_
  | with_reducible refine leaf_int ?_
  | with_reducible refine leaf_tup ?_
  | with_reducible refine leaf_lst ?_
  | with_reducible refine leaf_two ?_
  | with_reducible refine leaf_three ?_
  | with_reducible refine ew_tup ?_
  | with_reducible refine sz0 ?_
  | with_reducible refine sz1 ?_
  | with_reducible refine sz2 ?_
  | with_reducible refine sz3 ?_
  | with_reducible refine sz4 ?_
  | with_reducible refine if_t ?_
  | with_reducible refine if_f ?_
  | with_reducible refine if_nt ?_
  | with_reducible refine if_nf ?_))
/- one rule a construct; what asks for a fact is left -/
local macro_rules | `(tactic| walk_at "de") => `(tactic| repeat (first
  | ((with_reducible refine' ew_var ?hv ?_); (case hv => exact rfl))
  | with_reducible refine ew_int ?_
  | with_reducible refine ew_bl ?_
  | with_reducible refine ew_non ?_
  | with_reducible refine ew_str ?_
  | with_reducible refine aw_nil ?_
  | with_reducible refine aw_cons ?_
  | with_reducible refine ew_isi ?_
  | with_reducible refine ew_isi2 ?_
  | with_reducible refine ew_isiC ?_
  | with_reducible refine ew_op ?_
  | with_reducible refine ew_un ?_
  | with_reducible refine uw_neg ?_
  | with_reducible refine ew_cb ?_
  | with_reducible refine ew_call ?_
  | with_reducible refine ew_k01 ?_
  | with_reducible refine ew_k02 ?_
  | with_reducible refine ew_k02s ?_
  | with_reducible refine ew_k3t ?_
  | with_reducible refine ew_chain ?_
  | with_reducible refine ew_andV ?_
  | with_reducible refine ew_orV ?_
  | with_reducible refine ew_notV ?_
  | with_reducible refine ew_if ?_
  | with_reducible refine ew_slT ?_
  | with_reducible refine ew_slL ?_
  | with_reducible refine ow_none ?_
  | with_reducible refine ow_some ?_
  | with_reducible refine tw_test ?_
  | with_reducible refine tw_B ?_
  | with_reducible refine tw_and ?_
  | with_reducible refine tw_or ?_
  | with_reducible refine tw_not ?_
  | with_reducible refine tw_tru ?_
  | with_reducible refine gw_tup rfl ?_
  | with_reducible refine gs_cons ?_
  | with_reducible refine gs_nil ?_
  | with_reducible refine gw_name ?_
  | with_reducible refine rw_add ?_
  | with_reducible refine rw_sub ?_
  | with_reducible refine rw_lt ?_
  | with_reducible refine rw_le ?_
  | with_reducible refine rw_gt ?_
  | with_reducible refine rw_ge ?_
  | with_reducible refine rw_eqI ?_
  | with_reducible refine rw_neI ?_
  | with_reducible refine rw_eqB ?_
  | with_reducible refine rw_neS ?_
  | with_reducible refine rw_isN ?_
  | with_reducible refine rw_notN ?_
  | with_reducible refine rw_isB ?_
  | with_reducible refine rw_notB ?_
  | ((with_reducible refine' rw_ixT ?hi ?_); (case hi => exact rfl))
  | ((with_reducible refine' rw_ixL ?hi ?_); (case hi => exact rfl))
  | with_reducible refine cw_lenT ?_
  | with_reducible refine cw_lenL ?_
  | with_reducible refine cw_tupL ?_
  | with_reducible refine cw_max2 ?_
  | with_reducible refine cw_abs ?_
  | with_reducible refine cw_int1 ?_
  | with_reducible refine leaf_bl ?_
  | with_reducible refine leaf_int ?_
  | with_reducible refine leaf_tup ?_
  | with_reducible refine leaf_lst ?_
  | with_reducible refine leaf_two ?_
  | with_reducible refine leaf_three ?_
  | with_reducible refine ew_tup ?_
  | with_reducible refine sz0 ?_
  | with_reducible refine sz1 ?_
  | with_reducible refine sz2 ?_
  | with_reducible refine sz3 ?_
  | with_reducible refine sz4 ?_
  | with_reducible refine if_t ?_
  | with_reducible refine if_f ?_
  | with_reducible refine if_nt ?_
  | with_reducible refine if_nf ?_))

/- end of the rules -/
/-! ### kinds of values -/
def isI : Dat → Bool | .int _ => true | _ => false
def isC : Dat → Bool | .int i => decide (0 ≤ i) | _ => false
def isB (b : Int) : Dat → Bool | .int i => decide (0 ≤ i) && decide (i < b) | _ => false
def isL : Dat → Bool | .tup _ => true | .lst _ => true | .cell _ => true | .key _ => true | _ => false
def isP : Dat → Bool | .tup xs => decide ((xs.length : Int) = 2) | _ => false
def f1 (g : Dat → Dat) : FW := fun ds m P => ∃ d, ds = [d] ∧ P (g d) m
def f1n (g : Dat → Dat) : FW := fun ds m P => ∃ d, ds = [d] ∧ noCell d = true ∧ P (g d) m
def f_is_below : FW := fun ds m P => ∃ d b, ds = [d, .int b] ∧ P (.bl (isB b d)) m
theorem ok_is_integer (T : All K mg) : FnOk P w K mg base CX0 1 T.d_is_integer.f T.d_is_integer.fd ["value"] (spD K (f1 fun d => .bl (isI d))) := by
  refine T.d_is_integer.F.ok sc_is_integer (fun vs H Q E h => sp_len (by intro ds m P f; first | (obtain ⟨rfl, _⟩ := f; rfl) | (obtain ⟨_, h⟩ := f; first | (obtain ⟨rfl, _⟩ := h; rfl) | (obtain ⟨_, rfl, _⟩ := h; rfl) | (obtain ⟨_, _, rfl, _⟩ := h; rfl) | (obtain ⟨_, _, _, rfl, _⟩ := h; rfl) | (obtain ⟨_, _, _, _, rfl, _⟩ := h; rfl) | (obtain ⟨_, _, _, _, _, rfl, _⟩ := h; rfl) | (obtain ⟨_, _, _, _, _, _, rfl, _⟩ := h; rfl) | (obtain ⟨_, _, _, _, _, _, _, rfl, _⟩ := h; rfl) | (obtain ⟨_, _, _, _, _, _, _, _, rfl, _⟩ := h; rfl) | (obtain ⟨_, _, _, _, _, _, _, _, _, rfl, _⟩ := h; rfl))) h) (fun cdv A outer s H vs Q E hr h => ?_)
  refine ⟨_, (pss_one (ps_ret (pe_and (pe_callB (show CallR _ (.builtin "isinstance") (rIsi K) from call_isi) (by rfl) T.z_isinstance (by decide +kernel) (pa_cons (pv 0) (pa_cons (pe_bltn (v := .ty "int") (u := .type "int") (by rfl) T.z_int (by decide +kernel) rfl) pa_nil))) (pe_one (pe_not (pe_callB (show CallR _ (.builtin "isinstance") (rIsi K) from call_isi) (by rfl) T.z_isinstance (by decide +kernel) (pa_cons (pv 0) (pa_cons (pe_bltn (v := .ty "bool") (u := .type "bool") (by rfl) T.z_bool (by decide +kernel) rfl) pa_nil)))))))), body_of h fun ds m P f => ?_⟩
  try dsimp only [cxOf, Cx.nox, Cx.wish, Cx.blk]
  obtain ⟨d, rfl, p⟩ := f
  walk_at "dl"
  refine ⟨_, kb_int d, leaf_bl ?_⟩
  cases d with
  | int i =>
    refine if_t ?_
    walk_at "dl"
    exact ⟨_, kb_bool _, leaf_bl p⟩
  | bl b =>
    refine if_t ?_
    walk_at "dl"
    exact ⟨_, kb_bool _, leaf_bl p⟩
  | _ => exact if_f p
theorem ok_is_count (T : All K mg) : FnOk P w K mg base CX0 2 T.d_is_count.f T.d_is_count.fd ["value"] (spD K (f1 fun d => .bl (isC d))) := by
  refine T.d_is_count.F.ok sc_is_count (fun vs H Q E h => sp_len (by intro ds m P f; first | (obtain ⟨rfl, _⟩ := f; rfl) | (obtain ⟨_, h⟩ := f; first | (obtain ⟨rfl, _⟩ := h; rfl) | (obtain ⟨_, rfl, _⟩ := h; rfl) | (obtain ⟨_, _, rfl, _⟩ := h; rfl) | (obtain ⟨_, _, _, rfl, _⟩ := h; rfl) | (obtain ⟨_, _, _, _, rfl, _⟩ := h; rfl) | (obtain ⟨_, _, _, _, _, rfl, _⟩ := h; rfl) | (obtain ⟨_, _, _, _, _, _, rfl, _⟩ := h; rfl) | (obtain ⟨_, _, _, _, _, _, _, rfl, _⟩ := h; rfl) | (obtain ⟨_, _, _, _, _, _, _, _, rfl, _⟩ := h; rfl) | (obtain ⟨_, _, _, _, _, _, _, _, _, rfl, _⟩ := h; rfl))) h) (fun cdv A outer s H vs Q E hr h => ?_)
  refine ⟨_, (pss_one (ps_ret (pe_and (pe_call (ok_is_integer T) (hr.mono (by decide)) rfl T.d_is_integer.g T.d_is_integer.F.kp T.d_is_integer.b .nil pass0 (pa_cons (pv 0) pa_nil)) (pe_one (pe_cmpR op_ge (pv 0) pe_int (nomark _)))))), body_of h fun ds m P f => ?_⟩
  try dsimp only [cxOf, Cx.nox, Cx.wish, Cx.blk]
  obtain ⟨d, rfl, p⟩ := f
  walk_at "dl"
  refine ⟨d, rfl, leaf_bl ?_⟩
  cases d with
  | int i =>
    refine if_t ?_
    walk_at "dl"
    exact p
  | _ => exact if_f p
theorem ok_is_below (T : All K mg) : FnOk P w K mg base CX0 3 T.d_is_below.f T.d_is_below.fd ["value", "bound"] (spD K f_is_below) := by
  refine T.d_is_below.F.ok sc_is_below (fun vs H Q E h => sp_len (by intro ds m P f; first | (obtain ⟨rfl, _⟩ := f; rfl) | (obtain ⟨_, h⟩ := f; first | (obtain ⟨rfl, _⟩ := h; rfl) | (obtain ⟨_, rfl, _⟩ := h; rfl) | (obtain ⟨_, _, rfl, _⟩ := h; rfl) | (obtain ⟨_, _, _, rfl, _⟩ := h; rfl) | (obtain ⟨_, _, _, _, rfl, _⟩ := h; rfl) | (obtain ⟨_, _, _, _, _, rfl, _⟩ := h; rfl) | (obtain ⟨_, _, _, _, _, _, rfl, _⟩ := h; rfl) | (obtain ⟨_, _, _, _, _, _, _, rfl, _⟩ := h; rfl) | (obtain ⟨_, _, _, _, _, _, _, _, rfl, _⟩ := h; rfl) | (obtain ⟨_, _, _, _, _, _, _, _, _, rfl, _⟩ := h; rfl))) h) (fun cdv A outer s H vs Q E hr h => ?_)
  refine ⟨_, (pss_one (ps_ret (pe_and (pe_call (ok_is_count T) (hr.mono (by decide)) rfl T.d_is_count.g T.d_is_count.F.kp T.d_is_count.b .nil pass0 (pa_cons (pv 0) pa_nil)) (pe_one (pe_cmpR op_lt (pv 0) (pv 1) (nomark _)))))), body_of h fun ds m P f => ?_⟩
  try dsimp only [cxOf, Cx.nox, Cx.wish, Cx.blk]
  obtain ⟨d, b, rfl, p⟩ := f
  walk_at "dl"
  refine ⟨d, rfl, leaf_bl ?_⟩
  cases d with
  | int i =>
    refine if_d (fun h => ?_) (fun h => ?_)
    · walk_at "dl"
      have : isB b (.int i) = decide (i < b) := by simp [isB, h]
      rw [this] at p
      exact p
    · have : isB b (.int i) = false := by simp [isB, h]
      rw [this] at p
      exact p
  | _ => exact if_f p
theorem ok_is_list (T : All K mg) : FnOk P w K mg base CX0 1 T.d_is_list.f T.d_is_list.fd ["value"] (spD K (f1n fun d => .bl (isL d))) := by
  refine T.d_is_list.F.ok sc_is_list (fun vs H Q E h => sp_len (by intro ds m P f; first | (obtain ⟨rfl, _⟩ := f; rfl) | (obtain ⟨_, h⟩ := f; first | (obtain ⟨rfl, _⟩ := h; rfl) | (obtain ⟨_, rfl, _⟩ := h; rfl) | (obtain ⟨_, _, rfl, _⟩ := h; rfl) | (obtain ⟨_, _, _, rfl, _⟩ := h; rfl) | (obtain ⟨_, _, _, _, rfl, _⟩ := h; rfl) | (obtain ⟨_, _, _, _, _, rfl, _⟩ := h; rfl) | (obtain ⟨_, _, _, _, _, _, rfl, _⟩ := h; rfl) | (obtain ⟨_, _, _, _, _, _, _, rfl, _⟩ := h; rfl) | (obtain ⟨_, _, _, _, _, _, _, _, rfl, _⟩ := h; rfl) | (obtain ⟨_, _, _, _, _, _, _, _, _, rfl, _⟩ := h; rfl))) h) (fun cdv A outer s H vs Q E hr h => ?_)
  refine ⟨_, (pss_one (ps_ret (pe_callB (show CallR _ (.builtin "isinstance") (rIsiT K) from call_isiT) (by rfl) T.z_isinstance (by decide +kernel) (pa_cons (pv 0) (pa_cons (pe_tup (pa_cons (pe_bltn (v := .ty "list") (u := .type "list") (by rfl) T.z_list (by decide +kernel) rfl) (pa_cons (pe_bltn (v := .ty "tuple") (u := .type "tuple") (by rfl) T.z_tuple (by decide +kernel) rfl) pa_nil))) pa_nil))))), body_of h fun ds m P f => ?_⟩
  try dsimp only [cxOf, Cx.nox, Cx.wish, Cx.blk]
  obtain ⟨d, rfl, hn, p⟩ := f
  walk_at "dl"
  refine ⟨_, _, kb_list d, kb_tuple d, ?_⟩
  have : (tLi d || tTu d) = isL d := by cases d <;> rfl
  rw [this]
  exact p
theorem ok_is_pair (T : All K mg) : FnOk P w K mg base CX0 1 T.d_is_pair.f T.d_is_pair.fd ["value"] (spD K (f1n fun d => .bl (isP d))) := by
  refine T.d_is_pair.F.ok sc_is_pair (fun vs H Q E h => sp_len (by intro ds m P f; first | (obtain ⟨rfl, _⟩ := f; rfl) | (obtain ⟨_, h⟩ := f; first | (obtain ⟨rfl, _⟩ := h; rfl) | (obtain ⟨_, rfl, _⟩ := h; rfl) | (obtain ⟨_, _, rfl, _⟩ := h; rfl) | (obtain ⟨_, _, _, rfl, _⟩ := h; rfl) | (obtain ⟨_, _, _, _, rfl, _⟩ := h; rfl) | (obtain ⟨_, _, _, _, _, rfl, _⟩ := h; rfl) | (obtain ⟨_, _, _, _, _, _, rfl, _⟩ := h; rfl) | (obtain ⟨_, _, _, _, _, _, _, rfl, _⟩ := h; rfl) | (obtain ⟨_, _, _, _, _, _, _, _, rfl, _⟩ := h; rfl) | (obtain ⟨_, _, _, _, _, _, _, _, _, rfl, _⟩ := h; rfl))) h) (fun cdv A outer s H vs Q E hr h => ?_)
  refine ⟨_, (pss_one (ps_ret (pe_and (pe_callB (show CallR _ (.builtin "isinstance") (rIsi K) from call_isi) (by rfl) T.z_isinstance (by decide +kernel) (pa_cons (pv 0) (pa_cons (pe_bltn (v := .ty "tuple") (u := .type "tuple") (by rfl) T.z_tuple (by decide +kernel) rfl) pa_nil))) (pe_one (pe_cmpR op_eq (pe_callB (show CallR _ (.builtin "len") (DL.rLen K) from call_lenS) (by rfl) T.z_len (by decide +kernel) (pa_cons (pv 0) pa_nil)) pe_int (nomark _)))))), body_of h fun ds m P f => ?_⟩
  try dsimp only [cxOf, Cx.nox, Cx.wish, Cx.blk]
  obtain ⟨d, rfl, hn, p⟩ := f
  walk_at "dl"
  refine ⟨_, kb_tuple d, leaf_bl ?_⟩
  cases d with
  | tup xs =>
    refine if_t ?_
    walk_at "dl"
    exact p
  | key l => simp [noCell] at hn
  | _ => exact if_f p
/-! ### ways -/
def WayOk (L R : Int) (w : List Int) : Prop := ∃ a b c s, w = [a, b, c, s] ∧ (0 ≤ a ∧ a < R) ∧ (0 ≤ b ∧ b < L) ∧ (0 ≤ c ∧ c < R) ∧ 0 ≤ s ∧ s < 2
theorem isB_of {b i : Int} (h : 0 ≤ i ∧ i < b) : isB b (.int i) = true := by simp [isB, h.1, h.2]
def f_check_letters : FW := fun ds m P => ∃ L, ds = [.int L] ∧ 1 ≤ L ∧ L ≤ 4 ∧ P .non m
def f_check_rooms : FW := fun ds m P => ∃ L, ds = [.int L] ∧ 1 ≤ L ∧ L ≤ 12 ∧ P .non m
theorem ok_check_letters (T : All K mg) : FnOk P w K mg base CX0 3 T.d_check_letters.f T.d_check_letters.fd ["letters"] (spD K f_check_letters) := by
  refine T.d_check_letters.F.ok sc_check_letters (fun vs H Q E h => sp_len (by intro ds m P f; first | (obtain ⟨rfl, _⟩ := f; rfl) | (obtain ⟨_, h⟩ := f; first | (obtain ⟨rfl, _⟩ := h; rfl) | (obtain ⟨_, rfl, _⟩ := h; rfl) | (obtain ⟨_, _, rfl, _⟩ := h; rfl) | (obtain ⟨_, _, _, rfl, _⟩ := h; rfl) | (obtain ⟨_, _, _, _, rfl, _⟩ := h; rfl) | (obtain ⟨_, _, _, _, _, rfl, _⟩ := h; rfl) | (obtain ⟨_, _, _, _, _, _, rfl, _⟩ := h; rfl) | (obtain ⟨_, _, _, _, _, _, _, rfl, _⟩ := h; rfl) | (obtain ⟨_, _, _, _, _, _, _, _, rfl, _⟩ := h; rfl) | (obtain ⟨_, _, _, _, _, _, _, _, _, rfl, _⟩ := h; rfl))) h) (fun cdv A outer s H vs Q E hr h => ?_)
  refine ⟨_, (pss_one (ps_if (PW.pt (pw_or (pt_not (pt_val (pe_call (ok_is_count T) (hr.mono (by decide)) rfl T.d_is_count.g T.d_is_count.F.kp T.d_is_count.b .nil pass0 (pa_cons (pv 0) pa_nil)))) (pw_or1 (pt_not (pt_chain op_le op_le pe_int (pv 0) (pe_glob (v := .int 4) rfl T.c_MOST_LETTERS.choose_spec.1 T.c_MOST_LETTERS.choose_spec.2)))))) pss_never pss_nil)), body_of h fun ds m P f => ?_⟩
  try dsimp only [cxOf, Cx.nox, Cx.wish, Cx.blk]
  obtain ⟨L, rfl, h1, h2, p⟩ := f
  walk_at "dl"
  refine ⟨_, rfl, leaf_bl ?_⟩
  have : isC (.int L) = true := decide_eq_true (by omega)
  rw [this]
  refine if_f ?_
  walk_at "dl"
  refine if_d (fun _ => ?_) (fun h => absurd h1 h)
  walk_at "dl"
  rw [decide_eq_true h2]
  refine if_f ?_
  walk_at "dl"
  exact p
theorem ok_check_rooms (T : All K mg) : FnOk P w K mg base CX0 3 T.d_check_rooms.f T.d_check_rooms.fd ["rooms"] (spD K f_check_rooms) := by
  refine T.d_check_rooms.F.ok sc_check_rooms (fun vs H Q E h => sp_len (by intro ds m P f; first | (obtain ⟨rfl, _⟩ := f; rfl) | (obtain ⟨_, h⟩ := f; first | (obtain ⟨rfl, _⟩ := h; rfl) | (obtain ⟨_, rfl, _⟩ := h; rfl) | (obtain ⟨_, _, rfl, _⟩ := h; rfl) | (obtain ⟨_, _, _, rfl, _⟩ := h; rfl) | (obtain ⟨_, _, _, _, rfl, _⟩ := h; rfl) | (obtain ⟨_, _, _, _, _, rfl, _⟩ := h; rfl) | (obtain ⟨_, _, _, _, _, _, rfl, _⟩ := h; rfl) | (obtain ⟨_, _, _, _, _, _, _, rfl, _⟩ := h; rfl) | (obtain ⟨_, _, _, _, _, _, _, _, rfl, _⟩ := h; rfl) | (obtain ⟨_, _, _, _, _, _, _, _, _, rfl, _⟩ := h; rfl))) h) (fun cdv A outer s H vs Q E hr h => ?_)
  refine ⟨_, (pss_one (ps_if (PW.pt (pw_or (pt_not (pt_val (pe_call (ok_is_count T) (hr.mono (by decide)) rfl T.d_is_count.g T.d_is_count.F.kp T.d_is_count.b .nil pass0 (pa_cons (pv 0) pa_nil)))) (pw_or1 (pt_not (pt_chain op_le op_le pe_int (pv 0) (pe_glob (v := .int 12) rfl T.c_MOST_ROOMS.choose_spec.1 T.c_MOST_ROOMS.choose_spec.2)))))) pss_never pss_nil)), body_of h fun ds m P f => ?_⟩
  try dsimp only [cxOf, Cx.nox, Cx.wish, Cx.blk]
  obtain ⟨L, rfl, h1, h2, p⟩ := f
  walk_at "dl"
  refine ⟨_, rfl, leaf_bl ?_⟩
  have : isC (.int L) = true := decide_eq_true (by omega)
  rw [this]
  refine if_f ?_
  walk_at "dl"
  refine if_d (fun _ => ?_) (fun h => absurd h1 h)
  walk_at "dl"
  rw [decide_eq_true h2]
  refine if_f ?_
  walk_at "dl"
  exact p
def f_is_way : FW := fun ds m P => ∃ (L R : Int) (w : List Int), ds = [.int L, .int R, tw w] ∧ WayOk L R w ∧ P (.bl true) m
theorem ok__is_way (T : All K mg) : FnOk P w K mg base CX0 4 T.d__is_way.f T.d__is_way.fd ["letters", "rooms", "value"] (spD K f_is_way) := by
  refine T.d__is_way.F.ok sc__is_way (fun vs H Q E h => sp_len (by intro ds m P f; first | (obtain ⟨rfl, _⟩ := f; rfl) | (obtain ⟨_, h⟩ := f; first | (obtain ⟨rfl, _⟩ := h; rfl) | (obtain ⟨_, rfl, _⟩ := h; rfl) | (obtain ⟨_, _, rfl, _⟩ := h; rfl) | (obtain ⟨_, _, _, rfl, _⟩ := h; rfl) | (obtain ⟨_, _, _, _, rfl, _⟩ := h; rfl) | (obtain ⟨_, _, _, _, _, rfl, _⟩ := h; rfl) | (obtain ⟨_, _, _, _, _, _, rfl, _⟩ := h; rfl) | (obtain ⟨_, _, _, _, _, _, _, rfl, _⟩ := h; rfl) | (obtain ⟨_, _, _, _, _, _, _, _, rfl, _⟩ := h; rfl) | (obtain ⟨_, _, _, _, _, _, _, _, _, rfl, _⟩ := h; rfl))) h) (fun cdv A outer s H vs Q E hr h => ?_)
  refine ⟨_, (pss_cons (ps_if (PW.pt (pw_or (pt_not (pt_val (pe_callB (show CallR _ (.builtin "isinstance") (rIsi K) from call_isi) (by rfl) T.z_isinstance (by decide +kernel) (pa_cons (pv 2) (pa_cons (pe_bltn (v := .ty "tuple") (u := .type "tuple") (by rfl) T.z_tuple (by decide +kernel) rfl) pa_nil))))) (pw_or1 (pt_cmpR op_ne (pe_callB (show CallR _ (.builtin "len") (DL.rLen K) from call_lenS) (by rfl) T.z_len (by decide +kernel) (pa_cons (pv 2) pa_nil)) pe_int (nomark _))))) (pss_one (ps_ret pe_bl)) pss_nil)
      (pss_cons (ps_asg (pv 2) (pg_tup (by rfl) (pgs_cons (pg_name (i := 3) sc__is_way.nd rfl (Or.inl rfl)) (pgs_cons (pg_name (i := 4) sc__is_way.nd rfl (Or.inl rfl)) (pgs_cons (pg_name (i := 5) sc__is_way.nd rfl (Or.inl rfl)) (pgs_cons (pg_name (i := 6) sc__is_way.nd rfl (Or.inl rfl)) pgs_nil))))))
      (pss_one (ps_ret (pe_and (pe_call (ok_is_below T) (hr.mono (by decide)) rfl T.d_is_below.g T.d_is_below.F.kp T.d_is_below.b .nil pass0 (pa_cons (pv 3) (pa_cons (pv 1) pa_nil))) (pe_and (pe_call (ok_is_below T) (hr.mono (by decide)) rfl T.d_is_below.g T.d_is_below.F.kp T.d_is_below.b .nil pass0 (pa_cons (pv 4) (pa_cons (pv 0) pa_nil))) (pe_and (pe_call (ok_is_below T) (hr.mono (by decide)) rfl T.d_is_below.g T.d_is_below.F.kp T.d_is_below.b .nil pass0 (pa_cons (pv 5) (pa_cons (pv 1) pa_nil))) (pe_one (pe_call (ok_is_below T) (hr.mono (by decide)) rfl T.d_is_below.g T.d_is_below.F.kp T.d_is_below.b .nil pass0 (pa_cons (pv 6) (pa_cons pe_int pa_nil))))))))))), body_of h fun ds m P f => ?_⟩
  try dsimp only [cxOf, Cx.nox, Cx.wish, Cx.blk]
  obtain ⟨L, R, w, rfl, ⟨a, b, c, s, rfl, ha, hb, hc, hs⟩, p⟩ := f
  walk_at "dl"
  refine ⟨_, kb_tuple _, leaf_bl ?_⟩
  refine if_f ?_
  walk_at "dl"
  refine if_nt ?_
  walk_at "dl"
  have wa : wi [a, b, c, s] = [.int a, .int b, .int c, .int s] := rfl
  rw [wa]
  walk_at "dl"
  refine ⟨_, _, rfl, leaf_bl ?_⟩
  rw [isB_of ha]
  refine if_t ?_
  walk_at "dl"
  refine ⟨_, _, rfl, leaf_bl ?_⟩
  rw [isB_of hb]
  refine if_t ?_
  walk_at "dl"
  refine ⟨_, _, rfl, leaf_bl ?_⟩
  rw [isB_of hc]
  refine if_t ?_
  walk_at "dl"
  refine ⟨_, _, rfl, ?_⟩
  rw [isB_of hs]
  exact p
def f_are_ways : FW := fun ds m P => ∃ (L R : Int) (ws : List (List Int)), ds = [.int L, .int R, .lst (ws.map tw)] ∧ (∀ w ∈ ws, WayOk L R w) ∧ ws.Nodup ∧ ws.length < 64 ∧ ((dis (ws.map fun w => w.take 2)).length : Int) = L * R ∧ (0 ≤ L ∧ L ≤ 100 ∧ 0 ≤ R ∧ R ≤ 100) ∧ P (.bl true) m
theorem dis_nodup : ∀ {ts : List (List Int)}, ts.Nodup → dis ts = ts
  | [], _ => rfl
  | t :: ts, h => by
    have h' := List.nodup_cons.mp h
    unfold dis
    rw [if_neg h'.1, dis_nodup h'.2]
theorem fm_true {α : Type} : ∀ l : List α, List.filterMap (fun _ => some (Dat.bl true)) l = (l.map fun _ => true).map Dat.bl
  | [] => rfl
  | a :: l => by rw [List.map_cons, List.filterMap_cons, fm_true l]; rfl
theorem ok_are_ways (T : All K mg) : FnOk P w K mg base CX0 5 T.d_are_ways.f T.d_are_ways.fd ["letters", "rooms", "value"] (spD K f_are_ways) := by
  refine T.d_are_ways.F.ok sc_are_ways (fun vs H Q E h => sp_len (by intro ds m P f; first | (obtain ⟨rfl, _⟩ := f; rfl) | (obtain ⟨_, h⟩ := f; first | (obtain ⟨rfl, _⟩ := h; rfl) | (obtain ⟨_, rfl, _⟩ := h; rfl) | (obtain ⟨_, _, rfl, _⟩ := h; rfl) | (obtain ⟨_, _, _, rfl, _⟩ := h; rfl) | (obtain ⟨_, _, _, _, rfl, _⟩ := h; rfl) | (obtain ⟨_, _, _, _, _, rfl, _⟩ := h; rfl) | (obtain ⟨_, _, _, _, _, _, rfl, _⟩ := h; rfl) | (obtain ⟨_, _, _, _, _, _, _, rfl, _⟩ := h; rfl) | (obtain ⟨_, _, _, _, _, _, _, _, rfl, _⟩ := h; rfl) | (obtain ⟨_, _, _, _, _, _, _, _, _, rfl, _⟩ := h; rfl))) h) (fun cdv A outer s H vs Q E hr h => ?_)
  refine ⟨_, (pss_cons (ps_if (PW.pt (pw_or (pt_not (pt_val (pe_call (ok_is_list T) (hr.mono (by decide)) rfl T.d_is_list.g T.d_is_list.F.kp T.d_is_list.b .nil pass0 (pa_cons (pv 2) pa_nil)))) (pw_or1 (pt_cmpR op_gt (pe_callB (show CallR _ (.builtin "len") (DL.rLen K) from call_lenS) (by rfl) T.z_len (by decide +kernel) (pa_cons (pv 2) pa_nil)) (pe_glob (v := .int 96) rfl T.c_MOST_WAYS.choose_spec.1 T.c_MOST_WAYS.choose_spec.2) (nomark _))))) (pss_one (ps_ret pe_bl)) pss_nil)
      (pss_cons (ps_if (pt_not (pt_val (pe_callB (cr_all rfl) (by rfl) T.z_all (by decide +kernel) (pa_cons (pe_lc (own := [("way", 3)]) (g := gName 3) rfl sc_are_ways.nd (pi_seq (pv 2)) (blkOk_by (N := N_are_ways) (sc := defScope s_are_ways) (by decide +kernel)) (fun _ _ _ _ _ => pg_name (i := 3) sc_are_ways.nd rfl (Or.inl rfl)) (fun _ _ _ _ _ => pts_nil) (fun _ _ _ _ _ => (pe_call (ok__is_way T) (hr.mono (by decide)) rfl T.d__is_way.g T.d__is_way.F.kp T.d__is_way.b .nil pass0 (pa_cons (pv 0) (pa_cons (pv 1) (pa_cons (pv 3) pa_nil)))))) pa_nil)))) (pss_one (ps_ret pe_bl)) pss_nil)
      (pss_cons (ps_if (pt_cmpR op_lt (pe_callB RS.cr_lenST (by rfl) T.z_len (by decide +kernel) (pa_cons (pe_callTy (cr_setOfT rfl hr.units) (by rfl) T.z_set (by decide +kernel) (pa_cons (pv 2) pa_nil)) pa_nil)) (pe_callB (show CallR _ (.builtin "len") (DL.rLen K) from call_lenS) (by rfl) T.z_len (by decide +kernel) (pa_cons (pv 2) pa_nil)) (nomark _)) (pss_one (ps_ret pe_bl)) pss_nil)
      (pss_one (ps_ret (pe_cmpR op_eq (pe_callB RS.cr_lenST (by rfl) T.z_len (by decide +kernel) (pa_cons (RS.pe_scT (own := [("way", 3)]) (g := gName 3) (hu_of hr) rfl sc_are_ways.nd (pi_seq (pv 2)) (blkOk_by (N := N_are_ways) (sc := defScope s_are_ways) (by decide +kernel)) (fun _ _ _ _ _ => pg_name (i := 3) sc_are_ways.nd rfl (Or.inl rfl)) (fun _ _ _ _ _ => pts_nil) (fun _ _ _ _ _ => (pe_slice (show SlR _ (rSlA K) from sl_tupA) (pv 3) po_none (po_some pe_int)))) pa_nil)) (pe_op op_mul (pv 0) (pv 1)) (nomark _))))))), body_of h fun ds m P f => ?_⟩
  try dsimp only [cxOf, Cx.nox, Cx.wish, Cx.blk]
  obtain ⟨L, R, ws, rfl, hw, nd, few, cov, bd, p⟩ := f
  walk_at "dl"
  refine ⟨_, rfl, nc_ltws ws, leaf_bl ?_⟩
  refine if_f ?_
  walk_at "dl"
  refine if_d (fun z => ?_) (fun _ => ?_)
  · rw [List.length_map] at z
    omega
  walk_at "dl"
  refine ew_lcS (f := fun _ => some (.bl true)) (.inr rfl) (by rw [List.length_map, sizeLine_eq]; omega) ?_ ?_
  · intro x acc hx
    obtain ⟨t, ht, rfl⟩ := List.mem_map.mp hx
    refine turn_yes rfl ?_
    walk_at "dl"
    exact ⟨L, R, t, rfl, hw t ht, rfl, rfl⟩
  refine aw_nil ?_
  have e2 : ((ws.map tw).map fun _ => true).all id = true := by simp
  rw [fm_true]
  refine cw_all ?_
  rw [e2]
  refine leaf_bl (if_nt ?_)
  refine s_next (s_seq (s_if (tw_test (ew_op (ew_lenSet (ew_var rfl ⟨ws, rfl, few, ?_⟩))))))
  rw [dis_nodup nd]
  walk_at "dl"
  refine if_d (fun z => ?_) (fun _ => ?_)
  · rw [List.length_map] at z
    exact absurd z (by omega)
  refine s_next (s_ret (ew_op ?_))
  refine ew_lenSc (ws.map tw) (fun d => match d with | .tup xs => (xs.map fun x => match x with | .int i => i | _ => 0).take 2 | _ => []) rfl (by rw [List.length_map]; exact few) ?_ ?_
  · intro x hx
    obtain ⟨t, ht, rfl⟩ := List.mem_map.mp hx
    walk_at "dl"
    refine ⟨?_, rfl⟩
    obtain ⟨a, b, c, s, rfl, _⟩ := hw t ht
    rfl
  have e3 : (ws.map tw).map (fun d => match d with | .tup xs => (xs.map fun x => match x with | .int i => i | _ => 0).take 2 | _ => []) = ws.map fun w => w.take 2 := by
    rw [List.map_map]
    refine List.map_congr_left fun t ht => ?_
    obtain ⟨a, b, c, s, rfl, _⟩ := hw t ht
    rfl
  rw [e3]
  walk_at "dl"
  refine rw_mul ?_ ?_
  · exact .inl ⟨by omega, by omega⟩
  rw [cov]
  walk_at "dl"
  rw [decide_eq_true rfl]
  exact p
end
end L56
namespace L56
open PySem PySem.Spec PyProof.Rows L2 DL StX KM RM
section
variable {P : Program} {w : World} {K : PySem.W.Frag} {mg : Str → Option Value} {base : Heap}
/- one rule a construct; what asks for a fact is left -/
local macro_rules | `(tactic| walk_at "dl") => `(tactic| repeat (first
  | ((with_reducible refine' ew_var ?hv ?_); (case hv => exact rfl))
  | with_reducible refine ew_int ?_
  | with_reducible refine ew_bl ?_
  | with_reducible refine ew_non ?_
  | with_reducible refine ew_str ?_
  | with_reducible refine aw_nil ?_
  | with_reducible refine aw_cons ?_
  | with_reducible refine ew_isi ?_
  | with_reducible refine ew_isi2 ?_
  | with_reducible refine ew_isiC ?_
  | with_reducible refine ew_op ?_
  | with_reducible refine ew_un ?_
  | with_reducible refine uw_neg ?_
  | with_reducible refine ew_cb ?_
  | with_reducible refine ew_call ?_
  | with_reducible refine ew_k01 ?_
  | with_reducible refine ew_k02 ?_
  | with_reducible refine ew_k02s ?_
  | with_reducible refine ew_k3t ?_
  | with_reducible refine ew_chain ?_
  | with_reducible refine ew_andV ?_
  | with_reducible refine ew_orV ?_
  | with_reducible refine ew_notV ?_
  | with_reducible refine ew_if ?_
  | with_reducible refine ew_slT ?_
  | with_reducible refine ew_slL ?_
  | with_reducible refine ow_none ?_
  | with_reducible refine ow_some ?_
  | with_reducible refine tw_test ?_
  | with_reducible refine tw_B ?_
  | with_reducible refine tw_and ?_
  | with_reducible refine tw_or ?_
  | with_reducible refine tw_not ?_
  | with_reducible refine tw_tru ?_
  | with_reducible refine s_seq ?_
  | with_reducible refine s_set ?_
  | with_reducible refine s_asg ?_
  | with_reducible refine s_ret ?_
  | with_reducible refine s_retN ?_
  | with_reducible refine s_if ?_
  | with_reducible refine s_drop ?_
  | with_reducible refine s_par ?_
  | with_reducible refine s_par3 ?_
  | with_reducible refine s_next ?_
  | with_reducible refine gw_tup rfl ?_
  | with_reducible refine gs_cons ?_
  | with_reducible refine gs_nil ?_
  | with_reducible refine gw_name ?_
  | with_reducible refine rw_add ?_
  | with_reducible refine rw_sub ?_
  | with_reducible refine rw_lt ?_
  | with_reducible refine rw_le ?_
  | with_reducible refine rw_gt ?_
  | with_reducible refine rw_ge ?_
  | with_reducible refine rw_eqI ?_
  | with_reducible refine rw_neI ?_
  | with_reducible refine rw_eqB ?_
  | with_reducible refine rw_neS ?_
  | with_reducible refine rw_isN ?_
  | with_reducible refine rw_notN ?_
  | with_reducible refine rw_isB ?_
  | with_reducible refine rw_notB ?_
  | ((with_reducible refine' rw_ixT ?hi ?_); (case hi => exact rfl))
  | ((with_reducible refine' rw_ixL ?hi ?_); (case hi => exact rfl))
  | with_reducible refine cw_lenT ?_
  | with_reducible refine cw_lenL ?_
  | with_reducible refine cw_tupL ?_
  | with_reducible refine cw_max2 ?_
  | with_reducible refine cw_abs ?_
  | with_reducible refine cw_int1 ?_
  | with_reducible refine leaf_bl ?_
  | with_reducible refine leaf_int ?_
  | with_reducible refine leaf_tup ?_
  | with_reducible refine leaf_lst ?_
  | with_reducible refine leaf_two ?_
  | with_reducible refine leaf_three ?_
  | with_reducible refine ew_tup ?_
  | with_reducible refine sz0 ?_
  | with_reducible refine sz1 ?_
  | with_reducible refine sz2 ?_
  | with_reducible refine sz3 ?_
  | with_reducible refine sz4 ?_
  | with_reducible refine if_t ?_
  | with_reducible refine if_f ?_
  | with_reducible refine if_nt ?_
  | with_reducible refine if_nf ?_))
/- one rule a construct; what asks for a fact is left -/
local macro_rules | `(tactic| walk_at "de") => `(tactic| repeat (first
  | ((with_reducible refine' ew_var ?hv ?_); (case hv => exact rfl))
  | with_reducible refine ew_int ?_
  | with_reducible refine ew_bl ?_
  | with_reducible refine ew_non ?_
  | with_reducible refine ew_str ?_
  | with_reducible refine aw_nil ?_
  | with_reducible refine aw_cons ?_
  | with_reducible refine ew_isi ?_
  | with_reducible refine ew_isi2 ?_
  | with_reducible refine ew_isiC ?_
  | with_reducible refine ew_op ?_
  | with_reducible refine ew_un ?_
  | with_reducible refine uw_neg ?_
  | with_reducible refine ew_cb ?_
  | with_reducible refine ew_call ?_
  | with_reducible refine ew_k01 ?_
  | with_reducible refine ew_k02 ?_
  | with_reducible refine ew_k02s ?_
  | with_reducible refine ew_k3t ?_
  | with_reducible refine ew_chain ?_
  | with_reducible refine ew_andV ?_
  | with_reducible refine ew_orV ?_
  | with_reducible refine ew_notV ?_
  | with_reducible refine ew_if ?_
  | with_reducible refine ew_slT ?_
  | with_reducible refine ew_slL ?_
  | with_reducible refine ow_none ?_
  | with_reducible refine ow_some ?_
  | with_reducible refine tw_test ?_
  | with_reducible refine tw_B ?_
  | with_reducible refine tw_and ?_
  | with_reducible refine tw_or ?_
  | with_reducible refine tw_not ?_
  | with_reducible refine tw_tru ?_
  | with_reducible refine gw_tup rfl ?_
  | with_reducible refine gs_cons ?_
  | with_reducible refine gs_nil ?_
  | with_reducible refine gw_name ?_
  | with_reducible refine rw_add ?_
  | with_reducible refine rw_sub ?_
  | with_reducible refine rw_lt ?_
  | with_reducible refine rw_le ?_
  | with_reducible refine rw_gt ?_
  | with_reducible refine rw_ge ?_
  | with_reducible refine rw_eqI ?_
  | with_reducible refine rw_neI ?_
  | with_reducible refine rw_eqB ?_
  | with_reducible refine rw_neS ?_
  | with_reducible refine rw_isN ?_
  | with_reducible refine rw_notN ?_
  | with_reducible refine rw_isB ?_
  | with_reducible refine rw_notB ?_
  | ((with_reducible refine' rw_ixT ?hi ?_); (case hi => exact rfl))
  | ((with_reducible refine' rw_ixL ?hi ?_); (case hi => exact rfl))
  | with_reducible refine cw_lenT ?_
  | with_reducible refine cw_lenL ?_
  | with_reducible refine cw_tupL ?_
  | with_reducible refine cw_max2 ?_
  | with_reducible refine cw_abs ?_
  | with_reducible refine cw_int1 ?_
  | with_reducible refine leaf_bl ?_
  | with_reducible refine leaf_int ?_
  | with_reducible refine leaf_tup ?_
  | with_reducible refine leaf_lst ?_
  | with_reducible refine leaf_two ?_
  | with_reducible refine leaf_three ?_
  | with_reducible refine ew_tup ?_
  | with_reducible refine sz0 ?_
  | with_reducible refine sz1 ?_
  | with_reducible refine sz2 ?_
  | with_reducible refine sz3 ?_
  | with_reducible refine sz4 ?_
  | with_reducible refine if_t ?_
  | with_reducible refine if_f ?_
  | with_reducible refine if_nt ?_
  | with_reducible refine if_nf ?_))

/- end of the rules -/
/-! ### __init__ -/
/-- a reader by its data -/
def nmR : List Str := ["_letters", "_rooms", "_ways", "_numbers"]
def f_init : FI := fun ds R => ∃ (L N : Int) (ws : List (List Int)), ds = [.int L, .int N, .lst (ws.map tw)] ∧ (∀ w ∈ ws, WayOk L N w) ∧ ws.Nodup ∧ ws.length < 64 ∧ ((dis (ws.map fun w => w.take 2)).length : Int) = L * N ∧ (1 ≤ L ∧ L ≤ 4 ∧ 1 ≤ N ∧ N ≤ 12) ∧
  ∀ (ws' : List (List Int)) (nums : Dat), ws'.Perm ws → ws'.Pairwise (fun x y => TS.code 64 x ≤ TS.code 64 y) → R nmR [.int L, .int N, .lst (ws'.map tw), nums]
theorem seq_in {t u : TS} {D : L2.Ends} {σ : L2.St} {H : Hp} (h : t { D with nx := u D } σ H) : tSeq t u D σ H := h
theorem fld_in {ta tv : TE} {f : Str} {D : L2.Ends} {σ : L2.St} {H : Hp} (h : tv σ H fun y H1 => ta σ H1 fun x H2 => ∃ a C dx fs, x = .ref a ∧ H2 a = some (.ins C dx fs) ∧ Cls K C ∧ NoAttr K C f ∧ fs.length < 1000 ∧ D.nx σ (upd H2 a (.ins C dx (putF f y fs)))) : sFld K ta tv f D σ H := h
theorem ok_Reader___init__ (T : All K mg) : FnOk P w K mg base CX0 6 T.d_Reader___init__.f T.d_Reader___init__.fd ["self", "letters", "rooms", "ways"] (spI K T.C_Reader f_init) := by
  refine T.d_Reader___init__.F.ok sc_Reader___init__ (fun vs H Q E h => spI_len (n := 3) (by intro ds R f; obtain ⟨L, N, ws, rfl, _⟩ := f; rfl) h) (fun cdv A outer s H vs Q E hr h => ?_)
  refine ⟨_, (pss_cons (ps_expr (pe_call (ok_check_letters T) (hr.mono (by decide)) rfl T.d_check_letters.g T.d_check_letters.F.kp T.d_check_letters.b .nil pass0 (pa_cons (pv 1) pa_nil)))
      (pss_cons (ps_expr (pe_call (ok_check_rooms T) (hr.mono (by decide)) rfl T.d_check_rooms.g T.d_check_rooms.F.kp T.d_check_rooms.b .nil pass0 (pa_cons (pv 2) pa_nil)))
      (pss_cons (ps_if (pt_not (pt_val (pe_call (ok_are_ways T) (hr.mono (by decide)) rfl T.d_are_ways.g T.d_are_ways.F.kp T.d_are_ways.b .nil pass0 (pa_cons (pv 1) (pa_cons (pv 2) (pa_cons (pv 3) pa_nil)))))) pss_never pss_nil)
      (pss_cons (ps_fld (pv 0) (pv 1) rfl)
      (pss_cons (ps_fld (pv 0) (pv 2) rfl)
      (pss_cons (ps_fld (pv 0) (pe_callB (cr_sortT (d := 4) (B := 64) (by decide)) (by rfl) T.z_sorted (by decide +kernel) (pa_cons (pv 3) pa_nil)) rfl)
      (pss_cons (ps_fld (pv 0) (RS.pe_dcT2 (own := [("room", 6), ("letter", 7)]) (vs1 := [7]) (g := gName 6) (g1 := gName 7) (hu_of hr) rfl sc_Reader___init__.nd (pi_range1 (by rfl) T.z_range (pa_cons (pv 2) pa_nil)) (blkOk_by (N := N_Reader___init__) (sc := defScope s_Reader___init__) (by decide +kernel)) (by decide) (fun _ _ _ _ _ => pg_name (i := 6) sc_Reader___init__.nd rfl (Or.inl rfl)) (fun _ _ _ _ _ => (pi_range1 (by rfl) T.z_range (pa_cons (pv 1) pa_nil))) (fun _ _ _ _ _ => pg_name (i := 7) sc_Reader___init__.nd rfl (Or.inl rfl)) (fun _ _ _ _ _ => (pe_tup (pa_cons (pv 6) (pa_cons (pv 7) pa_nil)))) (fun _ _ _ _ _ => (pe_lst pa_nil))) rfl)
      (pss_one (ps_for PassesOwn.never rfl (pi_enum (by rfl) T.z_enumerate (pa_cons (pe_fld (pv 0) (by rfl)) pa_nil)) (pg_tup (by rfl) (pgs_cons (pg_name (i := 4) sc_Reader___init__.nd rfl (Or.inl rfl)) (pgs_cons (pg_name (i := 5) sc_Reader___init__.nd rfl (Or.inl rfl)) pgs_nil))) (pss_one (ps_expr (pe_bm PySem.F.plainAttrs_list PySem.F.slot_list_append PySem.F.type_list_append mt_append (pe_dget (hu_of hr) (pe_fld (pv 0) (by rfl)) (pe_slice (show SlR _ (rSlA K) from sl_tupA) (pv 5) po_none (po_some pe_int)) (fun _ _ => rfl)) (pa_cons (pv 4) pa_nil))))))))))))), ?_⟩
  try dsimp only [cxOf, Cx.nox, Cx.wish, Cx.blk]
  obtain ⟨A0, x, dx, us, ds, R, rfl, inA, hx, hds, ⟨L, N, ws, rfl, hw, nd, few, cov, bd, r⟩, q⟩ := h
  match us, hds with
  | [_, _, vw], .cons (.int _) (.cons (.int _) (.cons hv .nil)) =>
  obtain ⟨a, xs, rfl, hL, hD⟩ := lst_of hv
  have hB : some x ∈ A0 ++ [some x] := by simp
  generalize eB : A0 ++ [some x] = B at hL hD hB hv q
  have σe : L2.start N_Reader___init__ [V.ref x, V.int L, V.int N, V.ref a] = [some (.ref x), some (.int L), some (.int N), some (.ref a), none, none, none, none] := rfl
  refine ⟨.int L, rfl, call_raw (E := E0) (A := B) (ds := [.int L]) (R := fun _ => True) (.cons (.int L) .nil) rfl ⟨L, rfl, bd.1, bd.2.1, trivial, rfl⟩ fun H1 _ _ k1 _ _ => ?_⟩
  refine ⟨.int N, rfl, call_raw (E := E0) (A := B) (ds := [.int N]) (R := fun _ => True) (.cons (.int N) .nil) rfl ⟨N, rfl, bd.2.2.1, bd.2.2.2, trivial, rfl⟩ fun H2 _ _ k2 _ _ => ?_⟩
  have hv2 : Dn K B H2 (.ref a) (.lst (ws.map tw)) := hv.mono ((ext_stay k1).trans (ext_stay k2))
  refine ⟨.int L, rfl, .int N, rfl, .ref a, rfl, call_raw (E := E0) (A := B) (ds := [.int L, .int N, .lst (ws.map tw)]) (R := fun d => d = .bl true) (.cons (.int L) (.cons (.int N) (.cons hv2 .nil))) (by simp [noCells, noCell, nc_tws])
    ⟨L, N, ws, rfl, hw, nd, few, cov, ⟨by omega, by omega, by omega, by omega⟩, rfl, rfl⟩ fun H3 v d k3 y hd => ?_⟩
  subst hd
  cases y
  refine ⟨true, rfl, if_nt ?_⟩
  have hx3 : H3 x = some (.ins T.C_Reader dx []) := k3 _ _ (k2 _ _ (k1 _ _ hx))
  have old3 : ∀ b o, H b = some o → H3 b = some o := fun b o e => k3 _ _ (k2 _ _ (k1 _ _ e))
  refine ⟨.int L, rfl, .ref x, rfl, x, _, dx, [], rfl, hx3, T.oc_Reader.cls, T.n_Reader_letters, by decide, ?_⟩
  refine ⟨.int N, rfl, .ref x, rfl, x, _, dx, _, rfl, upd_same, T.oc_Reader.cls, T.n_Reader_rooms, (by show 1 < 1000; decide), ?_⟩
  -- the ways, sorted
  have hv4 : Dn K B (upd (upd H3 x (.ins T.C_Reader dx (putF "_letters" (.int L) []))) x (.ins T.C_Reader dx (putF "_rooms" (.int N) (putF "_letters" (.int L) [])))) (.ref a) (.lst (ws.map tw)) := ((hv2.mono (ext_stay k3)).mono0 (keep_hidden hB) (nc_ltws ws)).mono0 (keep_hidden hB) (nc_ltws ws)
  have old4 : ∀ b o, b ≠ x → H b = some o → upd (upd H3 x (.ins T.C_Reader dx (putF "_letters" (.int L) []))) x (.ins T.C_Reader dx (putF "_rooms" (.int N) (putF "_letters" (.int L) []))) b = some o := fun b o nb e => by
    rw [upd_ne nb, upd_ne nb]
    exact old3 b o e
  have hx4 : upd (upd H3 x (.ins T.C_Reader dx (putF "_letters" (.int L) []))) x (.ins T.C_Reader dx (putF "_rooms" (.int N) (putF "_letters" (.int L) []))) x = some (.ins T.C_Reader dx (putF "_rooms" (.int N) (putF "_letters" (.int L) []))) := upd_same
  generalize upd (upd H3 x (.ins T.C_Reader dx (putF "_letters" (.int L) []))) x (.ins T.C_Reader dx (putF "_rooms" (.int N) (putF "_letters" (.int L) []))) = H5 at hv4 old4 hx4 ⊢
  obtain ⟨a', xs4, ea, hL4, hD4⟩ := lst_of hv4
  cases ea
  have len4 : xs4.length = ws.length := by rw [hD4.length, List.length_map]
  refine ⟨.ref a, rfl, a, xs4, rfl, sqL_hid hL4, by omega, fun y hy => ?_, fun ys p pm pw hp => ?_⟩
  · obtain ⟨i, hi⟩ := List.mem_iff_getElem?.mp hy
    obtain ⟨d, hd, dd⟩ := hD4.getV hi
    rw [List.getElem?_map] at hd
    obtain ⟨w, hwi, rfl⟩ := Option.map_eq_some_iff.mp hd
    refine ⟨w, tupI_of dd, ?_⟩
    obtain ⟨wa, wb, wc, wt, rfl, h1, h2, h3, h4⟩ := hw w (List.mem_of_getElem? hwi)
    refine ⟨rfl, fun n hn => ?_⟩
    simp at hn
    rcases hn with e | e | e | e <;> subst e <;> constructor <;> omega
  obtain ⟨ws', pmw, dys⟩ := dns_perm pm hD4
  have pww : ws'.Pairwise (fun x y => TS.code 64 x ≤ TS.code 64 y) := dns_pair dys pw fun y z n m hR h1 h2 => hR n m (tupI_of h1) (tupI_of h2)
  have npx : x ≠ p := ne_of_none hx4 hp
  refine ⟨.ref x, rfl, x, _, dx, _, rfl, by rw [upd_ne npx]; exact hx4, T.oc_Reader.cls, T.n_Reader_ways, (by show 2 < 1000; decide), ?_⟩
  have inB : ∀ b, some b ∈ B → H5 b ≠ none := fun b hb => by
    rw [← eB] at hb
    by_cases e : b = x
    · rw [e, hx4]
      exact fun z => nomatch z
    · rcases List.mem_append.mp hb with z | z
      · obtain ⟨o, ho⟩ := Option.ne_none_iff_exists'.mp (inA b z)
        rw [old4 b o e ho]
        exact fun z => nomatch z
      · exact absurd (Option.some.inj (List.mem_singleton.mp z)) e
  have npB : some p ∉ B := fun z => inB p z hp
  have hx7 : upd (upd H5 p (.lst ys)) x (.ins T.C_Reader dx (putF "_ways" (.ref p) (putF "_rooms" (.int N) (putF "_letters" (.int L) [])))) x = some (.ins T.C_Reader dx (putF "_ways" (.ref p) (putF "_rooms" (.int N) (putF "_letters" (.int L) [])))) := upd_same
  have sp7 : SqL K (hid B (upd (upd H5 p (.lst ys)) x (.ins T.C_Reader dx (putF "_ways" (.ref p) (putF "_rooms" (.int N) (putF "_letters" (.int L) [])))))) p ys := .inl (.inl (hid_to (by rw [upd_ne npx.symm, upd_same]) npB))
  have dy7 : Dns K B (upd (upd H5 p (.lst ys)) x (.ins T.C_Reader dx (putF "_ways" (.ref p) (putF "_rooms" (.int N) (putF "_letters" (.int L) []))))) ys (ws'.map tw) := (dys.mono (ext_new hp)).mono0 (keep_hidden hB) (nc_tws ws')
  have old7 : ∀ b o, b ≠ x → H b = some o → upd (upd H5 p (.lst ys)) x (.ins T.C_Reader dx (putF "_ways" (.ref p) (putF "_rooms" (.int N) (putF "_letters" (.int L) [])))) b = some o := fun b o nb e => by
    have := old4 b o nb e
    rw [upd_ne nb, upd_ne (ne_of_none this hp)]
    exact this
  have in7 : ∀ b, some b ∈ B → upd (upd H5 p (.lst ys)) x (.ins T.C_Reader dx (putF "_ways" (.ref p) (putF "_rooms" (.int N) (putF "_letters" (.int L) [])))) b ≠ none := fun b hb => by
    by_cases e : b = x
    · rw [e, hx7]
      exact fun z => nomatch z
    · obtain ⟨o, ho⟩ := Option.ne_none_iff_exists'.mp (inB b hb)
      rw [upd_ne e, upd_ne (ne_of_none ho hp), ho]
      exact fun z => nomatch z
  generalize upd (upd H5 p (.lst ys)) x (.ins T.C_Reader dx (putF "_ways" (.ref p) (putF "_rooms" (.int N) (putF "_letters" (.int L) [])))) = H7 at hx7 sp7 dy7 old7 in7 ⊢
  -- the numbers
  dsimp only
  refine seq_in ?_
  refine fld_in ?_
  rw [σe]
  refine nums_comp ⟨bd.1, bd.2.1⟩ bd.2.2 fun D kvs G7 k7 fD gD gd has => ?_
  refine ⟨.ref x, rfl, x, _, dx, _, rfl, k7 _ _ hx7, T.oc_Reader.cls, T.n_Reader_numbers, (by show 3 < 1000; decide), ?_⟩
  have nDx : D ≠ x := fun e => by rw [e, hx7] at fD; cases fD
  dsimp only
  refine nums_loop (B := B) (Hb := H7) (p := p) (D := D) (ws := ws') T.oc_Reader.cls T.n_Reader_ways T.n_Reader_numbers hB (fun b o nb e => by rw [upd_ne nb]; exact k7 b o e) upd_same rfl rfl fD (in7 x hB) (by rw [upd_ne nDx]; exact gD) ?_ sp7 dy7 (by rw [pmw.length_eq]; exact few) ?_ ?_
  · intro q hq
    obtain ⟨l, ns, a1, a2, a3, a4⟩ := gd q hq
    exact ⟨l, ns, a1, a2, by rw [upd_ne (fun e => in7 x hB (by rw [← e]; exact a2))]; exact a3, a4⟩
  · intro w hwm
    obtain ⟨wa, wb, wc, wt, rfl, h1, h2, _⟩ := hw w (pmw.mem_iff.mp hwm)
    exact ⟨wa, wb, wc, wt, rfl, has wa wb h1.1 h1.2 h2.1 h2.2⟩
  · intro σ G kG xG DG gG
    obtain ⟨ds, dv, dnc⟩ := good_dns in7 gG
    have nDB : some D ∉ B := fun z => in7 D z fD
    refine q G _ [.int L, .int N, .lst (ws'.map tw), .dct (kvs.map (·.1)) ds] (fun b o nb e => kG b o nb (old7 b o nb e)) xG ?_ (by simp [noCells, noCell, nc_tws, dnc]) (r ws' _ pmw pww)
    exact .cons (.int L) (.cons (.int N) (.cons (.lst (sqL_keep (keep_old hB kG) sp7) (dy7.mono0 (keep_old hB kG) (nc_tws ws'))) (.cons (.dct (hid_to DG nDB) dv) .nil)))

end
end L56
namespace L56
open PySem PySem.Spec PyProof.Rows L2 DL StX KM RM
section
variable {P : Program} {w : World} {K : PySem.W.Frag} {mg : Str → Option Value} {base : Heap}
/- one rule a construct; what asks for a fact is left -/
local macro_rules | `(tactic| walk_at "dl") => `(tactic| repeat (first
  | ((with_reducible refine' ew_var ?hv ?_); (case hv => exact rfl))
  | with_reducible refine ew_int ?_
  | with_reducible refine ew_bl ?_
  | with_reducible refine ew_non ?_
  | with_reducible refine ew_str ?_
  | with_reducible refine aw_nil ?_
  | with_reducible refine aw_cons ?_
  | with_reducible refine ew_isi ?_
  | with_reducible refine ew_isi2 ?_
  | with_reducible refine ew_isiC ?_
  | with_reducible refine ew_op ?_
  | with_reducible refine ew_un ?_
  | with_reducible refine uw_neg ?_
  | with_reducible refine ew_cb ?_
  | with_reducible refine ew_call ?_
  | with_reducible refine ew_k01 ?_
  | with_reducible refine ew_k02 ?_
  | with_reducible refine ew_k02s ?_
  | with_reducible refine ew_k3t ?_
  | with_reducible refine ew_chain ?_
  | with_reducible refine ew_andV ?_
  | with_reducible refine ew_orV ?_
  | with_reducible refine ew_notV ?_
  | with_reducible refine ew_if ?_
  | with_reducible refine ew_slT ?_
  | with_reducible refine ew_slL ?_
  | with_reducible refine ow_none ?_
  | with_reducible refine ow_some ?_
  | with_reducible refine tw_test ?_
  | with_reducible refine tw_B ?_
  | with_reducible refine tw_and ?_
  | with_reducible refine tw_or ?_
  | with_reducible refine tw_not ?_
  | with_reducible refine tw_tru ?_
  | with_reducible refine s_seq ?_
  | with_reducible refine s_set ?_
  | with_reducible refine s_asg ?_
  | with_reducible refine s_ret ?_
  | with_reducible refine s_retN ?_
  | with_reducible refine s_if ?_
  | with_reducible refine s_drop ?_
  | with_reducible refine s_par ?_
  | with_reducible refine s_par3 ?_
  | with_reducible refine s_next ?_
  | with_reducible refine gw_tup rfl ?_
  | with_reducible refine gs_cons ?_
  | with_reducible refine gs_nil ?_
  | with_reducible refine gw_name ?_
  | with_reducible refine rw_add ?_
  | with_reducible refine rw_sub ?_
  | with_reducible refine rw_lt ?_
  | with_reducible refine rw_le ?_
  | with_reducible refine rw_gt ?_
  | with_reducible refine rw_ge ?_
  | with_reducible refine rw_eqI ?_
  | with_reducible refine rw_neI ?_
  | with_reducible refine rw_eqB ?_
  | with_reducible refine rw_neS ?_
  | with_reducible refine rw_isN ?_
  | with_reducible refine rw_notN ?_
  | with_reducible refine rw_isB ?_
  | with_reducible refine rw_notB ?_
  | ((with_reducible refine' rw_ixT ?hi ?_); (case hi => exact rfl))
  | ((with_reducible refine' rw_ixL ?hi ?_); (case hi => exact rfl))
  | with_reducible refine cw_lenT ?_
  | with_reducible refine cw_lenL ?_
  | with_reducible refine cw_tupL ?_
  | with_reducible refine cw_max2 ?_
  | with_reducible refine cw_abs ?_
  | with_reducible refine cw_int1 ?_
  | with_reducible refine leaf_bl ?_
  | with_reducible refine leaf_int ?_
  | with_reducible refine leaf_tup ?_
  | with_reducible refine leaf_lst ?_
  | with_reducible refine leaf_two ?_
  | with_reducible refine leaf_three ?_
  | with_reducible refine ew_tup ?_
  | with_reducible refine sz0 ?_
  | with_reducible refine sz1 ?_
  | with_reducible refine sz2 ?_
  | with_reducible refine sz3 ?_
  | with_reducible refine sz4 ?_
  | with_reducible refine if_t ?_
  | with_reducible refine if_f ?_
  | with_reducible refine if_nt ?_
  | with_reducible refine if_nf ?_))
/- one rule a construct; what asks for a fact is left -/
local macro_rules | `(tactic| walk_at "de") => `(tactic| repeat (first
  | ((with_reducible refine' ew_var ?hv ?_); (case hv => exact rfl))
  | with_reducible refine ew_int ?_
  | with_reducible refine ew_bl ?_
  | with_reducible refine ew_non ?_
  | with_reducible refine ew_str ?_
  | with_reducible refine aw_nil ?_
  | with_reducible refine aw_cons ?_
  | with_reducible refine ew_isi ?_
  | with_reducible refine ew_isi2 ?_
  | with_reducible refine ew_isiC ?_
  | with_reducible refine ew_op ?_
  | with_reducible refine ew_un ?_
  | with_reducible refine uw_neg ?_
  | with_reducible refine ew_cb ?_
  | with_reducible refine ew_call ?_
  | with_reducible refine ew_k01 ?_
  | with_reducible refine ew_k02 ?_
  | with_reducible refine ew_k02s ?_
  | with_reducible refine ew_k3t ?_
  | with_reducible refine ew_chain ?_
  | with_reducible refine ew_andV ?_
  | with_reducible refine ew_orV ?_
  | with_reducible refine ew_notV ?_
  | with_reducible refine ew_if ?_
  | with_reducible refine ew_slT ?_
  | with_reducible refine ew_slL ?_
  | with_reducible refine ow_none ?_
  | with_reducible refine ow_some ?_
  | with_reducible refine tw_test ?_
  | with_reducible refine tw_B ?_
  | with_reducible refine tw_and ?_
  | with_reducible refine tw_or ?_
  | with_reducible refine tw_not ?_
  | with_reducible refine tw_tru ?_
  | with_reducible refine gw_tup rfl ?_
  | with_reducible refine gs_cons ?_
  | with_reducible refine gs_nil ?_
  | with_reducible refine gw_name ?_
  | with_reducible refine rw_add ?_
  | with_reducible refine rw_sub ?_
  | with_reducible refine rw_lt ?_
  | with_reducible refine rw_le ?_
  | with_reducible refine rw_gt ?_
  | with_reducible refine rw_ge ?_
  | with_reducible refine rw_eqI ?_
  | with_reducible refine rw_neI ?_
  | with_reducible refine rw_eqB ?_
  | with_reducible refine rw_neS ?_
  | with_reducible refine rw_isN ?_
  | with_reducible refine rw_notN ?_
  | with_reducible refine rw_isB ?_
  | with_reducible refine rw_notB ?_
  | ((with_reducible refine' rw_ixT ?hi ?_); (case hi => exact rfl))
  | ((with_reducible refine' rw_ixL ?hi ?_); (case hi => exact rfl))
  | with_reducible refine cw_lenT ?_
  | with_reducible refine cw_lenL ?_
  | with_reducible refine cw_tupL ?_
  | with_reducible refine cw_max2 ?_
  | with_reducible refine cw_abs ?_
  | with_reducible refine cw_int1 ?_
  | with_reducible refine leaf_bl ?_
  | with_reducible refine leaf_int ?_
  | with_reducible refine leaf_tup ?_
  | with_reducible refine leaf_lst ?_
  | with_reducible refine leaf_two ?_
  | with_reducible refine leaf_three ?_
  | with_reducible refine ew_tup ?_
  | with_reducible refine sz0 ?_
  | with_reducible refine sz1 ?_
  | with_reducible refine sz2 ?_
  | with_reducible refine sz3 ?_
  | with_reducible refine sz4 ?_
  | with_reducible refine if_t ?_
  | with_reducible refine if_f ?_
  | with_reducible refine if_nt ?_
  | with_reducible refine if_nf ?_))

/- end of the rules -/
/-! ### what is read off a reader -/
abbrev rdr (C : Addr) (L N : Int) (ws : List (List Int)) (nums : Dat) : Dat := .obj C nmR [.int L, .int N, .lst (ws.map tw), nums]
theorem look_letters {L N : Int} {ws : List (List Int)} {nums : Dat} : fldD nmR [.int L, .int N, .lst (ws.map tw), nums] "_letters" = some (.int L) := rfl
theorem look_rooms {L N : Int} {ws : List (List Int)} {nums : Dat} : fldD nmR [.int L, .int N, .lst (ws.map tw), nums] "_rooms" = some (.int N) := by
  simp [fldD, nmR]
  rfl
theorem look_ways {L N : Int} {ws : List (List Int)} {nums : Dat} : fldD nmR [.int L, .int N, .lst (ws.map tw), nums] "_ways" = some (.lst (ws.map tw)) := rfl
def f_get (C : Addr) (g : Int → Int → List (List Int) → Dat) : FW := fun ds m P => ∃ L N ws nums, ds = [rdr C L N ws nums] ∧ P (g L N ws) m
theorem ok_Reader_letters (T : All K mg) : FnOk P w K mg base CX0 1 T.d_Reader_letters.f T.d_Reader_letters.fd ["self"] (spD K (f_get T.C_Reader fun L _ _ => .int L)) := by
  refine T.d_Reader_letters.F.ok sc_Reader_letters (fun vs H Q E h => sp_len (by intro ds m P f; first | (obtain ⟨rfl, _⟩ := f; rfl) | (obtain ⟨_, h⟩ := f; first | (obtain ⟨rfl, _⟩ := h; rfl) | (obtain ⟨_, rfl, _⟩ := h; rfl) | (obtain ⟨_, _, rfl, _⟩ := h; rfl) | (obtain ⟨_, _, _, rfl, _⟩ := h; rfl) | (obtain ⟨_, _, _, _, rfl, _⟩ := h; rfl) | (obtain ⟨_, _, _, _, _, rfl, _⟩ := h; rfl) | (obtain ⟨_, _, _, _, _, _, rfl, _⟩ := h; rfl) | (obtain ⟨_, _, _, _, _, _, _, rfl, _⟩ := h; rfl) | (obtain ⟨_, _, _, _, _, _, _, _, rfl, _⟩ := h; rfl) | (obtain ⟨_, _, _, _, _, _, _, _, _, rfl, _⟩ := h; rfl))) h) (fun cdv A outer s H vs Q E hr h => ?_)
  refine ⟨_, (pss_one (ps_ret (pe_fld (pv 0) (by rfl)))), body_of h fun ds m P f => ?_⟩
  try dsimp only [cxOf, Cx.nox, Cx.wish, Cx.blk]
  obtain ⟨L, N, ws, nums, rfl, p⟩ := f
  refine s_ret (ew_fld (ew_var rfl ⟨_, _, _, _, rfl, T.n_Reader_letters, rfl, ?_⟩))
  exact p
theorem ok_Reader_rooms (T : All K mg) : FnOk P w K mg base CX0 1 T.d_Reader_rooms.f T.d_Reader_rooms.fd ["self"] (spD K (f_get T.C_Reader fun _ N _ => .int N)) := by
  refine T.d_Reader_rooms.F.ok sc_Reader_rooms (fun vs H Q E h => sp_len (by intro ds m P f; first | (obtain ⟨rfl, _⟩ := f; rfl) | (obtain ⟨_, h⟩ := f; first | (obtain ⟨rfl, _⟩ := h; rfl) | (obtain ⟨_, rfl, _⟩ := h; rfl) | (obtain ⟨_, _, rfl, _⟩ := h; rfl) | (obtain ⟨_, _, _, rfl, _⟩ := h; rfl) | (obtain ⟨_, _, _, _, rfl, _⟩ := h; rfl) | (obtain ⟨_, _, _, _, _, rfl, _⟩ := h; rfl) | (obtain ⟨_, _, _, _, _, _, rfl, _⟩ := h; rfl) | (obtain ⟨_, _, _, _, _, _, _, rfl, _⟩ := h; rfl) | (obtain ⟨_, _, _, _, _, _, _, _, rfl, _⟩ := h; rfl) | (obtain ⟨_, _, _, _, _, _, _, _, _, rfl, _⟩ := h; rfl))) h) (fun cdv A outer s H vs Q E hr h => ?_)
  refine ⟨_, (pss_one (ps_ret (pe_fld (pv 0) (by rfl)))), body_of h fun ds m P f => ?_⟩
  try dsimp only [cxOf, Cx.nox, Cx.wish, Cx.blk]
  obtain ⟨L, N, ws, nums, rfl, p⟩ := f
  refine s_ret (ew_fld (ew_var rfl ⟨_, _, _, _, rfl, T.n_Reader_rooms, rfl, ?_⟩))
  exact p
theorem ok_Reader_many (T : All K mg) : FnOk P w K mg base CX0 1 T.d_Reader_many.f T.d_Reader_many.fd ["self"] (spD K (f_get T.C_Reader fun _ _ ws => .int (ws.length : Nat))) := by
  refine T.d_Reader_many.F.ok sc_Reader_many (fun vs H Q E h => sp_len (by intro ds m P f; first | (obtain ⟨rfl, _⟩ := f; rfl) | (obtain ⟨_, h⟩ := f; first | (obtain ⟨rfl, _⟩ := h; rfl) | (obtain ⟨_, rfl, _⟩ := h; rfl) | (obtain ⟨_, _, rfl, _⟩ := h; rfl) | (obtain ⟨_, _, _, rfl, _⟩ := h; rfl) | (obtain ⟨_, _, _, _, rfl, _⟩ := h; rfl) | (obtain ⟨_, _, _, _, _, rfl, _⟩ := h; rfl) | (obtain ⟨_, _, _, _, _, _, rfl, _⟩ := h; rfl) | (obtain ⟨_, _, _, _, _, _, _, rfl, _⟩ := h; rfl) | (obtain ⟨_, _, _, _, _, _, _, _, rfl, _⟩ := h; rfl) | (obtain ⟨_, _, _, _, _, _, _, _, _, rfl, _⟩ := h; rfl))) h) (fun cdv A outer s H vs Q E hr h => ?_)
  refine ⟨_, (pss_one (ps_ret (pe_callB (show CallR _ (.builtin "len") (DL.rLen K) from call_lenS) (by rfl) T.z_len (by decide +kernel) (pa_cons (pe_fld (pv 0) (by rfl)) pa_nil)))), body_of h fun ds m P f => ?_⟩
  try dsimp only [cxOf, Cx.nox, Cx.wish, Cx.blk]
  obtain ⟨L, N, ws, nums, rfl, p⟩ := f
  refine s_ret (ew_cb (aw_cons (ew_fld (ew_var rfl ⟨_, _, _, _, rfl, T.n_Reader_ways, rfl, aw_nil (cw_lenL ?_)⟩))))
  rw [List.length_map]
  exact p
def f_way (C : Addr) : FW := fun ds m P => ∃ (L N : Int) (ws : List (List Int)) (nums : Dat) (i : Nat) (w : List Int), ds = [rdr C L N ws nums, .int (i : Nat)] ∧ ws[i]? = some w ∧ P (tw w) m
theorem ok_Reader_way (T : All K mg) : FnOk P w K mg base CX0 4 T.d_Reader_way.f T.d_Reader_way.fd ["self", "number"] (spD K (f_way T.C_Reader)) := by
  refine T.d_Reader_way.F.ok sc_Reader_way (fun vs H Q E h => sp_len (by intro ds m P f; first | (obtain ⟨rfl, _⟩ := f; rfl) | (obtain ⟨_, h⟩ := f; first | (obtain ⟨rfl, _⟩ := h; rfl) | (obtain ⟨_, rfl, _⟩ := h; rfl) | (obtain ⟨_, _, rfl, _⟩ := h; rfl) | (obtain ⟨_, _, _, rfl, _⟩ := h; rfl) | (obtain ⟨_, _, _, _, rfl, _⟩ := h; rfl) | (obtain ⟨_, _, _, _, _, rfl, _⟩ := h; rfl) | (obtain ⟨_, _, _, _, _, _, rfl, _⟩ := h; rfl) | (obtain ⟨_, _, _, _, _, _, _, rfl, _⟩ := h; rfl) | (obtain ⟨_, _, _, _, _, _, _, _, rfl, _⟩ := h; rfl) | (obtain ⟨_, _, _, _, _, _, _, _, _, rfl, _⟩ := h; rfl))) h) (fun cdv A outer s H vs Q E hr h => ?_)
  refine ⟨_, (pss_cons (ps_if (pt_not (pt_val (pe_call (ok_is_below T) (hr.mono (by decide)) rfl T.d_is_below.g T.d_is_below.F.kp T.d_is_below.b .nil pass0 (pa_cons (pv 1) (pa_cons (pe_callB (show CallR _ (.builtin "len") (DL.rLen K) from call_lenS) (by rfl) T.z_len (by decide +kernel) (pa_cons (pe_fld (pv 0) (by rfl)) pa_nil)) pa_nil))))) pss_never pss_nil)
      (pss_one (ps_ret (pe_ix (show IxR _ (rIxL K) from ix_list) (pe_fld (pv 0) (by rfl)) (pv 1) (fun _ _ => rfl))))), body_of h fun ds m P f => ?_⟩
  try dsimp only [cxOf, Cx.nox, Cx.wish, Cx.blk]
  obtain ⟨L, N, ws, nums, i, w, rfl, hw, p⟩ := f
  walk_at "dl"
  refine ew_fld (ew_var rfl ⟨_, _, _, _, rfl, T.n_Reader_ways, rfl, aw_nil (cw_lenL (aw_nil ⟨_, _, rfl, leaf_bl ?_⟩))⟩)
  have hi : i < ws.length := (List.getElem?_eq_some_iff.mp hw).1
  have e : isB ((ws.map tw).length : Nat) (.int (i : Nat)) = true := isB_of ⟨by omega, by rw [List.length_map]; omega⟩
  rw [e]
  refine if_nt (s_next (s_ret (ew_op (ew_fld (ew_var rfl ⟨_, _, _, _, rfl, T.n_Reader_ways, rfl, ew_var rfl (rw_ixL (f := tw w) ?_ p)⟩)))))
  unfold atI
  have e2 : ixN (ws.map tw).length (i : Int) = some i := by
    unfold ixN
    rw [List.length_map]
    simp
    omega
  rw [e2]
  show (ws.map tw)[i]? = some (tw w)
  rw [List.getElem?_map, hw]
  rfl
end
end L56
namespace L56
open PySem PySem.Spec PyProof.Rows L2 DL StX KM RM
section
variable {P : Program} {w : World} {K : PySem.W.Frag} {mg : Str → Option Value} {base : Heap}
/- one rule a construct; what asks for a fact is left -/
local macro_rules | `(tactic| walk_at "dl") => `(tactic| repeat (first
  | ((with_reducible refine' ew_var ?hv ?_); (case hv => exact rfl))
  | with_reducible refine ew_int ?_
  | with_reducible refine ew_bl ?_
  | with_reducible refine ew_non ?_
  | with_reducible refine ew_str ?_
  | with_reducible refine aw_nil ?_
  | with_reducible refine aw_cons ?_
  | with_reducible refine ew_isi ?_
  | with_reducible refine ew_isi2 ?_
  | with_reducible refine ew_isiC ?_
  | with_reducible refine ew_op ?_
  | with_reducible refine ew_un ?_
  | with_reducible refine uw_neg ?_
  | with_reducible refine ew_cb ?_
  | with_reducible refine ew_call ?_
  | with_reducible refine ew_k01 ?_
  | with_reducible refine ew_k02 ?_
  | with_reducible refine ew_k02s ?_
  | with_reducible refine ew_k3t ?_
  | with_reducible refine ew_chain ?_
  | with_reducible refine ew_andV ?_
  | with_reducible refine ew_orV ?_
  | with_reducible refine ew_notV ?_
  | with_reducible refine ew_if ?_
  | with_reducible refine ew_slT ?_
  | with_reducible refine ew_slL ?_
  | with_reducible refine ow_none ?_
  | with_reducible refine ow_some ?_
  | with_reducible refine tw_test ?_
  | with_reducible refine tw_B ?_
  | with_reducible refine tw_and ?_
  | with_reducible refine tw_or ?_
  | with_reducible refine tw_not ?_
  | with_reducible refine tw_tru ?_
  | with_reducible refine s_seq ?_
  | with_reducible refine s_set ?_
  | with_reducible refine s_asg ?_
  | with_reducible refine s_ret ?_
  | with_reducible refine s_retN ?_
  | with_reducible refine s_if ?_
  | with_reducible refine s_drop ?_
  | with_reducible refine s_par ?_
  | with_reducible refine s_par3 ?_
  | with_reducible refine s_next ?_
  | with_reducible refine gw_tup rfl ?_
  | with_reducible refine gs_cons ?_
  | with_reducible refine gs_nil ?_
  | with_reducible refine gw_name ?_
  | with_reducible refine rw_add ?_
  | with_reducible refine rw_sub ?_
  | with_reducible refine rw_lt ?_
  | with_reducible refine rw_le ?_
  | with_reducible refine rw_gt ?_
  | with_reducible refine rw_ge ?_
  | with_reducible refine rw_eqI ?_
  | with_reducible refine rw_neI ?_
  | with_reducible refine rw_eqB ?_
  | with_reducible refine rw_neS ?_
  | with_reducible refine rw_isN ?_
  | with_reducible refine rw_notN ?_
  | with_reducible refine rw_isB ?_
  | with_reducible refine rw_notB ?_
  | ((with_reducible refine' rw_ixT ?hi ?_); (case hi => exact rfl))
  | ((with_reducible refine' rw_ixL ?hi ?_); (case hi => exact rfl))
  | with_reducible refine cw_lenT ?_
  | with_reducible refine cw_lenL ?_
  | with_reducible refine cw_tupL ?_
  | with_reducible refine cw_max2 ?_
  | with_reducible refine cw_abs ?_
  | with_reducible refine cw_int1 ?_
  | with_reducible refine leaf_bl ?_
  | with_reducible refine leaf_int ?_
  | with_reducible refine leaf_tup ?_
  | with_reducible refine leaf_lst ?_
  | with_reducible refine leaf_two ?_
  | with_reducible refine leaf_three ?_
  | with_reducible refine ew_tup ?_
  | with_reducible refine sz0 ?_
  | with_reducible refine sz1 ?_
  | with_reducible refine sz2 ?_
  | with_reducible refine sz3 ?_
  | with_reducible refine sz4 ?_
  | with_reducible refine if_t ?_
  | with_reducible refine if_f ?_
  | with_reducible refine if_nt ?_
  | with_reducible refine if_nf ?_))
/- one rule a construct; what asks for a fact is left -/
local macro_rules | `(tactic| walk_at "de") => `(tactic| repeat (first
  | ((with_reducible refine' ew_var ?hv ?_); (case hv => exact rfl))
  | with_reducible refine ew_int ?_
  | with_reducible refine ew_bl ?_
  | with_reducible refine ew_non ?_
  | with_reducible refine ew_str ?_
  | with_reducible refine aw_nil ?_
  | with_reducible refine aw_cons ?_
  | with_reducible refine ew_isi ?_
  | with_reducible refine ew_isi2 ?_
  | with_reducible refine ew_isiC ?_
  | with_reducible refine ew_op ?_
  | with_reducible refine ew_un ?_
  | with_reducible refine uw_neg ?_
  | with_reducible refine ew_cb ?_
  | with_reducible refine ew_call ?_
  | with_reducible refine ew_k01 ?_
  | with_reducible refine ew_k02 ?_
  | with_reducible refine ew_k02s ?_
  | with_reducible refine ew_k3t ?_
  | with_reducible refine ew_chain ?_
  | with_reducible refine ew_andV ?_
  | with_reducible refine ew_orV ?_
  | with_reducible refine ew_notV ?_
  | with_reducible refine ew_if ?_
  | with_reducible refine ew_slT ?_
  | with_reducible refine ew_slL ?_
  | with_reducible refine ow_none ?_
  | with_reducible refine ow_some ?_
  | with_reducible refine tw_test ?_
  | with_reducible refine tw_B ?_
  | with_reducible refine tw_and ?_
  | with_reducible refine tw_or ?_
  | with_reducible refine tw_not ?_
  | with_reducible refine tw_tru ?_
  | with_reducible refine gw_tup rfl ?_
  | with_reducible refine gs_cons ?_
  | with_reducible refine gs_nil ?_
  | with_reducible refine gw_name ?_
  | with_reducible refine rw_add ?_
  | with_reducible refine rw_sub ?_
  | with_reducible refine rw_lt ?_
  | with_reducible refine rw_le ?_
  | with_reducible refine rw_gt ?_
  | with_reducible refine rw_ge ?_
  | with_reducible refine rw_eqI ?_
  | with_reducible refine rw_neI ?_
  | with_reducible refine rw_eqB ?_
  | with_reducible refine rw_neS ?_
  | with_reducible refine rw_isN ?_
  | with_reducible refine rw_notN ?_
  | with_reducible refine rw_isB ?_
  | with_reducible refine rw_notB ?_
  | ((with_reducible refine' rw_ixT ?hi ?_); (case hi => exact rfl))
  | ((with_reducible refine' rw_ixL ?hi ?_); (case hi => exact rfl))
  | with_reducible refine cw_lenT ?_
  | with_reducible refine cw_lenL ?_
  | with_reducible refine cw_tupL ?_
  | with_reducible refine cw_max2 ?_
  | with_reducible refine cw_abs ?_
  | with_reducible refine cw_int1 ?_
  | with_reducible refine leaf_bl ?_
  | with_reducible refine leaf_int ?_
  | with_reducible refine leaf_tup ?_
  | with_reducible refine leaf_lst ?_
  | with_reducible refine leaf_two ?_
  | with_reducible refine leaf_three ?_
  | with_reducible refine ew_tup ?_
  | with_reducible refine sz0 ?_
  | with_reducible refine sz1 ?_
  | with_reducible refine sz2 ?_
  | with_reducible refine sz3 ?_
  | with_reducible refine sz4 ?_
  | with_reducible refine if_t ?_
  | with_reducible refine if_f ?_
  | with_reducible refine if_nt ?_
  | with_reducible refine if_nf ?_))

/- end of the rules -/
/-! ### words, rows -/
def isW (L : Int) : Dat → Bool
  | .tup xs => decide ((xs.length : Int) ≤ 40) && (xs.map fun x => isB L x).all id
  | .lst xs => decide ((xs.length : Int) ≤ 40) && (xs.map fun x => isB L x).all id
  | _ => false
theorem isW_tup (L : Int) (xs : List Dat) : isW L (.tup xs) = (decide ((xs.length : Int) ≤ 40) && (xs.map fun x => isB L x).all id) := rfl
theorem isW_lst (L : Int) (xs : List Dat) : isW L (.lst xs) = (decide ((xs.length : Int) ≤ 40) && (xs.map fun x => isB L x).all id) := rfl
theorem fm_bl (L : Int) (xs : List Dat) : xs.filterMap (fun x => some (Dat.bl (isB L x))) = (xs.map fun x => isB L x).map Dat.bl := by
  induction xs with
  | nil => rfl
  | cons a l ih => rw [List.filterMap_cons]; simp [ih]
def f_is_word : FW := fun ds m P => ∃ L d, ds = [.int L, d] ∧ noCell d = true ∧ P (.bl (isW L d)) m
theorem ok_is_word (T : All K mg) : FnOk P w K mg base CX0 4 T.d_is_word.f T.d_is_word.fd ["letters", "value"] (spD K f_is_word) := by
  refine T.d_is_word.F.ok sc_is_word (fun vs H Q E h => sp_len (by intro ds m P f; first | (obtain ⟨rfl, _⟩ := f; rfl) | (obtain ⟨_, h⟩ := f; first | (obtain ⟨rfl, _⟩ := h; rfl) | (obtain ⟨_, rfl, _⟩ := h; rfl) | (obtain ⟨_, _, rfl, _⟩ := h; rfl) | (obtain ⟨_, _, _, rfl, _⟩ := h; rfl) | (obtain ⟨_, _, _, _, rfl, _⟩ := h; rfl) | (obtain ⟨_, _, _, _, _, rfl, _⟩ := h; rfl) | (obtain ⟨_, _, _, _, _, _, rfl, _⟩ := h; rfl) | (obtain ⟨_, _, _, _, _, _, _, rfl, _⟩ := h; rfl) | (obtain ⟨_, _, _, _, _, _, _, _, rfl, _⟩ := h; rfl) | (obtain ⟨_, _, _, _, _, _, _, _, _, rfl, _⟩ := h; rfl))) h) (fun cdv A outer s H vs Q E hr h => ?_)
  refine ⟨_, (pss_one (ps_ret (pe_and (pe_call (ok_is_list T) (hr.mono (by decide)) rfl T.d_is_list.g T.d_is_list.F.kp T.d_is_list.b .nil pass0 (pa_cons (pv 1) pa_nil)) (pe_and (pe_cmpR op_le (pe_callB (show CallR _ (.builtin "len") (DL.rLen K) from call_lenS) (by rfl) T.z_len (by decide +kernel) (pa_cons (pv 1) pa_nil)) (pe_glob (v := .int 40) rfl T.c_LONGEST.choose_spec.1 T.c_LONGEST.choose_spec.2) (nomark _)) (pe_one (pe_callB (cr_all rfl) (by rfl) T.z_all (by decide +kernel) (pa_cons (pe_lc (own := [("letter", 2)]) (g := gName 2) rfl sc_is_word.nd (pi_seq (pv 1)) (blkOk_by (N := N_is_word) (sc := defScope s_is_word) (by decide +kernel)) (fun _ _ _ _ _ => pg_name (i := 2) sc_is_word.nd rfl (Or.inl rfl)) (fun _ _ _ _ _ => pts_nil) (fun _ _ _ _ _ => (pe_call (ok_is_below T) (hr.mono (by decide)) rfl T.d_is_below.g T.d_is_below.F.kp T.d_is_below.b .nil pass0 (pa_cons (pv 2) (pa_cons (pv 0) pa_nil))))) pa_nil))))))), body_of h fun ds m P f => ?_⟩
  try dsimp only [cxOf, Cx.nox, Cx.wish, Cx.blk]
  obtain ⟨L, d, rfl, hn, p⟩ := f
  walk_at "dl"
  refine ⟨d, rfl, hn, leaf_bl ?_⟩
  cases d with
  | tup xs =>
    refine if_t ?_
    walk_at "dl"
    refine if_d (fun h => ?_) (fun h => ?_)
    · walk_at "dl"
      refine ew_lcS (f := fun x => some (.bl (isB L x))) (.inl rfl) (by rw [sizeLine_eq]; omega) ?_ ?_
      · intro x acc hx
        refine turn_yes rfl ?_
        walk_at "dl"
        exact ⟨x, L, rfl, rfl, rfl⟩
      · rw [fm_bl]
        walk_at "dl"
        refine cw_all ?_
        have e : isW L (.tup xs) = (xs.map fun x => isB L x).all id := by rw [isW_tup, decide_eq_true h, Bool.true_and]
        rw [e] at p
        exact p
    · have e : isW L (.tup xs) = false := by rw [isW_tup, decide_eq_false h, Bool.false_and]
      rw [e] at p
      exact p
  | lst xs =>
    refine if_t ?_
    walk_at "dl"
    refine if_d (fun h => ?_) (fun h => ?_)
    · walk_at "dl"
      refine ew_lcS (f := fun x => some (.bl (isB L x))) (.inr rfl) (by rw [sizeLine_eq]; omega) ?_ ?_
      · intro x acc hx
        refine turn_yes rfl ?_
        walk_at "dl"
        exact ⟨x, L, rfl, rfl, rfl⟩
      · rw [fm_bl]
        walk_at "dl"
        refine cw_all ?_
        have e : isW L (.lst xs) = (xs.map fun x => isB L x).all id := by rw [isW_lst, decide_eq_true h, Bool.true_and]
        rw [e] at p
        exact p
    · have e : isW L (.lst xs) = false := by rw [isW_lst, decide_eq_false h, Bool.false_and]
      rw [e] at p
      exact p
  | cell k => simp [noCell] at hn
  | key k => simp [noCell] at hn
  | _ => exact if_f p
/-- a row of so many letters -/
def lenD : Dat → Int | .tup xs => xs.length | _ => 0
def isR (L : Int) : Dat → Bool
  | .tup [b, a] => tTu b && (tTu a && (isW L b && (isW L a && decide ((0 : Int) < lenD a))))
  | _ => false
def f_is_row_of : FW := fun ds m P => ∃ L d, ds = [.int L, d] ∧ noCell d = true ∧ P (.bl (isR L d)) m
theorem ok_is_row_of (T : All K mg) : FnOk P w K mg base CX0 5 T.d_is_row_of.f T.d_is_row_of.fd ["letters", "value"] (spD K f_is_row_of) := by
  refine T.d_is_row_of.F.ok sc_is_row_of (fun vs H Q E h => sp_len (by intro ds m P f; first | (obtain ⟨rfl, _⟩ := f; rfl) | (obtain ⟨_, h⟩ := f; first | (obtain ⟨rfl, _⟩ := h; rfl) | (obtain ⟨_, rfl, _⟩ := h; rfl) | (obtain ⟨_, _, rfl, _⟩ := h; rfl) | (obtain ⟨_, _, _, rfl, _⟩ := h; rfl) | (obtain ⟨_, _, _, _, rfl, _⟩ := h; rfl) | (obtain ⟨_, _, _, _, _, rfl, _⟩ := h; rfl) | (obtain ⟨_, _, _, _, _, _, rfl, _⟩ := h; rfl) | (obtain ⟨_, _, _, _, _, _, _, rfl, _⟩ := h; rfl) | (obtain ⟨_, _, _, _, _, _, _, _, rfl, _⟩ := h; rfl) | (obtain ⟨_, _, _, _, _, _, _, _, _, rfl, _⟩ := h; rfl))) h) (fun cdv A outer s H vs Q E hr h => ?_)
  refine ⟨_, (pss_cons (ps_if (PW.pt (pw_or (pt_not (pt_val (pe_call (ok_is_pair T) (hr.mono (by decide)) rfl T.d_is_pair.g T.d_is_pair.F.kp T.d_is_pair.b .nil pass0 (pa_cons (pv 1) pa_nil)))) (pw_or (pt_not (pt_val (pe_callB (show CallR _ (.builtin "isinstance") (rIsi K) from call_isi) (by rfl) T.z_isinstance (by decide +kernel) (pa_cons (pe_ix (show IxR _ (rIxT K) from ix_tup) (pv 1) pe_int (fun _ _ => rfl)) (pa_cons (pe_bltn (v := .ty "tuple") (u := .type "tuple") (by rfl) T.z_tuple (by decide +kernel) rfl) pa_nil))))) (pw_or1 (pt_not (pt_val (pe_callB (show CallR _ (.builtin "isinstance") (rIsi K) from call_isi) (by rfl) T.z_isinstance (by decide +kernel) (pa_cons (pe_ix (show IxR _ (rIxT K) from ix_tup) (pv 1) pe_int (fun _ _ => rfl)) (pa_cons (pe_bltn (v := .ty "tuple") (u := .type "tuple") (by rfl) T.z_tuple (by decide +kernel) rfl) pa_nil))))))))) (pss_one (ps_ret pe_bl)) pss_nil)
      (pss_one (ps_ret (pe_and (pe_call (ok_is_word T) (hr.mono (by decide)) rfl T.d_is_word.g T.d_is_word.F.kp T.d_is_word.b .nil pass0 (pa_cons (pv 0) (pa_cons (pe_ix (show IxR _ (rIxT K) from ix_tup) (pv 1) pe_int (fun _ _ => rfl)) pa_nil))) (pe_and (pe_call (ok_is_word T) (hr.mono (by decide)) rfl T.d_is_word.g T.d_is_word.F.kp T.d_is_word.b .nil pass0 (pa_cons (pv 0) (pa_cons (pe_ix (show IxR _ (rIxT K) from ix_tup) (pv 1) pe_int (fun _ _ => rfl)) pa_nil))) (pe_one (pe_cmpR op_gt (pe_callB (show CallR _ (.builtin "len") (DL.rLen K) from call_lenS) (by rfl) T.z_len (by decide +kernel) (pa_cons (pe_ix (show IxR _ (rIxT K) from ix_tup) (pv 1) pe_int (fun _ _ => rfl)) pa_nil)) pe_int (nomark _)))))))), body_of h fun ds m P f => ?_⟩
  try dsimp only [cxOf, Cx.nox, Cx.wish, Cx.blk]
  obtain ⟨L, d, rfl, hn, p⟩ := f
  walk_at "dl"
  refine ⟨d, rfl, hn, leaf_bl ?_⟩
  cases d with
  | tup xs =>
    match xs, hn, p with
    | [], _, p => exact if_t (if_t (by walk_at "dl"; exact p))
    | [x], _, p => exact if_t (if_t (by walk_at "dl"; exact p))
    | x :: y :: z :: r, _, p =>
      have e : isP (.tup (x :: y :: z :: r)) = false := by
        show decide (((x :: y :: z :: r).length : Int) = 2) = false
        refine decide_eq_false ?_
        simp only [List.length_cons]
        omega
      rw [e]
      exact if_t (if_t (by walk_at "dl"; exact p))
    | [x, y], hn, p =>
      have hx : noCell x = true ∧ noCell y = true := by simpa [noCell, noCells] using hn
      have e : isR L (.tup [x, y]) = (tTu x && (tTu y && (isW L x && (isW L y && decide ((0 : Int) < lenD y))))) := rfl
      rw [e] at p
      refine if_f ?_
      walk_at "dl"
      refine ⟨_, kb_tuple x, leaf_bl ?_⟩
      cases h1 : tTu x with
      | false =>
        rw [h1, Bool.false_and] at p
        exact if_t (if_t (by walk_at "dl"; exact p))
      | true =>
        rw [h1, Bool.true_and] at p
        refine if_f ?_
        walk_at "dl"
        refine ⟨_, kb_tuple y, leaf_bl ?_⟩
        cases h2 : tTu y with
        | false =>
          rw [h2, Bool.false_and] at p
          exact if_t (by walk_at "dl"; exact p)
        | true =>
          rw [h2, Bool.true_and] at p
          refine if_f ?_
          walk_at "dl"
          refine ⟨L, _, rfl, hx.1, leaf_bl ?_⟩
          cases h3 : isW L x with
          | false => rw [h3, Bool.false_and] at p; exact if_f p
          | true =>
            rw [h3, Bool.true_and] at p
            refine if_t ?_
            walk_at "dl"
            refine ⟨L, _, rfl, hx.2, leaf_bl ?_⟩
            cases h4 : isW L y with
            | false => rw [h4, Bool.false_and] at p; exact if_f p
            | true =>
              rw [h4, Bool.true_and] at p
              refine if_t ?_
              walk_at "dl"
              cases y with
              | tup a =>
                walk_at "dl"
                exact p
              | key l => have := hx.2; simp [noCell] at this
              | _ => cases h2
  | _ => exact if_t (if_t (by walk_at "dl"; exact p))
/-! ### words of ints -/
theorem isW_wi {L : Int} {l : List Int} (h : ∀ c ∈ l, 0 ≤ c ∧ c < L) (hl : l.length ≤ 40) : isW L (.tup (wi l)) = true := by
  rw [isW_tup, wi, List.length_map, decide_eq_true (by omega), Bool.true_and, List.map_map, List.all_map, List.all_eq_true]
  intro c hc
  have := h c hc
  simp [isB, this]
theorem isR_row {L : Int} {B A : List Int} (h : Ok L B A) : isR L (rw_ B A) = true := by
  have hn : 0 < A.length := List.length_pos_iff.mpr h.ne
  show (true && (true && (isW L (.tup (wi B)) && (isW L (.tup (wi A)) && decide ((0 : Int) < ((wi A).length : Nat)))))) = true
  rw [isW_wi h.b h.lb, isW_wi h.a h.la, wi, List.length_map, decide_eq_true (by omega)] <;> rfl
theorem nc_row (B A : List Int) : noCell (rw_ B A) = true := shp_nc (shp_row B A)

/-! ### runs -/
def f_check_row : FW := fun ds m P => ∃ L B A, ds = [.int L, rw_ B A] ∧ Ok L B A ∧ P .non m
theorem ok_check_row (T : All K mg) : FnOk P w K mg base CX0 6 T.d_check_row.f T.d_check_row.fd ["letters", "row"] (spD K f_check_row) := by
  refine T.d_check_row.F.ok sc_check_row (fun vs H Q E h => sp_len (by intro ds m P f; first | (obtain ⟨rfl, _⟩ := f; rfl) | (obtain ⟨_, h⟩ := f; first | (obtain ⟨rfl, _⟩ := h; rfl) | (obtain ⟨_, rfl, _⟩ := h; rfl) | (obtain ⟨_, _, rfl, _⟩ := h; rfl) | (obtain ⟨_, _, _, rfl, _⟩ := h; rfl) | (obtain ⟨_, _, _, _, rfl, _⟩ := h; rfl) | (obtain ⟨_, _, _, _, _, rfl, _⟩ := h; rfl) | (obtain ⟨_, _, _, _, _, _, rfl, _⟩ := h; rfl) | (obtain ⟨_, _, _, _, _, _, _, rfl, _⟩ := h; rfl) | (obtain ⟨_, _, _, _, _, _, _, _, rfl, _⟩ := h; rfl) | (obtain ⟨_, _, _, _, _, _, _, _, _, rfl, _⟩ := h; rfl))) h) (fun cdv A outer s H vs Q E hr h => ?_)
  refine ⟨_, (pss_one (ps_if (pt_not (pt_val (pe_call (ok_is_row_of T) (hr.mono (by decide)) rfl T.d_is_row_of.g T.d_is_row_of.F.kp T.d_is_row_of.b .nil pass0 (pa_cons (pv 0) (pa_cons (pv 1) pa_nil))))) pss_never pss_nil)), body_of h fun ds m P f => ?_⟩
  try dsimp only [cxOf, Cx.nox, Cx.wish, Cx.blk]
  obtain ⟨L, B, A, rfl, h, p⟩ := f
  walk_at "dl"
  refine ⟨_, _, rfl, nc_row B A, leaf_bl ?_⟩
  rw [isR_row h]
  refine if_f ?_
  walk_at "dl"
  exact p
def f_rdr (C : Addr) : FW := fun ds m P => ∃ L N ws nums, ds = [rdr C L N ws nums] ∧ P .non m
theorem ok_check_reader (T : All K mg) : FnOk P w K mg base CX0 1 T.d_check_reader.f T.d_check_reader.fd ["reader"] (spD K (f_rdr T.C_Reader)) := by
  refine T.d_check_reader.F.ok sc_check_reader (fun vs H Q E h => sp_len (by intro ds m P f; first | (obtain ⟨rfl, _⟩ := f; rfl) | (obtain ⟨_, h⟩ := f; first | (obtain ⟨rfl, _⟩ := h; rfl) | (obtain ⟨_, rfl, _⟩ := h; rfl) | (obtain ⟨_, _, rfl, _⟩ := h; rfl) | (obtain ⟨_, _, _, rfl, _⟩ := h; rfl) | (obtain ⟨_, _, _, _, rfl, _⟩ := h; rfl) | (obtain ⟨_, _, _, _, _, rfl, _⟩ := h; rfl) | (obtain ⟨_, _, _, _, _, _, rfl, _⟩ := h; rfl) | (obtain ⟨_, _, _, _, _, _, _, rfl, _⟩ := h; rfl) | (obtain ⟨_, _, _, _, _, _, _, _, rfl, _⟩ := h; rfl) | (obtain ⟨_, _, _, _, _, _, _, _, _, rfl, _⟩ := h; rfl))) h) (fun cdv A outer s H vs Q E hr h => ?_)
  refine ⟨_, (pss_one (ps_if (pt_not (pt_val (pe_callB (show CallR _ (.builtin "isinstance") (rIsi K) from call_isi) (by rfl) T.z_isinstance (by decide +kernel) (pa_cons (pv 0) (pa_cons (pe_glob (v := .ref T.C_Reader) rfl T.g_Reader rfl) pa_nil))))) pss_never pss_nil)), body_of h fun ds m P f => ?_⟩
  try dsimp only [cxOf, Cx.nox, Cx.wish, Cx.blk]
  obtain ⟨L, N, ws, nums, rfl, p⟩ := f
  walk_at "dl"
  refine ⟨_, T.kc_Reader, leaf_bl ?_⟩
  refine if_nt ?_
  walk_at "dl"
  exact p
theorem way4 {L N : Int} {ws : List (List Int)} {n : Nat} (hw : ∀ w ∈ ws, WayOk L N w) (hn : n < ws.length) : ws[n]? = some [at4 ws n 0, at4 ws n 1, at4 ws n 2, at4 ws n 3] := by
  have e : ws[n]? = some ws[n] := List.getElem?_eq_getElem hn
  obtain ⟨a, b, c, s, h, _⟩ := hw ws[n] (List.getElem_mem hn)
  have g : ws.getD n [] = [a, b, c, s] := by rw [List.getD_eq_getElem?_getD, e, h]; rfl
  rw [e, h]
  unfold at4
  rw [g]
  rfl
def opR : Option Int → Dat
  | none => .non
  | some r => .int r
def f_led (C : Addr) : FW := fun ds m P => ∃ L N ws nums r0 d ns, ds = [rdr C L N ws nums, .int r0, d] ∧ (∀ w ∈ ws, WayOk L N w) ∧ Nl ws.length d ns ∧ P (opR (led ws r0 ns)) m
theorem ni_at {ns : List Nat} {i : Nat} {x : Dat} (h : (ni ns)[i]? = some x) : ∃ k, ns[i]? = some k ∧ x = .int (k : Nat) := by
  unfold ni at h
  rw [List.getElem?_map] at h
  obtain ⟨k, h1, h2⟩ := Option.map_eq_some_iff.mp h
  exact ⟨k, h1, h2.symm⟩
theorem drop_at {ns : List Nat} {i k : Nat} (h : ns[i]? = some k) : ns.drop i = k :: ns.drop (i + 1) := by
  obtain ⟨h1, h2⟩ := List.getElem?_eq_some_iff.mp h
  rw [List.drop_eq_getElem_cons h1, h2]
theorem ok__led (T : All K mg) : FnOk P w K mg base CX0 5 T.d__led.f T.d__led.fd ["reader", "room", "numbers"] (spD K (f_led T.C_Reader)) := by
  refine T.d__led.F.ok sc__led (fun vs H Q E h => sp_len (by intro ds m P f; first | (obtain ⟨rfl, _⟩ := f; rfl) | (obtain ⟨_, h⟩ := f; first | (obtain ⟨rfl, _⟩ := h; rfl) | (obtain ⟨_, rfl, _⟩ := h; rfl) | (obtain ⟨_, _, rfl, _⟩ := h; rfl) | (obtain ⟨_, _, _, rfl, _⟩ := h; rfl) | (obtain ⟨_, _, _, _, rfl, _⟩ := h; rfl) | (obtain ⟨_, _, _, _, _, rfl, _⟩ := h; rfl) | (obtain ⟨_, _, _, _, _, _, rfl, _⟩ := h; rfl) | (obtain ⟨_, _, _, _, _, _, _, rfl, _⟩ := h; rfl) | (obtain ⟨_, _, _, _, _, _, _, _, rfl, _⟩ := h; rfl) | (obtain ⟨_, _, _, _, _, _, _, _, _, rfl, _⟩ := h; rfl))) h) (fun cdv A outer s H vs Q E hr h => ?_)
  refine ⟨_, (pss_cons (ps_for PassesOwn.never rfl (pi_seq (pv 2)) (pg_name (i := 3) sc__led.nd rfl (Or.inl rfl)) (pss_cons (ps_asg (pe_meth (pv 0) T.oc_Reader.cls T.m_Reader_way (ok_Reader_way T) (hr.mono (by decide)) T.d_Reader_way.b .nil pass0 (pa_cons (pv 3) pa_nil)) (pg_tup (by rfl) (pgs_cons (pg_name (i := 4) sc__led.nd rfl (Or.inl rfl)) (pgs_cons (pg_name (i := 5) sc__led.nd rfl (Or.inl rfl)) (pgs_cons (pg_name (i := 6) sc__led.nd rfl (Or.inl rfl)) (pgs_cons (pg_name (i := 5) sc__led.nd rfl (Or.inl rfl)) pgs_nil))))))
      (pss_cons (ps_if (pt_cmpR op_ne (pv 4) (pv 1) (nomark _)) (pss_one (ps_ret pe_non)) pss_nil)
      (pss_one (ps_set (i := 1) sc__led.nd rfl (Or.inl rfl) (pv 6))))))
      (pss_one (ps_ret (pv 1)))), body_of h fun ds m P f => ?_⟩
  try dsimp only [cxOf, Cx.nox, Cx.wish, Cx.blk]
  obtain ⟨L, N, ws, nums, r0, d, ns, rfl, hw, hd, p⟩ := f
  walk_at "dl"
  have hs : (startD 7 [rdr T.C_Reader L N ws nums, .int r0, d])[2]? = some (some (.tup (ni ns))) ∨ (startD 7 [rdr T.C_Reader L N ws nums, .int r0, d])[2]? = some (some (.lst (ni ns))) := by
    rcases hd.1 with e | e
    · left; rw [e]; rfl
    · right; rw [e]; rfl
  refine s_forV hs (fun i ρ' m' => m' = m ∧ ∃ r, led ws r0 ns = led ws r (ns.drop i) ∧ ∃ e1 e2 e3 e4, ρ' = [some (rdr T.C_Reader L N ws nums), some (.int r), some d, e1, e2, e3, e4]) ⟨rfl, r0, rfl, _, _, _, _, rfl⟩ ?_ ?_
  · rintro i x ρ' m' hx ⟨rfl, r, hr, e1, e2, e3, e4, rfl⟩
    obtain ⟨k, hk, rfl⟩ := ni_at hx
    have kl := hd.2 k (List.mem_of_getElem? hk)
    walk_at "dl"
    refine ew_meth (ew_var rfl ⟨nmR, _, rfl, by decide, ?_⟩)
    walk_at "dl"
    refine ⟨L, N, ws, nums, k, _, rfl, way4 hw kl, ?_⟩
    refine gw_tup (ds := [.int (at4 ws k 0), .int (at4 ws k 1), .int (at4 ws k 2), .int (at4 ws k 3)]) rfl ?_
    walk_at "dl"
    rw [drop_at hk, led] at hr
    refine if_nd (fun c => ?_) (fun c => ?_)
    · walk_at "dl"
      rw [if_neg c] at hr
      rw [hr] at p
      exact p
    · walk_at "dl"
      rw [if_pos c] at hr
      exact ⟨rfl, _, hr, _, _, _, _, rfl⟩
  · rintro ρ' m' ⟨rfl, r, hr, e1, e2, e3, e4, rfl⟩
    walk_at "dl"
    rw [ni_len, List.drop_length] at hr
    rw [hr] at p
    exact p
theorem ni_mem {ns : List Nat} {x : Dat} (h : x ∈ ni ns) : ∃ k ∈ ns, x = .int (k : Nat) := by
  obtain ⟨k, h1, h2⟩ := List.mem_map.mp h
  exact ⟨k, h1, h2.symm⟩
def igo (g : Nat → Int) : Dat → Dat | .int i => .int (g i.toNat) | _ => .int 0
theorem fm_at {g : Nat → Int} : ∀ ns : List Nat, (ni ns).filterMap (fun d => some (igo g d)) = wi (ns.map g)
  | [] => rfl
  | n :: ns => by
    have h : ni (n :: ns) = Dat.int (n : Nat) :: ni ns := rfl
    rw [h, List.filterMap_cons]
    show _ :: _ = _
    rw [fm_at ns]
    rfl

end
end L56
namespace L56
open PySem PySem.Spec PyProof.Rows L2 DL StX KM RM
section
variable {P : Program} {w : World} {K : PySem.W.Frag} {mg : Str → Option Value} {base : Heap}
/- one rule a construct; what asks for a fact is left -/
local macro_rules | `(tactic| walk_at "dl") => `(tactic| repeat (first
  | ((with_reducible refine' ew_var ?hv ?_); (case hv => exact rfl))
  | with_reducible refine ew_int ?_
  | with_reducible refine ew_bl ?_
  | with_reducible refine ew_non ?_
  | with_reducible refine ew_str ?_
  | with_reducible refine aw_nil ?_
  | with_reducible refine aw_cons ?_
  | with_reducible refine ew_isi ?_
  | with_reducible refine ew_isi2 ?_
  | with_reducible refine ew_isiC ?_
  | with_reducible refine ew_op ?_
  | with_reducible refine ew_un ?_
  | with_reducible refine uw_neg ?_
  | with_reducible refine ew_cb ?_
  | with_reducible refine ew_call ?_
  | with_reducible refine ew_k01 ?_
  | with_reducible refine ew_k02 ?_
  | with_reducible refine ew_k02s ?_
  | with_reducible refine ew_k3t ?_
  | with_reducible refine ew_chain ?_
  | with_reducible refine ew_andV ?_
  | with_reducible refine ew_orV ?_
  | with_reducible refine ew_notV ?_
  | with_reducible refine ew_if ?_
  | with_reducible refine ew_slT ?_
  | with_reducible refine ew_slL ?_
  | with_reducible refine ow_none ?_
  | with_reducible refine ow_some ?_
  | with_reducible refine tw_test ?_
  | with_reducible refine tw_B ?_
  | with_reducible refine tw_and ?_
  | with_reducible refine tw_or ?_
  | with_reducible refine tw_not ?_
  | with_reducible refine tw_tru ?_
  | with_reducible refine s_seq ?_
  | with_reducible refine s_set ?_
  | with_reducible refine s_asg ?_
  | with_reducible refine s_ret ?_
  | with_reducible refine s_retN ?_
  | with_reducible refine s_if ?_
  | with_reducible refine s_drop ?_
  | with_reducible refine s_par ?_
  | with_reducible refine s_par3 ?_
  | with_reducible refine s_next ?_
  | with_reducible refine gw_tup rfl ?_
  | with_reducible refine gs_cons ?_
  | with_reducible refine gs_nil ?_
  | with_reducible refine gw_name ?_
  | with_reducible refine rw_add ?_
  | with_reducible refine rw_sub ?_
  | with_reducible refine rw_lt ?_
  | with_reducible refine rw_le ?_
  | with_reducible refine rw_gt ?_
  | with_reducible refine rw_ge ?_
  | with_reducible refine rw_eqI ?_
  | with_reducible refine rw_neI ?_
  | with_reducible refine rw_eqB ?_
  | with_reducible refine rw_neS ?_
  | with_reducible refine rw_isN ?_
  | with_reducible refine rw_notN ?_
  | with_reducible refine rw_isB ?_
  | with_reducible refine rw_notB ?_
  | ((with_reducible refine' rw_ixT ?hi ?_); (case hi => exact rfl))
  | ((with_reducible refine' rw_ixL ?hi ?_); (case hi => exact rfl))
  | with_reducible refine cw_lenT ?_
  | with_reducible refine cw_lenL ?_
  | with_reducible refine cw_tupL ?_
  | with_reducible refine cw_max2 ?_
  | with_reducible refine cw_abs ?_
  | with_reducible refine cw_int1 ?_
  | with_reducible refine leaf_bl ?_
  | with_reducible refine leaf_int ?_
  | with_reducible refine leaf_tup ?_
  | with_reducible refine leaf_lst ?_
  | with_reducible refine leaf_two ?_
  | with_reducible refine leaf_three ?_
  | with_reducible refine ew_tup ?_
  | with_reducible refine sz0 ?_
  | with_reducible refine sz1 ?_
  | with_reducible refine sz2 ?_
  | with_reducible refine sz3 ?_
  | with_reducible refine sz4 ?_
  | with_reducible refine if_t ?_
  | with_reducible refine if_f ?_
  | with_reducible refine if_nt ?_
  | with_reducible refine if_nf ?_))
/- one rule a construct; what asks for a fact is left -/
local macro_rules | `(tactic| walk_at "de") => `(tactic| repeat (first
  | ((with_reducible refine' ew_var ?hv ?_); (case hv => exact rfl))
  | with_reducible refine ew_int ?_
  | with_reducible refine ew_bl ?_
  | with_reducible refine ew_non ?_
  | with_reducible refine ew_str ?_
  | with_reducible refine aw_nil ?_
  | with_reducible refine aw_cons ?_
  | with_reducible refine ew_isi ?_
  | with_reducible refine ew_isi2 ?_
  | with_reducible refine ew_isiC ?_
  | with_reducible refine ew_op ?_
  | with_reducible refine ew_un ?_
  | with_reducible refine uw_neg ?_
  | with_reducible refine ew_cb ?_
  | with_reducible refine ew_call ?_
  | with_reducible refine ew_k01 ?_
  | with_reducible refine ew_k02 ?_
  | with_reducible refine ew_k02s ?_
  | with_reducible refine ew_k3t ?_
  | with_reducible refine ew_chain ?_
  | with_reducible refine ew_andV ?_
  | with_reducible refine ew_orV ?_
  | with_reducible refine ew_notV ?_
  | with_reducible refine ew_if ?_
  | with_reducible refine ew_slT ?_
  | with_reducible refine ew_slL ?_
  | with_reducible refine ow_none ?_
  | with_reducible refine ow_some ?_
  | with_reducible refine tw_test ?_
  | with_reducible refine tw_B ?_
  | with_reducible refine tw_and ?_
  | with_reducible refine tw_or ?_
  | with_reducible refine tw_not ?_
  | with_reducible refine tw_tru ?_
  | with_reducible refine gw_tup rfl ?_
  | with_reducible refine gs_cons ?_
  | with_reducible refine gs_nil ?_
  | with_reducible refine gw_name ?_
  | with_reducible refine rw_add ?_
  | with_reducible refine rw_sub ?_
  | with_reducible refine rw_lt ?_
  | with_reducible refine rw_le ?_
  | with_reducible refine rw_gt ?_
  | with_reducible refine rw_ge ?_
  | with_reducible refine rw_eqI ?_
  | with_reducible refine rw_neI ?_
  | with_reducible refine rw_eqB ?_
  | with_reducible refine rw_neS ?_
  | with_reducible refine rw_isN ?_
  | with_reducible refine rw_notN ?_
  | with_reducible refine rw_isB ?_
  | with_reducible refine rw_notB ?_
  | ((with_reducible refine' rw_ixT ?hi ?_); (case hi => exact rfl))
  | ((with_reducible refine' rw_ixL ?hi ?_); (case hi => exact rfl))
  | with_reducible refine cw_lenT ?_
  | with_reducible refine cw_lenL ?_
  | with_reducible refine cw_tupL ?_
  | with_reducible refine cw_max2 ?_
  | with_reducible refine cw_abs ?_
  | with_reducible refine cw_int1 ?_
  | with_reducible refine leaf_bl ?_
  | with_reducible refine leaf_int ?_
  | with_reducible refine leaf_tup ?_
  | with_reducible refine leaf_lst ?_
  | with_reducible refine leaf_two ?_
  | with_reducible refine leaf_three ?_
  | with_reducible refine ew_tup ?_
  | with_reducible refine sz0 ?_
  | with_reducible refine sz1 ?_
  | with_reducible refine sz2 ?_
  | with_reducible refine sz3 ?_
  | with_reducible refine sz4 ?_
  | with_reducible refine if_t ?_
  | with_reducible refine if_f ?_
  | with_reducible refine if_nt ?_
  | with_reducible refine if_nf ?_))

/- end of the rules -/
/-! ### told runs, any value -/
def itms : Dat → List Dat | .tup xs => xs | .lst xs => xs | _ => []
theorem isB_int {n : Int} {d : Dat} (h : isB n d = true) : ∃ k : Nat, d = .int (k : Nat) ∧ (k : Int) < n := by
  cases d with
  | int i =>
    simp [isB] at h
    exact ⟨i.toNat, by congr 1; omega, by omega⟩
  | _ => simp [isB] at h
theorem isB_nat {n k : Nat} (h : k < n) : isB (n : Nat) (.int (k : Nat)) = true := by simp [isB]; omega
theorem all_ni {n : Nat} : ∀ {xs : List Dat}, (xs.map fun x => isB (n : Nat) x).all id = true → ∃ ns : List Nat, xs = ni ns ∧ ∀ k ∈ ns, k < n
  | [], _ => ⟨[], rfl, fun k h => by cases h⟩
  | x :: xs, h => by
    simp only [List.map_cons, List.all_cons, id, Bool.and_eq_true] at h
    obtain ⟨k, rfl, hk⟩ := isB_int h.1
    obtain ⟨ns, rfl, hn⟩ := all_ni (xs := xs) h.2
    refine ⟨k :: ns, rfl, fun j hj => ?_⟩
    rcases List.mem_cons.mp hj with e | e
    · subst e; omega
    · exact hn j e
theorem ni_all {n : Nat} {ns : List Nat} (h : ∀ k ∈ ns, k < n) : ((ni ns).map fun x => isB (n : Nat) x).all id = true := by
  rw [List.all_map, List.all_eq_true]
  intro x hx
  obtain ⟨k, hk, rfl⟩ := ni_mem hx
  exact isB_nat (h k hk)
theorem ni_split {ns : List Nat} : ∀ {xs ys : List Dat}, xs ++ ys = ni ns → ∃ a b, xs = ni a ∧ ys = ni b ∧ ns = a ++ b := fun {xs ys} h => by
  have h1 : xs = ni (ns.take xs.length) := by
    have := congrArg (List.take xs.length) h
    rw [List.take_left] at this
    exact this.trans (by unfold ni; rw [List.map_take])
  have h2 : ys = ni (ns.drop xs.length) := by
    have := congrArg (List.drop xs.length) h
    rw [List.drop_left] at this
    exact this.trans (by unfold ni; rw [List.map_drop])
  exact ⟨_, _, h1, h2, (List.take_append_drop _ _).symm⟩
theorem isL_seq {d : Dat} (hn : noCell d = true) (h : isL d = true) : d = .tup (itms d) ∨ d = .lst (itms d) := by
  cases d with
  | tup xs => exact .inl rfl
  | lst xs => exact .inr rfl
  | cell k => simp [noCell] at hn
  | key k => simp [noCell] at hn
  | _ => cases h
theorem nlL {n : Nat} {d : Dat} {ns : List Nat} (h : Nl n d ns) : isL d = true := by rcases h.1 with e | e <;> rw [e] <;> rfl
theorem nlI {n : Nat} {d : Dat} {ns : List Nat} (h : Nl n d ns) : itms d = ni ns := by rcases h.1 with e | e <;> rw [e] <;> rfl
theorem nl_of {n : Nat} {d : Dat} {ns : List Nat} (h : d = .tup (L56.itms d) ∨ d = .lst (L56.itms d)) (e : L56.itms d = ni ns) (hn : ∀ k ∈ ns, k < n) : Nl n d ns := by
  rw [e] at h
  exact ⟨h, hn⟩
theorem fm_below (b : Int) (xs : List Dat) : xs.filterMap (fun x => some (Dat.bl (isB b x))) = (xs.map fun x => isB b x).map Dat.bl := by
  induction xs with
  | nil => rfl
  | cons a l ih => rw [List.filterMap_cons]; simp [ih]
theorem cw_lenS {d : Dat} {μ : Mu} {Q : PD} (h : d = .tup (itms d) ∨ d = .lst (itms d)) (p : Q (.int ((itms d).length : Nat)) μ) : CW K (DL.rLen K) [d] μ Q := by
  rcases h with e | e
  · rw [e]; exact cw_lenT p
  · rw [e]; exact cw_lenL p
def f_told (C : Addr) : FW := fun ds m P => ∃ L N ws nums d, ds = [rdr C L N ws nums, d] ∧ (∀ w ∈ ws, WayOk L N w) ∧ noCell d = true ∧ ∀ b : Bool, (b = true ↔ ToldD ws d) → P (.bl b) m
theorem kill {b : Prop} {A : Prop} (h : ¬ A) : (false = true) ↔ A := ⟨fun z => (Bool.false_ne_true z).elim, fun z => (h z).elim⟩
theorem opR_eq {a b : Option Int} (hb : b ≠ none) : scal (fl (opR a)) (fl (opR b)) = true ∧ (fl (opR a) = fl (opR b) ↔ a = b) := by
  cases b with
  | none => exact absurd rfl hb
  | some y => cases a with
    | none => exact ⟨rfl, by simp [opR, fl]⟩
    | some x => exact ⟨rfl, by simp [opR, fl]⟩
theorem ok_is_told_run (T : All K mg) : FnOk P w K mg base CX0 6 T.d_is_told_run.f T.d_is_told_run.fd ["reader", "value"] (spD K (f_told T.C_Reader)) := by
  refine T.d_is_told_run.F.ok sc_is_told_run (fun vs H Q E h => sp_len (by intro ds m P f; first | (obtain ⟨rfl, _⟩ := f; rfl) | (obtain ⟨_, h⟩ := f; first | (obtain ⟨rfl, _⟩ := h; rfl) | (obtain ⟨_, rfl, _⟩ := h; rfl) | (obtain ⟨_, _, rfl, _⟩ := h; rfl) | (obtain ⟨_, _, _, rfl, _⟩ := h; rfl) | (obtain ⟨_, _, _, _, rfl, _⟩ := h; rfl) | (obtain ⟨_, _, _, _, _, rfl, _⟩ := h; rfl) | (obtain ⟨_, _, _, _, _, _, rfl, _⟩ := h; rfl) | (obtain ⟨_, _, _, _, _, _, _, rfl, _⟩ := h; rfl) | (obtain ⟨_, _, _, _, _, _, _, _, rfl, _⟩ := h; rfl) | (obtain ⟨_, _, _, _, _, _, _, _, _, rfl, _⟩ := h; rfl))) h) (fun cdv A outer s H vs Q E hr h => ?_)
  refine ⟨_, (pss_cons (ps_if (PW.pt (pw_or (pt_not (pt_val (pe_call (ok_is_pair T) (hr.mono (by decide)) rfl T.d_is_pair.g T.d_is_pair.F.kp T.d_is_pair.b .nil pass0 (pa_cons (pv 1) pa_nil)))) (pw_or (pt_not (pt_val (pe_call (ok_is_list T) (hr.mono (by decide)) rfl T.d_is_list.g T.d_is_list.F.kp T.d_is_list.b .nil pass0 (pa_cons (pe_ix (show IxR _ (rIxT K) from ix_tup) (pv 1) pe_int (fun _ _ => rfl)) pa_nil)))) (pw_or1 (pt_not (pt_val (pe_call (ok_is_list T) (hr.mono (by decide)) rfl T.d_is_list.g T.d_is_list.F.kp T.d_is_list.b .nil pass0 (pa_cons (pe_ix (show IxR _ (rIxT K) from ix_tup) (pv 1) pe_int (fun _ _ => rfl)) pa_nil)))))))) (pss_one (ps_ret pe_bl)) pss_nil)
      (pss_cons (ps_asg (pv 1) (pg_tup (by rfl) (pgs_cons (pg_name (i := 2) sc_is_told_run.nd rfl (Or.inl rfl)) (pgs_cons (pg_name (i := 3) sc_is_told_run.nd rfl (Or.inl rfl)) pgs_nil))))
      (pss_cons (ps_if (PW.pt (pw_or (pt_cmpR op_gt (pe_callB (show CallR _ (.builtin "len") (DL.rLen K) from call_lenS) (by rfl) T.z_len (by decide +kernel) (pa_cons (pv 2) pa_nil)) (pe_glob (v := .int 520) rfl T.c_MOST_HEAD.choose_spec.1 T.c_MOST_HEAD.choose_spec.2) (nomark _)) (pw_or1 (pt_not (pt_chain op_le op_le pe_int (pe_callB (show CallR _ (.builtin "len") (DL.rLen K) from call_lenS) (by rfl) T.z_len (by decide +kernel) (pa_cons (pv 3) pa_nil)) (pe_glob (v := .int 480) rfl T.c_MOST_LOOP.choose_spec.1 T.c_MOST_LOOP.choose_spec.2)))))) (pss_one (ps_ret pe_bl)) pss_nil)
      (pss_cons (ps_if (pt_not (pt_val (pe_callB (cr_all rfl) (by rfl) T.z_all (by decide +kernel) (pa_cons (pe_lc (own := [("number", 5)]) (g := gName 5) rfl sc_is_told_run.nd (pi_tup (pe_tup (StX.pa_star (pv 2) (StX.pa_star (pv 3) pa_nil)))) (blkOk_by (N := N_is_told_run) (sc := defScope s_is_told_run) (by decide +kernel)) (fun _ _ _ _ _ => pg_name (i := 5) sc_is_told_run.nd rfl (Or.inl rfl)) (fun _ _ _ _ _ => pts_nil) (fun _ _ _ _ _ => (pe_call (ok_is_below T) (hr.mono (by decide)) rfl T.d_is_below.g T.d_is_below.F.kp T.d_is_below.b .nil pass0 (pa_cons (pv 5) (pa_cons (pe_prop (pv 0) T.oc_Reader.cls T.p_Reader_many (ok_Reader_many T) (hr.mono (by decide)) T.d_Reader_many.b .nil pass0 (by rfl)) pa_nil))))) pa_nil)))) (pss_one (ps_ret pe_bl)) pss_nil)
      (pss_cons (ps_set (i := 4) sc_is_told_run.nd rfl (Or.inl rfl) (pe_call (ok__led T) (hr.mono (by decide)) rfl T.d__led.g T.d__led.F.kp T.d__led.b .nil pass0 (pa_cons (pv 0) (pa_cons pe_int (pa_cons (pv 2) pa_nil)))))
      (pss_one (ps_ret (pe_and (pe_cmpR op_notN' (pv 4) pe_non (nomark _)) (pe_one (pe_cmpR op_eq (pe_call (ok__led T) (hr.mono (by decide)) rfl T.d__led.g T.d__led.F.kp T.d__led.b .nil pass0 (pa_cons (pv 0) (pa_cons (pv 4) (pa_cons (pv 3) pa_nil)))) (pv 4) (nomark _))))))))))), body_of h fun ds m P f => ?_⟩
  try dsimp only [cxOf, Cx.nox, Cx.wish, Cx.blk]
  obtain ⟨L, N, ws, nums, d, rfl, hw, hn, p⟩ := f
  walk_at "dl"
  refine ⟨d, rfl, hn, leaf_bl ?_⟩
  have no : ¬ ToldD ws d → P (.bl false) m := fun h => p false ⟨fun z => (Bool.false_ne_true z).elim, fun z => (h z).elim⟩
  have two : isP d = false → ¬ ToldD ws d := fun z ⟨hs, ls, ⟨h, l, e, _⟩, _⟩ => by rw [e] at z; cases z
  cases hp : isP d with
  | false => exact if_t (if_t (by walk_at "dl"; exact no (two hp)))
  | true =>
    obtain ⟨x, y, rfl⟩ : ∃ x y, d = .tup [x, y] := by
      cases d with
      | tup xs =>
        match xs, hp with
        | [x, y], _ => exact ⟨x, y, rfl⟩
        | [], z => cases z
        | [x], z => cases z
        | x :: y :: z :: r, q =>
          exfalso
          have q' : ((x :: y :: z :: r).length : Int) = 2 := of_decide_eq_true q
          simp only [List.length_cons] at q'
          omega
      | _ => cases hp
    have hx : noCell x = true ∧ noCell y = true := by simpa [noCell, noCells] using hn
    refine if_f ?_
    walk_at "dl"
    refine ⟨x, rfl, hx.1, leaf_bl ?_⟩
    have inj : ∀ {h l : Dat}, Dat.tup [x, y] = .tup [h, l] → x = h ∧ y = l := fun e => by
      injection e with e
      injection e with e1 e2
      injection e2 with e2
      exact ⟨e1, e2⟩
    cases h1 : isL x with
    | false =>
      refine if_t (if_t ?_)
      walk_at "dl"
      refine no fun ⟨hs, ls, ⟨h, l, e, a, b⟩, _⟩ => ?_
      rw [(inj e).1, nlL a] at h1
      cases h1
    | true =>
      refine if_f ?_
      walk_at "dl"
      refine ⟨y, rfl, hx.2, leaf_bl ?_⟩
      cases h2 : isL y with
      | false =>
        refine if_t ?_
        walk_at "dl"
        refine no fun ⟨hs, ls, ⟨h, l, e, a, b⟩, _⟩ => ?_
        rw [(inj e).2, nlL b] at h2
        cases h2
      | true =>
        refine if_f ?_
        have sx := isL_seq hx.1 h1
        have sy := isL_seq hx.2 h2
        walk_at "dl"
        refine cw_lenS sx ?_
        walk_at "dl"
        refine if_d (fun c => ?_) (fun c => ?_)
        · walk_at "dl"
          refine no fun ⟨hs, ls, ⟨h, l, e, a, b⟩, t, _⟩ => ?_
          rw [(inj e).1, nlI a, ni_len] at c
          omega
        · walk_at "dl"
          refine cw_lenS sy ?_
          walk_at "dl"
          by_cases c2 : (1 : Int) ≤ ((itms y).length : Nat)
          case neg =>
            rw [decide_eq_false c2]
            refine if_f ?_
            walk_at "dl"
            refine no fun ⟨hs, ls, ⟨h, l, e, a, b⟩, t⟩ => ?_
            rw [(inj e).2, nlI b, ni_len] at c2
            have := t.2.1
            omega
          rw [decide_eq_true c2]
          refine if_t ?_
          walk_at "dl"
          cases c3 : decide (((itms y).length : Int) ≤ 480) with
          | false =>
            refine if_t ?_
            walk_at "dl"
            refine no fun ⟨hs, ls, ⟨h, l, e, a, b⟩, t⟩ => ?_
            have c3' := of_decide_eq_false c3
            rw [(inj e).2, nlI b, ni_len] at c3'
            have := t.2.2.1
            omega
          | true =>
            have c3' := of_decide_eq_true c3
            refine if_f ?_
            walk_at "dl"
            refine ew_lcT ?_
            walk_at "dl"
            refine aw_star ?_
            walk_at "dl"
            refine ⟨itms x, sx, ?_⟩
            refine aw_star ?_
            walk_at "dl"
            refine ⟨itms y, sy, ?_⟩
            walk_at "dl"
            rw [List.append_nil]
            refine ⟨by rw [List.length_append, sizeLine_eq]; omega, _, rfl, by rw [List.length_append, sizeLine_eq]; omega, fun z => some (.bl (isB (ws.length : Nat) z)), ?_, ?_⟩
            · intro z acc hz
              refine turn_yes rfl ?_
              walk_at "dl"
              refine ew_prop (ew_var rfl ⟨⟨nmR, _, rfl⟩, L, N, ws, nums, rfl, ?_⟩)
              walk_at "dl"
              exact ⟨z, _, rfl, rfl, rfl⟩
            · rw [fm_below]
              walk_at "dl"
              refine cw_all ?_
              refine leaf_bl ?_
              cases c4 : ((itms x ++ itms y).map fun z => isB (ws.length : Nat) z).all id with
              | false =>
                refine if_t ?_
                walk_at "dl"
                refine no fun ⟨hs, ls, ⟨h, l, e, a, b⟩, t⟩ => ?_
                have : ((itms x ++ itms y).map fun z => isB (ws.length : Nat) z).all id = true := by
                  rw [(inj e).1, (inj e).2, nlI a, nlI b, ni_app]
                  exact ni_all fun k hk => (List.mem_append.mp hk).elim (a.2 k) (b.2 k)
                rw [this] at c4
                cases c4
              | true =>
                obtain ⟨ns, e, hlt⟩ := all_ni c4
                obtain ⟨hs, ls, ex, ey, rfl⟩ := ni_split e
                have nx := nl_of sx ex fun k hk => hlt k (List.mem_append_left _ hk)
                have ny := nl_of sy ey fun k hk => hlt k (List.mem_append_right _ hk)
                rw [ex, ni_len] at c
                rw [ey, ni_len] at c2 c3'
                refine if_f ?_
                walk_at "dl"
                refine ⟨L, N, ws, nums, 0, x, hs, rfl, hw, nx, ?_⟩
                have tv : ToldV ws.length (.tup [x, y]) hs ls := ⟨x, y, rfl, nx, ny⟩
                have fin : ∀ b : Bool, (b = true ↔ ∃ h, led ws 0 hs = some h ∧ led ws h ls = some h) → P (.bl b) m := fun b hb => p b (hb.trans ⟨fun z => ⟨hs, ls, tv, by omega, by omega, by omega, z⟩, fun ⟨hs', ls', tv', t⟩ => by
                  obtain ⟨rfl, rfl⟩ := tv.inj tv'
                  exact t.2.2.2⟩)
                cases q : led ws 0 hs with
                | none =>
                  walk_at "dl"
                  refine if_f ?_
                  exact fin false (kill (b := True) fun ⟨h, z, _⟩ => by rw [q] at z; cases z)
                | some r =>
                  walk_at "dl"
                  refine if_t ?_
                  walk_at "dl"
                  refine ⟨L, N, ws, nums, r, y, ls, rfl, hw, ny, ?_⟩
                  walk_at "dl"
                  have oe := opR_eq (a := led ws r ls) (b := some r) (fun z => nomatch z)
                  refine rw_eq oe.1 ?_
                  refine fin _ ?_
                  rw [decide_eq_true_iff]
                  refine oe.2.trans ⟨fun z => ⟨r, q, z⟩, fun ⟨h, z1, z2⟩ => ?_⟩
                  rw [q] at z1
                  cases z1
                  exact z2
end
end L56
namespace L56
open PySem PySem.Spec PyProof.Rows L2 DL StX KM RM
section
variable {P : Program} {w : World} {K : PySem.W.Frag} {mg : Str → Option Value} {base : Heap}
/- one rule a construct; what asks for a fact is left -/
local macro_rules | `(tactic| walk_at "dl") => `(tactic| repeat (first
  | ((with_reducible refine' ew_var ?hv ?_); (case hv => exact rfl))
  | with_reducible refine ew_int ?_
  | with_reducible refine ew_bl ?_
  | with_reducible refine ew_non ?_
  | with_reducible refine ew_str ?_
  | with_reducible refine aw_nil ?_
  | with_reducible refine aw_cons ?_
  | with_reducible refine ew_isi ?_
  | with_reducible refine ew_isi2 ?_
  | with_reducible refine ew_isiC ?_
  | with_reducible refine ew_op ?_
  | with_reducible refine ew_un ?_
  | with_reducible refine uw_neg ?_
  | with_reducible refine ew_cb ?_
  | with_reducible refine ew_call ?_
  | with_reducible refine ew_k01 ?_
  | with_reducible refine ew_k02 ?_
  | with_reducible refine ew_k02s ?_
  | with_reducible refine ew_k3t ?_
  | with_reducible refine ew_chain ?_
  | with_reducible refine ew_andV ?_
  | with_reducible refine ew_orV ?_
  | with_reducible refine ew_notV ?_
  | with_reducible refine ew_if ?_
  | with_reducible refine ew_slT ?_
  | with_reducible refine ew_slL ?_
  | with_reducible refine ow_none ?_
  | with_reducible refine ow_some ?_
  | with_reducible refine tw_test ?_
  | with_reducible refine tw_B ?_
  | with_reducible refine tw_and ?_
  | with_reducible refine tw_or ?_
  | with_reducible refine tw_not ?_
  | with_reducible refine tw_tru ?_
  | with_reducible refine s_seq ?_
  | with_reducible refine s_set ?_
  | with_reducible refine s_asg ?_
  | with_reducible refine s_ret ?_
  | with_reducible refine s_retN ?_
  | with_reducible refine s_if ?_
  | with_reducible refine s_drop ?_
  | with_reducible refine s_par ?_
  | with_reducible refine s_par3 ?_
  | with_reducible refine s_next ?_
  | with_reducible refine gw_tup rfl ?_
  | with_reducible refine gs_cons ?_
  | with_reducible refine gs_nil ?_
  | with_reducible refine gw_name ?_
  | with_reducible refine rw_add ?_
  | with_reducible refine rw_sub ?_
  | with_reducible refine rw_lt ?_
  | with_reducible refine rw_le ?_
  | with_reducible refine rw_gt ?_
  | with_reducible refine rw_ge ?_
  | with_reducible refine rw_eqI ?_
  | with_reducible refine rw_neI ?_
  | with_reducible refine rw_eqB ?_
  | with_reducible refine rw_neS ?_
  | with_reducible refine rw_isN ?_
  | with_reducible refine rw_notN ?_
  | with_reducible refine rw_isB ?_
  | with_reducible refine rw_notB ?_
  | ((with_reducible refine' rw_ixT ?hi ?_); (case hi => exact rfl))
  | ((with_reducible refine' rw_ixL ?hi ?_); (case hi => exact rfl))
  | with_reducible refine cw_lenT ?_
  | with_reducible refine cw_lenL ?_
  | with_reducible refine cw_tupL ?_
  | with_reducible refine cw_max2 ?_
  | with_reducible refine cw_abs ?_
  | with_reducible refine cw_int1 ?_
  | with_reducible refine leaf_bl ?_
  | with_reducible refine leaf_int ?_
  | with_reducible refine leaf_tup ?_
  | with_reducible refine leaf_lst ?_
  | with_reducible refine leaf_two ?_
  | with_reducible refine leaf_three ?_
  | with_reducible refine ew_tup ?_
  | with_reducible refine sz0 ?_
  | with_reducible refine sz1 ?_
  | with_reducible refine sz2 ?_
  | with_reducible refine sz3 ?_
  | with_reducible refine sz4 ?_
  | with_reducible refine if_t ?_
  | with_reducible refine if_f ?_
  | with_reducible refine if_nt ?_
  | with_reducible refine if_nf ?_))
/- one rule a construct; what asks for a fact is left -/
local macro_rules | `(tactic| walk_at "de") => `(tactic| repeat (first
  | ((with_reducible refine' ew_var ?hv ?_); (case hv => exact rfl))
  | with_reducible refine ew_int ?_
  | with_reducible refine ew_bl ?_
  | with_reducible refine ew_non ?_
  | with_reducible refine ew_str ?_
  | with_reducible refine aw_nil ?_
  | with_reducible refine aw_cons ?_
  | with_reducible refine ew_isi ?_
  | with_reducible refine ew_isi2 ?_
  | with_reducible refine ew_isiC ?_
  | with_reducible refine ew_op ?_
  | with_reducible refine ew_un ?_
  | with_reducible refine uw_neg ?_
  | with_reducible refine ew_cb ?_
  | with_reducible refine ew_call ?_
  | with_reducible refine ew_k01 ?_
  | with_reducible refine ew_k02 ?_
  | with_reducible refine ew_k02s ?_
  | with_reducible refine ew_k3t ?_
  | with_reducible refine ew_chain ?_
  | with_reducible refine ew_andV ?_
  | with_reducible refine ew_orV ?_
  | with_reducible refine ew_notV ?_
  | with_reducible refine ew_if ?_
  | with_reducible refine ew_slT ?_
  | with_reducible refine ew_slL ?_
  | with_reducible refine ow_none ?_
  | with_reducible refine ow_some ?_
  | with_reducible refine tw_test ?_
  | with_reducible refine tw_B ?_
  | with_reducible refine tw_and ?_
  | with_reducible refine tw_or ?_
  | with_reducible refine tw_not ?_
  | with_reducible refine tw_tru ?_
  | with_reducible refine gw_tup rfl ?_
  | with_reducible refine gs_cons ?_
  | with_reducible refine gs_nil ?_
  | with_reducible refine gw_name ?_
  | with_reducible refine rw_add ?_
  | with_reducible refine rw_sub ?_
  | with_reducible refine rw_lt ?_
  | with_reducible refine rw_le ?_
  | with_reducible refine rw_gt ?_
  | with_reducible refine rw_ge ?_
  | with_reducible refine rw_eqI ?_
  | with_reducible refine rw_neI ?_
  | with_reducible refine rw_eqB ?_
  | with_reducible refine rw_neS ?_
  | with_reducible refine rw_isN ?_
  | with_reducible refine rw_notN ?_
  | with_reducible refine rw_isB ?_
  | with_reducible refine rw_notB ?_
  | ((with_reducible refine' rw_ixT ?hi ?_); (case hi => exact rfl))
  | ((with_reducible refine' rw_ixL ?hi ?_); (case hi => exact rfl))
  | with_reducible refine cw_lenT ?_
  | with_reducible refine cw_lenL ?_
  | with_reducible refine cw_tupL ?_
  | with_reducible refine cw_max2 ?_
  | with_reducible refine cw_abs ?_
  | with_reducible refine cw_int1 ?_
  | with_reducible refine leaf_bl ?_
  | with_reducible refine leaf_int ?_
  | with_reducible refine leaf_tup ?_
  | with_reducible refine leaf_lst ?_
  | with_reducible refine leaf_two ?_
  | with_reducible refine leaf_three ?_
  | with_reducible refine ew_tup ?_
  | with_reducible refine sz0 ?_
  | with_reducible refine sz1 ?_
  | with_reducible refine sz2 ?_
  | with_reducible refine sz3 ?_
  | with_reducible refine sz4 ?_
  | with_reducible refine if_t ?_
  | with_reducible refine if_f ?_
  | with_reducible refine if_nt ?_
  | with_reducible refine if_nf ?_))

/- end of the rules -/
/-! ### runs along rows, slips -/
def f_is_run (C : Addr) : FW := fun ds m P => ∃ L N ws nums B A d, ds = [rdr C L N ws nums, rw_ B A, d] ∧ (∀ w ∈ ws, WayOk L N w) ∧ Ok L B A ∧ noCell d = true ∧ ∀ b : Bool, (b = true ↔ RunD ws B A d) → P (.bl b) m
theorem ok_is_run (T : All K mg) : FnOk P w K mg base CX0 7 T.d_is_run.f T.d_is_run.fd ["reader", "row", "value"] (spD K (f_is_run T.C_Reader)) := by
  refine T.d_is_run.F.ok sc_is_run (fun vs H Q E h => sp_len (by intro ds m P f; first | (obtain ⟨rfl, _⟩ := f; rfl) | (obtain ⟨_, h⟩ := f; first | (obtain ⟨rfl, _⟩ := h; rfl) | (obtain ⟨_, rfl, _⟩ := h; rfl) | (obtain ⟨_, _, rfl, _⟩ := h; rfl) | (obtain ⟨_, _, _, rfl, _⟩ := h; rfl) | (obtain ⟨_, _, _, _, rfl, _⟩ := h; rfl) | (obtain ⟨_, _, _, _, _, rfl, _⟩ := h; rfl) | (obtain ⟨_, _, _, _, _, _, rfl, _⟩ := h; rfl) | (obtain ⟨_, _, _, _, _, _, _, rfl, _⟩ := h; rfl) | (obtain ⟨_, _, _, _, _, _, _, _, rfl, _⟩ := h; rfl) | (obtain ⟨_, _, _, _, _, _, _, _, _, rfl, _⟩ := h; rfl))) h) (fun cdv A outer s H vs Q E hr h => ?_)
  refine ⟨_, (pss_cons (ps_expr (pe_call (ok_check_reader T) (hr.mono (by decide)) rfl T.d_check_reader.g T.d_check_reader.F.kp T.d_check_reader.b .nil pass0 (pa_cons (pv 0) pa_nil)))
      (pss_cons (ps_expr (pe_call (ok_check_row T) (hr.mono (by decide)) rfl T.d_check_row.g T.d_check_row.F.kp T.d_check_row.b .nil pass0 (pa_cons (pe_prop (pv 0) T.oc_Reader.cls T.p_Reader_letters (ok_Reader_letters T) (hr.mono (by decide)) T.d_Reader_letters.b .nil pass0 (by rfl)) (pa_cons (pv 1) pa_nil))))
      (pss_cons (ps_if (pt_not (pt_val (pe_call (ok_is_told_run T) (hr.mono (by decide)) rfl T.d_is_told_run.g T.d_is_told_run.F.kp T.d_is_told_run.b .nil pass0 (pa_cons (pv 0) (pa_cons (pv 2) pa_nil))))) (pss_one (ps_ret pe_bl)) pss_nil)
      (pss_cons (ps_asg (pv 1) (pg_tup (by rfl) (pgs_cons (pg_name (i := 3) sc_is_run.nd rfl (Or.inl rfl)) (pgs_cons (pg_name (i := 4) sc_is_run.nd rfl (Or.inl rfl)) pgs_nil))))
      (pss_cons (ps_asg (pv 2) (pg_tup (by rfl) (pgs_cons (pg_name (i := 5) sc_is_run.nd rfl (Or.inl rfl)) (pgs_cons (pg_name (i := 6) sc_is_run.nd rfl (Or.inl rfl)) pgs_nil))))
      (pss_cons (ps_set (i := 7) sc_is_run.nd rfl (Or.inl rfl) (pe_op op_sub (pe_callB (show CallR _ (.builtin "len") (DL.rLen K) from call_lenS) (by rfl) T.z_len (by decide +kernel) (pa_cons (pv 5) pa_nil)) (pe_callB (show CallR _ (.builtin "len") (DL.rLen K) from call_lenS) (by rfl) T.z_len (by decide +kernel) (pa_cons (pv 3) pa_nil))))
      (pss_cons (ps_if (PW.pt (pw_or (pt_cmpR op_lt (pv 7) pe_int (nomark _)) (pw_or (pt_cmpR op_gt (pe_op op_mod (pv 7) (pe_callB (show CallR _ (.builtin "len") (DL.rLen K) from call_lenS) (by rfl) T.z_len (by decide +kernel) (pa_cons (pv 4) pa_nil))) pe_int (nomark _)) (pw_or1 (pt_cmpR op_gt (pe_op op_mod (pe_callB (show CallR _ (.builtin "len") (DL.rLen K) from call_lenS) (by rfl) T.z_len (by decide +kernel) (pa_cons (pv 6) pa_nil)) (pe_callB (show CallR _ (.builtin "len") (DL.rLen K) from call_lenS) (by rfl) T.z_len (by decide +kernel) (pa_cons (pv 4) pa_nil))) pe_int (nomark _)))))) (pss_one (ps_ret pe_bl)) pss_nil)
      (pss_cons (ps_setLc (i := 8) (own := [("number", 10)]) (g := gName 10) rfl sc_is_run.nd rfl rfl (sw_true rfl rfl rfl rfl) (pi_tup (pe_tup (StX.pa_star (pv 5) (StX.pa_star (pv 6) pa_nil)))) (blkOk_by (N := N_is_run) (sc := defScope s_is_run) (by decide +kernel)) (fun _ _ _ _ _ => pg_name (i := 10) sc_is_run.nd rfl (Or.inl rfl)) (fun _ _ _ _ _ => pts_nil) (fun _ _ _ _ _ => (pe_ix (show IxR _ (rIxT K) from ix_tup) (pe_meth (pv 0) T.oc_Reader.cls T.m_Reader_way (ok_Reader_way T) (hr.mono (by decide)) T.d_Reader_way.b .nil pass0 (pa_cons (pv 10) pa_nil)) pe_int (fun _ _ => rfl))))
      (pss_cons (ps_set (i := 9) sc_is_run.nd rfl (Or.inl rfl) (pe_op op_fdiv (pe_op op_add (pv 7) (pe_callB (show CallR _ (.builtin "len") (DL.rLen K) from call_lenS) (by rfl) T.z_len (by decide +kernel) (pa_cons (pv 6) pa_nil))) (pe_callB (show CallR _ (.builtin "len") (DL.rLen K) from call_lenS) (by rfl) T.z_len (by decide +kernel) (pa_cons (pv 4) pa_nil))))
      (pss_one (ps_ret (pe_cmpR (op_eqD hr.units) (pv 8) (pe_callTy call_listOf (by rfl) T.z_list (by decide +kernel) (pa_cons (pe_op op_catA (pv 3) (pe_op op_repA (pv 4) (pv 9))) pa_nil)) (nomark _))))))))))))), body_of h fun ds m P f => ?_⟩
  try dsimp only [cxOf, Cx.nox, Cx.wish, Cx.blk]
  obtain ⟨L, N, ws, nums, B, A, d, rfl, hw, ok, hn, p⟩ := f
  have pos : 0 < A.length := List.length_pos_iff.mpr ok.ne
  have lB := ok.lb
  have lA := ok.la
  walk_at "dl"
  refine ⟨L, N, ws, nums, rfl, ?_⟩
  walk_at "dl"
  refine ew_prop (ew_var rfl ⟨⟨nmR, _, rfl⟩, L, N, ws, nums, rfl, ?_⟩)
  walk_at "dl"
  refine ⟨L, B, A, rfl, ok, ?_⟩
  walk_at "dl"
  refine ⟨L, N, ws, nums, d, rfl, hw, hn, fun b hb => ?_⟩
  have no : ¬ RunD ws B A d → P (.bl false) m := fun h => p false ⟨fun z => (Bool.false_ne_true z).elim, fun z => (h z).elim⟩
  walk_at "dl"
  cases b with
  | false =>
    refine if_t ?_
    walk_at "dl"
    refine no fun ⟨hs, ls, tv, t, _⟩ => ?_
    exact Bool.false_ne_true (hb.mpr ⟨hs, ls, tv, t⟩)
  | true =>
    obtain ⟨hs, ls, tv, t⟩ := hb.mp rfl
    obtain ⟨h, l, rfl, nh, nl⟩ := tv
    have tv : ToldV ws.length (.tup [h, l]) hs ls := ⟨h, l, rfl, nh, nl⟩
    have fin : ∀ b : Bool, (b = true ↔ Along ws B A hs ls) → P (.bl b) m := fun b hb => p b (hb.trans ⟨fun z => ⟨hs, ls, tv, t, z⟩, fun ⟨hs', ls', tv', _, z⟩ => by
      obtain ⟨rfl, rfl⟩ := tv.inj tv'
      exact z⟩)
    have l1 := t.1
    have l2 := t.2.1
    have l3 := t.2.2.1
    have sh : h = .tup (itms h) ∨ h = .lst (itms h) := by rw [nlI nh]; exact nh.1
    have sl : l = .tup (itms l) ∨ l = .lst (itms l) := by rw [nlI nl]; exact nl.1
    refine if_f ?_
    walk_at "dl"
    refine cw_lenS sh ?_
    walk_at "dl"
    rw [nlI nh, ni_len, wi_len]
    by_cases c : (hs.length : Int) - (B.length : Int) < 0
    · rw [decide_eq_true c]
      refine if_t (if_t ?_)
      walk_at "dl"
      exact fin false (kill (b := True) fun z => by have := z.1; omega)
    rw [decide_eq_false c]
    refine if_f ?_
    walk_at "dl"
    rw [wi_len]
    refine rw_mod (by omega) ?_
    walk_at "dl"
    have ec : (hs.length : Int) - (B.length : Int) = ((hs.length - B.length : Nat) : Int) := by omega
    rw [ec, emod_nat _ A.length _ rfl]
    by_cases c2 : (0 : Int) < ((hs.length - B.length) % A.length : Nat)
    · rw [decide_eq_true c2]
      refine if_t (if_t ?_)
      walk_at "dl"
      exact fin false (kill (b := True) fun z => by have := z.2.1; omega)
    rw [decide_eq_false c2]
    refine if_f ?_
    walk_at "dl"
    refine cw_lenS sl ?_
    walk_at "dl"
    rw [nlI nl, ni_len, wi_len]
    refine rw_mod (by omega) ?_
    walk_at "dl"
    rw [emod_nat _ A.length _ rfl]
    by_cases c3 : (0 : Int) < (ls.length % A.length : Nat)
    · rw [decide_eq_true c3]
      refine if_t ?_
      walk_at "dl"
      exact fin false (kill (b := True) fun z => by have := z.2.2.1; omega)
    rw [decide_eq_false c3]
    refine if_f ?_
    walk_at "dl"
    refine ew_lcT ?_
    walk_at "dl"
    refine aw_star ?_
    walk_at "dl"
    refine ⟨itms h, sh, ?_⟩
    refine aw_star ?_
    walk_at "dl"
    refine ⟨itms l, sl, ?_⟩
    walk_at "dl"
    rw [List.append_nil, nlI nh, nlI nl, ni_app]
    have la : (hs ++ ls).length = hs.length + ls.length := List.length_append
    refine ⟨by rw [ni_len, la, sizeLine_eq]; omega, _, rfl, by rw [ni_len, la, sizeLine_eq]; omega, fun d => some (igo (fun n => at4 ws n 1) d), ?_, ?_⟩
    · intro x acc hx
      obtain ⟨k, hk, rfl⟩ := ni_mem hx
      have hkl : k < ws.length := (List.mem_append.mp hk).elim (nh.2 k) (nl.2 k)
      refine turn_yes rfl ?_
      walk_at "dl"
      refine ew_meth (ew_var rfl ⟨nmR, _, rfl, by decide, ?_⟩)
      walk_at "dl"
      refine ⟨L, N, ws, nums, k, _, rfl, way4 hw hkl, ?_⟩
      walk_at "dl"
      exact ⟨rfl, rfl⟩
    · rw [fm_at (g := fun n => at4 ws n 1)]
      walk_at "dl"
      refine cw_lenS sl ?_
      walk_at "dl"
      rw [nlI nl, ni_len, wi_len]
      refine rw_fdiv ⟨by omega, by omega⟩ ?_
      have e5 : ((hs.length - B.length : Nat) : Int) + (ls.length : Int) = ((hs.length - B.length + ls.length : Nat) : Int) := by omega
      rw [e5, ediv_nat _ A.length _ rfl]
      have dv : (hs.length - B.length + ls.length) / A.length * A.length = hs.length - B.length + ls.length := by
        have h0 : (hs.length - B.length) % A.length = 0 := by omega
        have h1 : ls.length % A.length = 0 := by omega
        have : (hs.length - B.length + ls.length) % A.length = 0 := by rw [Nat.add_mod, h0, h1]; simp
        exact Nat.div_mul_cancel (Nat.dvd_of_mod_eq_zero this)
      have q1 : 1 ≤ (hs.length - B.length + ls.length) / A.length := by
        rcases Nat.eq_zero_or_pos ((hs.length - B.length + ls.length) / A.length) with z | z
        · rw [z] at dv; omega
        · exact z
      have q2 : (hs.length - B.length + ls.length) / A.length ≤ 1000 := Nat.le_trans (Nat.div_le_self _ _) (by omega)
      have al := along_iff (ws := ws) (B := B) (A := A) (hs := hs) (ls := ls) ok.ne (by omega) (by omega) (by omega)
      generalize (hs.length - B.length + ls.length) / A.length = k at dv q1 q2 al ⊢
      walk_at "dl"
      refine rw_rep (wi_ne ok.ne) (by omega) (by omega) (by rw [wi_len]; omega) ?_
      rw [wi_rep, Int.toNat_natCast]
      have kl : k * A.length ≤ 1000 := by omega
      refine rw_cat (by rw [wi_len, wi_len, rep_len, sizeLine_eq]; omega) ?_
      rw [wi_app]
      walk_at "dl"
      refine cw_listT ?_
      refine rw_eqD (shp_li _) (shp_li _) ?_
      rw [eqD_li]
      refine fin _ ?_
      rw [decide_eq_true_iff]
      refine al.trans ⟨fun z => ⟨by omega, by omega, by omega, z⟩, fun z => z.2.2.2⟩
end
end L56
namespace L56
open PySem PySem.Spec PyProof.Rows L2 DL StX KM RM
section
variable {P : Program} {w : World} {K : PySem.W.Frag} {mg : Str → Option Value} {base : Heap}
/- one rule a construct; what asks for a fact is left -/
local macro_rules | `(tactic| walk_at "dl") => `(tactic| repeat (first
  | ((with_reducible refine' ew_var ?hv ?_); (case hv => exact rfl))
  | with_reducible refine ew_int ?_
  | with_reducible refine ew_bl ?_
  | with_reducible refine ew_non ?_
  | with_reducible refine ew_str ?_
  | with_reducible refine aw_nil ?_
  | with_reducible refine aw_cons ?_
  | with_reducible refine ew_isi ?_
  | with_reducible refine ew_isi2 ?_
  | with_reducible refine ew_isiC ?_
  | with_reducible refine ew_op ?_
  | with_reducible refine ew_un ?_
  | with_reducible refine uw_neg ?_
  | with_reducible refine ew_cb ?_
  | with_reducible refine ew_call ?_
  | with_reducible refine ew_k01 ?_
  | with_reducible refine ew_k02 ?_
  | with_reducible refine ew_k02s ?_
  | with_reducible refine ew_k3t ?_
  | with_reducible refine ew_chain ?_
  | with_reducible refine ew_andV ?_
  | with_reducible refine ew_orV ?_
  | with_reducible refine ew_notV ?_
  | with_reducible refine ew_if ?_
  | with_reducible refine ew_slT ?_
  | with_reducible refine ew_slL ?_
  | with_reducible refine ow_none ?_
  | with_reducible refine ow_some ?_
  | with_reducible refine tw_test ?_
  | with_reducible refine tw_B ?_
  | with_reducible refine tw_and ?_
  | with_reducible refine tw_or ?_
  | with_reducible refine tw_not ?_
  | with_reducible refine tw_tru ?_
  | with_reducible refine s_seq ?_
  | with_reducible refine s_set ?_
  | with_reducible refine s_asg ?_
  | with_reducible refine s_ret ?_
  | with_reducible refine s_retN ?_
  | with_reducible refine s_if ?_
  | with_reducible refine s_drop ?_
  | with_reducible refine s_par ?_
  | with_reducible refine s_par3 ?_
  | with_reducible refine s_next ?_
  | with_reducible refine gw_tup rfl ?_
  | with_reducible refine gs_cons ?_
  | with_reducible refine gs_nil ?_
  | with_reducible refine gw_name ?_
  | with_reducible refine rw_add ?_
  | with_reducible refine rw_sub ?_
  | with_reducible refine rw_lt ?_
  | with_reducible refine rw_le ?_
  | with_reducible refine rw_gt ?_
  | with_reducible refine rw_ge ?_
  | with_reducible refine rw_eqI ?_
  | with_reducible refine rw_neI ?_
  | with_reducible refine rw_eqB ?_
  | with_reducible refine rw_neS ?_
  | with_reducible refine rw_isN ?_
  | with_reducible refine rw_notN ?_
  | with_reducible refine rw_isB ?_
  | with_reducible refine rw_notB ?_
  | ((with_reducible refine' rw_ixT ?hi ?_); (case hi => exact rfl))
  | ((with_reducible refine' rw_ixL ?hi ?_); (case hi => exact rfl))
  | with_reducible refine cw_lenT ?_
  | with_reducible refine cw_lenL ?_
  | with_reducible refine cw_tupL ?_
  | with_reducible refine cw_max2 ?_
  | with_reducible refine cw_abs ?_
  | with_reducible refine cw_int1 ?_
  | with_reducible refine leaf_bl ?_
  | with_reducible refine leaf_int ?_
  | with_reducible refine leaf_tup ?_
  | with_reducible refine leaf_lst ?_
  | with_reducible refine leaf_two ?_
  | with_reducible refine leaf_three ?_
  | with_reducible refine ew_tup ?_
  | with_reducible refine sz0 ?_
  | with_reducible refine sz1 ?_
  | with_reducible refine sz2 ?_
  | with_reducible refine sz3 ?_
  | with_reducible refine sz4 ?_
  | with_reducible refine if_t ?_
  | with_reducible refine if_f ?_
  | with_reducible refine if_nt ?_
  | with_reducible refine if_nf ?_))
/- one rule a construct; what asks for a fact is left -/
local macro_rules | `(tactic| walk_at "de") => `(tactic| repeat (first
  | ((with_reducible refine' ew_var ?hv ?_); (case hv => exact rfl))
  | with_reducible refine ew_int ?_
  | with_reducible refine ew_bl ?_
  | with_reducible refine ew_non ?_
  | with_reducible refine ew_str ?_
  | with_reducible refine aw_nil ?_
  | with_reducible refine aw_cons ?_
  | with_reducible refine ew_isi ?_
  | with_reducible refine ew_isi2 ?_
  | with_reducible refine ew_isiC ?_
  | with_reducible refine ew_op ?_
  | with_reducible refine ew_un ?_
  | with_reducible refine uw_neg ?_
  | with_reducible refine ew_cb ?_
  | with_reducible refine ew_call ?_
  | with_reducible refine ew_k01 ?_
  | with_reducible refine ew_k02 ?_
  | with_reducible refine ew_k02s ?_
  | with_reducible refine ew_k3t ?_
  | with_reducible refine ew_chain ?_
  | with_reducible refine ew_andV ?_
  | with_reducible refine ew_orV ?_
  | with_reducible refine ew_notV ?_
  | with_reducible refine ew_if ?_
  | with_reducible refine ew_slT ?_
  | with_reducible refine ew_slL ?_
  | with_reducible refine ow_none ?_
  | with_reducible refine ow_some ?_
  | with_reducible refine tw_test ?_
  | with_reducible refine tw_B ?_
  | with_reducible refine tw_and ?_
  | with_reducible refine tw_or ?_
  | with_reducible refine tw_not ?_
  | with_reducible refine tw_tru ?_
  | with_reducible refine gw_tup rfl ?_
  | with_reducible refine gs_cons ?_
  | with_reducible refine gs_nil ?_
  | with_reducible refine gw_name ?_
  | with_reducible refine rw_add ?_
  | with_reducible refine rw_sub ?_
  | with_reducible refine rw_lt ?_
  | with_reducible refine rw_le ?_
  | with_reducible refine rw_gt ?_
  | with_reducible refine rw_ge ?_
  | with_reducible refine rw_eqI ?_
  | with_reducible refine rw_neI ?_
  | with_reducible refine rw_eqB ?_
  | with_reducible refine rw_neS ?_
  | with_reducible refine rw_isN ?_
  | with_reducible refine rw_notN ?_
  | with_reducible refine rw_isB ?_
  | with_reducible refine rw_notB ?_
  | ((with_reducible refine' rw_ixT ?hi ?_); (case hi => exact rfl))
  | ((with_reducible refine' rw_ixL ?hi ?_); (case hi => exact rfl))
  | with_reducible refine cw_lenT ?_
  | with_reducible refine cw_lenL ?_
  | with_reducible refine cw_tupL ?_
  | with_reducible refine cw_max2 ?_
  | with_reducible refine cw_abs ?_
  | with_reducible refine cw_int1 ?_
  | with_reducible refine leaf_bl ?_
  | with_reducible refine leaf_int ?_
  | with_reducible refine leaf_tup ?_
  | with_reducible refine leaf_lst ?_
  | with_reducible refine leaf_two ?_
  | with_reducible refine leaf_three ?_
  | with_reducible refine ew_tup ?_
  | with_reducible refine sz0 ?_
  | with_reducible refine sz1 ?_
  | with_reducible refine sz2 ?_
  | with_reducible refine sz3 ?_
  | with_reducible refine sz4 ?_
  | with_reducible refine if_t ?_
  | with_reducible refine if_f ?_
  | with_reducible refine if_nt ?_
  | with_reducible refine if_nf ?_))

/- end of the rules -/
/-! ### tables -/
theorem u65 {k : Nat} {A : Around} (r : Room k A) : A.units + 65 < cLine := by have := r.un; omega
def ItemOk (ws : List (List Int)) (mems room letter : Int) (x : Dat) : Prop := ∃ (k : Nat) (j : Int), x = .tup [.int (k : Nat), .int j] ∧ k < ws.length ∧ (0 ≤ j ∧ j < mems) ∧ at4 ws k 0 = room ∧ at4 ws k 1 = letter
def RoomOk (ws : List (List Int)) (L mems room : Int) (x : Dat) : Prop := isL x = true ∧ ((itms x).length : Int) = L ∧ ∀ (i : Nat) (y : Dat), (itms x)[i]? = some y → ItemOk ws mems room (i : Nat) y
def MemOk (ws : List (List Int)) (L N mems : Int) (x : Dat) : Prop := isL x = true ∧ ((itms x).length : Int) = N ∧ ∀ (i : Nat) (y : Dat), (itms x)[i]? = some y → RoomOk ws L mems (i : Nat) y
def TabOk (ws : List (List Int)) (L N : Int) (x : Dat) : Prop := isL x = true ∧ (1 ≤ ((itms x).length : Int) ∧ ((itms x).length : Int) ≤ 60) ∧ ∀ (i : Nat) (y : Dat), (itms x)[i]? = some y → MemOk ws L N ((itms x).length : Nat) y
theorem nc_items {d : Dat} (h : noCell d = true) : ∀ y ∈ itms d, noCell y = true := fun y hy => by
  cases d with
  | tup xs => rw [noCell] at h; exact noCells_iff.mp h y hy
  | lst xs => rw [noCell] at h; exact noCells_iff.mp h y hy
  | _ => exact absurd hy List.not_mem_nil
theorem nc_item {d : Dat} {i : Nat} {y : Dat} (h : noCell d = true) (hy : (itms d)[i]? = some y) : noCell y = true := nc_items h y (List.mem_of_getElem? hy)
theorem isP_two {d : Dat} (h : isP d = true) : ∃ x y, d = .tup [x, y] := by
  cases d with
  | tup xs =>
    match xs, h with
    | [x, y], _ => exact ⟨x, y, rfl⟩
    | [], z => cases z
    | [x], z => cases z
    | x :: y :: z :: r, q =>
      exfalso
      have q' : ((x :: y :: z :: r).length : Int) = 2 := of_decide_eq_true q
      simp only [List.length_cons] at q'
      omega
  | _ => cases h
def f_is_room (C : Addr) : FW := fun ds m P => ∃ L N ws nums mems room d, ds = [rdr C L N ws nums, .int mems, .int room, d] ∧ (∀ w ∈ ws, WayOk L N w) ∧ noCell d = true ∧ ∀ b : Bool, (b = true ↔ RoomOk ws L mems room d) → P (.bl b) m
theorem two_at {ws : List (List Int)} {L N : Int} {k : Nat} (hw : ∀ w ∈ ws, WayOk L N w) (hk : k < ws.length) : cut (wi [at4 ws k 0, at4 ws k 1, at4 ws k 2, at4 ws k 3]) none (some 2) = wi [at4 ws k 0, at4 ws k 1] := by
  rw [cut_to (by omega)]
  rfl
theorem ok__is_room (T : All K mg) : FnOk P w K mg base CX0 5 T.d__is_room.f T.d__is_room.fd ["reader", "memories", "room", "value"] (spD K (f_is_room T.C_Reader)) := by
  refine T.d__is_room.F.ok sc__is_room (fun vs H Q E h => sp_len (by intro ds m P f; first | (obtain ⟨rfl, _⟩ := f; rfl) | (obtain ⟨_, h⟩ := f; first | (obtain ⟨rfl, _⟩ := h; rfl) | (obtain ⟨_, rfl, _⟩ := h; rfl) | (obtain ⟨_, _, rfl, _⟩ := h; rfl) | (obtain ⟨_, _, _, rfl, _⟩ := h; rfl) | (obtain ⟨_, _, _, _, rfl, _⟩ := h; rfl) | (obtain ⟨_, _, _, _, _, rfl, _⟩ := h; rfl) | (obtain ⟨_, _, _, _, _, _, rfl, _⟩ := h; rfl) | (obtain ⟨_, _, _, _, _, _, _, rfl, _⟩ := h; rfl) | (obtain ⟨_, _, _, _, _, _, _, _, rfl, _⟩ := h; rfl) | (obtain ⟨_, _, _, _, _, _, _, _, _, rfl, _⟩ := h; rfl))) h) (fun cdv A outer s H vs Q E hr h => ?_)
  refine ⟨_, (pss_cons (ps_if (PW.pt (pw_or (pt_not (pt_val (pe_call (ok_is_list T) (hr.mono (by decide)) rfl T.d_is_list.g T.d_is_list.F.kp T.d_is_list.b .nil pass0 (pa_cons (pv 3) pa_nil)))) (pw_or1 (pt_cmpR op_ne (pe_callB (show CallR _ (.builtin "len") (DL.rLen K) from call_lenS) (by rfl) T.z_len (by decide +kernel) (pa_cons (pv 3) pa_nil)) (pe_prop (pv 0) T.oc_Reader.cls T.p_Reader_letters (ok_Reader_letters T) (hr.mono (by decide)) T.d_Reader_letters.b .nil pass0 (by rfl)) (nomark _))))) (pss_one (ps_ret pe_bl)) pss_nil)
      (pss_cons (ps_for PassesOwn.never rfl (pi_enumA (by rfl) T.z_enumerate (pa_cons (pv 3) pa_nil)) (pg_tup (by rfl) (pgs_cons (pg_name (i := 4) sc__is_room.nd rfl (Or.inl rfl)) (pgs_cons (pg_name (i := 5) sc__is_room.nd rfl (Or.inl rfl)) pgs_nil))) (pss_cons (ps_if (PW.pt (pw_or (pt_not (pt_val (pe_call (ok_is_pair T) (hr.mono (by decide)) rfl T.d_is_pair.g T.d_is_pair.F.kp T.d_is_pair.b .nil pass0 (pa_cons (pv 5) pa_nil)))) (pw_or (pt_not (pt_val (pe_call (ok_is_below T) (hr.mono (by decide)) rfl T.d_is_below.g T.d_is_below.F.kp T.d_is_below.b .nil pass0 (pa_cons (pe_ix (show IxR _ (rIxT K) from ix_tup) (pv 5) pe_int (fun _ _ => rfl)) (pa_cons (pe_prop (pv 0) T.oc_Reader.cls T.p_Reader_many (ok_Reader_many T) (hr.mono (by decide)) T.d_Reader_many.b .nil pass0 (by rfl)) pa_nil))))) (pw_or1 (pt_not (pt_val (pe_call (ok_is_below T) (hr.mono (by decide)) rfl T.d_is_below.g T.d_is_below.F.kp T.d_is_below.b .nil pass0 (pa_cons (pe_ix (show IxR _ (rIxT K) from ix_tup) (pv 5) pe_int (fun _ _ => rfl)) (pa_cons (pv 1) pa_nil))))))))) (pss_one (ps_ret pe_bl)) pss_nil)
      (pss_one (ps_if (pt_cmpR (op_neD hr.units) (pe_slice (show SlR _ (rSlA K) from sl_tupA) (pe_meth (pv 0) T.oc_Reader.cls T.m_Reader_way (ok_Reader_way T) (hr.mono (by decide)) T.d_Reader_way.b .nil pass0 (pa_cons (pe_ix (show IxR _ (rIxT K) from ix_tup) (pv 5) pe_int (fun _ _ => rfl)) pa_nil)) po_none (po_some pe_int)) (pe_tup (pa_cons (pv 2) (pa_cons (pv 4) pa_nil))) (nomark _)) (pss_one (ps_ret pe_bl)) pss_nil))))
      (pss_one (ps_ret pe_bl)))), body_of h fun ds m P f => ?_⟩
  try dsimp only [cxOf, Cx.nox, Cx.wish, Cx.blk]
  obtain ⟨L, N, ws, nums, mems, room, d, rfl, hw, hn, p⟩ := f
  have no : ¬ RoomOk ws L mems room d → P (.bl false) m := fun h => p false ⟨fun z => (Bool.false_ne_true z).elim, fun z => (h z).elim⟩
  walk_at "dl"
  refine ⟨d, rfl, hn, leaf_bl ?_⟩
  cases h1 : isL d with
  | false =>
    refine if_t (if_t ?_)
    walk_at "dl"
    exact no fun z => by rw [z.1] at h1; cases h1
  | true =>
    have sx := isL_seq hn h1
    refine if_f ?_
    walk_at "dl"
    refine cw_lenS sx ?_
    walk_at "dl"
    refine ew_prop (ew_var rfl ⟨⟨nmR, _, rfl⟩, L, N, ws, nums, rfl, ?_⟩)
    walk_at "dl"
    refine if_nd (fun c => ?_) (fun c => ?_)
    · walk_at "dl"
      exact no fun z => c z.2.1
    walk_at "dl"
    refine s_forEA ?_
    walk_at "dl"
    refine ⟨d, itms d, rfl, fun i ρ' m' => m' = m ∧ (∀ j y, j < i → (itms d)[j]? = some y → ItemOk ws mems room (j : Nat) y) ∧ ∃ e1 e2, ρ' = [some (rdr T.C_Reader L N ws nums), some (.int mems), some (.int room), some d, e1, e2], sx, ⟨rfl, fun j y h => absurd h (Nat.not_lt_zero _), _, _, rfl⟩, ?_, ?_⟩
    · rintro i x ρ' m' hx ⟨rfl, al, e1, e2, rfl⟩
      have nx := nc_item hn hx
      have bad : ¬ ItemOk ws mems room (i : Nat) x → P (.bl false) m' := fun h => no fun z => h (z.2.2 i x hx)
      refine gw_tup (ds := [.int (i : Nat), x]) rfl ?_
      walk_at "dl"
      refine ⟨x, rfl, nx, leaf_bl ?_⟩
      cases hp : isP x with
      | false =>
        refine if_t (if_t ?_)
        walk_at "dl"
        exact bad fun ⟨k, j, e, _⟩ => by rw [e] at hp; cases hp
      | true =>
        obtain ⟨y, z, rfl⟩ := isP_two hp
        refine if_f ?_
        walk_at "dl"
        refine ew_prop (ew_var rfl ⟨⟨nmR, _, rfl⟩, L, N, ws, nums, rfl, ?_⟩)
        walk_at "dl"
        refine ⟨y, _, rfl, leaf_bl ?_⟩
        cases hy : isB (ws.length : Nat) y with
        | false =>
          refine if_t (if_t ?_)
          walk_at "dl"
          refine bad fun ⟨k, j, e, hk, _⟩ => ?_
          injection e with e
          injection e with e _
          rw [e, isB_nat hk] at hy
          cases hy
        | true =>
          obtain ⟨k, rfl, hk⟩ := isB_int hy
          have hk' : k < ws.length := by omega
          refine if_f ?_
          walk_at "dl"
          refine ⟨z, mems, rfl, leaf_bl ?_⟩
          cases hz : isB mems z with
          | false =>
            refine if_t ?_
            walk_at "dl"
            refine bad fun ⟨k', j, e, _, hj, _⟩ => ?_
            injection e with e
            injection e with _ e
            injection e with e _
            rw [e, isB_of hj] at hz
            cases hz
          | true =>
            obtain ⟨j, rfl, hj⟩ := isB_int hz
            refine if_f ?_
            walk_at "dl"
            refine ew_meth (ew_var rfl ⟨nmR, _, rfl, by decide, ?_⟩)
            walk_at "dl"
            refine ⟨L, N, ws, nums, k, _, rfl, way4 hw hk', ?_⟩
            walk_at "dl"
            rw [two_at hw hk']
            refine rw_neD (shp_tw _) (shp_tw [room, (i : Int)]) ?_
            have ee : eqD (.tup (wi [at4 ws k 0, at4 ws k 1])) (.tup [.int room, .int (i : Nat)]) = decide ([at4 ws k 0, at4 ws k 1] = [room, (i : Int)]) := eqD_tw [at4 ws k 0, at4 ws k 1] [room, (i : Int)]
            rw [ee]
            refine leaf_bl (if_nd (fun c => ?_) (fun c => ?_))
            · walk_at "dl"
              refine bad fun ⟨k', j', e, _, _, h0, h1⟩ => c ?_
              injection e with e
              injection e with e _
              injection e with e
              have : k = k' := by omega
              subst this
              rw [h0, h1]
            · walk_at "dl"
              refine ⟨rfl, fun j' y' hj' hy' => ?_, _, _, rfl⟩
              by_cases cc : j' < i
              · exact al j' y' cc hy'
              · have : j' = i := by omega
                subst this
                rw [hx] at hy'
                cases hy'
                injection c with c1 c2
                injection c2 with c2 _
                exact ⟨k, j, rfl, hk', ⟨by omega, hj⟩, c1, c2⟩
    · rintro ρ' m' ⟨rfl, al, e1, e2, rfl⟩
      walk_at "dl"
      refine p true ⟨fun _ => ⟨h1, c, fun i y hy => al i y (List.getElem?_eq_some_iff.mp hy).1 hy⟩, fun _ => rfl⟩
/-- all of so many truths -/
theorem fm_dec {α : Type} (xs : List α) (g : Nat → α → Bool) : (List.range xs.length).filterMap (fun n => (xs[n]?).bind fun x => some (Dat.bl (g n x))) = (((List.range xs.length).filterMap fun n => (xs[n]?).map (g n)).map Dat.bl) := by
  rw [List.map_filterMap]
  congr 1
  funext n
  cases xs[n]? <;> rfl
theorem all_dec {α : Type} (xs : List α) (g : Nat → α → Bool) : (((List.range xs.length).filterMap fun n => (xs[n]?).map (g n)).all id = true) ↔ ∀ (i : Nat) x, xs[i]? = some x → g i x = true := by
  rw [List.all_eq_true]
  constructor
  · intro h i x hx
    refine h _ (List.mem_filterMap.mpr ⟨i, List.mem_range.mpr (List.getElem?_eq_some_iff.mp hx).1, ?_⟩)
    rw [hx]; rfl
  · intro h b hb
    obtain ⟨n, _, e⟩ := List.mem_filterMap.mp hb
    obtain ⟨x, hx, e⟩ := Option.map_eq_some_iff.mp e
    rw [← e]
    exact h n x hx
noncomputable def dec (p : Prop) : Bool := @decide p (Classical.propDecidable p)
theorem dec_iff {p : Prop} : dec p = true ↔ p := by unfold dec; exact @decide_eq_true_iff p (Classical.propDecidable p)
theorem dec_eq {p : Prop} {b : Bool} (h : b = true ↔ p) : b = dec p := Bool.eq_iff_iff.mpr (h.trans dec_iff.symm)
def f_is_memory (C : Addr) : FW := fun ds m P => ∃ L N ws nums mems d, ds = [rdr C L N ws nums, .int mems, d] ∧ (∀ w ∈ ws, WayOk L N w) ∧ N ≤ 100 ∧ noCell d = true ∧ ∀ b : Bool, (b = true ↔ MemOk ws L N mems d) → P (.bl b) m
theorem ok__is_memory (T : All K mg) : FnOk P w K mg base CX0 6 T.d__is_memory.f T.d__is_memory.fd ["reader", "memories", "value"] (spD K (f_is_memory T.C_Reader)) := by
  refine T.d__is_memory.F.ok sc__is_memory (fun vs H Q E h => sp_len (by intro ds m P f; first | (obtain ⟨rfl, _⟩ := f; rfl) | (obtain ⟨_, h⟩ := f; first | (obtain ⟨rfl, _⟩ := h; rfl) | (obtain ⟨_, rfl, _⟩ := h; rfl) | (obtain ⟨_, _, rfl, _⟩ := h; rfl) | (obtain ⟨_, _, _, rfl, _⟩ := h; rfl) | (obtain ⟨_, _, _, _, rfl, _⟩ := h; rfl) | (obtain ⟨_, _, _, _, _, rfl, _⟩ := h; rfl) | (obtain ⟨_, _, _, _, _, _, rfl, _⟩ := h; rfl) | (obtain ⟨_, _, _, _, _, _, _, rfl, _⟩ := h; rfl) | (obtain ⟨_, _, _, _, _, _, _, _, rfl, _⟩ := h; rfl) | (obtain ⟨_, _, _, _, _, _, _, _, _, rfl, _⟩ := h; rfl))) h) (fun cdv A outer s H vs Q E hr h => ?_)
  refine ⟨_, (pss_cons (ps_if (PW.pt (pw_or (pt_not (pt_val (pe_call (ok_is_list T) (hr.mono (by decide)) rfl T.d_is_list.g T.d_is_list.F.kp T.d_is_list.b .nil pass0 (pa_cons (pv 2) pa_nil)))) (pw_or1 (pt_cmpR op_ne (pe_callB (show CallR _ (.builtin "len") (DL.rLen K) from call_lenS) (by rfl) T.z_len (by decide +kernel) (pa_cons (pv 2) pa_nil)) (pe_prop (pv 0) T.oc_Reader.cls T.p_Reader_rooms (ok_Reader_rooms T) (hr.mono (by decide)) T.d_Reader_rooms.b .nil pass0 (by rfl)) (nomark _))))) (pss_one (ps_ret pe_bl)) pss_nil)
      (pss_one (ps_ret (pe_callB (cr_all rfl) (by rfl) T.z_all (by decide +kernel) (pa_cons (pe_lc (own := [("room", 3), ("letters", 4)]) (g := gTup K 2 (gCons (gName 3) (gCons (gName 4) gNil))) rfl sc__is_memory.nd (pi_enumA (by rfl) T.z_enumerate (pa_cons (pv 2) pa_nil)) (blkOk_by (N := N__is_memory) (sc := defScope s__is_memory) (by decide +kernel)) (fun _ _ _ _ _ => pg_tup (by rfl) (pgs_cons (pg_name (i := 3) sc__is_memory.nd rfl (Or.inl rfl)) (pgs_cons (pg_name (i := 4) sc__is_memory.nd rfl (Or.inl rfl)) pgs_nil))) (fun _ _ _ _ _ => pts_nil) (fun _ _ _ _ _ => (pe_call (ok__is_room T) (hr.mono (by decide)) rfl T.d__is_room.g T.d__is_room.F.kp T.d__is_room.b .nil pass0 (pa_cons (pv 0) (pa_cons (pv 1) (pa_cons (pv 3) (pa_cons (pv 4) pa_nil))))))) pa_nil))))), body_of h fun ds m P f => ?_⟩
  try dsimp only [cxOf, Cx.nox, Cx.wish, Cx.blk]
  obtain ⟨L, N, ws, nums, mems, d, rfl, hw, hN, hn, p⟩ := f
  have no : ¬ MemOk ws L N mems d → P (.bl false) m := fun h => p false ⟨fun z => (Bool.false_ne_true z).elim, fun z => (h z).elim⟩
  walk_at "dl"
  refine ⟨d, rfl, hn, leaf_bl ?_⟩
  cases h1 : isL d with
  | false =>
    refine if_t (if_t ?_)
    walk_at "dl"
    exact no fun z => by rw [z.1] at h1; cases h1
  | true =>
    have sx := isL_seq hn h1
    refine if_f ?_
    walk_at "dl"
    refine cw_lenS sx ?_
    walk_at "dl"
    refine ew_prop (ew_var rfl ⟨⟨nmR, _, rfl⟩, L, N, ws, nums, rfl, ?_⟩)
    walk_at "dl"
    refine if_nd (fun c => ?_) (fun c => ?_)
    · walk_at "dl"
      exact no fun z => c z.2.1
    walk_at "dl"
    refine ew_lcEA ?_
    walk_at "dl"
    refine ⟨d, itms d, rfl, sx, by rw [sizeLine_eq]; omega, fun n x => some (.bl (dec (RoomOk ws L mems (n : Nat) x))), ?_, ?_⟩
    · intro n x acc hx
      refine turn_yes rfl ?_
      walk_at "dl"
      refine ⟨L, N, ws, nums, mems, (n : Nat), x, rfl, hw, nc_item hn hx, fun b hb => ?_⟩
      rw [dec_eq hb]
      exact ⟨rfl, rfl⟩
    · rw [fm_dec]
      walk_at "dl"
      refine cw_all ?_
      refine p _ ?_
      rw [all_dec]
      exact ⟨fun z => ⟨h1, c, fun i y hy => dec_iff.mp (z i y hy)⟩, fun z i y hy => dec_iff.mpr (z.2.2 i y hy)⟩
def f_is_table (C : Addr) : FW := fun ds m P => ∃ L N ws nums d, ds = [rdr C L N ws nums, d] ∧ (∀ w ∈ ws, WayOk L N w) ∧ N ≤ 100 ∧ noCell d = true ∧ ∀ b : Bool, (b = true ↔ TabOk ws L N d) → P (.bl b) m
theorem fm_dec1 (xs : List Dat) (g : Dat → Bool) : xs.filterMap (fun x => some (Dat.bl (g x))) = (xs.map g).map Dat.bl := by
  induction xs with
  | nil => rfl
  | cons a l ih => rw [List.filterMap_cons]; simp [ih]
theorem ok_is_table (T : All K mg) : FnOk P w K mg base CX0 7 T.d_is_table.f T.d_is_table.fd ["reader", "value"] (spD K (f_is_table T.C_Reader)) := by
  refine T.d_is_table.F.ok sc_is_table (fun vs H Q E h => sp_len (by intro ds m P f; first | (obtain ⟨rfl, _⟩ := f; rfl) | (obtain ⟨_, h⟩ := f; first | (obtain ⟨rfl, _⟩ := h; rfl) | (obtain ⟨_, rfl, _⟩ := h; rfl) | (obtain ⟨_, _, rfl, _⟩ := h; rfl) | (obtain ⟨_, _, _, rfl, _⟩ := h; rfl) | (obtain ⟨_, _, _, _, rfl, _⟩ := h; rfl) | (obtain ⟨_, _, _, _, _, rfl, _⟩ := h; rfl) | (obtain ⟨_, _, _, _, _, _, rfl, _⟩ := h; rfl) | (obtain ⟨_, _, _, _, _, _, _, rfl, _⟩ := h; rfl) | (obtain ⟨_, _, _, _, _, _, _, _, rfl, _⟩ := h; rfl) | (obtain ⟨_, _, _, _, _, _, _, _, _, rfl, _⟩ := h; rfl))) h) (fun cdv A outer s H vs Q E hr h => ?_)
  refine ⟨_, (pss_cons (ps_expr (pe_call (ok_check_reader T) (hr.mono (by decide)) rfl T.d_check_reader.g T.d_check_reader.F.kp T.d_check_reader.b .nil pass0 (pa_cons (pv 0) pa_nil)))
      (pss_cons (ps_if (PW.pt (pw_or (pt_not (pt_val (pe_call (ok_is_list T) (hr.mono (by decide)) rfl T.d_is_list.g T.d_is_list.F.kp T.d_is_list.b .nil pass0 (pa_cons (pv 1) pa_nil)))) (pw_or1 (pt_not (pt_chain op_le op_le pe_int (pe_callB (show CallR _ (.builtin "len") (DL.rLen K) from call_lenS) (by rfl) T.z_len (by decide +kernel) (pa_cons (pv 1) pa_nil)) (pe_glob (v := .int 60) rfl T.c_MOST_MEMORIES.choose_spec.1 T.c_MOST_MEMORIES.choose_spec.2)))))) (pss_one (ps_ret pe_bl)) pss_nil)
      (pss_one (ps_ret (pe_callB (cr_all rfl) (by rfl) T.z_all (by decide +kernel) (pa_cons (pe_lc (own := [("rooms", 2)]) (g := gName 2) rfl sc_is_table.nd (pi_seq (pv 1)) (blkOk_by (N := N_is_table) (sc := defScope s_is_table) (by decide +kernel)) (fun _ _ _ _ _ => pg_name (i := 2) sc_is_table.nd rfl (Or.inl rfl)) (fun _ _ _ _ _ => pts_nil) (fun _ _ _ _ _ => (pe_call (ok__is_memory T) (hr.mono (by decide)) rfl T.d__is_memory.g T.d__is_memory.F.kp T.d__is_memory.b .nil pass0 (pa_cons (pv 0) (pa_cons (pe_callB (show CallR _ (.builtin "len") (DL.rLen K) from call_lenS) (by rfl) T.z_len (by decide +kernel) (pa_cons (pv 1) pa_nil)) (pa_cons (pv 2) pa_nil)))))) pa_nil)))))), body_of h fun ds m P f => ?_⟩
  try dsimp only [cxOf, Cx.nox, Cx.wish, Cx.blk]
  obtain ⟨L, N, ws, nums, d, rfl, hw, hN, hn, p⟩ := f
  have no : ¬ TabOk ws L N d → P (.bl false) m := fun h => p false ⟨fun z => (Bool.false_ne_true z).elim, fun z => (h z).elim⟩
  walk_at "dl"
  refine ⟨L, N, ws, nums, rfl, ?_⟩
  walk_at "dl"
  refine ⟨d, rfl, hn, leaf_bl ?_⟩
  cases h1 : isL d with
  | false =>
    refine if_t (if_t ?_)
    walk_at "dl"
    exact no fun z => by rw [z.1] at h1; cases h1
  | true =>
    have sx := isL_seq hn h1
    refine if_f ?_
    walk_at "dl"
    refine cw_lenS sx ?_
    walk_at "dl"
    by_cases c1 : (1 : Int) ≤ ((itms d).length : Nat)
    case neg =>
      rw [decide_eq_false c1]
      refine if_f ?_
      walk_at "dl"
      exact no fun z => c1 z.2.1.1
    rw [decide_eq_true c1]
    refine if_t ?_
    walk_at "dl"
    by_cases c2 : (((itms d).length : Nat) : Int) ≤ 60
    case neg =>
      rw [decide_eq_false c2]
      refine if_t ?_
      walk_at "dl"
      exact no fun z => c2 z.2.1.2
    rw [decide_eq_true c2]
    refine if_f ?_
    walk_at "dl"
    refine ew_lcS (xs := itms d) (by
      rcases sx with e | e
      · left; rw [← e]; rfl
      · right; rw [← e]; rfl) (by rw [sizeLine_eq]; omega) (fun x => some (.bl (dec (MemOk ws L N ((itms d).length : Nat) x)))) ?_ ?_
    · intro x acc hx
      refine turn_yes rfl ?_
      walk_at "dl"
      refine cw_lenS sx ?_
      walk_at "dl"
      refine ⟨L, N, ws, nums, ((itms d).length : Nat), x, rfl, hw, hN, nc_items hn x hx, fun b hb => ?_⟩
      rw [dec_eq hb]
      exact ⟨rfl, rfl⟩
    · rw [fm_dec1]
      walk_at "dl"
      refine cw_all ?_
      refine p _ ?_
      rw [List.all_map, List.all_eq_true]
      exact ⟨fun z => ⟨h1, ⟨c1, c2⟩, fun i y hy => dec_iff.mp (z y (List.mem_of_getElem? hy))⟩, fun z y hy => by
        obtain ⟨i, hi⟩ := List.mem_iff_getElem?.mp hy
        exact dec_iff.mpr (z.2.2 i y hi)⟩
def f_check_table (C : Addr) : FW := fun ds m P => ∃ L N ws nums d, ds = [rdr C L N ws nums, d] ∧ (∀ w ∈ ws, WayOk L N w) ∧ N ≤ 100 ∧ noCell d = true ∧ TabOk ws L N d ∧ P .non m
theorem ok_check_table (T : All K mg) : FnOk P w K mg base CX0 8 T.d_check_table.f T.d_check_table.fd ["reader", "table"] (spD K (f_check_table T.C_Reader)) := by
  refine T.d_check_table.F.ok sc_check_table (fun vs H Q E h => sp_len (by intro ds m P f; first | (obtain ⟨rfl, _⟩ := f; rfl) | (obtain ⟨_, h⟩ := f; first | (obtain ⟨rfl, _⟩ := h; rfl) | (obtain ⟨_, rfl, _⟩ := h; rfl) | (obtain ⟨_, _, rfl, _⟩ := h; rfl) | (obtain ⟨_, _, _, rfl, _⟩ := h; rfl) | (obtain ⟨_, _, _, _, rfl, _⟩ := h; rfl) | (obtain ⟨_, _, _, _, _, rfl, _⟩ := h; rfl) | (obtain ⟨_, _, _, _, _, _, rfl, _⟩ := h; rfl) | (obtain ⟨_, _, _, _, _, _, _, rfl, _⟩ := h; rfl) | (obtain ⟨_, _, _, _, _, _, _, _, rfl, _⟩ := h; rfl) | (obtain ⟨_, _, _, _, _, _, _, _, _, rfl, _⟩ := h; rfl))) h) (fun cdv A outer s H vs Q E hr h => ?_)
  refine ⟨_, (pss_one (ps_if (pt_not (pt_val (pe_call (ok_is_table T) (hr.mono (by decide)) rfl T.d_is_table.g T.d_is_table.F.kp T.d_is_table.b .nil pass0 (pa_cons (pv 0) (pa_cons (pv 1) pa_nil))))) pss_never pss_nil)), body_of h fun ds m P f => ?_⟩
  try dsimp only [cxOf, Cx.nox, Cx.wish, Cx.blk]
  obtain ⟨L, N, ws, nums, d, rfl, hw, hN, hn, t, p⟩ := f
  walk_at "dl"
  refine ⟨L, N, ws, nums, d, rfl, hw, hN, hn, fun b hb => ?_⟩
  rw [hb.mpr t]
  refine leaf_bl (if_nt ?_)
  walk_at "dl"
  exact p
end
end L56
namespace L56
open PySem PySem.Spec PyProof.Rows L2 DL StX KM RM
section
variable {P : Program} {w : World} {K : PySem.W.Frag} {mg : Str → Option Value} {base : Heap}
/- one rule a construct; what asks for a fact is left -/
local macro_rules | `(tactic| walk_at "dl") => `(tactic| repeat (first
  | ((with_reducible refine' ew_var ?hv ?_); (case hv => exact rfl))
  | with_reducible refine ew_int ?_
  | with_reducible refine ew_bl ?_
  | with_reducible refine ew_non ?_
  | with_reducible refine ew_str ?_
  | with_reducible refine aw_nil ?_
  | with_reducible refine aw_cons ?_
  | with_reducible refine ew_isi ?_
  | with_reducible refine ew_isi2 ?_
  | with_reducible refine ew_isiC ?_
  | with_reducible refine ew_op ?_
  | with_reducible refine ew_un ?_
  | with_reducible refine uw_neg ?_
  | with_reducible refine ew_cb ?_
  | with_reducible refine ew_call ?_
  | with_reducible refine ew_k01 ?_
  | with_reducible refine ew_k02 ?_
  | with_reducible refine ew_k02s ?_
  | with_reducible refine ew_k3t ?_
  | with_reducible refine ew_chain ?_
  | with_reducible refine ew_andV ?_
  | with_reducible refine ew_orV ?_
  | with_reducible refine ew_notV ?_
  | with_reducible refine ew_if ?_
  | with_reducible refine ew_slT ?_
  | with_reducible refine ew_slL ?_
  | with_reducible refine ow_none ?_
  | with_reducible refine ow_some ?_
  | with_reducible refine tw_test ?_
  | with_reducible refine tw_B ?_
  | with_reducible refine tw_and ?_
  | with_reducible refine tw_or ?_
  | with_reducible refine tw_not ?_
  | with_reducible refine tw_tru ?_
  | with_reducible refine s_seq ?_
  | with_reducible refine s_set ?_
  | with_reducible refine s_asg ?_
  | with_reducible refine s_ret ?_
  | with_reducible refine s_retN ?_
  | with_reducible refine s_if ?_
  | with_reducible refine s_drop ?_
  | with_reducible refine s_par ?_
  | with_reducible refine s_par3 ?_
  | with_reducible refine s_next ?_
  | with_reducible refine gw_tup rfl ?_
  | with_reducible refine gs_cons ?_
  | with_reducible refine gs_nil ?_
  | with_reducible refine gw_name ?_
  | with_reducible refine rw_add ?_
  | with_reducible refine rw_sub ?_
  | with_reducible refine rw_lt ?_
  | with_reducible refine rw_le ?_
  | with_reducible refine rw_gt ?_
  | with_reducible refine rw_ge ?_
  | with_reducible refine rw_eqI ?_
  | with_reducible refine rw_neI ?_
  | with_reducible refine rw_eqB ?_
  | with_reducible refine rw_neS ?_
  | with_reducible refine rw_isN ?_
  | with_reducible refine rw_notN ?_
  | with_reducible refine rw_isB ?_
  | with_reducible refine rw_notB ?_
  | ((with_reducible refine' rw_ixT ?hi ?_); (case hi => exact rfl))
  | ((with_reducible refine' rw_ixL ?hi ?_); (case hi => exact rfl))
  | with_reducible refine cw_lenT ?_
  | with_reducible refine cw_lenL ?_
  | with_reducible refine cw_tupL ?_
  | with_reducible refine cw_max2 ?_
  | with_reducible refine cw_abs ?_
  | with_reducible refine cw_int1 ?_
  | with_reducible refine leaf_bl ?_
  | with_reducible refine leaf_int ?_
  | with_reducible refine leaf_tup ?_
  | with_reducible refine leaf_lst ?_
  | with_reducible refine leaf_two ?_
  | with_reducible refine leaf_three ?_
  | with_reducible refine ew_tup ?_
  | with_reducible refine sz0 ?_
  | with_reducible refine sz1 ?_
  | with_reducible refine sz2 ?_
  | with_reducible refine sz3 ?_
  | with_reducible refine sz4 ?_
  | with_reducible refine if_t ?_
  | with_reducible refine if_f ?_
  | with_reducible refine if_nt ?_
  | with_reducible refine if_nf ?_))
/- one rule a construct; what asks for a fact is left -/
local macro_rules | `(tactic| walk_at "de") => `(tactic| repeat (first
  | ((with_reducible refine' ew_var ?hv ?_); (case hv => exact rfl))
  | with_reducible refine ew_int ?_
  | with_reducible refine ew_bl ?_
  | with_reducible refine ew_non ?_
  | with_reducible refine ew_str ?_
  | with_reducible refine aw_nil ?_
  | with_reducible refine aw_cons ?_
  | with_reducible refine ew_isi ?_
  | with_reducible refine ew_isi2 ?_
  | with_reducible refine ew_isiC ?_
  | with_reducible refine ew_op ?_
  | with_reducible refine ew_un ?_
  | with_reducible refine uw_neg ?_
  | with_reducible refine ew_cb ?_
  | with_reducible refine ew_call ?_
  | with_reducible refine ew_k01 ?_
  | with_reducible refine ew_k02 ?_
  | with_reducible refine ew_k02s ?_
  | with_reducible refine ew_k3t ?_
  | with_reducible refine ew_chain ?_
  | with_reducible refine ew_andV ?_
  | with_reducible refine ew_orV ?_
  | with_reducible refine ew_notV ?_
  | with_reducible refine ew_if ?_
  | with_reducible refine ew_slT ?_
  | with_reducible refine ew_slL ?_
  | with_reducible refine ow_none ?_
  | with_reducible refine ow_some ?_
  | with_reducible refine tw_test ?_
  | with_reducible refine tw_B ?_
  | with_reducible refine tw_and ?_
  | with_reducible refine tw_or ?_
  | with_reducible refine tw_not ?_
  | with_reducible refine tw_tru ?_
  | with_reducible refine gw_tup rfl ?_
  | with_reducible refine gs_cons ?_
  | with_reducible refine gs_nil ?_
  | with_reducible refine gw_name ?_
  | with_reducible refine rw_add ?_
  | with_reducible refine rw_sub ?_
  | with_reducible refine rw_lt ?_
  | with_reducible refine rw_le ?_
  | with_reducible refine rw_gt ?_
  | with_reducible refine rw_ge ?_
  | with_reducible refine rw_eqI ?_
  | with_reducible refine rw_neI ?_
  | with_reducible refine rw_eqB ?_
  | with_reducible refine rw_neS ?_
  | with_reducible refine rw_isN ?_
  | with_reducible refine rw_notN ?_
  | with_reducible refine rw_isB ?_
  | with_reducible refine rw_notB ?_
  | ((with_reducible refine' rw_ixT ?hi ?_); (case hi => exact rfl))
  | ((with_reducible refine' rw_ixL ?hi ?_); (case hi => exact rfl))
  | with_reducible refine cw_lenT ?_
  | with_reducible refine cw_lenL ?_
  | with_reducible refine cw_tupL ?_
  | with_reducible refine cw_max2 ?_
  | with_reducible refine cw_abs ?_
  | with_reducible refine cw_int1 ?_
  | with_reducible refine leaf_bl ?_
  | with_reducible refine leaf_int ?_
  | with_reducible refine leaf_tup ?_
  | with_reducible refine leaf_lst ?_
  | with_reducible refine leaf_two ?_
  | with_reducible refine leaf_three ?_
  | with_reducible refine ew_tup ?_
  | with_reducible refine sz0 ?_
  | with_reducible refine sz1 ?_
  | with_reducible refine sz2 ?_
  | with_reducible refine sz3 ?_
  | with_reducible refine sz4 ?_
  | with_reducible refine if_t ?_
  | with_reducible refine if_f ?_
  | with_reducible refine if_nt ?_
  | with_reducible refine if_nf ?_))

/- end of the rules -/
/-! ### draws -/
def pt (a b : Int) : Option (List Dat) := some [.int a, .int b]
def Okp (a b : Int) : Prop := 0 ≤ a ∧ 0 ≤ b ∧ b < 4294967296
def f_pot : FW := fun ds m P => ∃ ns, ds = [.lst (wi ns), .int 0] ∧ m = [] ∧ ∀ a b, Okp a b → P (.cell 0) [pt a b]
theorem ok__law_pot (T : All K mg) : FnOk P w K mg base CX0 1 T.d__law_pot.f T.d__law_pot.fd ["_law_script", "_law_k"] (spD K f_pot) := by
  refine T.d__law_pot.F.ok sc__law_pot (fun vs H Q E h => sp_len (by intro ds m P f; first | (obtain ⟨rfl, _⟩ := f; rfl) | (obtain ⟨_, h⟩ := f; first | (obtain ⟨rfl, _⟩ := h; rfl) | (obtain ⟨_, rfl, _⟩ := h; rfl) | (obtain ⟨_, _, rfl, _⟩ := h; rfl) | (obtain ⟨_, _, _, rfl, _⟩ := h; rfl) | (obtain ⟨_, _, _, _, rfl, _⟩ := h; rfl) | (obtain ⟨_, _, _, _, _, rfl, _⟩ := h; rfl) | (obtain ⟨_, _, _, _, _, _, rfl, _⟩ := h; rfl) | (obtain ⟨_, _, _, _, _, _, _, rfl, _⟩ := h; rfl) | (obtain ⟨_, _, _, _, _, _, _, _, rfl, _⟩ := h; rfl) | (obtain ⟨_, _, _, _, _, _, _, _, _, rfl, _⟩ := h; rfl))) h) (fun cdv A outer s H vs Q E hr h => ?_)
  refine ⟨_, (pss_cons (ps_set (i := 2) sc__law_pot.nd rfl (Or.inl rfl) (pe_op op_add (pe_op op_mul pe_int (pv 1)) pe_int))
      (pss_cons (ps_if (pt_cmpR op_lt (pv 1) (pe_callB (show CallR _ (.builtin "len") (DL.rLen K) from call_lenS) (by rfl) T.z_len (by decide +kernel) (pa_cons (pv 0) pa_nil)) (nomark _)) (pss_one (ps_set (i := 2) sc__law_pot.nd rfl (Or.inl rfl) (pe_callB call_abs' (by rfl) T.z_abs (by decide +kernel) (pa_cons (pe_ix (show IxR _ (rIxL K) from ix_list) (pv 0) (pv 1) (fun _ _ => rfl)) pa_nil)))) pss_nil)
      (pss_cons (ps_set (i := 3) sc__law_pot.nd rfl (Or.inl rfl) (pe_op op_add (pe_op op_add (pe_op op_mul (pe_op op_mod (pe_callTy call_int1' (by rfl) T.z_int (by decide +kernel) (pa_cons (pv 2) pa_nil)) pe_int) pe_int) (pe_op op_mul pe_int (pv 1))) pe_int))
      (pss_one (ps_ret (pe_lst (pa_cons (pe_callB (call_max2' rfl) (by rfl) T.z_max (by decide +kernel) (pa_cons pe_int (pa_cons (pe_op op_sub (pv 2) (pe_op op_pow pe_int pe_int)) pa_nil))) (pa_cons (pe_op op_add (pe_op op_mod (pe_callTy call_int1' (by rfl) T.z_int (by decide +kernel) (pa_cons (pv 3) pa_nil)) pe_int) pe_int) pa_nil)))))))), body_of h fun ds m P f => ?_⟩
  try dsimp only [cxOf, Cx.nox, Cx.wish, Cx.blk]
  obtain ⟨ns, rfl, rfl, p⟩ := f
  refine s_seq (s_set ?_)
  walk_at "de"
  refine rw_mul (.inl ⟨by omega, by omega⟩) ?_
  walk_at "de"
  refine s_seq (s_cut (fun ρ2 m2 => m2 = [] ∧ ∃ c, ρ2 = [some (.lst (wi ns)), some (.int 0), some (.int c), none]) ?_ ?_)
  · walk_at "dl"
    rw [wi_len]
    refine if_d (fun h => ?_) (fun h => ?_)
    · walk_at "dl"
      refine rw_ixL (atI_wi (by omega) h) ?_
      walk_at "dl"
      exact ⟨rfl, _, rfl⟩
    · walk_at "dl"
      exact ⟨rfl, _, rfl⟩
  · rintro ρ2 m2 ⟨rfl, c, rfl⟩
    walk_at "dl"
    refine rw_mod (by omega) ?_
    walk_at "dl"
    refine rw_mul (.inl ⟨by omega, by omega⟩) ?_
    walk_at "dl"
    refine rw_mul (.inl ⟨by omega, by omega⟩) ?_
    walk_at "dl"
    refine ew_lstC ?_
    walk_at "dl"
    refine rw_pow ⟨by omega, by omega, by decide⟩ ?_
    walk_at "dl"
    refine rw_mod (by omega) ?_
    walk_at "dl"
    generalize (10 : Int) ^ (Int.toNat 18) = z
    have e0 := Int.emod_nonneg (c % 2147483549 * 40009 + 9829 * 0 + 61) (b := 2147483563) (by omega)
    have e1 := Int.emod_lt_of_pos (c % 2147483549 * 40009 + 9829 * 0 + 61) (b := 2147483563) (by omega)
    refine ⟨rfl, p _ _ ⟨?_, ?_, ?_⟩⟩
    · split <;> omega
    · omega
    · omega
def f_draw : FW := fun ds m P => ∃ a b r s, ds = [.cell 0, .int s] ∧ m = pt a b :: r ∧ Okp a b ∧ 1 ≤ s ∧ s ≤ 1000 ∧ ∀ a' b' v, Okp a' b' → 0 ≤ v → v < s → P (.int v) (pt a' b' :: r)
theorem ok__law_draw (T : All K mg) : FnOk P w K mg base CX0 1 T.d__law_draw.f T.d__law_draw.fd ["_law_pot_here", "_law_size"] (spD K f_draw) := by
  refine T.d__law_draw.F.ok sc__law_draw (fun vs H Q E h => sp_len (by intro ds m P f; first | (obtain ⟨rfl, _⟩ := f; rfl) | (obtain ⟨_, h⟩ := f; first | (obtain ⟨rfl, _⟩ := h; rfl) | (obtain ⟨_, rfl, _⟩ := h; rfl) | (obtain ⟨_, _, rfl, _⟩ := h; rfl) | (obtain ⟨_, _, _, rfl, _⟩ := h; rfl) | (obtain ⟨_, _, _, _, rfl, _⟩ := h; rfl) | (obtain ⟨_, _, _, _, _, rfl, _⟩ := h; rfl) | (obtain ⟨_, _, _, _, _, _, rfl, _⟩ := h; rfl) | (obtain ⟨_, _, _, _, _, _, _, rfl, _⟩ := h; rfl) | (obtain ⟨_, _, _, _, _, _, _, _, rfl, _⟩ := h; rfl) | (obtain ⟨_, _, _, _, _, _, _, _, _, rfl, _⟩ := h; rfl))) h) (fun cdv A outer s H vs Q E hr h => ?_)
  refine ⟨_, (pss_cons (ps_if (pt_cmpR op_gt (pe_ix (show IxR _ (rIxL K) from ix_list) (pv 0) pe_int (fun _ _ => rfl)) pe_int (nomark _)) (pss_cons (ps_asg (pe_callB call_dm (by rfl) T.z_divmod (by decide +kernel) (pa_cons (pe_ix (show IxR _ (rIxL K) from ix_list) (pv 0) pe_int (fun _ _ => rfl)) (pa_cons (pv 1) pa_nil))) (pg_tup (by rfl) (pgs_cons (pg_sub (pv 0) pe_int set_list) (pgs_cons (pg_name (i := 2) sc__law_draw.nd rfl (Or.inl rfl)) pgs_nil))))
      (pss_one (ps_ret (pv 2)))) pss_nil)
      (pss_cons (ps_asg (pe_op op_mod (pe_callTy call_int1' (by rfl) T.z_int (by decide +kernel) (pa_cons (pe_op op_add (pe_op op_mul (pe_ix (show IxR _ (rIxL K) from ix_list) (pv 0) pe_int (fun _ _ => rfl)) pe_int) pe_int) pa_nil)) pe_int) (pg_sub (pv 0) pe_int set_list))
      (pss_one (ps_ret (pe_op op_mod (pe_callTy call_int1' (by rfl) T.z_int (by decide +kernel) (pa_cons (pe_op op_fdiv (pe_op op_mod (pe_callTy call_int1' (by rfl) T.z_int (by decide +kernel) (pa_cons (pe_op op_mul (pe_ix (show IxR _ (rIxL K) from ix_list) (pv 0) pe_int (fun _ _ => rfl)) (pe_ix (show IxR _ (rIxL K) from ix_list) (pv 0) pe_int (fun _ _ => rfl))) pa_nil)) pe_int) pe_int) pa_nil)) (pv 1)))))), body_of h fun ds m P f => ?_⟩
  try dsimp only [cxOf, Cx.nox, Cx.wish, Cx.blk]
  obtain ⟨a, b, r, s, rfl, rfl, ⟨ha, hb, hb2⟩, h1, h2, p⟩ := f
  walk_at "dl"
  refine rw_ixC (xs := [.int a, .int b]) rfl rfl ?_
  walk_at "dl"
  refine if_d (fun h => ?_) (fun h => ?_)
  · walk_at "dl"
    refine rw_ixC (xs := [.int a, .int b]) rfl rfl ?_
    walk_at "dl"
    refine cw_dm ⟨by omega, by omega⟩ ?_
    refine gw_tup rfl (gs_cons (gw_sub rfl ?_))
    walk_at "dl"
    refine ⟨0, 0, 0, [.int a, .int b], rfl, rfl, rfl, rfl, ?_⟩
    walk_at "dl"
    exact p (a / s) b _ ⟨Int.ediv_nonneg ha (by omega), hb, hb2⟩ (Int.emod_nonneg _ (by omega)) (Int.emod_lt_of_pos _ (by omega))
  · walk_at "dl"
    refine rw_ixC (xs := [.int a, .int b]) rfl rfl ?_
    walk_at "dl"
    refine rw_mul (.inl ⟨by omega, by omega⟩) ?_
    walk_at "dl"
    refine rw_mod (by omega) ?_
    refine gw_sub rfl ?_
    walk_at "dl"
    refine ⟨0, 1, 1, [.int a, .int b], rfl, rfl, rfl, rfl, ?_⟩
    walk_at "dl"
    have e0 := Int.emod_nonneg (b * 39373 + 9829) (b := 2147483587) (by omega)
    have e1 := Int.emod_lt_of_pos (b * 39373 + 9829) (b := 2147483587) (by omega)
    generalize (b * 39373 + 9829) % 2147483587 = c at e0 e1
    refine rw_ixC (xs := [.int a, .int c]) rfl rfl ?_
    walk_at "dl"
    refine rw_ixC (xs := [.int a, .int c]) rfl rfl ?_
    walk_at "dl"
    refine rw_mul (.inl ⟨by omega, by omega⟩) ?_
    walk_at "dl"
    refine rw_mod (by omega) ?_
    walk_at "dl"
    refine rw_fdiv ⟨by omega, by omega⟩ ?_
    walk_at "dl"
    refine rw_mod (by omega) ?_
    exact p a c _ ⟨ha, e0, by omega⟩ (Int.emod_nonneg _ (by omega)) (Int.emod_lt_of_pos _ (by omega))
/-- a list, or the cell's next to the pot's -/
def Sm (r : Mu) (d : Dat) (xs : List Dat) : Prop := d = .lst xs ∨ ∃ j, d = .cell (j + 1) ∧ r[j]? = some (some xs)
def f_pick : FW := fun ds m P => ∃ a b r d xs, ds = [.cell 0, d] ∧ m = pt a b :: r ∧ Okp a b ∧ Sm r d xs ∧ xs ≠ [] ∧ xs.length ≤ 1000 ∧ ∀ a' b' x, Okp a' b' → x ∈ xs → P x (pt a' b' :: r)
theorem at_lt {xs : List Dat} {v : Int} (h : 0 ≤ v) (g : v < (xs.length : Nat)) : ∃ x, atI xs v = some x ∧ x ∈ xs := by
  have hl : v.toNat < xs.length := by omega
  refine ⟨xs[v.toNat], ?_, List.getElem_mem hl⟩
  obtain ⟨n, rfl⟩ : ∃ n : Nat, v = (n : Int) := ⟨v.toNat, by omega⟩
  exact atI_nat (List.getElem?_eq_getElem hl)
theorem ok__law_pick (T : All K mg) : FnOk P w K mg base CX0 2 T.d__law_pick.f T.d__law_pick.fd ["_law_pot_here", "_law_some"] (spD K f_pick) := by
  refine T.d__law_pick.F.ok sc__law_pick (fun vs H Q E h => sp_len (by intro ds m P f; first | (obtain ⟨rfl, _⟩ := f; rfl) | (obtain ⟨_, h⟩ := f; first | (obtain ⟨rfl, _⟩ := h; rfl) | (obtain ⟨_, rfl, _⟩ := h; rfl) | (obtain ⟨_, _, rfl, _⟩ := h; rfl) | (obtain ⟨_, _, _, rfl, _⟩ := h; rfl) | (obtain ⟨_, _, _, _, rfl, _⟩ := h; rfl) | (obtain ⟨_, _, _, _, _, rfl, _⟩ := h; rfl) | (obtain ⟨_, _, _, _, _, _, rfl, _⟩ := h; rfl) | (obtain ⟨_, _, _, _, _, _, _, rfl, _⟩ := h; rfl) | (obtain ⟨_, _, _, _, _, _, _, _, rfl, _⟩ := h; rfl) | (obtain ⟨_, _, _, _, _, _, _, _, _, rfl, _⟩ := h; rfl))) h) (fun cdv A outer s H vs Q E hr h => ?_)
  refine ⟨_, (pss_one (ps_ret (pe_ix (show IxR _ (rIxL K) from ix_list) (pv 1) (pe_call (ok__law_draw T) (hr.mono (by decide)) rfl T.d__law_draw.g T.d__law_draw.F.kp T.d__law_draw.b .nil pass0 (pa_cons (pv 0) (pa_cons (pe_callB (show CallR _ (.builtin "len") (DL.rLen K) from call_lenS) (by rfl) T.z_len (by decide +kernel) (pa_cons (pv 1) pa_nil)) pa_nil))) (fun _ _ => rfl)))), body_of h fun ds m P f => ?_⟩
  try dsimp only [cxOf, Cx.nox, Cx.wish, Cx.blk]
  obtain ⟨a, b, r, d, xs, rfl, rfl, ok, hd, hne, hz, p⟩ := f
  have pos : 0 < xs.length := List.length_pos_iff.mpr hne
  walk_at "dl"
  have len : CW K (DL.rLen K) [d] (pt a b :: r) fun z m2 => z = .int (xs.length : Nat) ∧ m2 = pt a b :: r := by
    rcases hd with hd | ⟨j, hd, hj⟩
    · rw [hd]; exact cw_lenL ⟨rfl, rfl⟩
    · rw [hd]; exact cw_lenC (xs := xs) (by simpa using hj) ⟨rfl, rfl⟩
  refine fun A0 H0 us s0 x0 Q0 q0 => len A0 H0 us s0 x0 Q0 fun A1 H1 u f m1 e1 s1 y1 ⟨hf, hm⟩ => ?_
  subst hf hm
  refine q0 A1 H1 u _ _ e1 s1 y1 (aw_nil ⟨a, b, r, _, rfl, rfl, ok, by omega, by omega, fun a' b' v ok' v0 v1 => ?_⟩)
  obtain ⟨x, hx, mx⟩ := at_lt v0 v1
  rcases hd with hd | ⟨j, hd, hj⟩
  · rw [hd]
    exact rw_ixL hx (p a' b' x ok' mx)
  · rw [hd]
    exact rw_ixC (xs := xs) (by simpa using hj) hx (p a' b' x ok' mx)
/-! ### letters, rows -/
def In (L : Int) (l : List Int) : Prop := ∀ c ∈ l, 0 ≤ c ∧ c < L
theorem at_new {p : Option (List Dat)} {r : Mu} {x : Option (List Dat)} : (p :: (r ++ [x]))[r.length + 1]? = some x := by simp
theorem set_new {p : Option (List Dat)} {r : Mu} {x y : Option (List Dat)} : (p :: (r ++ [x])).set (r.length + 1) y = p :: (r ++ [y]) := by
  rw [List.set_cons_succ, List.set_append_right _ _ (Nat.le_refl _), Nat.sub_self]
  rfl
def f_letters : FW := fun ds m P => ∃ a b r L n, ds = [.cell 0, .int L, .int n] ∧ m = pt a b :: r ∧ Okp a b ∧ 1 ≤ L ∧ L ≤ 1000 ∧ 0 ≤ n ∧ n ≤ 100 ∧ ∀ a' b' l j, Okp a' b' → (l.length : Int) ≤ n → In L l → P (tw l) (pt a' b' :: (r ++ j))
theorem ok__law_letters (T : All K mg) : FnOk P w K mg base CX0 2 T.d__law_letters.f T.d__law_letters.fd ["_law_pot_here", "_law_letters_here", "_law_most"] (spD K f_letters) := by
  refine T.d__law_letters.F.ok sc__law_letters (fun vs H Q E h => sp_len (by intro ds m P f; first | (obtain ⟨rfl, _⟩ := f; rfl) | (obtain ⟨_, h⟩ := f; first | (obtain ⟨rfl, _⟩ := h; rfl) | (obtain ⟨_, rfl, _⟩ := h; rfl) | (obtain ⟨_, _, rfl, _⟩ := h; rfl) | (obtain ⟨_, _, _, rfl, _⟩ := h; rfl) | (obtain ⟨_, _, _, _, rfl, _⟩ := h; rfl) | (obtain ⟨_, _, _, _, _, rfl, _⟩ := h; rfl) | (obtain ⟨_, _, _, _, _, _, rfl, _⟩ := h; rfl) | (obtain ⟨_, _, _, _, _, _, _, rfl, _⟩ := h; rfl) | (obtain ⟨_, _, _, _, _, _, _, _, rfl, _⟩ := h; rfl) | (obtain ⟨_, _, _, _, _, _, _, _, _, rfl, _⟩ := h; rfl))) h) (fun cdv A outer s H vs Q E hr h => ?_)
  refine ⟨_, (pss_cons (ps_set (i := 3) sc__law_letters.nd rfl (Or.inl rfl) (pe_lst pa_nil))
      (pss_cons (ps_for PassesOwn.never rfl (pi_range1 (by rfl) T.z_range (pa_cons (pe_call (ok__law_draw T) (hr.mono (by decide)) rfl T.d__law_draw.g T.d__law_draw.F.kp T.d__law_draw.b .nil pass0 (pa_cons (pv 0) (pa_cons (pe_op op_add (pv 2) pe_int) pa_nil))) pa_nil)) (pg_name (i := 4) sc__law_letters.nd rfl (Or.inl rfl)) (pss_one (ps_expr (pe_bm PySem.F.plainAttrs_list PySem.F.slot_list_append PySem.F.type_list_append mt_append (pv 3) (pa_cons (pe_call (ok__law_draw T) (hr.mono (by decide)) rfl T.d__law_draw.g T.d__law_draw.F.kp T.d__law_draw.b .nil pass0 (pa_cons (pv 0) (pa_cons (pv 1) pa_nil))) pa_nil)))))
      (pss_one (ps_ret (pe_callTy call_tupOf (by rfl) T.z_tuple (by decide +kernel) (pa_cons (pv 3) pa_nil)))))), body_of h fun ds m P f => ?_⟩
  try dsimp only [cxOf, Cx.nox, Cx.wish, Cx.blk]
  obtain ⟨a, b, r, L, n, rfl, rfl, ok, h1, h2, h3, h4, p⟩ := f
  walk_at "dl"
  refine ew_lstC ?_
  walk_at "dl"
  refine ⟨rfl, ?_⟩
  walk_at "dl"
  refine s_forR1 ?_
  walk_at "dl"
  refine ⟨a, b, _, n + 1, rfl, rfl, ok, by omega, by omega, fun a b q ok q0 q1 => ?_⟩
  walk_at "dl"
  refine ⟨q, rfl, by omega, by omega, fun i ρ' m' => ∃ a b l, Okp a b ∧ l.length = i ∧ In L l ∧ m' = pt a b :: (r ++ [some (wi l)]) ∧ ∃ e, ρ' = [some (.cell 0), some (.int L), some (.int n), some (.cell (r.length + 1)), e], ⟨a, b, [], ok, rfl, (by intro c hc; cases hc), rfl, _, rfl⟩, ?_, ?_⟩
  · rintro i ρ' m' hi ⟨a, b, l, ok, hl, il, rfl, e, rfl⟩
    walk_at "dl"
    refine ew_append ?_
    walk_at "dl"
    refine ⟨⟨_, _, rfl, at_new⟩, ?_⟩
    walk_at "dl"
    refine ⟨a, b, _, L, rfl, rfl, ok, h1, h2, fun a' b' v ok' v0 v1 => ?_⟩
    walk_at "dl"
    refine ⟨_, _, _, rfl, rfl, rfl, at_new, by rw [wi_len, sizeLine_eq]; omega, ?_⟩
    rw [set_new]
    refine ⟨a', b', l ++ [v], ok', by rw [List.length_append, hl]; rfl, fun c hc => ?_, by rw [← wi_app]; rfl, _, rfl⟩
    rcases List.mem_append.mp hc with z | z
    · exact il c z
    · rw [List.mem_singleton.mp z]; exact ⟨v0, v1⟩
  · rintro ρ' m' ⟨a, b, l, ok, hl, il, rfl, e, rfl⟩
    walk_at "dl"
    refine cw_tupC at_new ?_
    exact p a b l _ ok (by omega) il
structure Rw (L : Int) (B A : List Int) : Prop where
  lb : B.length ≤ 3
  la : A.length ≤ 3
  ne : A ≠ []
  b : In L B
  a : In L A
def f_row : FW := fun ds m P => ∃ a b r L, ds = [.cell 0, .int L, .int 3] ∧ m = pt a b :: r ∧ Okp a b ∧ 1 ≤ L ∧ L ≤ 1000 ∧ ∀ a' b' B A j, Okp a' b' → Rw L B A → P (rw_ B A) (pt a' b' :: (r ++ j))
theorem ok__law_row (T : All K mg) : FnOk P w K mg base CX0 3 T.d__law_row.f T.d__law_row.fd ["_law_pot_here", "_law_letters_here", "_law_most"] (spD K f_row) := by
  refine T.d__law_row.F.ok sc__law_row (fun vs H Q E h => sp_len (by intro ds m P f; first | (obtain ⟨rfl, _⟩ := f; rfl) | (obtain ⟨_, h⟩ := f; first | (obtain ⟨rfl, _⟩ := h; rfl) | (obtain ⟨_, rfl, _⟩ := h; rfl) | (obtain ⟨_, _, rfl, _⟩ := h; rfl) | (obtain ⟨_, _, _, rfl, _⟩ := h; rfl) | (obtain ⟨_, _, _, _, rfl, _⟩ := h; rfl) | (obtain ⟨_, _, _, _, _, rfl, _⟩ := h; rfl) | (obtain ⟨_, _, _, _, _, _, rfl, _⟩ := h; rfl) | (obtain ⟨_, _, _, _, _, _, _, rfl, _⟩ := h; rfl) | (obtain ⟨_, _, _, _, _, _, _, _, rfl, _⟩ := h; rfl) | (obtain ⟨_, _, _, _, _, _, _, _, _, rfl, _⟩ := h; rfl))) h) (fun cdv A outer s H vs Q E hr h => ?_)
  refine ⟨_, (pss_cons (ps_set (i := 3) sc__law_row.nd rfl (Or.inl rfl) (pe_call (ok__law_letters T) (hr.mono (by decide)) rfl T.d__law_letters.g T.d__law_letters.F.kp T.d__law_letters.b .nil pass0 (pa_cons (pv 0) (pa_cons (pv 1) (pa_cons (pv 2) pa_nil)))))
      (pss_one (ps_ret (pe_tup (pa_cons (pv 3) (pa_cons (pe_op op_catA (pe_tup (pa_cons (pe_call (ok__law_draw T) (hr.mono (by decide)) rfl T.d__law_draw.g T.d__law_draw.F.kp T.d__law_draw.b .nil pass0 (pa_cons (pv 0) (pa_cons (pv 1) pa_nil))) pa_nil)) (pe_call (ok__law_letters T) (hr.mono (by decide)) rfl T.d__law_letters.g T.d__law_letters.F.kp T.d__law_letters.b .nil pass0 (pa_cons (pv 0) (pa_cons (pv 1) (pa_cons (pe_op op_sub (pv 2) pe_int) pa_nil))))) pa_nil)))))), body_of h fun ds m P f => ?_⟩
  try dsimp only [cxOf, Cx.nox, Cx.wish, Cx.blk]
  obtain ⟨a, b, r, L, rfl, rfl, ok, h1, h2, p⟩ := f
  walk_at "dl"
  refine ⟨a, b, r, L, 3, rfl, rfl, ok, h1, h2, by omega, by omega, fun a b B j ok lB iB => ?_⟩
  walk_at "dl"
  refine ⟨a, b, r ++ j, L, rfl, rfl, ok, h1, h2, fun a b w ok w0 w1 => ?_⟩
  walk_at "dl"
  refine ⟨a, b, r ++ j, L, 3 - 1, rfl, rfl, ok, h1, h2, by omega, by omega, fun a b A j2 ok lA iA => ?_⟩
  refine rw_cat (by show 1 + _ ≤ _; rw [wi_len, sizeLine_eq]; omega) ?_
  have e1 : [Dat.int w] ++ wi A = wi ([w] ++ A) := wi_app [w] A
  rw [e1]
  walk_at "dl"
  rw [List.append_assoc]
  refine p a b B ([w] ++ A) _ ok ⟨by omega, by rw [List.length_append, List.length_singleton]; omega, fun z => (nomatch z), iB, fun c hc => ?_⟩
  rcases List.mem_append.mp hc with z | z
  · rw [List.mem_singleton.mp z]; exact ⟨w0, w1⟩
  · exact iA c z
end
end L56
namespace L56
open PySem PySem.Spec PyProof.Rows L2 DL StX KM RM
section
variable {P : Program} {w : World} {K : PySem.W.Frag} {mg : Str → Option Value} {base : Heap}
/- one rule a construct; what asks for a fact is left -/
local macro_rules | `(tactic| walk_at "dl") => `(tactic| repeat (first
  | ((with_reducible refine' ew_var ?hv ?_); (case hv => exact rfl))
  | with_reducible refine ew_int ?_
  | with_reducible refine ew_bl ?_
  | with_reducible refine ew_non ?_
  | with_reducible refine ew_str ?_
  | with_reducible refine aw_nil ?_
  | with_reducible refine aw_cons ?_
  | with_reducible refine ew_isi ?_
  | with_reducible refine ew_isi2 ?_
  | with_reducible refine ew_isiC ?_
  | with_reducible refine ew_op ?_
  | with_reducible refine ew_un ?_
  | with_reducible refine uw_neg ?_
  | with_reducible refine ew_cb ?_
  | with_reducible refine ew_call ?_
  | with_reducible refine ew_k01 ?_
  | with_reducible refine ew_k02 ?_
  | with_reducible refine ew_k02s ?_
  | with_reducible refine ew_k3t ?_
  | with_reducible refine ew_chain ?_
  | with_reducible refine ew_andV ?_
  | with_reducible refine ew_orV ?_
  | with_reducible refine ew_notV ?_
  | with_reducible refine ew_if ?_
  | with_reducible refine ew_slT ?_
  | with_reducible refine ew_slL ?_
  | with_reducible refine ow_none ?_
  | with_reducible refine ow_some ?_
  | with_reducible refine tw_test ?_
  | with_reducible refine tw_B ?_
  | with_reducible refine tw_and ?_
  | with_reducible refine tw_or ?_
  | with_reducible refine tw_not ?_
  | with_reducible refine tw_tru ?_
  | with_reducible refine s_seq ?_
  | with_reducible refine s_set ?_
  | with_reducible refine s_asg ?_
  | with_reducible refine s_ret ?_
  | with_reducible refine s_retN ?_
  | with_reducible refine s_if ?_
  | with_reducible refine s_drop ?_
  | with_reducible refine s_par ?_
  | with_reducible refine s_par3 ?_
  | with_reducible refine s_next ?_
  | with_reducible refine gw_tup rfl ?_
  | with_reducible refine gs_cons ?_
  | with_reducible refine gs_nil ?_
  | with_reducible refine gw_name ?_
  | with_reducible refine rw_add ?_
  | with_reducible refine rw_sub ?_
  | with_reducible refine rw_lt ?_
  | with_reducible refine rw_le ?_
  | with_reducible refine rw_gt ?_
  | with_reducible refine rw_ge ?_
  | with_reducible refine rw_eqI ?_
  | with_reducible refine rw_neI ?_
  | with_reducible refine rw_eqB ?_
  | with_reducible refine rw_neS ?_
  | with_reducible refine rw_isN ?_
  | with_reducible refine rw_notN ?_
  | with_reducible refine rw_isB ?_
  | with_reducible refine rw_notB ?_
  | ((with_reducible refine' rw_ixT ?hi ?_); (case hi => exact rfl))
  | ((with_reducible refine' rw_ixL ?hi ?_); (case hi => exact rfl))
  | with_reducible refine cw_lenT ?_
  | with_reducible refine cw_lenL ?_
  | with_reducible refine cw_tupL ?_
  | with_reducible refine cw_max2 ?_
  | with_reducible refine cw_abs ?_
  | with_reducible refine cw_int1 ?_
  | with_reducible refine leaf_bl ?_
  | with_reducible refine leaf_int ?_
  | with_reducible refine leaf_tup ?_
  | with_reducible refine leaf_lst ?_
  | with_reducible refine leaf_two ?_
  | with_reducible refine leaf_three ?_
  | with_reducible refine ew_tup ?_
  | with_reducible refine sz0 ?_
  | with_reducible refine sz1 ?_
  | with_reducible refine sz2 ?_
  | with_reducible refine sz3 ?_
  | with_reducible refine sz4 ?_
  | with_reducible refine if_t ?_
  | with_reducible refine if_f ?_
  | with_reducible refine if_nt ?_
  | with_reducible refine if_nf ?_))
/- one rule a construct; what asks for a fact is left -/
local macro_rules | `(tactic| walk_at "de") => `(tactic| repeat (first
  | ((with_reducible refine' ew_var ?hv ?_); (case hv => exact rfl))
  | with_reducible refine ew_int ?_
  | with_reducible refine ew_bl ?_
  | with_reducible refine ew_non ?_
  | with_reducible refine ew_str ?_
  | with_reducible refine aw_nil ?_
  | with_reducible refine aw_cons ?_
  | with_reducible refine ew_isi ?_
  | with_reducible refine ew_isi2 ?_
  | with_reducible refine ew_isiC ?_
  | with_reducible refine ew_op ?_
  | with_reducible refine ew_un ?_
  | with_reducible refine uw_neg ?_
  | with_reducible refine ew_cb ?_
  | with_reducible refine ew_call ?_
  | with_reducible refine ew_k01 ?_
  | with_reducible refine ew_k02 ?_
  | with_reducible refine ew_k02s ?_
  | with_reducible refine ew_k3t ?_
  | with_reducible refine ew_chain ?_
  | with_reducible refine ew_andV ?_
  | with_reducible refine ew_orV ?_
  | with_reducible refine ew_notV ?_
  | with_reducible refine ew_if ?_
  | with_reducible refine ew_slT ?_
  | with_reducible refine ew_slL ?_
  | with_reducible refine ow_none ?_
  | with_reducible refine ow_some ?_
  | with_reducible refine tw_test ?_
  | with_reducible refine tw_B ?_
  | with_reducible refine tw_and ?_
  | with_reducible refine tw_or ?_
  | with_reducible refine tw_not ?_
  | with_reducible refine tw_tru ?_
  | with_reducible refine gw_tup rfl ?_
  | with_reducible refine gs_cons ?_
  | with_reducible refine gs_nil ?_
  | with_reducible refine gw_name ?_
  | with_reducible refine rw_add ?_
  | with_reducible refine rw_sub ?_
  | with_reducible refine rw_lt ?_
  | with_reducible refine rw_le ?_
  | with_reducible refine rw_gt ?_
  | with_reducible refine rw_ge ?_
  | with_reducible refine rw_eqI ?_
  | with_reducible refine rw_neI ?_
  | with_reducible refine rw_eqB ?_
  | with_reducible refine rw_neS ?_
  | with_reducible refine rw_isN ?_
  | with_reducible refine rw_notN ?_
  | with_reducible refine rw_isB ?_
  | with_reducible refine rw_notB ?_
  | ((with_reducible refine' rw_ixT ?hi ?_); (case hi => exact rfl))
  | ((with_reducible refine' rw_ixL ?hi ?_); (case hi => exact rfl))
  | with_reducible refine cw_lenT ?_
  | with_reducible refine cw_lenL ?_
  | with_reducible refine cw_tupL ?_
  | with_reducible refine cw_max2 ?_
  | with_reducible refine cw_abs ?_
  | with_reducible refine cw_int1 ?_
  | with_reducible refine leaf_bl ?_
  | with_reducible refine leaf_int ?_
  | with_reducible refine leaf_tup ?_
  | with_reducible refine leaf_lst ?_
  | with_reducible refine leaf_two ?_
  | with_reducible refine leaf_three ?_
  | with_reducible refine ew_tup ?_
  | with_reducible refine sz0 ?_
  | with_reducible refine sz1 ?_
  | with_reducible refine sz2 ?_
  | with_reducible refine sz3 ?_
  | with_reducible refine sz4 ?_
  | with_reducible refine if_t ?_
  | with_reducible refine if_f ?_
  | with_reducible refine if_nt ?_
  | with_reducible refine if_nf ?_))

/- end of the rules -/
/-! ### the law's reader -/
theorem code4 (a b c d : Int) : TS.code 64 [a, b, c, d] = ((a * 64 + b) * 64 + c) * 64 + d := by
  simp [TS.code]
  omega
theorem code_inj {u v : List Int} (hu : u.length = 4 ∧ TS.Bd 64 u) (hv : v.length = 4 ∧ TS.Bd 64 v) (e : TS.code 64 u = TS.code 64 v) : u = v := by
  match u, hu, v, hv, e with
  | [a, b, c, d], hu, [a', b', c', d'], hv, e =>
    rw [code4, code4] at e
    have h1 := hu.2 a (by simp)
    have h2 := hu.2 b (by simp)
    have h3 := hu.2 c (by simp)
    have h4 := hu.2 d (by simp)
    have g1 := hv.2 a' (by simp)
    have g2 := hv.2 b' (by simp)
    have g3 := hv.2 c' (by simp)
    have g4 := hv.2 d' (by simp)
    have : a = a' ∧ b = b' ∧ c = c' ∧ d = d' := by omega
    obtain ⟨rfl, rfl, rfl, rfl⟩ := this
    rfl
theorem sorted_one {ws ws' : List (List Int)} (h4 : ∀ w ∈ ws, w.length = 4 ∧ TS.Bd 64 w) (p : ws'.Perm ws) (s : ws.Pairwise (fun x y => TS.code 64 x ≤ TS.code 64 y)) (s' : ws'.Pairwise (fun x y => TS.code 64 x ≤ TS.code 64 y)) : ws' = ws :=
  List.Perm.eq_of_pairwise (le := fun x y => TS.code 64 x ≤ TS.code 64 y) (fun a b ha hb h1 h2 => code_inj (h4 a (p.mem_iff.mp ha)) (h4 b hb) (Int.le_antisymm h1 h2)) s' s p
/-- the pairs of so many rooms and letters -/
def prs (N L : Nat) : List (List Int) := (List.range N).flatMap fun a : Nat => (List.range L).map fun b : Nat => [(a : Int), (b : Int)]
theorem prs_mem {N L : Nat} {w : List Int} : w ∈ prs N L ↔ ∃ a b : Nat, a < N ∧ b < L ∧ w = [(a : Int), (b : Int)] := by
  unfold prs
  rw [List.mem_flatMap]
  constructor
  · rintro ⟨a, ha, h⟩
    obtain ⟨b, hb, e⟩ := List.mem_map.mp h
    exact ⟨a, b, List.mem_range.mp ha, List.mem_range.mp hb, e.symm⟩
  · rintro ⟨a, b, ha, hb, rfl⟩
    exact ⟨a, List.mem_range.mpr ha, List.mem_map.mpr ⟨b, List.mem_range.mpr hb, rfl⟩⟩
theorem prs_ok : ∀ N ∈ [1, 2, 3], ∀ L ∈ [1, 2], (prs N L).Nodup ∧ (prs N L).length = L * N := by decide +kernel
/-- a reader's ways, all there -/
structure Rd4 (L N : Int) (ws : List (List Int)) : Prop where
  way : ∀ w ∈ ws, WayOk L N w
  nd : ws.Nodup
  all : ∀ a b : Int, 0 ≤ a → a < N → 0 ≤ b → b < L → ∃ w ∈ ws, w.getD 0 0 = a ∧ w.getD 1 0 = b
  few : ws.length ≤ 12
  one : 1 ≤ ws.length
theorem Rd4.perm {L N : Int} {ws ws' : List (List Int)} (h : Rd4 L N ws) (p : ws'.Perm ws) : Rd4 L N ws' :=
  ⟨fun w hw => h.way w (p.mem_iff.mp hw), p.nodup_iff.mpr h.nd, fun a b h1 h2 h3 h4 => let ⟨w, hw, e⟩ := h.all a b h1 h2 h3 h4; ⟨w, p.mem_iff.mpr hw, e⟩, by rw [p.length_eq]; exact h.few, by rw [p.length_eq]; exact h.one⟩
theorem Rd4.cov {L N : Int} {ws : List (List Int)} (h : Rd4 L N ws) (hL : 1 ≤ L ∧ L ≤ 2) (hN : 1 ≤ N ∧ N ≤ 3) : ((dis (ws.map fun w => w.take 2)).length : Int) = L * N := by
  have n1 : N.toNat ∈ [1, 2, 3] := by
    have : N = 1 ∨ N = 2 ∨ N = 3 := by omega
    rcases this with e | e | e <;> subst e <;> decide
  have l1 : L.toNat ∈ [1, 2] := by
    have : L = 1 ∨ L = 2 := by omega
    rcases this with e | e <;> subst e <;> decide
  have ok := prs_ok N.toNat n1 L.toNat l1
  have : (prs N.toNat L.toNat).length = (dis (ws.map fun w => w.take 2)).length := dis_len ok.1 fun t => by
    rw [prs_mem]
    constructor
    · rintro ⟨a, b, ha, hb, rfl⟩
      obtain ⟨w, hw, e1, e2⟩ := h.all a b (by omega) (by omega) (by omega) (by omega)
      obtain ⟨x, y, z, s, rfl, _⟩ := h.way w hw
      refine List.mem_map.mpr ⟨_, hw, ?_⟩
      have e1' : x = a := e1
      have e2' : y = b := e2
      rw [e1', e2']
      rfl
    · intro ht
      obtain ⟨w, hw, e⟩ := List.mem_map.mp ht
      obtain ⟨x, y, z, s, rfl, hx, hy, _⟩ := h.way w hw
      refine ⟨x.toNat, y.toNat, by omega, by omega, ?_⟩
      rw [← e]
      show [x, y] = _
      have e1 : ((x.toNat : Nat) : Int) = x := by omega
      have e2 : ((y.toNat : Nat) : Int) = y := by omega
      rw [e1, e2]
  rw [← this, ok.2]
  rw [Int.natCast_mul]
  have e1 : ((N.toNat : Nat) : Int) = N := by omega
  have e2 : ((L.toNat : Nat) : Int) = L := by omega
  rw [e1, e2]
theorem Rd4.bd {L N : Int} {ws : List (List Int)} (h : Rd4 L N ws) (hL : L ≤ 4) (hN : N ≤ 12) : ∀ w ∈ ws, w.length = 4 ∧ TS.Bd 64 w := fun w hw => by
  obtain ⟨x, y, z, s, rfl, h1, h2, h3, h4⟩ := h.way w hw
  refine ⟨rfl, fun n hn => ?_⟩
  simp at hn
  rcases hn with e | e | e | e <;> subst e <;> constructor <;> omega
/-- what is made so far: all rooms below i, in room i all letters below j -/
structure Part (L N : Int) (i j : Nat) (W : List (List Int)) : Prop where
  way : ∀ w ∈ W, WayOk L N w ∧ (w.getD 0 0 < (i : Int) ∨ w.getD 0 0 = (i : Int) ∧ w.getD 1 0 < (j : Int))
  nd : W.Nodup
  all : ∀ a b : Int, 0 ≤ a → 0 ≤ b → b < L → (a < (i : Int) ∨ a = (i : Int) ∧ b < (j : Int)) → ∃ w ∈ W, w.getD 0 0 = a ∧ w.getD 1 0 = b
  few : (W.length : Int) ≤ 2 * ((i : Int) * L + j)
theorem Part.zero {L N : Int} : Part L N 0 0 [] :=
  ⟨fun w h => absurd h (List.not_mem_nil), List.nodup_nil, fun a b h1 h2 _ h => by omega, by simp⟩
theorem Part.one {L N : Int} {i j : Nat} {W : List (List Int)} (h : Part L N i j W) {c s : Int} (hi : (i : Int) < N) (hj : (j : Int) < L) (hc : 0 ≤ c ∧ c < N) (hs : 0 ≤ s ∧ s < 2) : Part L N i (j + 1) (W ++ [[(i : Int), (j : Int), c, s]]) := by
  refine ⟨fun w hw => ?_, ?_, fun a b h1 h2 h3 hab => ?_, ?_⟩
  · rcases List.mem_append.mp hw with z | z
    · obtain ⟨q1, q2⟩ := h.way w z
      exact ⟨q1, by omega⟩
    · rw [List.mem_singleton.mp z]
      exact ⟨⟨_, _, _, _, rfl, ⟨by omega, hi⟩, ⟨by omega, hj⟩, hc, hs⟩, .inr ⟨rfl, by show (j : Int) < _; omega⟩⟩
  · refine List.nodup_append.mpr ⟨h.nd, by simp, fun x hx y hy e => ?_⟩
    rw [List.mem_singleton.mp hy] at e
    subst e
    have := (h.way _ hx).2
    have e1 : ([(i : Int), (j : Int), c, s] : List Int).getD 0 0 = (i : Int) := rfl
    have e2 : ([(i : Int), (j : Int), c, s] : List Int).getD 1 0 = (j : Int) := rfl
    rw [e1, e2] at this
    omega
  · by_cases z : a = (i : Int) ∧ b = (j : Int)
    · exact ⟨_, List.mem_append_right _ (List.mem_singleton.mpr rfl), z.1.symm, z.2.symm⟩
    · obtain ⟨w, hw, e⟩ := h.all a b h1 h2 h3 (by omega)
      exact ⟨w, List.mem_append_left _ hw, e⟩
  · have := h.few
    rw [List.length_append, List.length_singleton]
    omega
theorem Part.two {L N : Int} {i j : Nat} {W : List (List Int)} (h : Part L N i j W) {c s c' s' : Int} (hi : (i : Int) < N) (hj : (j : Int) < L) (hc : 0 ≤ c ∧ c < N) (hs : 0 ≤ s ∧ s < 2) (hc' : 0 ≤ c' ∧ c' < N) (hs' : 0 ≤ s' ∧ s' < 2) (ne : ¬ [(i : Int), (j : Int), c', s'] = [(i : Int), (j : Int), c, s]) :
    Part L N i (j + 1) ((W ++ [[(i : Int), (j : Int), c, s]]) ++ [[(i : Int), (j : Int), c', s']]) := by
  have g := h.one hi hj hc hs
  refine ⟨fun w hw => ?_, ?_, fun a b h1 h2 h3 hab => ?_, ?_⟩
  · rcases List.mem_append.mp hw with z | z
    · exact g.way w z
    · rw [List.mem_singleton.mp z]
      exact ⟨⟨_, _, _, _, rfl, ⟨by omega, hi⟩, ⟨by omega, hj⟩, hc', hs'⟩, .inr ⟨rfl, by show (j : Int) < _; omega⟩⟩
  · refine List.nodup_append.mpr ⟨g.nd, by simp, fun x hx y hy e => ?_⟩
    rw [List.mem_singleton.mp hy] at e
    subst e
    rcases List.mem_append.mp hx with z | z
    · have := (h.way _ z).2
      have e1 : ([(i : Int), (j : Int), c', s'] : List Int).getD 0 0 = (i : Int) := rfl
      have e2 : ([(i : Int), (j : Int), c', s'] : List Int).getD 1 0 = (j : Int) := rfl
      rw [e1, e2] at this
      omega
    · exact ne (List.mem_singleton.mp z)
  · obtain ⟨w, hw, e⟩ := g.all a b h1 h2 h3 hab
    exact ⟨w, List.mem_append_left _ hw, e⟩
  · have := h.few
    rw [List.length_append, List.length_singleton, List.length_append, List.length_singleton]
    omega
theorem Part.next {L N : Int} {i : Nat} {W : List (List Int)} (hL : 0 ≤ L) (h : Part L N i L.toNat W) : Part L N (i + 1) 0 W :=
  ⟨fun w hw => by
      obtain ⟨q1, q2⟩ := h.way w hw
      refine ⟨q1, ?_⟩
      obtain ⟨x, y, z, s, rfl, h1, h2, _⟩ := q1
      have e1 : ([x, y, z, s] : List Int).getD 0 0 = x := rfl
      rw [e1] at q2 ⊢
      omega,
    h.nd, fun a b h1 h2 h3 hab => h.all a b h1 h2 h3 (by omega), by
      have := h.few
      have e : ((i + 1 : Nat) : Int) * L = (i : Int) * L + L := by
        rw [Int.natCast_add, Int.add_mul]; omega
      rw [e]
      omega⟩
theorem Part.full {L N : Int} {W : List (List Int)} (hL : 1 ≤ L ∧ L ≤ 2) (hN : 1 ≤ N ∧ N ≤ 3) (h : Part L N N.toNat 0 W) : Rd4 L N W := by
  refine ⟨fun w hw => (h.way w hw).1, h.nd, fun a b h1 h2 h3 h4 => h.all a b h1 h3 h4 (by omega), ?_, ?_⟩
  · have := h.few
    have e : ((N.toNat : Nat) : Int) = N := by omega
    rw [e] at this
    have a1 : L = 1 ∨ L = 2 := by omega
    have a2 : N = 1 ∨ N = 2 ∨ N = 3 := by omega
    rcases a1 with r | r <;> rcases a2 with q | q | q <;> subst r q <;> omega
  · obtain ⟨w, hw, _⟩ := h.all 0 0 (by omega) (by omega) (by omega) (by omega)
    exact List.length_pos_of_mem hw
theorem cw_sortV {K : PySem.W.Frag} {μ : Mu} {P : PD} {d : Dat} {dd : Nat} {B : Int} {ws : List (List Int)} (hd : Lv μ d (ws.map tw)) (hl : ws.length < 64) (hb : ∀ w ∈ ws, w.length = dd ∧ TS.Bd B w)
    (p : ∀ ws' : List (List Int), ws'.Perm ws → ws'.Pairwise (fun x y => TS.code B x ≤ TS.code B y) → P (.lst (ws'.map tw)) μ) : CW K (rSortU K dd B) [d] μ P := fun A H us s x Q q => by
  cases x with
  | @cons v0 _ _ _ a t =>
    cases t
    obtain ⟨b, vs, rfl, h1, t1⟩ := hd.at_ s a
    have len4 : vs.length = ws.length := by rw [t1.length, List.length_map]
    refine ⟨b, vs, rfl, h1, by omega, fun y hy => ?_, fun ys c pm pw hc => ?_⟩
    · obtain ⟨i, hi⟩ := List.mem_iff_getElem?.mp hy
      obtain ⟨d, hd, dd⟩ := t1.getV hi
      rw [List.getElem?_map] at hd
      obtain ⟨w, hwi, rfl⟩ := Option.map_eq_some_iff.mp hd
      exact ⟨w, tupI_of dd, hb w (List.mem_of_getElem? hwi)⟩
    · obtain ⟨ws', pmw, dys⟩ := dns_perm pm t1
      have pww : ws'.Pairwise (fun x y => TS.code B x ≤ TS.code B y) := dns_pair dys pw fun y z n m hR h1 h2 => hR n m (tupI_of h1) (tupI_of h2)
      exact q A _ _ _ μ (ext_new hc) (s.new hc) (Dn.newL s hc dys) (p ws' pmw pww)
theorem tw_snoc (W : List (List Int)) (w : List Int) : W.map tw ++ [tw w] = (W ++ [w]).map tw := by rw [List.map_append]; rfl
theorem eqD_tw4 (a b c s a' b' c' s' : Int) : eqD (.tup [.int a, .int b, .int c, .int s]) (.tup [.int a', .int b', .int c', .int s']) = decide ([a, b, c, s] = [a', b', c', s']) := eqD_tw [a, b, c, s] [a', b', c', s']
theorem if_ints {c : Bool} {t u : TE} {ρ : Ro} {m : Mu} {K : PySem.W.Frag} {Q : PD} (h1 : EW K t ρ m Q) (h2 : EW K u ρ m Q) : if c = true then EW K t ρ m Q else EW K u ρ m Q := by
  cases c with
  | true => exact if_t h1
  | false => exact if_f h2
def wsA : List (List Int) := [[0, 0, 0, 0], [0, 0, 1, 1], [0, 1, 0, 1], [0, 1, 1, 1], [1, 0, 0, 1], [1, 0, 1, 1], [1, 1, 0, 1], [1, 1, 1, 0]]
def wsB : List (List Int) := [[0, 0, 1, 1], [0, 0, 2, 1], [0, 1, 1, 1], [0, 1, 2, 1], [1, 0, 1, 0], [1, 1, 1, 1], [2, 0, 2, 1], [2, 1, 2, 0]]
def wayOkB (L R : Int) : List Int → Bool
  | [a, b, c, s] => decide (0 ≤ a ∧ a < R) && decide (0 ≤ b ∧ b < L) && decide (0 ≤ c ∧ c < R) && decide (0 ≤ s ∧ s < 2)
  | _ => false
theorem wayOk_by {L R : Int} {w : List Int} (h : wayOkB L R w = true) : WayOk L R w := by
  match w, h with
  | [a, b, c, s], h =>
    simp only [wayOkB, Bool.and_eq_true, decide_eq_true_eq] at h
    exact ⟨a, b, c, s, rfl, h.1.1.1, h.1.1.2, h.1.2, h.2⟩
theorem rd_by {L N : Int} {ws : List (List Int)} (h1 : ws.all (wayOkB L N) = true) (h2 : ws.Nodup) (h3 : ∀ a : Nat, a < N.toNat → ∀ b : Nat, b < L.toNat → (ws.any fun w => decide (w.getD 0 0 = (a : Int)) && decide (w.getD 1 0 = (b : Int))) = true) (h4 : ws.length ≤ 12) (h5 : 1 ≤ ws.length) : Rd4 L N ws :=
  ⟨fun w hw => wayOk_by (List.all_eq_true.mp h1 w hw), h2, fun a b a0 a1 b0 b1 => by
    obtain ⟨w, hw, e⟩ := List.any_eq_true.mp (h3 a.toNat (by omega) b.toNat (by omega))
    simp only [Bool.and_eq_true, decide_eq_true_eq] at e
    exact ⟨w, hw, by omega, by omega⟩, h4, h5⟩
theorem rdA : Rd4 2 2 wsA := rd_by (by decide +kernel) (by decide +kernel) (by decide +kernel) (by decide) (by decide)
theorem rdB : Rd4 2 3 wsB := rd_by (by decide +kernel) (by decide +kernel) (by decide +kernel) (by decide) (by decide)
abbrev wrl (L N : Int) (ws : List (List Int)) : Dat := .tup [.int L, .int N, .lst (ws.map tw)]
def f_world : FW := fun ds m P => ∃ a b r, ds = [.cell 0] ∧ m = pt a b :: r ∧ Okp a b ∧
  ∀ a' b' L N ws j, Okp a' b' → (1 ≤ L ∧ L ≤ 2) → (1 ≤ N ∧ N ≤ 3) → Rd4 L N ws → ws.Pairwise (fun x y => TS.code 64 x ≤ TS.code 64 y) → P (wrl L N ws) (pt a' b' :: (r ++ j))
theorem ok__law_world (T : All K mg) : FnOk P w K mg base CX0 2 T.d__law_world.f T.d__law_world.fd ["_law_pot_here"] (spD K f_world) := by
  refine T.d__law_world.F.ok sc__law_world (fun vs H Q E h => sp_len (by intro ds m P f; first | (obtain ⟨rfl, _⟩ := f; rfl) | (obtain ⟨_, h⟩ := f; first | (obtain ⟨rfl, _⟩ := h; rfl) | (obtain ⟨_, rfl, _⟩ := h; rfl) | (obtain ⟨_, _, rfl, _⟩ := h; rfl) | (obtain ⟨_, _, _, rfl, _⟩ := h; rfl) | (obtain ⟨_, _, _, _, rfl, _⟩ := h; rfl) | (obtain ⟨_, _, _, _, _, rfl, _⟩ := h; rfl) | (obtain ⟨_, _, _, _, _, _, rfl, _⟩ := h; rfl) | (obtain ⟨_, _, _, _, _, _, _, rfl, _⟩ := h; rfl) | (obtain ⟨_, _, _, _, _, _, _, _, rfl, _⟩ := h; rfl) | (obtain ⟨_, _, _, _, _, _, _, _, _, rfl, _⟩ := h; rfl))) h) (fun cdv A outer s H vs Q E hr h => ?_)
  refine ⟨_, (pss_cons (ps_set (i := 1) sc__law_world.nd rfl (Or.inl rfl) (pe_call (ok__law_draw T) (hr.mono (by decide)) rfl T.d__law_draw.g T.d__law_draw.F.kp T.d__law_draw.b .nil pass0 (pa_cons (pv 0) (pa_cons pe_int pa_nil))))
      (pss_cons (ps_if (pt_cmpR op_eq (pv 1) pe_int (nomark _)) (pss_cons (ps_set (i := 2) sc__law_world.nd rfl (Or.inl rfl) (pe_lst (pa_cons (pe_tup (pa_cons pe_int (pa_cons pe_int (pa_cons pe_int (pa_cons pe_int pa_nil))))) (pa_cons (pe_tup (pa_cons pe_int (pa_cons pe_int (pa_cons pe_int (pa_cons pe_int pa_nil))))) (pa_cons (pe_tup (pa_cons pe_int (pa_cons pe_int (pa_cons pe_int (pa_cons pe_int pa_nil))))) (pa_cons (pe_tup (pa_cons pe_int (pa_cons pe_int (pa_cons pe_int (pa_cons pe_int pa_nil))))) (pa_cons (pe_tup (pa_cons pe_int (pa_cons pe_int (pa_cons pe_int (pa_cons pe_int pa_nil))))) (pa_cons (pe_tup (pa_cons pe_int (pa_cons pe_int (pa_cons pe_int (pa_cons pe_int pa_nil))))) pa_nil))))))))
      (pss_one (ps_ret (pe_tup (pa_cons pe_int (pa_cons pe_int (pa_cons (pe_callB (cr_sortT (d := 4) (B := 64) (by decide)) (by rfl) T.z_sorted (by decide +kernel) (pa_cons (pe_op op_catL (pv 2) (pe_lst (pa_cons (pe_tup (pa_cons pe_int (pa_cons pe_int (pa_cons pe_int (pa_cons pe_int pa_nil))))) (pa_cons (pe_tup (pa_cons pe_int (pa_cons pe_int (pa_cons pe_int (pa_cons pe_int pa_nil))))) pa_nil)))) pa_nil)) pa_nil))))))) pss_nil)
      (pss_cons (ps_if (pt_cmpR op_eq (pv 1) pe_int (nomark _)) (pss_cons (ps_set (i := 2) sc__law_world.nd rfl (Or.inl rfl) (pe_lst (pa_cons (pe_tup (pa_cons pe_int (pa_cons pe_int (pa_cons pe_int (pa_cons pe_int pa_nil))))) (pa_cons (pe_tup (pa_cons pe_int (pa_cons pe_int (pa_cons pe_int (pa_cons pe_int pa_nil))))) (pa_cons (pe_tup (pa_cons pe_int (pa_cons pe_int (pa_cons pe_int (pa_cons pe_int pa_nil))))) (pa_cons (pe_tup (pa_cons pe_int (pa_cons pe_int (pa_cons pe_int (pa_cons pe_int pa_nil))))) (pa_cons (pe_tup (pa_cons pe_int (pa_cons pe_int (pa_cons pe_int (pa_cons pe_int pa_nil))))) (pa_cons (pe_tup (pa_cons pe_int (pa_cons pe_int (pa_cons pe_int (pa_cons pe_int pa_nil))))) pa_nil))))))))
      (pss_one (ps_ret (pe_tup (pa_cons pe_int (pa_cons pe_int (pa_cons (pe_callB (cr_sortT (d := 4) (B := 64) (by decide)) (by rfl) T.z_sorted (by decide +kernel) (pa_cons (pe_op op_catL (pv 2) (pe_lst (pa_cons (pe_tup (pa_cons pe_int (pa_cons pe_int (pa_cons pe_int (pa_cons pe_int pa_nil))))) (pa_cons (pe_tup (pa_cons pe_int (pa_cons pe_int (pa_cons pe_int (pa_cons pe_int pa_nil))))) pa_nil)))) pa_nil)) pa_nil))))))) pss_nil)
      (pss_cons (ps_par3 (i := 3) (j := 4) (l := 2) rfl sc__law_world.nd rfl rfl rfl (by decide) (by decide) (by decide) rfl rfl rfl (pa_cons (pe_op op_add pe_int (pe_call (ok__law_draw T) (hr.mono (by decide)) rfl T.d__law_draw.g T.d__law_draw.F.kp T.d__law_draw.b .nil pass0 (pa_cons (pv 0) (pa_cons pe_int pa_nil)))) (pa_cons (pe_op op_add pe_int (pe_call (ok__law_draw T) (hr.mono (by decide)) rfl T.d__law_draw.g T.d__law_draw.F.kp T.d__law_draw.b .nil pass0 (pa_cons (pv 0) (pa_cons pe_int pa_nil)))) (pa_cons (pe_lst pa_nil) pa_nil))) (by rfl))
      (pss_cons (ps_set (i := 5) sc__law_world.nd rfl (Or.inl rfl) (pe_ifExp (pt_cmpR op_eq (pv 1) pe_int (nomark _)) pe_int (pe_ifExp (pt_cmpR op_eq (pv 4) pe_int (nomark _)) pe_int pe_int)))
      (pss_cons (ps_for PassesOwn.never rfl (pi_range1 (by rfl) T.z_range (pa_cons (pv 4) pa_nil)) (pg_name (i := 6) sc__law_world.nd rfl (Or.inl rfl)) (pss_one (ps_for PassesOwn.never rfl (pi_range1 (by rfl) T.z_range (pa_cons (pv 3) pa_nil)) (pg_name (i := 7) sc__law_world.nd rfl (Or.inl rfl)) (pss_cons (ps_set (i := 8) sc__law_world.nd rfl (Or.inl rfl) (pe_tup (pa_cons (pv 6) (pa_cons (pv 7) (pa_cons (pe_call (ok__law_draw T) (hr.mono (by decide)) rfl T.d__law_draw.g T.d__law_draw.F.kp T.d__law_draw.b .nil pass0 (pa_cons (pv 0) (pa_cons (pv 4) pa_nil))) (pa_cons (pe_call (ok__law_draw T) (hr.mono (by decide)) rfl T.d__law_draw.g T.d__law_draw.F.kp T.d__law_draw.b .nil pass0 (pa_cons (pv 0) (pa_cons pe_int pa_nil))) pa_nil))))))
      (pss_cons (ps_expr (pe_bm PySem.F.plainAttrs_list PySem.F.slot_list_append PySem.F.type_list_append mt_append (pv 2) (pa_cons (pv 8) pa_nil)))
      (pss_one (ps_if (PW.pt (pw_and (pt_cmpR op_gt (pv 5) pe_int (nomark _)) (pw_and1 (pt_cmpR op_eq (pe_call (ok__law_draw T) (hr.mono (by decide)) rfl T.d__law_draw.g T.d__law_draw.F.kp T.d__law_draw.b .nil pass0 (pa_cons (pv 0) (pa_cons pe_int pa_nil))) pe_int (nomark _))))) (pss_cons (ps_set (i := 9) sc__law_world.nd rfl (Or.inl rfl) (pe_tup (pa_cons (pv 6) (pa_cons (pv 7) (pa_cons (pe_call (ok__law_draw T) (hr.mono (by decide)) rfl T.d__law_draw.g T.d__law_draw.F.kp T.d__law_draw.b .nil pass0 (pa_cons (pv 0) (pa_cons (pv 4) pa_nil))) (pa_cons (pe_call (ok__law_draw T) (hr.mono (by decide)) rfl T.d__law_draw.g T.d__law_draw.F.kp T.d__law_draw.b .nil pass0 (pa_cons (pv 0) (pa_cons pe_int pa_nil))) pa_nil))))))
      (pss_one (ps_if (pt_cmpR (op_neD hr.units) (pv 9) (pv 8) (nomark _)) (pss_cons (ps_expr (pe_bm PySem.F.plainAttrs_list PySem.F.slot_list_append PySem.F.type_list_append mt_append (pv 2) (pa_cons (pv 9) pa_nil)))
      (pss_one (ps_set (i := 5) sc__law_world.nd rfl (Or.inl rfl) (pe_op op_sub (pv 5) pe_int)))) pss_nil))) pss_nil)))))))
      (pss_one (ps_ret (pe_tup (pa_cons (pv 3) (pa_cons (pv 4) (pa_cons (pe_callB (cr_sortT (d := 4) (B := 64) (by decide)) (by rfl) T.z_sorted (by decide +kernel) (pa_cons (pv 2) pa_nil)) pa_nil)))))))))))), body_of h fun ds m P f => ?_⟩
  try dsimp only [cxOf, Cx.nox, Cx.wish, Cx.blk]
  obtain ⟨a, b, r, rfl, rfl, ok, p⟩ := f
  walk_at "dl"
  refine ⟨a, b, r, 6, rfl, rfl, ok, by omega, by omega, fun a b v ok v0 v1 => ?_⟩
  walk_at "dl"
  refine if_d (fun g0 => ?_) (fun g0 => ?_)
  · walk_at "dl"
    refine ew_lst ?_
    walk_at "dl"
    refine ⟨by show 6 ≤ sizeLine; decide, ?_⟩
    walk_at "dl"
    refine ew_lst ?_
    walk_at "dl"
    refine rw_catL (by show 6 + 2 ≤ sizeLine; decide) ?_
    walk_at "dl"
    refine cw_sortV (ws := wsA) (.inl rfl) (by decide) (rdA.bd (by omega) (by omega)) fun ws pm pw => ?_
    walk_at "dl"
    have := p a b 2 2 ws [] ok (by omega) (by omega) (rdA.perm pm) pw
    rwa [List.append_nil] at this
  walk_at "dl"
  refine if_d (fun g1 => ?_) (fun g1 => ?_)
  · walk_at "dl"
    refine ew_lst ?_
    walk_at "dl"
    refine ⟨by show 6 ≤ sizeLine; decide, ?_⟩
    walk_at "dl"
    refine ew_lst ?_
    walk_at "dl"
    refine rw_catL (by show 6 + 2 ≤ sizeLine; decide) ?_
    walk_at "dl"
    refine cw_sortV (ws := wsB) (.inl rfl) (by decide) (rdB.bd (by omega) (by omega)) fun ws pm pw => ?_
    walk_at "dl"
    have := p a b 2 3 ws [] ok (by omega) (by omega) (rdB.perm pm) pw
    rwa [List.append_nil] at this
  walk_at "dl"
  refine ⟨a, b, r, 2, rfl, rfl, ok, by omega, by omega, fun a b lv ok l0 l1 => ?_⟩
  walk_at "dl"
  refine ⟨a, b, r, 3, rfl, rfl, ok, by omega, by omega, fun a b nv ok n0 n1 => ?_⟩
  walk_at "dl"
  generalize eL : 1 + lv = L
  generalize eN : 1 + nv = N
  have hL : 1 ≤ L ∧ L ≤ 2 := by omega
  have hN : 1 ≤ N ∧ N ≤ 3 := by omega
  refine ew_lstC ?_
  walk_at "dl"
  refine ⟨rfl, aw_nil (leaf_three ?_)⟩
  refine s_seq (s_set (EW.imp (P := fun d m => m = pt a b :: (r ++ [some []]) ∧ ∃ lf, d = .int lf) ?_ ?_))
  · walk_at "dl"
    refine if_ints ?_ ?_
    · walk_at "dl"
      exact ⟨rfl, _, rfl⟩
    walk_at "dl"
    refine if_ints ?_ ?_
    · walk_at "dl"
      exact ⟨rfl, _, rfl⟩
    · walk_at "dl"
      exact ⟨rfl, _, rfl⟩
  rintro d m ⟨rfl, lf, rfl⟩
  walk_at "dl"
  refine s_forR1 ?_
  walk_at "dl"
  refine ⟨N, rfl, by omega, by omega, fun i ρ' m' => ∃ a b W lf, Okp a b ∧ Part L N i 0 W ∧ m' = pt a b :: (r ++ [some (W.map tw)]) ∧ ∃ e1 e2 e3 e4, ρ' = [some (.cell 0), some (.int v), some (.cell (r.length + 1)), some (.int L), some (.int N), some (.int lf), e1, e2, e3, e4], ⟨a, b, [], lf, ok, .zero, rfl, _, _, _, _, rfl⟩, ?_, ?_⟩
  · rintro i ρ' m' hi ⟨a, b, W, lf, ok, pa, rfl, e1, e2, e3, e4, rfl⟩
    have hiN : (i : Int) < N := by omega
    walk_at "dl"
    refine s_forR1 ?_
    walk_at "dl"
    refine ⟨L, rfl, by omega, by omega, fun j ρ' m' => ∃ a b W lf, Okp a b ∧ Part L N i j W ∧ m' = pt a b :: (r ++ [some (W.map tw)]) ∧ ∃ e2 e3 e4, ρ' = [some (.cell 0), some (.int v), some (.cell (r.length + 1)), some (.int L), some (.int N), some (.int lf), some (.int (i : Nat)), e2, e3, e4], ⟨a, b, W, lf, ok, pa, rfl, _, _, _, rfl⟩, ?_, ?_⟩
    · rintro j ρ' m' hj ⟨a, b, W, lf, ok, pa, rfl, e2, e3, e4, rfl⟩
      have hjL : (j : Int) < L := by omega
      have small : W.length ≤ 20 := by
        have := pa.few
        have a1 : L = 1 ∨ L = 2 := by omega
        rcases a1 with q | q <;> subst q <;> omega
      walk_at "dl"
      refine ⟨a, b, _, N, rfl, rfl, ok, by omega, by omega, fun a b c ok c0 c1 => ?_⟩
      walk_at "dl"
      refine ⟨a, b, _, 2, rfl, rfl, ok, by omega, by omega, fun a b s ok s0 s1 => ?_⟩
      walk_at "dl"
      refine ew_append ?_
      walk_at "dl"
      refine ⟨⟨_, _, rfl, at_new⟩, ?_⟩
      walk_at "dl"
      refine ⟨_, _, _, rfl, rfl, rfl, at_new, by rw [List.length_map, sizeLine_eq]; omega, ?_⟩
      rw [set_new]
      have e4 : W.map tw ++ [Dat.tup [.int (i : Nat), .int (j : Nat), .int c, .int s]] = (W ++ [[(i : Int), (j : Int), c, s]]).map tw := tw_snoc W [(i : Int), (j : Int), c, s]
      walk_at "dl"
      refine if_d (fun g1 => ?_) (fun g1 => ?_)
      · walk_at "dl"
        refine ⟨a, b, _, 2, rfl, rfl, ok, by omega, by omega, fun a b u ok u0 u1 => ?_⟩
        walk_at "dl"
        refine if_d (fun g2 => ?_) (fun g2 => ?_)
        · walk_at "dl"
          refine ⟨a, b, _, N, rfl, rfl, ok, by omega, by omega, fun a b c' ok c0' c1' => ?_⟩
          walk_at "dl"
          refine ⟨a, b, _, 2, rfl, rfl, ok, by omega, by omega, fun a b s' ok s0' s1' => ?_⟩
          walk_at "dl"
          refine rw_neD (shp_tw [(i : Int), (j : Int), c', s']) (shp_tw [(i : Int), (j : Int), c, s]) ?_
          rw [eqD_tw4]
          walk_at "dl"
          refine if_nd (fun ne => ?_) (fun ne => ?_)
          · walk_at "dl"
            refine ew_append ?_
            walk_at "dl"
            refine ⟨⟨_, _, rfl, at_new⟩, ?_⟩
            walk_at "dl"
            refine ⟨_, _, _, rfl, rfl, rfl, at_new, by rw [List.length_append, List.length_map, sizeLine_eq]; simp; omega, ?_⟩
            rw [set_new, e4]
            walk_at "dl"
            exact ⟨a, b, _, _, ok, pa.two hiN hjL ⟨c0, c1⟩ ⟨s0, s1⟩ ⟨c0', c1'⟩ ⟨s0', s1'⟩ ne, congrArg (fun z => pt a b :: (r ++ [some z])) (tw_snoc (W ++ [[(i : Int), (j : Int), c, s]]) [(i : Int), (j : Int), c', s']), _, _, _, rfl⟩
          · walk_at "dl"
            exact ⟨a, b, _, lf, ok, pa.one hiN hjL ⟨c0, c1⟩ ⟨s0, s1⟩, by rw [e4], _, _, _, rfl⟩
        · walk_at "dl"
          exact ⟨a, b, _, lf, ok, pa.one hiN hjL ⟨c0, c1⟩ ⟨s0, s1⟩, by rw [e4], _, _, _, rfl⟩
      · walk_at "dl"
        exact ⟨a, b, _, lf, ok, pa.one hiN hjL ⟨c0, c1⟩ ⟨s0, s1⟩, by rw [e4], _, _, _, rfl⟩
    · rintro ρ' m' ⟨a, b, W, lf, ok, pa, rfl, e2, e3, e4, rfl⟩
      exact ⟨a, b, W, lf, ok, pa.next (by omega), rfl, _, _, _, _, rfl⟩
  · rintro ρ' m' ⟨a, b, W, lf, ok, pa, rfl, e1, e2, e3, e4, rfl⟩
    have rd := pa.full hL hN
    have few := rd.few
    walk_at "dl"
    refine cw_sortV (.inr ⟨_, rfl, at_new⟩) (by omega) (rd.bd (by omega) (by omega)) fun ws pm pw => ?_
    walk_at "dl"
    exact p a b L N ws _ ok hL hN (rd.perm pm) pw
/-! ### the law's numbers, its eye for tables -/
def f_numbers : FW := fun ds m P => ∃ L N ws r c, ds = [wrl L N ws, .int r, .int c] ∧ (∀ w ∈ ws, WayOk L N w) ∧ ws.length ≤ 1000 ∧ P (.lst (ni (sel ws r c))) m
theorem ok__law_numbers (T : All K mg) : FnOk P w K mg base CX0 1 T.d__law_numbers.f T.d__law_numbers.fd ["_law_world_here", "_law_room", "_law_letter"] (spD K f_numbers) := by
  refine T.d__law_numbers.F.ok sc__law_numbers (fun vs H Q E h => sp_len (by intro ds m P f; first | (obtain ⟨rfl, _⟩ := f; rfl) | (obtain ⟨_, h⟩ := f; first | (obtain ⟨rfl, _⟩ := h; rfl) | (obtain ⟨_, rfl, _⟩ := h; rfl) | (obtain ⟨_, _, rfl, _⟩ := h; rfl) | (obtain ⟨_, _, _, rfl, _⟩ := h; rfl) | (obtain ⟨_, _, _, _, rfl, _⟩ := h; rfl) | (obtain ⟨_, _, _, _, _, rfl, _⟩ := h; rfl) | (obtain ⟨_, _, _, _, _, _, rfl, _⟩ := h; rfl) | (obtain ⟨_, _, _, _, _, _, _, rfl, _⟩ := h; rfl) | (obtain ⟨_, _, _, _, _, _, _, _, rfl, _⟩ := h; rfl) | (obtain ⟨_, _, _, _, _, _, _, _, _, rfl, _⟩ := h; rfl))) h) (fun cdv A outer s H vs Q E hr h => ?_)
  refine ⟨_, (pss_one (ps_ret (pe_lc (own := [("_law_at", 3), ("_law_way", 4)]) (g := gTup K 2 (gCons (gName 3) (gCons (gName 4) gNil))) rfl sc__law_numbers.nd (pi_enum (by rfl) T.z_enumerate (pa_cons (pe_ix (show IxR _ (rIxT K) from ix_tup) (pv 0) pe_int (fun _ _ => rfl)) pa_nil)) (blkOk_by (N := N__law_numbers) (sc := defScope s__law_numbers) (by decide +kernel)) (fun _ _ _ _ _ => pg_tup (by rfl) (pgs_cons (pg_name (i := 3) sc__law_numbers.nd rfl (Or.inl rfl)) (pgs_cons (pg_name (i := 4) sc__law_numbers.nd rfl (Or.inl rfl)) pgs_nil))) (fun _ _ _ _ _ => pts_one (pt_cmpR (show OpR _ _ (rEqD K) from op_eqD hr.units) (pe_slice (show SlR _ (rSlA K) from sl_tupA) (pv 4) po_none (po_some pe_int)) (pe_tup (pa_cons (pv 1) (pa_cons (pv 2) pa_nil))) (nomark _))) (fun _ _ _ _ _ => (pv 3))))), body_of h fun ds m P f => ?_⟩
  try dsimp only [cxOf, Cx.nox, Cx.wish, Cx.blk]
  obtain ⟨L, N, ws, r, c, rfl, hw, few, p⟩ := f
  walk_at "dl"
  refine ew_lcE ?_
  walk_at "dl"
  refine ⟨_, ws.map tw, rfl, .inl rfl, by rw [List.length_map, sizeLine_eq]; omega, fun n _ => if at4 ws n 0 = r ∧ at4 ws n 1 = c then some (Dat.int (n : Nat)) else none, ?_, ?_⟩
  · intro n z acc hz
    have hn : n < ws.length := by
      have := (List.getElem?_eq_some_iff.mp hz).1
      rwa [List.length_map] at this
    have ez : z = .tup (wi [at4 ws n 0, at4 ws n 1, at4 ws n 2, at4 ws n 3]) := by
      rw [List.getElem?_map, way4 hw hn] at hz
      exact (Option.some.inj hz).symm
    subst ez
    unfold TurnW
    walk_at "dl"
    rw [two_at hw hn]
    refine rw_eqD (shp_tw [at4 ws n 0, at4 ws n 1]) (shp_tw [r, c]) ?_
    have ee : eqD (.tup (wi [at4 ws n 0, at4 ws n 1])) (.tup [.int r, .int c]) = decide ([at4 ws n 0, at4 ws n 1] = [r, c]) := eqD_tw [at4 ws n 0, at4 ws n 1] [r, c]
    rw [ee]
    have ei : ([at4 ws n 0, at4 ws n 1] = [r, c]) ↔ (at4 ws n 0 = r ∧ at4 ws n 1 = c) := by simp
    walk_at "dl"
    by_cases d1 : [at4 ws n 0, at4 ws n 1] = [r, c]
    · rw [decide_eq_true d1]
      refine if_t ?_
      walk_at "dl"
      exact ⟨rfl, rfl, if_pos (ei.mp d1)⟩
    · rw [decide_eq_false d1]
      exact if_f ⟨rfl, (if_neg fun z => d1 (ei.mpr z))⟩
  · rw [sel_fm]
    exact p
def f_lcount : FW := fun ds m P => ∃ d n, ds = [d, .int n] ∧ P (.bl (isB (n + 1) d)) m
theorem ok__law_is_count (T : All K mg) : FnOk P w K mg base CX0 1 T.d__law_is_count.f T.d__law_is_count.fd ["_law_value", "_law_most"] (spD K f_lcount) := by
  refine T.d__law_is_count.F.ok sc__law_is_count (fun vs H Q E h => sp_len (by intro ds m P f; first | (obtain ⟨rfl, _⟩ := f; rfl) | (obtain ⟨_, h⟩ := f; first | (obtain ⟨rfl, _⟩ := h; rfl) | (obtain ⟨_, rfl, _⟩ := h; rfl) | (obtain ⟨_, _, rfl, _⟩ := h; rfl) | (obtain ⟨_, _, _, rfl, _⟩ := h; rfl) | (obtain ⟨_, _, _, _, rfl, _⟩ := h; rfl) | (obtain ⟨_, _, _, _, _, rfl, _⟩ := h; rfl) | (obtain ⟨_, _, _, _, _, _, rfl, _⟩ := h; rfl) | (obtain ⟨_, _, _, _, _, _, _, rfl, _⟩ := h; rfl) | (obtain ⟨_, _, _, _, _, _, _, _, rfl, _⟩ := h; rfl) | (obtain ⟨_, _, _, _, _, _, _, _, _, rfl, _⟩ := h; rfl))) h) (fun cdv A outer s H vs Q E hr h => ?_)
  refine ⟨_, (pss_one (ps_ret (pe_and (pe_callB (show CallR _ (.builtin "isinstance") (rIsi K) from call_isi) (by rfl) T.z_isinstance (by decide +kernel) (pa_cons (pv 0) (pa_cons (pe_bltn (v := .ty "int") (u := .type "int") (by rfl) T.z_int (by decide +kernel) rfl) pa_nil))) (pe_and (pe_not (pe_callB (show CallR _ (.builtin "isinstance") (rIsi K) from call_isi) (by rfl) T.z_isinstance (by decide +kernel) (pa_cons (pv 0) (pa_cons (pe_bltn (v := .ty "bool") (u := .type "bool") (by rfl) T.z_bool (by decide +kernel) rfl) pa_nil)))) (pe_one (pe_chain op_le op_le pe_int (pv 0) (pv 1))))))), body_of h fun ds m P f => ?_⟩
  try dsimp only [cxOf, Cx.nox, Cx.wish, Cx.blk]
  obtain ⟨d, n, rfl, p⟩ := f
  walk_at "dl"
  refine ⟨_, kb_int d, leaf_bl ?_⟩
  cases d with
  | int i =>
    refine if_t ?_
    walk_at "dl"
    refine ⟨_, kb_bool _, leaf_bl (leaf_bl (if_nf ?_))⟩
    walk_at "dl"
    refine if_d (fun h => ?_) (fun h => ?_)
    · walk_at "dl"
      have : isB (n + 1) (.int i) = decide (i ≤ n) := by
        simp only [isB, decide_eq_true h, Bool.true_and]
        exact decide_eq_decide.mpr (by omega)
      rw [this] at p
      exact p
    · have : isB (n + 1) (.int i) = false := by simp [isB, h]
      rw [this] at p
      exact p
  | bl b =>
    refine if_t ?_
    walk_at "dl"
    exact ⟨_, kb_bool _, leaf_bl (leaf_bl (if_nt p))⟩
  | _ => exact if_f p
end
end L56
namespace L56
open PySem PySem.Spec PyProof.Rows L2 DL StX KM RM
section
variable {P : Program} {w : World} {K : PySem.W.Frag} {mg : Str → Option Value} {base : Heap}
/- one rule a construct; what asks for a fact is left -/
local macro_rules | `(tactic| walk_at "dl") => `(tactic| repeat (first
  | ((with_reducible refine' ew_var ?hv ?_); (case hv => exact rfl))
  | with_reducible refine ew_int ?_
  | with_reducible refine ew_bl ?_
  | with_reducible refine ew_non ?_
  | with_reducible refine ew_str ?_
  | with_reducible refine aw_nil ?_
  | with_reducible refine aw_cons ?_
  | with_reducible refine ew_isi ?_
  | with_reducible refine ew_isi2 ?_
  | with_reducible refine ew_isiC ?_
  | with_reducible refine ew_op ?_
  | with_reducible refine ew_un ?_
  | with_reducible refine uw_neg ?_
  | with_reducible refine ew_cb ?_
  | with_reducible refine ew_call ?_
  | with_reducible refine ew_k01 ?_
  | with_reducible refine ew_k02 ?_
  | with_reducible refine ew_k02s ?_
  | with_reducible refine ew_k3t ?_
  | with_reducible refine ew_chain ?_
  | with_reducible refine ew_andV ?_
  | with_reducible refine ew_orV ?_
  | with_reducible refine ew_notV ?_
  | with_reducible refine ew_if ?_
  | with_reducible refine ew_slT ?_
  | with_reducible refine ew_slL ?_
  | with_reducible refine ow_none ?_
  | with_reducible refine ow_some ?_
  | with_reducible refine tw_test ?_
  | with_reducible refine tw_B ?_
  | with_reducible refine tw_and ?_
  | with_reducible refine tw_or ?_
  | with_reducible refine tw_not ?_
  | with_reducible refine tw_tru ?_
  | with_reducible refine s_seq ?_
  | with_reducible refine s_set ?_
  | with_reducible refine s_asg ?_
  | with_reducible refine s_ret ?_
  | with_reducible refine s_retN ?_
  | with_reducible refine s_if ?_
  | with_reducible refine s_drop ?_
  | with_reducible refine s_par ?_
  | with_reducible refine s_par3 ?_
  | with_reducible refine s_next ?_
  | with_reducible refine gw_tup rfl ?_
  | with_reducible refine gs_cons ?_
  | with_reducible refine gs_nil ?_
  | with_reducible refine gw_name ?_
  | with_reducible refine rw_add ?_
  | with_reducible refine rw_sub ?_
  | with_reducible refine rw_lt ?_
  | with_reducible refine rw_le ?_
  | with_reducible refine rw_gt ?_
  | with_reducible refine rw_ge ?_
  | with_reducible refine rw_eqI ?_
  | with_reducible refine rw_neI ?_
  | with_reducible refine rw_eqB ?_
  | with_reducible refine rw_neS ?_
  | with_reducible refine rw_isN ?_
  | with_reducible refine rw_notN ?_
  | with_reducible refine rw_isB ?_
  | with_reducible refine rw_notB ?_
  | ((with_reducible refine' rw_ixT ?hi ?_); (case hi => exact rfl))
  | ((with_reducible refine' rw_ixL ?hi ?_); (case hi => exact rfl))
  | with_reducible refine cw_lenT ?_
  | with_reducible refine cw_lenL ?_
  | with_reducible refine cw_tupL ?_
  | with_reducible refine cw_max2 ?_
  | with_reducible refine cw_abs ?_
  | with_reducible refine cw_int1 ?_
  | with_reducible refine leaf_bl ?_
  | with_reducible refine leaf_int ?_
  | with_reducible refine leaf_tup ?_
  | with_reducible refine leaf_lst ?_
  | with_reducible refine leaf_two ?_
  | with_reducible refine leaf_three ?_
  | with_reducible refine ew_tup ?_
  | with_reducible refine sz0 ?_
  | with_reducible refine sz1 ?_
  | with_reducible refine sz2 ?_
  | with_reducible refine sz3 ?_
  | with_reducible refine sz4 ?_
  | with_reducible refine if_t ?_
  | with_reducible refine if_f ?_
  | with_reducible refine if_nt ?_
  | with_reducible refine if_nf ?_))
/- one rule a construct; what asks for a fact is left -/
local macro_rules | `(tactic| walk_at "de") => `(tactic| repeat (first
  | ((with_reducible refine' ew_var ?hv ?_); (case hv => exact rfl))
  | with_reducible refine ew_int ?_
  | with_reducible refine ew_bl ?_
  | with_reducible refine ew_non ?_
  | with_reducible refine ew_str ?_
  | with_reducible refine aw_nil ?_
  | with_reducible refine aw_cons ?_
  | with_reducible refine ew_isi ?_
  | with_reducible refine ew_isi2 ?_
  | with_reducible refine ew_isiC ?_
  | with_reducible refine ew_op ?_
  | with_reducible refine ew_un ?_
  | with_reducible refine uw_neg ?_
  | with_reducible refine ew_cb ?_
  | with_reducible refine ew_call ?_
  | with_reducible refine ew_k01 ?_
  | with_reducible refine ew_k02 ?_
  | with_reducible refine ew_k02s ?_
  | with_reducible refine ew_k3t ?_
  | with_reducible refine ew_chain ?_
  | with_reducible refine ew_andV ?_
  | with_reducible refine ew_orV ?_
  | with_reducible refine ew_notV ?_
  | with_reducible refine ew_if ?_
  | with_reducible refine ew_slT ?_
  | with_reducible refine ew_slL ?_
  | with_reducible refine ow_none ?_
  | with_reducible refine ow_some ?_
  | with_reducible refine tw_test ?_
  | with_reducible refine tw_B ?_
  | with_reducible refine tw_and ?_
  | with_reducible refine tw_or ?_
  | with_reducible refine tw_not ?_
  | with_reducible refine tw_tru ?_
  | with_reducible refine gw_tup rfl ?_
  | with_reducible refine gs_cons ?_
  | with_reducible refine gs_nil ?_
  | with_reducible refine gw_name ?_
  | with_reducible refine rw_add ?_
  | with_reducible refine rw_sub ?_
  | with_reducible refine rw_lt ?_
  | with_reducible refine rw_le ?_
  | with_reducible refine rw_gt ?_
  | with_reducible refine rw_ge ?_
  | with_reducible refine rw_eqI ?_
  | with_reducible refine rw_neI ?_
  | with_reducible refine rw_eqB ?_
  | with_reducible refine rw_neS ?_
  | with_reducible refine rw_isN ?_
  | with_reducible refine rw_notN ?_
  | with_reducible refine rw_isB ?_
  | with_reducible refine rw_notB ?_
  | ((with_reducible refine' rw_ixT ?hi ?_); (case hi => exact rfl))
  | ((with_reducible refine' rw_ixL ?hi ?_); (case hi => exact rfl))
  | with_reducible refine cw_lenT ?_
  | with_reducible refine cw_lenL ?_
  | with_reducible refine cw_tupL ?_
  | with_reducible refine cw_max2 ?_
  | with_reducible refine cw_abs ?_
  | with_reducible refine cw_int1 ?_
  | with_reducible refine leaf_bl ?_
  | with_reducible refine leaf_int ?_
  | with_reducible refine leaf_tup ?_
  | with_reducible refine leaf_lst ?_
  | with_reducible refine leaf_two ?_
  | with_reducible refine leaf_three ?_
  | with_reducible refine ew_tup ?_
  | with_reducible refine sz0 ?_
  | with_reducible refine sz1 ?_
  | with_reducible refine sz2 ?_
  | with_reducible refine sz3 ?_
  | with_reducible refine sz4 ?_
  | with_reducible refine if_t ?_
  | with_reducible refine if_f ?_
  | with_reducible refine if_nt ?_
  | with_reducible refine if_nf ?_))

/- end of the rules -/
theorem eqD_int (a b : Int) : eqD (.int a) (.int b) = decide (a = b) := by
  have := eqv_wi [a] [b]
  simpa [eqD, wi, toPys, toPy, PyData.eqvAll] using this
theorem ni_any (S : List Nat) (k : Nat) : ((ni S).any fun z => eqD z (.int (k : Nat))) = true ↔ k ∈ S := by
  rw [List.any_eq_true]
  constructor
  · rintro ⟨z, hz, e⟩
    obtain ⟨j, hj, rfl⟩ := ni_mem hz
    rw [eqD_int, decide_eq_true_iff] at e
    have : j = k := by omega
    subst this
    exact hj
  · intro h
    exact ⟨.int (k : Nat), List.mem_map.mpr ⟨k, h, rfl⟩, by rw [eqD_int]; exact decide_eq_true rfl⟩
theorem isL_e (d : Dat) : (tLi d || tTu d) = isL d := by cases d <;> rfl
def f_ltable : FW := fun ds m P => ∃ L N ws d, ds = [wrl L N ws, d] ∧ (∀ w ∈ ws, WayOk L N w) ∧ ws.length ≤ 90 ∧ noCell d = true ∧ ∀ b : Bool, (b = true ↔ TabOk ws L N d) → P (.bl b) m
theorem ok__law_is_table (T : All K mg) : FnOk P w K mg base CX0 2 T.d__law_is_table.f T.d__law_is_table.fd ["_law_world_here", "_law_value"] (spD K f_ltable) := by
  refine T.d__law_is_table.F.ok sc__law_is_table (fun vs H Q E h => sp_len (by intro ds m P f; first | (obtain ⟨rfl, _⟩ := f; rfl) | (obtain ⟨_, h⟩ := f; first | (obtain ⟨rfl, _⟩ := h; rfl) | (obtain ⟨_, rfl, _⟩ := h; rfl) | (obtain ⟨_, _, rfl, _⟩ := h; rfl) | (obtain ⟨_, _, _, rfl, _⟩ := h; rfl) | (obtain ⟨_, _, _, _, rfl, _⟩ := h; rfl) | (obtain ⟨_, _, _, _, _, rfl, _⟩ := h; rfl) | (obtain ⟨_, _, _, _, _, _, rfl, _⟩ := h; rfl) | (obtain ⟨_, _, _, _, _, _, _, rfl, _⟩ := h; rfl) | (obtain ⟨_, _, _, _, _, _, _, _, rfl, _⟩ := h; rfl) | (obtain ⟨_, _, _, _, _, _, _, _, _, rfl, _⟩ := h; rfl))) h) (fun cdv A outer s H vs Q E hr h => ?_)
  refine ⟨_, (pss_cons (ps_if (PW.pt (pw_or (pt_not (pt_val (pe_callB (show CallR _ (.builtin "isinstance") (rIsiT K) from call_isiT) (by rfl) T.z_isinstance (by decide +kernel) (pa_cons (pv 1) (pa_cons (pe_tup (pa_cons (pe_bltn (v := .ty "list") (u := .type "list") (by rfl) T.z_list (by decide +kernel) rfl) (pa_cons (pe_bltn (v := .ty "tuple") (u := .type "tuple") (by rfl) T.z_tuple (by decide +kernel) rfl) pa_nil))) pa_nil))))) (pw_or1 (pt_not (pt_chain op_le op_le pe_int (pe_callB (show CallR _ (.builtin "len") (DL.rLen K) from call_lenS) (by rfl) T.z_len (by decide +kernel) (pa_cons (pv 1) pa_nil)) pe_int))))) (pss_one (ps_ret pe_bl)) pss_nil)
      (pss_cons (ps_for PassesOwn.never rfl (pi_seq (pv 1)) (pg_name (i := 2) sc__law_is_table.nd rfl (Or.inl rfl)) (pss_cons (ps_if (PW.pt (pw_or (pt_not (pt_val (pe_callB (show CallR _ (.builtin "isinstance") (rIsiT K) from call_isiT) (by rfl) T.z_isinstance (by decide +kernel) (pa_cons (pv 2) (pa_cons (pe_tup (pa_cons (pe_bltn (v := .ty "list") (u := .type "list") (by rfl) T.z_list (by decide +kernel) rfl) (pa_cons (pe_bltn (v := .ty "tuple") (u := .type "tuple") (by rfl) T.z_tuple (by decide +kernel) rfl) pa_nil))) pa_nil))))) (pw_or1 (pt_cmpR op_ne (pe_callB (show CallR _ (.builtin "len") (DL.rLen K) from call_lenS) (by rfl) T.z_len (by decide +kernel) (pa_cons (pv 2) pa_nil)) (pe_ix (show IxR _ (rIxT K) from ix_tup) (pv 0) pe_int (fun _ _ => rfl)) (nomark _))))) (pss_one (ps_ret pe_bl)) pss_nil)
      (pss_one (ps_for PassesOwn.never rfl (pi_enumA (by rfl) T.z_enumerate (pa_cons (pv 2) pa_nil)) (pg_tup (by rfl) (pgs_cons (pg_name (i := 3) sc__law_is_table.nd rfl (Or.inl rfl)) (pgs_cons (pg_name (i := 4) sc__law_is_table.nd rfl (Or.inl rfl)) pgs_nil))) (pss_cons (ps_if (PW.pt (pw_or (pt_not (pt_val (pe_callB (show CallR _ (.builtin "isinstance") (rIsiT K) from call_isiT) (by rfl) T.z_isinstance (by decide +kernel) (pa_cons (pv 4) (pa_cons (pe_tup (pa_cons (pe_bltn (v := .ty "list") (u := .type "list") (by rfl) T.z_list (by decide +kernel) rfl) (pa_cons (pe_bltn (v := .ty "tuple") (u := .type "tuple") (by rfl) T.z_tuple (by decide +kernel) rfl) pa_nil))) pa_nil))))) (pw_or1 (pt_cmpR op_ne (pe_callB (show CallR _ (.builtin "len") (DL.rLen K) from call_lenS) (by rfl) T.z_len (by decide +kernel) (pa_cons (pv 4) pa_nil)) (pe_ix (show IxR _ (rIxT K) from ix_tup) (pv 0) pe_int (fun _ _ => rfl)) (nomark _))))) (pss_one (ps_ret pe_bl)) pss_nil)
      (pss_one (ps_for PassesOwn.never rfl (pi_enumA (by rfl) T.z_enumerate (pa_cons (pv 4) pa_nil)) (pg_tup (by rfl) (pgs_cons (pg_name (i := 5) sc__law_is_table.nd rfl (Or.inl rfl)) (pgs_cons (pg_name (i := 6) sc__law_is_table.nd rfl (Or.inl rfl)) pgs_nil))) (pss_cons (ps_if (PW.pt (pw_or (pt_not (pt_val (pe_callB (show CallR _ (.builtin "isinstance") (rIsi K) from call_isi) (by rfl) T.z_isinstance (by decide +kernel) (pa_cons (pv 6) (pa_cons (pe_bltn (v := .ty "tuple") (u := .type "tuple") (by rfl) T.z_tuple (by decide +kernel) rfl) pa_nil))))) (pw_or1 (pt_cmpR op_ne (pe_callB (show CallR _ (.builtin "len") (DL.rLen K) from call_lenS) (by rfl) T.z_len (by decide +kernel) (pa_cons (pv 6) pa_nil)) pe_int (nomark _))))) (pss_one (ps_ret pe_bl)) pss_nil)
      (pss_cons (ps_if (PW.pt (pw_or (pt_not (pt_val (pe_call (ok__law_is_count T) (hr.mono (by decide)) rfl T.d__law_is_count.g T.d__law_is_count.F.kp T.d__law_is_count.b .nil pass0 (pa_cons (pe_ix (show IxR _ (rIxT K) from ix_tup) (pv 6) pe_int (fun _ _ => rfl)) (pa_cons pe_int pa_nil))))) (pw_or1 (pt_not (pt_val (pe_call (ok__law_is_count T) (hr.mono (by decide)) rfl T.d__law_is_count.g T.d__law_is_count.F.kp T.d__law_is_count.b .nil pass0 (pa_cons (pe_ix (show IxR _ (rIxT K) from ix_tup) (pv 6) pe_int (fun _ _ => rfl)) (pa_cons (pe_op op_sub (pe_callB (show CallR _ (.builtin "len") (DL.rLen K) from call_lenS) (by rfl) T.z_len (by decide +kernel) (pa_cons (pv 1) pa_nil)) pe_int) pa_nil)))))))) (pss_one (ps_ret pe_bl)) pss_nil)
      (pss_one (ps_if (pt_cmpR (show OpR _ _ (rNotInD K) from op_notInD (u65 hr)) (pe_ix (show IxR _ (rIxT K) from ix_tup) (pv 6) pe_int (fun _ _ => rfl)) (pe_call (ok__law_numbers T) (hr.mono (by decide)) rfl T.d__law_numbers.g T.d__law_numbers.F.kp T.d__law_numbers.b .nil pass0 (pa_cons (pv 0) (pa_cons (pv 3) (pa_cons (pv 5) pa_nil)))) (by rfl)) (pss_one (ps_ret pe_bl)) pss_nil)))))))))))
      (pss_one (ps_ret pe_bl)))), body_of h fun ds m P f => ?_⟩
  try dsimp only [cxOf, Cx.nox, Cx.wish, Cx.blk]
  obtain ⟨L, N, ws, d, rfl, hw, few, hn, p⟩ := f
  have no : ¬ TabOk ws L N d → P (.bl false) m := fun h => p false ⟨fun z => (Bool.false_ne_true z).elim, fun z => (h z).elim⟩
  walk_at "dl"
  refine ⟨_, _, kb_list d, kb_tuple d, ?_⟩
  rw [isL_e]
  walk_at "dl"
  cases h1 : isL d with
  | false =>
    refine if_t (if_t ?_)
    walk_at "dl"
    exact no fun z => by rw [z.1] at h1; cases h1
  | true =>
    have sx := isL_seq hn h1
    refine if_f ?_
    walk_at "dl"
    refine cw_lenS sx ?_
    walk_at "dl"
    by_cases c1 : (1 : Int) ≤ ((itms d).length : Nat)
    case neg =>
      rw [decide_eq_false c1]
      refine if_f ?_
      walk_at "dl"
      exact no fun z => c1 z.2.1.1
    rw [decide_eq_true c1]
    refine if_t ?_
    walk_at "dl"
    by_cases c2 : (((itms d).length : Nat) : Int) ≤ 60
    case neg =>
      rw [decide_eq_false c2]
      refine if_t ?_
      walk_at "dl"
      exact no fun z => c2 z.2.1.2
    rw [decide_eq_true c2]
    refine if_f ?_
    walk_at "dl"
    refine s_forV (xs := itms d) (by
      rcases sx with e | e
      · left; rw [← e]; rfl
      · right; rw [← e]; rfl) (fun i ρ' m' => m' = m ∧ (∀ j y, j < i → (itms d)[j]? = some y → MemOk ws L N ((itms d).length : Nat) y) ∧ ∃ e1 e2 e3 e4 e5, ρ' = [some (wrl L N ws), some d, e1, e2, e3, e4, e5]) ⟨rfl, fun j y h => absurd h (Nat.not_lt_zero _), _, _, _, _, _, rfl⟩ ?_ ?_
    · rintro i mem ρ' m' hmem ⟨rfl, al, e1, e2, e3, e4, e5, rfl⟩
      have nmem := nc_item hn hmem
      have bad : ¬ MemOk ws L N ((itms d).length : Nat) mem → P (.bl false) m' := fun h => no fun z => h (z.2.2 i mem hmem)
      walk_at "dl"
      refine ⟨_, _, kb_list mem, kb_tuple mem, ?_⟩
      rw [isL_e]
      walk_at "dl"
      cases g1 : isL mem with
      | false =>
        refine if_t (if_t ?_)
        walk_at "dl"
        exact bad fun z => by rw [z.1] at g1; cases g1
      | true =>
        have sm := isL_seq nmem g1
        refine if_f ?_
        walk_at "dl"
        refine cw_lenS sm ?_
        walk_at "dl"
        refine if_nd (fun c => ?_) (fun cN => ?_)
        · walk_at "dl"
          exact bad fun z => c z.2.1
        walk_at "dl"
        refine s_forEA ?_
        walk_at "dl"
        refine ⟨mem, itms mem, rfl, fun i ρ' m2 => m2 = m' ∧ (∀ j y, j < i → (itms mem)[j]? = some y → RoomOk ws L ((itms d).length : Nat) (j : Nat) y) ∧ ∃ e2 e3 e4 e5, ρ' = [some (wrl L N ws), some d, some mem, e2, e3, e4, e5], sm, ⟨rfl, fun j y h => absurd h (Nat.not_lt_zero _), _, _, _, _, rfl⟩, ?_, ?_⟩
        · rintro r row ρ' m2 hrow ⟨rfl, al2, e2, e3, e4, e5, rfl⟩
          have nrow := nc_item nmem hrow
          have bad2 : ¬ RoomOk ws L ((itms d).length : Nat) (r : Nat) row → P (.bl false) m2 := fun h => bad fun z => h (z.2.2 r row hrow)
          refine gw_tup (ds := [.int (r : Nat), row]) rfl ?_
          walk_at "dl"
          refine ⟨_, _, kb_list row, kb_tuple row, ?_⟩
          rw [isL_e]
          walk_at "dl"
          cases k1 : isL row with
          | false =>
            refine if_t (if_t ?_)
            walk_at "dl"
            exact bad2 fun z => by rw [z.1] at k1; cases k1
          | true =>
            have sr := isL_seq nrow k1
            refine if_f ?_
            walk_at "dl"
            refine cw_lenS sr ?_
            walk_at "dl"
            refine if_nd (fun c => ?_) (fun cL => ?_)
            · walk_at "dl"
              exact bad2 fun z => c z.2.1
            walk_at "dl"
            refine s_forEA ?_
            walk_at "dl"
            refine ⟨row, itms row, rfl, fun i ρ' m3 => m3 = m2 ∧ (∀ j y, j < i → (itms row)[j]? = some y → ItemOk ws ((itms d).length : Nat) (r : Nat) (j : Nat) y) ∧ ∃ e4 e5, ρ' = [some (wrl L N ws), some d, some mem, some (.int (r : Nat)), some row, e4, e5], sr, ⟨rfl, fun j y h => absurd h (Nat.not_lt_zero _), _, _, rfl⟩, ?_, ?_⟩
            · rintro c one ρ' m3 hone ⟨rfl, al3, e4, e5, rfl⟩
              have none_ := nc_item nrow hone
              have bad3 : ¬ ItemOk ws ((itms d).length : Nat) (r : Nat) (c : Nat) one → P (.bl false) m3 := fun h => bad2 fun z => h (z.2.2 c one hone)
              refine gw_tup (ds := [.int (c : Nat), one]) rfl ?_
              walk_at "dl"
              refine ⟨_, kb_tuple one, leaf_bl ?_⟩
              cases t1 : tTu one with
              | false =>
                refine if_t (if_t ?_)
                walk_at "dl"
                exact bad3 fun ⟨k, j, e, _⟩ => by rw [e] at t1; cases t1
              | true =>
                obtain ⟨xs, rfl⟩ : ∃ xs, one = .tup xs := by
                  cases one with
                  | tup xs => exact ⟨xs, rfl⟩
                  | key l => simp [noCell] at none_
                  | _ => cases t1
                refine if_f ?_
                walk_at "dl"
                refine if_nd (fun cc => ?_) (fun cc => ?_)
                · walk_at "dl"
                  refine bad3 fun ⟨k, j, e, _⟩ => cc ?_
                  injection e with e
                  rw [e]; rfl
                have hp : isP (.tup xs) = true := decide_eq_true cc
                obtain ⟨x, y, e⟩ := isP_two hp
                injection e with e
                subst e
                walk_at "dl"
                refine ⟨x, 95, rfl, leaf_bl ?_⟩
                cases hx : isB (95 + 1) x with
                | false =>
                  refine if_t (if_t ?_)
                  walk_at "dl"
                  refine bad3 fun ⟨k, j, e, hk, _⟩ => ?_
                  injection e with e
                  injection e with e _
                  rw [e, isB_of ⟨by omega, by omega⟩] at hx
                  cases hx
                | true =>
                  obtain ⟨k, rfl, hk⟩ := isB_int hx
                  refine if_f ?_
                  walk_at "dl"
                  refine cw_lenS sx ?_
                  walk_at "dl"
                  refine ⟨y, _, rfl, leaf_bl ?_⟩
                  have e1 : (((itms d).length : Nat) : Int) - 1 + 1 = ((itms d).length : Nat) := by omega
                  rw [e1]
                  cases hy : isB ((itms d).length : Nat) y with
                  | false =>
                    refine if_t ?_
                    walk_at "dl"
                    refine bad3 fun ⟨k', j, e, _, hj, _⟩ => ?_
                    injection e with e
                    injection e with _ e
                    injection e with e _
                    rw [e, isB_of hj] at hy
                    cases hy
                  | true =>
                    obtain ⟨j, rfl, hj⟩ := isB_int hy
                    refine if_f ?_
                    walk_at "dl"
                    refine ⟨L, N, ws, (r : Nat), (c : Nat), rfl, hw, by omega, ?_⟩
                    refine rw_notInV (.inl rfl) rfl (by rw [ni_wi]; exact shp_li _) ?_
                    walk_at "dl"
                    cases ha : (ni (sel ws (r : Nat) (c : Nat))).any fun z => eqD z (.int (k : Nat)) with
                    | false =>
                      refine if_t ?_
                      walk_at "dl"
                      refine bad3 fun ⟨k', j', e, h1, h2, h3, h4⟩ => ?_
                      injection e with e
                      injection e with e _
                      injection e with e
                      have : k = k' := by omega
                      subst this
                      rw [(ni_any _ _).mpr (sel_mem.mpr ⟨h1, h3, h4⟩)] at ha
                      cases ha
                    | true =>
                      obtain ⟨h1, h3, h4⟩ := sel_mem.mp ((ni_any _ _).mp ha)
                      refine if_f ?_
                      walk_at "dl"
                      refine ⟨rfl, fun j' y' hj' hy' => ?_, _, _, rfl⟩
                      by_cases q : j' < c
                      · exact al3 j' y' q hy'
                      · have : j' = c := by omega
                        subst this
                        rw [hone] at hy'
                        cases hy'
                        exact ⟨k, j, rfl, h1, ⟨by omega, hj⟩, h3, h4⟩
            · rintro ρ' m3 ⟨rfl, al3, e4, e5, rfl⟩
              refine ⟨rfl, fun j y hj hy => ?_, _, _, _, _, rfl⟩
              by_cases q : j < r
              · exact al2 j y q hy
              · have : j = r := by omega
                subst this
                rw [hrow] at hy
                cases hy
                exact ⟨k1, cL, fun i' y' hy' => al3 i' y' (List.getElem?_eq_some_iff.mp hy').1 hy'⟩
        · rintro ρ' m2 ⟨rfl, al2, e2, e3, e4, e5, rfl⟩
          refine ⟨rfl, fun j y hj hy => ?_, _, _, _, _, _, rfl⟩
          by_cases q : j < i
          · exact al j y q hy
          · have : j = i := by omega
            subst this
            rw [hmem] at hy
            cases hy
            exact ⟨g1, cN, fun i' y' hy' => al2 i' y' (List.getElem?_eq_some_iff.mp hy').1 hy'⟩
    · rintro ρ' m' ⟨rfl, al, e1, e2, e3, e4, e5, rfl⟩
      walk_at "dl"
      exact p true ⟨fun _ => ⟨h1, ⟨c1, c2⟩, fun i y hy => al i y (List.getElem?_eq_some_iff.mp hy).1 hy⟩, fun _ => rfl⟩
end
end L56
namespace L56
open PySem PySem.Spec PyProof.Rows L2 DL StX KM RM
section
variable {P : Program} {w : World} {K : PySem.W.Frag} {mg : Str → Option Value} {base : Heap}
/- one rule a construct; what asks for a fact is left -/
local macro_rules | `(tactic| walk_at "dl") => `(tactic| repeat (first
  | ((with_reducible refine' ew_var ?hv ?_); (case hv => exact rfl))
  | with_reducible refine ew_int ?_
  | with_reducible refine ew_bl ?_
  | with_reducible refine ew_non ?_
  | with_reducible refine ew_str ?_
  | with_reducible refine aw_nil ?_
  | with_reducible refine aw_cons ?_
  | with_reducible refine ew_isi ?_
  | with_reducible refine ew_isi2 ?_
  | with_reducible refine ew_isiC ?_
  | with_reducible refine ew_op ?_
  | with_reducible refine ew_un ?_
  | with_reducible refine uw_neg ?_
  | with_reducible refine ew_cb ?_
  | with_reducible refine ew_call ?_
  | with_reducible refine ew_k01 ?_
  | with_reducible refine ew_k02 ?_
  | with_reducible refine ew_k02s ?_
  | with_reducible refine ew_k3t ?_
  | with_reducible refine ew_chain ?_
  | with_reducible refine ew_andV ?_
  | with_reducible refine ew_orV ?_
  | with_reducible refine ew_notV ?_
  | with_reducible refine ew_if ?_
  | with_reducible refine ew_slT ?_
  | with_reducible refine ew_slL ?_
  | with_reducible refine ow_none ?_
  | with_reducible refine ow_some ?_
  | with_reducible refine tw_test ?_
  | with_reducible refine tw_B ?_
  | with_reducible refine tw_and ?_
  | with_reducible refine tw_or ?_
  | with_reducible refine tw_not ?_
  | with_reducible refine tw_tru ?_
  | with_reducible refine s_seq ?_
  | with_reducible refine s_set ?_
  | with_reducible refine s_asg ?_
  | with_reducible refine s_ret ?_
  | with_reducible refine s_retN ?_
  | with_reducible refine s_if ?_
  | with_reducible refine s_drop ?_
  | with_reducible refine s_par ?_
  | with_reducible refine s_par3 ?_
  | with_reducible refine s_next ?_
  | with_reducible refine gw_tup rfl ?_
  | with_reducible refine gs_cons ?_
  | with_reducible refine gs_nil ?_
  | with_reducible refine gw_name ?_
  | with_reducible refine rw_add ?_
  | with_reducible refine rw_sub ?_
  | with_reducible refine rw_lt ?_
  | with_reducible refine rw_le ?_
  | with_reducible refine rw_gt ?_
  | with_reducible refine rw_ge ?_
  | with_reducible refine rw_eqI ?_
  | with_reducible refine rw_neI ?_
  | with_reducible refine rw_eqB ?_
  | with_reducible refine rw_neS ?_
  | with_reducible refine rw_isN ?_
  | with_reducible refine rw_notN ?_
  | with_reducible refine rw_isB ?_
  | with_reducible refine rw_notB ?_
  | ((with_reducible refine' rw_ixT ?hi ?_); (case hi => exact rfl))
  | ((with_reducible refine' rw_ixL ?hi ?_); (case hi => exact rfl))
  | with_reducible refine cw_lenT ?_
  | with_reducible refine cw_lenL ?_
  | with_reducible refine cw_tupL ?_
  | with_reducible refine cw_max2 ?_
  | with_reducible refine cw_abs ?_
  | with_reducible refine cw_int1 ?_
  | with_reducible refine leaf_bl ?_
  | with_reducible refine leaf_int ?_
  | with_reducible refine leaf_tup ?_
  | with_reducible refine leaf_lst ?_
  | with_reducible refine leaf_two ?_
  | with_reducible refine leaf_three ?_
  | with_reducible refine ew_tup ?_
  | with_reducible refine sz0 ?_
  | with_reducible refine sz1 ?_
  | with_reducible refine sz2 ?_
  | with_reducible refine sz3 ?_
  | with_reducible refine sz4 ?_
  | with_reducible refine if_t ?_
  | with_reducible refine if_f ?_
  | with_reducible refine if_nt ?_
  | with_reducible refine if_nf ?_))
/- one rule a construct; what asks for a fact is left -/
local macro_rules | `(tactic| walk_at "de") => `(tactic| repeat (first
  | ((with_reducible refine' ew_var ?hv ?_); (case hv => exact rfl))
  | with_reducible refine ew_int ?_
  | with_reducible refine ew_bl ?_
  | with_reducible refine ew_non ?_
  | with_reducible refine ew_str ?_
  | with_reducible refine aw_nil ?_
  | with_reducible refine aw_cons ?_
  | with_reducible refine ew_isi ?_
  | with_reducible refine ew_isi2 ?_
  | with_reducible refine ew_isiC ?_
  | with_reducible refine ew_op ?_
  | with_reducible refine ew_un ?_
  | with_reducible refine uw_neg ?_
  | with_reducible refine ew_cb ?_
  | with_reducible refine ew_call ?_
  | with_reducible refine ew_k01 ?_
  | with_reducible refine ew_k02 ?_
  | with_reducible refine ew_k02s ?_
  | with_reducible refine ew_k3t ?_
  | with_reducible refine ew_chain ?_
  | with_reducible refine ew_andV ?_
  | with_reducible refine ew_orV ?_
  | with_reducible refine ew_notV ?_
  | with_reducible refine ew_if ?_
  | with_reducible refine ew_slT ?_
  | with_reducible refine ew_slL ?_
  | with_reducible refine ow_none ?_
  | with_reducible refine ow_some ?_
  | with_reducible refine tw_test ?_
  | with_reducible refine tw_B ?_
  | with_reducible refine tw_and ?_
  | with_reducible refine tw_or ?_
  | with_reducible refine tw_not ?_
  | with_reducible refine tw_tru ?_
  | with_reducible refine gw_tup rfl ?_
  | with_reducible refine gs_cons ?_
  | with_reducible refine gs_nil ?_
  | with_reducible refine gw_name ?_
  | with_reducible refine rw_add ?_
  | with_reducible refine rw_sub ?_
  | with_reducible refine rw_lt ?_
  | with_reducible refine rw_le ?_
  | with_reducible refine rw_gt ?_
  | with_reducible refine rw_ge ?_
  | with_reducible refine rw_eqI ?_
  | with_reducible refine rw_neI ?_
  | with_reducible refine rw_eqB ?_
  | with_reducible refine rw_neS ?_
  | with_reducible refine rw_isN ?_
  | with_reducible refine rw_notN ?_
  | with_reducible refine rw_isB ?_
  | with_reducible refine rw_notB ?_
  | ((with_reducible refine' rw_ixT ?hi ?_); (case hi => exact rfl))
  | ((with_reducible refine' rw_ixL ?hi ?_); (case hi => exact rfl))
  | with_reducible refine cw_lenT ?_
  | with_reducible refine cw_lenL ?_
  | with_reducible refine cw_tupL ?_
  | with_reducible refine cw_max2 ?_
  | with_reducible refine cw_abs ?_
  | with_reducible refine cw_int1 ?_
  | with_reducible refine leaf_bl ?_
  | with_reducible refine leaf_int ?_
  | with_reducible refine leaf_tup ?_
  | with_reducible refine leaf_lst ?_
  | with_reducible refine leaf_two ?_
  | with_reducible refine leaf_three ?_
  | with_reducible refine ew_tup ?_
  | with_reducible refine sz0 ?_
  | with_reducible refine sz1 ?_
  | with_reducible refine sz2 ?_
  | with_reducible refine sz3 ?_
  | with_reducible refine sz4 ?_
  | with_reducible refine if_t ?_
  | with_reducible refine if_f ?_
  | with_reducible refine if_nt ?_
  | with_reducible refine if_nf ?_))

/- end of the rules -/
theorem at4_ok {L N : Int} {ws : List (List Int)} {n : Nat} (hw : ∀ w ∈ ws, WayOk L N w) (hn : n < ws.length) : 0 ≤ at4 ws n 2 ∧ at4 ws n 2 < N := by
  have e := way4 hw hn
  obtain ⟨a, b, c, s, h, _, _, h3, _⟩ := hw _ (List.mem_of_getElem? e)
  injection h with h1 h
  injection h with h2 h
  injection h with h4 h
  rw [h4]
  exact h3
/-! ### going along with a table -/
def lk (d : Dat) (m r l : Nat) : Option (Nat × Nat) :=
  ((itms d)[m]?).bind fun M => ((itms M)[r]?).bind fun R => ((itms R)[l]?).bind fun x => match x with | .tup [.int k, .int j] => some (k.toNat, j.toNat) | _ => none
structure TabAt (ws : List (List Int)) (d : Dat) (m r l k j : Nat) : Prop where
  ex : ∃ M R, (itms d)[m]? = some M ∧ isL M = true ∧ (itms M)[r]? = some R ∧ isL R = true ∧ (itms R)[l]? = some (.tup [.int (k : Nat), .int (j : Nat)])
  lk_ : lk d m r l = some (k, j)
  kl : k < ws.length
  jl : j < (itms d).length
  e0 : at4 ws k 0 = (r : Int)
  e1 : at4 ws k 1 = (l : Int)
theorem tab_at {ws : List (List Int)} {L N : Int} {d : Dat} {m r l : Nat} (t : TabOk ws L N d) (hm : m < (itms d).length) (hr : (r : Int) < N) (hl : (l : Int) < L) : ∃ k j, TabAt ws d m r l k j := by
  have hM : (itms d)[m]? = some (itms d)[m] := List.getElem?_eq_getElem hm
  have t1 := t.2.2 m _ hM
  generalize (itms d)[m] = M at hM t1
  have hr' : r < (itms M).length := by have := t1.2.1; omega
  have hR : (itms M)[r]? = some (itms M)[r] := List.getElem?_eq_getElem hr'
  have t2 := t1.2.2 r _ hR
  generalize (itms M)[r] = R at hR t2
  have hl' : l < (itms R).length := by have := t2.2.1; omega
  have hx : (itms R)[l]? = some (itms R)[l] := List.getElem?_eq_getElem hl'
  have t3 := t2.2.2 l _ hx
  generalize (itms R)[l] = x at hx t3
  obtain ⟨k, j, rfl, h1, ⟨h2, h3⟩, h4, h5⟩ := t3
  have ej : (j : Int) = ((j.toNat : Nat) : Int) := by omega
  rw [ej] at hx
  refine ⟨k, j.toNat, ⟨M, R, hM, t1.1, hR, t2.1, hx⟩, ?_, h1, by omega, h4, h5⟩
  unfold lk
  rw [hM, Option.bind_some, hR, Option.bind_some, hx, Option.bind_some]
  rfl
def go (d : Dat) (ws : List (List Int)) : Nat → Nat → List Int → List Nat × (Nat × Nat)
  | m, r, [] => ([], (m, r))
  | m, r, c :: w => match lk d m r c.toNat with
    | some (k, j) => (k :: (go d ws j (at4 ws k 2).toNat w).1, (go d ws j (at4 ws k 2).toNat w).2)
    | none => ([], (m, r))
theorem go_cons {d : Dat} {ws : List (List Int)} {m r k j : Nat} {c : Int} {w : List Int} (h : lk d m r c.toNat = some (k, j)) : go d ws m r (c :: w) = (k :: (go d ws j (at4 ws k 2).toNat w).1, (go d ws j (at4 ws k 2).toNat w).2) := by
  conv => lhs; rw [go, h]
theorem go_congr {d d' : Dat} {ws : List (List Int)} (h : ∀ m r l, lk d m r l = lk d' m r l) : ∀ (w : List Int) (m r : Nat), go d ws m r w = go d' ws m r w
  | [], _, _ => rfl
  | c :: w, m, r => by
    rw [go, go, h]
    cases lk d' m r c.toNat with
    | none => rfl
    | some p => obtain ⟨k, j⟩ := p; simp only [go_congr h w]
theorem go_app (d : Dat) (ws : List (List Int)) {L N : Int} (t : TabOk ws L N d) (hw : ∀ w ∈ ws, WayOk L N w) : ∀ (w : List Int) (c : Int) (m r : Nat), m < (itms d).length → (r : Int) < N → In L w → 0 ≤ c → c < L →
    ∃ k j, TabAt ws d (go d ws m r w).2.1 (go d ws m r w).2.2 c.toNat k j ∧ go d ws m r (w ++ [c]) = ((go d ws m r w).1 ++ [k], (j, (at4 ws k 2).toNat))
  | [], c, m, r, hm, hr, _, c0, c1 => by
    obtain ⟨k, j, ta⟩ := tab_at t hm hr (l := c.toNat) (by omega)
    have e1 : go d ws m r [c] = (k :: (go d ws j (at4 ws k 2).toNat []).1, (go d ws j (at4 ws k 2).toNat []).2) := go_cons ta.lk_
    exact ⟨k, j, ta, e1⟩
  | a :: w, c, m, r, hm, hr, hi, c0, c1 => by
    have ha := hi a (by simp)
    obtain ⟨k, j, ta⟩ := tab_at t hm hr (l := a.toNat) (by omega)
    have r2 := at4_ok hw ta.kl
    obtain ⟨k2, j2, ta2, e⟩ := go_app d ws t hw w c j (at4 ws k 2).toNat ta.jl (by omega) (fun x hx => hi x (List.mem_cons_of_mem _ hx)) c0 c1
    have e1 : go d ws m r (a :: w) = (k :: (go d ws j (at4 ws k 2).toNat w).1, (go d ws j (at4 ws k 2).toNat w).2) := by rw [go, ta.lk_]
    have e2 : go d ws m r (a :: w ++ [c]) = (k :: (go d ws j (at4 ws k 2).toNat (w ++ [c])).1, (go d ws j (at4 ws k 2).toNat (w ++ [c])).2) := by
      show go d ws m r (a :: (w ++ [c])) = _
      rw [go, ta.lk_]
    refine ⟨k2, j2, by rw [e1]; exact ta2, ?_⟩
    rw [e2, e, e1]
    rfl
/-- what going along a word makes -/
structure Gone (ws : List (List Int)) (M : Nat) (N : Int) (r : Nat) (w : List Int) (g : List Nat × (Nat × Nat)) : Prop where
  len : g.1.length = w.length
  m : g.2.1 < M
  n : (g.2.2 : Int) < N
  led : RM.led ws (r : Int) g.1 = some (g.2.2 : Int)
  lt : ∀ k ∈ g.1, k < ws.length
  let_ : g.1.map (fun k => at4 ws k 1) = w
theorem go_ok {d : Dat} {ws : List (List Int)} {L N : Int} (t : TabOk ws L N d) (hw : ∀ w ∈ ws, WayOk L N w) : ∀ (w : List Int) (m r : Nat), m < (itms d).length → (r : Int) < N → In L w → Gone ws (itms d).length N r w (go d ws m r w)
  | [], m, r, hm, hr, _ => ⟨rfl, hm, hr, rfl, fun k hk => absurd hk List.not_mem_nil, rfl⟩
  | a :: w, m, r, hm, hr, hi => by
    have ha := hi a (by simp)
    obtain ⟨k, j, ta⟩ := tab_at t hm hr (l := a.toNat) (by omega)
    have r2 := at4_ok hw ta.kl
    have ih := go_ok t hw w j (at4 ws k 2).toNat ta.jl (by omega) fun x hx => hi x (List.mem_cons_of_mem _ hx)
    have e1 : go d ws m r (a :: w) = (k :: (go d ws j (at4 ws k 2).toNat w).1, (go d ws j (at4 ws k 2).toNat w).2) := by rw [go, ta.lk_]
    rw [e1]
    refine ⟨by rw [List.length_cons, ih.len, List.length_cons], ih.m, ih.n, ?_, fun q hq => ?_, ?_⟩
    · show RM.led ws (r : Int) (k :: _) = _
      rw [RM.led, if_pos ta.e0]
      have := ih.led
      have e2 : (((at4 ws k 2).toNat : Nat) : Int) = at4 ws k 2 := by omega
      rw [e2] at this
      exact this
    · rcases List.mem_cons.mp hq with z | z
      · rw [z]; exact ta.kl
      · exact ih.lt q z
    · show at4 ws k 1 :: _ = _
      have e3 : at4 ws k 1 = a := by rw [ta.e1]; omega
      rw [e3]
      exact congrArg (a :: ·) ih.let_
/-- the ways and where one stands behind so many rounds -/
def st (d : Dat) (ws : List (List Int)) (B A : List Int) : Nat → List Nat × (Nat × Nat)
  | 0 => go d ws 0 0 B
  | i + 1 => ((st d ws B A i).1 ++ (go d ws (st d ws B A i).2.1 (st d ws B A i).2.2 A).1, (go d ws (st d ws B A i).2.1 (st d ws B A i).2.2 A).2)
theorem st_congr {d d' : Dat} {ws : List (List Int)} {B A : List Int} (h : ∀ m r l, lk d m r l = lk d' m r l) : ∀ i, st d ws B A i = st d' ws B A i
  | 0 => go_congr h _ _ _
  | i + 1 => by rw [st, st, st_congr h i, go_congr h]
/-- the round with which one stands where one stood behind j of them -/
def RunAt (d : Dat) (ws : List (List Int)) (B A : List Int) (n j : Nat) : Prop := j < n ∧ (st d ws B A j).2 = (st d ws B A n).2 ∧ ∀ a b, a < b → b < n → (st d ws B A a).2 ≠ (st d ws B A b).2
theorem RunAt.one {d : Dat} {ws : List (List Int)} {B A : List Int} {n j n' j' : Nat} (h : RunAt d ws B A n j) (g : RunAt d ws B A n' j') : n = n' ∧ j = j' := by
  have e : n = n' := by
    rcases Nat.lt_trichotomy n n' with q | q | q
    · exact absurd h.2.1 (g.2.2 j n h.1 q)
    · exact q
    · exact absurd g.2.1 (h.2.2 j' n' g.1 q)
  subst e
  refine ⟨rfl, ?_⟩
  rcases Nat.lt_trichotomy j j' with q | q | q
  · exact absurd (h.2.1.trans g.2.1.symm) (h.2.2 j j' q g.1)
  · exact q
  · exact absurd (g.2.1.trans h.2.1.symm) (h.2.2 j' j q h.1)
theorem RunAt.congr {d d' : Dat} {ws : List (List Int)} {B A : List Int} {n j : Nat} (e : ∀ m r l, lk d m r l = lk d' m r l) (h : RunAt d ws B A n j) : RunAt d' ws B A n j :=
  ⟨h.1, by rw [← st_congr e, ← st_congr e]; exact h.2.1, fun a b x y => by rw [← st_congr e, ← st_congr e]; exact h.2.2 a b x y⟩
theorem pigeon : ∀ (n : Nat) (l : List Nat), l.Nodup → (∀ x ∈ l, x < n) → l.length ≤ n
  | 0, [], _, _ => Nat.le_refl _
  | 0, x :: l, _, h => absurd (h x (by simp)) (Nat.not_lt_zero _)
  | n + 1, l, nd, h => by
    have h1 := pigeon n (l.erase n) (nd.erase n) fun x hx => by
      have := h x (List.mem_of_mem_erase hx)
      have ne : x ≠ n := fun z => by
        rw [z] at hx
        exact (List.Nodup.not_mem_erase nd) hx
      omega
    have h2 := List.length_erase (a := n) (l := l)
    split at h2 <;> omega
structure StOk (ws : List (List Int)) (M : Nat) (N : Int) (B A : List Int) (i : Nat) (s : List Nat × (Nat × Nat)) : Prop where
  len : s.1.length = B.length + i * A.length
  m : s.2.1 < M
  n : (s.2.2 : Int) < N
  led : RM.led ws 0 s.1 = some (s.2.2 : Int)
  lt : ∀ k ∈ s.1, k < ws.length
  let_ : s.1.map (fun k => at4 ws k 1) = B ++ (List.replicate i A).flatten
theorem st_ok {d : Dat} {ws : List (List Int)} {L N : Int} {B A : List Int} (t : TabOk ws L N d) (hw : ∀ w ∈ ws, WayOk L N w) (hN : 1 ≤ N) (hB : In L B) (hA : In L A) : ∀ i, StOk ws (itms d).length N B A i (st d ws B A i)
  | 0 => by
    have g := go_ok t hw B 0 0 (by have := t.2.1.1; omega) (by omega) hB
    exact ⟨by rw [st, g.len]; omega, g.m, g.n, g.led, g.lt, by rw [st, g.let_]; simp⟩
  | i + 1 => by
    have h := st_ok t hw hN hB hA i
    have g := go_ok t hw A (st d ws B A i).2.1 (st d ws B A i).2.2 h.m h.n hA
    refine ⟨by rw [st, List.length_append, h.len, g.len, Nat.succ_mul]; omega, g.m, g.n, ?_, fun k hk => ?_, ?_⟩
    · rw [st]
      show RM.led ws 0 (_ ++ _) = _
      rw [led_app, h.led]
      exact g.led
    · rw [st] at hk
      rcases List.mem_append.mp hk with z | z
      · exact h.lt k z
      · exact g.lt k z
    · rw [st]
      show (_ ++ _ : List Nat).map _ = _
      rw [List.map_append, h.let_, g.let_, List.append_assoc]
      congr 1
      have : List.replicate (i + 1) A = List.replicate i A ++ [A] := by rw [List.replicate_succ']
      rw [this, List.flatten_append]
      simp
/-- no more rounds than pairs -/
theorem st_few {d : Dat} {ws : List (List Int)} {L N : Int} {B A : List Int} (t : TabOk ws L N d) (hw : ∀ w ∈ ws, WayOk L N w) (hN : 1 ≤ N) (hB : In L B) (hA : In L A) {n : Nat} (h : ∀ a b, a < b → b < n → (st d ws B A a).2 ≠ (st d ws B A b).2) : n ≤ (itms d).length * N.toNat := by
  have key : ∀ a b, (st d ws B A a).2.1 * N.toNat + (st d ws B A a).2.2 = (st d ws B A b).2.1 * N.toNat + (st d ws B A b).2.2 → (st d ws B A a).2 = (st d ws B A b).2 := fun a b e => by
    have h1 := (st_ok t hw hN hB hA a).n
    have h2 := (st_ok t hw hN hB hA b).n
    generalize (st d ws B A a).2 = p at *
    generalize (st d ws B A b).2 = q at *
    obtain ⟨p1, p2⟩ := p
    obtain ⟨q1, q2⟩ := q
    dsimp only at *
    have m1 : (p1 * N.toNat + p2) % N.toNat = p2 := by rw [Nat.mul_comm, Nat.mul_add_mod, Nat.mod_eq_of_lt (by omega)]
    have m2 : (q1 * N.toNat + q2) % N.toNat = q2 := by rw [Nat.mul_comm, Nat.mul_add_mod, Nat.mod_eq_of_lt (by omega)]
    have e2 : p2 = q2 := by rw [← m1, ← m2, e]
    subst e2
    have e1 : p1 * N.toNat = q1 * N.toNat := by omega
    have := Nat.eq_of_mul_eq_mul_right (by omega) e1
    rw [this]
  have := pigeon ((itms d).length * N.toNat) ((List.range n).map fun a => (st d ws B A a).2.1 * N.toNat + (st d ws B A a).2.2) ?_ ?_
  · rwa [List.length_map, List.length_range] at this
  · refine List.pairwise_map.mpr (List.Pairwise.imp_of_mem ?_ List.pairwise_lt_range)
    intro a b _ hb hab e
    exact h a b hab (List.mem_range.mp hb) (key a b e)
  · intro x hx
    obtain ⟨a, _, rfl⟩ := List.mem_map.mp hx
    have h0 := st_ok t hw hN hB hA a
    have h1 := h0.m
    have h2 := h0.n
    have := Nat.mul_le_mul_right N.toNat (show (st d ws B A a).2.1 + 1 ≤ (itms d).length from h1)
    rw [Nat.succ_mul] at this
    omega
def hdR (d : Dat) (ws : List (List Int)) (B A : List Int) (n j : Nat) : List Nat := (st d ws B A n).1.take (st d ws B A j).1.length
def lpR (d : Dat) (ws : List (List Int)) (B A : List Int) (n j : Nat) : List Nat := (st d ws B A n).1.drop (st d ws B A j).1.length
theorem st_take {d : Dat} {ws : List (List Int)} {B A : List Int} : ∀ {n j : Nat}, j ≤ n → (st d ws B A n).1.take (st d ws B A j).1.length = (st d ws B A j).1
  | 0, j, h => by
    have : j = 0 := by omega
    subst this
    exact List.take_length
  | n + 1, j, h => by
    by_cases c : j = n + 1
    · subst c; exact List.take_length
    · have ih := st_take (d := d) (ws := ws) (B := B) (A := A) (n := n) (j := j) (by omega)
      have hl : (st d ws B A j).1.length ≤ (st d ws B A n).1.length := by
        rw [← ih, List.length_take]; exact Nat.min_le_right _ _
      conv => lhs; rw [st]
      show (_ ++ _ : List Nat).take _ = _
      rw [List.take_append_of_le_length hl, ih]
structure RunOk (ws : List (List Int)) (B A : List Int) (hs ls : List Nat) : Prop where
  told : Told ws hs ls
  along : Along ws B A hs ls
  lt : ∀ k ∈ hs ++ ls, k < ws.length
theorem run_ok {d : Dat} {ws : List (List Int)} {L N : Int} {B A : List Int} {n j : Nat} (t : TabOk ws L N d) (hw : ∀ w ∈ ws, WayOk L N w) (hN : 1 ≤ N) (hB : In L B) (hA : In L A) (ne : A ≠ []) (lB : B.length ≤ 3) (lA : A.length ≤ 3) (few : (itms d).length * N.toNat ≤ 100) (h : RunAt d ws B A n j) :
    RunOk ws B A (hdR d ws B A n j) (lpR d ws B A n j) := by
  have hn := st_few t hw hN hB hA h.2.2
  have so := st_ok t hw hN hB hA n
  have sj := st_ok t hw hN hB hA j
  have pos : 0 < A.length := List.length_pos_iff.mpr ne
  have tk := st_take (d := d) (ws := ws) (B := B) (A := A) (Nat.le_of_lt h.1)
  have hjn := h.1
  have eh : hdR d ws B A n j = (st d ws B A j).1 := tk
  have lh : (hdR d ws B A n j).length = B.length + j * A.length := by rw [eh, sj.len]
  have mj : j * A.length ≤ n * A.length := Nat.mul_le_mul_right _ (Nat.le_of_lt hjn)
  have m3 : n * A.length ≤ 100 * 3 := Nat.mul_le_mul (by omega) lA
  have mjn : (j + 1) * A.length ≤ n * A.length := Nat.mul_le_mul_right _ hjn
  rw [Nat.succ_mul] at mjn
  have app : hdR d ws B A n j ++ lpR d ws B A n j = (st d ws B A n).1 := List.take_append_drop _ _
  have ll : (lpR d ws B A n j).length = (n - j) * A.length := by
    have := congrArg List.length app
    rw [List.length_append, lh, so.len] at this
    rw [Nat.sub_mul]
    omega
  have ll2 : (lpR d ws B A n j).length + j * A.length = n * A.length := by rw [ll, Nat.sub_mul]; omega
  have h2 : ((hdR d ws B A n j).length - B.length) % A.length = 0 := by
    have : (hdR d ws B A n j).length - B.length = j * A.length := by omega
    rw [this]
    exact Nat.mul_mod_left _ _
  have h3 : (lpR d ws B A n j).length % A.length = 0 := by rw [ll]; exact Nat.mul_mod_left _ _
  have hk : ((hdR d ws B A n j).length - B.length + (lpR d ws B A n j).length) / A.length = n := by
    have : (hdR d ws B A n j).length - B.length + (lpR d ws B A n j).length = n * A.length := by omega
    rw [this]
    exact Nat.mul_div_cancel _ pos
  refine ⟨⟨by omega, by omega, by omega, ((st d ws B A j).2.2 : Int), by rw [eh]; exact sj.led, ?_⟩, ⟨by omega, h2, h3, (along_iff ne (by omega) h2 h3).mp ?_⟩, fun k hk => so.lt k (by rw [← app]; exact hk)⟩
  · have := so.led
    rw [← app, led_app, eh, sj.led] at this
    rw [h.2.1]
    rw [h.2.1] at this
    exact this
  · rw [app, hk]
    exact so.let_

end
end L56
namespace L56
open PySem PySem.Spec PyProof.Rows L2 DL StX KM RM
section
variable {P : Program} {w : World} {K : PySem.W.Frag} {mg : Str → Option Value} {base : Heap}
/- one rule a construct; what asks for a fact is left -/
local macro_rules | `(tactic| walk_at "dl") => `(tactic| repeat (first
  | ((with_reducible refine' ew_var ?hv ?_); (case hv => exact rfl))
  | with_reducible refine ew_int ?_
  | with_reducible refine ew_bl ?_
  | with_reducible refine ew_non ?_
  | with_reducible refine ew_str ?_
  | with_reducible refine aw_nil ?_
  | with_reducible refine aw_cons ?_
  | with_reducible refine ew_isi ?_
  | with_reducible refine ew_isi2 ?_
  | with_reducible refine ew_isiC ?_
  | with_reducible refine ew_op ?_
  | with_reducible refine ew_un ?_
  | with_reducible refine uw_neg ?_
  | with_reducible refine ew_cb ?_
  | with_reducible refine ew_call ?_
  | with_reducible refine ew_k01 ?_
  | with_reducible refine ew_k02 ?_
  | with_reducible refine ew_k02s ?_
  | with_reducible refine ew_k3t ?_
  | with_reducible refine ew_chain ?_
  | with_reducible refine ew_andV ?_
  | with_reducible refine ew_orV ?_
  | with_reducible refine ew_notV ?_
  | with_reducible refine ew_if ?_
  | with_reducible refine ew_slT ?_
  | with_reducible refine ew_slL ?_
  | with_reducible refine ow_none ?_
  | with_reducible refine ow_some ?_
  | with_reducible refine tw_test ?_
  | with_reducible refine tw_B ?_
  | with_reducible refine tw_and ?_
  | with_reducible refine tw_or ?_
  | with_reducible refine tw_not ?_
  | with_reducible refine tw_tru ?_
  | with_reducible refine s_seq ?_
  | with_reducible refine s_set ?_
  | with_reducible refine s_asg ?_
  | with_reducible refine s_ret ?_
  | with_reducible refine s_retN ?_
  | with_reducible refine s_if ?_
  | with_reducible refine s_drop ?_
  | with_reducible refine s_par ?_
  | with_reducible refine s_par3 ?_
  | with_reducible refine s_next ?_
  | with_reducible refine gw_tup rfl ?_
  | with_reducible refine gs_cons ?_
  | with_reducible refine gs_nil ?_
  | with_reducible refine gw_name ?_
  | with_reducible refine rw_add ?_
  | with_reducible refine rw_sub ?_
  | with_reducible refine rw_lt ?_
  | with_reducible refine rw_le ?_
  | with_reducible refine rw_gt ?_
  | with_reducible refine rw_ge ?_
  | with_reducible refine rw_eqI ?_
  | with_reducible refine rw_neI ?_
  | with_reducible refine rw_eqB ?_
  | with_reducible refine rw_neS ?_
  | with_reducible refine rw_isN ?_
  | with_reducible refine rw_notN ?_
  | with_reducible refine rw_isB ?_
  | with_reducible refine rw_notB ?_
  | ((with_reducible refine' rw_ixT ?hi ?_); (case hi => exact rfl))
  | ((with_reducible refine' rw_ixL ?hi ?_); (case hi => exact rfl))
  | with_reducible refine cw_lenT ?_
  | with_reducible refine cw_lenL ?_
  | with_reducible refine cw_tupL ?_
  | with_reducible refine cw_max2 ?_
  | with_reducible refine cw_abs ?_
  | with_reducible refine cw_int1 ?_
  | with_reducible refine leaf_bl ?_
  | with_reducible refine leaf_int ?_
  | with_reducible refine leaf_tup ?_
  | with_reducible refine leaf_lst ?_
  | with_reducible refine leaf_two ?_
  | with_reducible refine leaf_three ?_
  | with_reducible refine ew_tup ?_
  | with_reducible refine sz0 ?_
  | with_reducible refine sz1 ?_
  | with_reducible refine sz2 ?_
  | with_reducible refine sz3 ?_
  | with_reducible refine sz4 ?_
  | with_reducible refine if_t ?_
  | with_reducible refine if_f ?_
  | with_reducible refine if_nt ?_
  | with_reducible refine if_nf ?_))
/- one rule a construct; what asks for a fact is left -/
local macro_rules | `(tactic| walk_at "de") => `(tactic| repeat (first
  | ((with_reducible refine' ew_var ?hv ?_); (case hv => exact rfl))
  | with_reducible refine ew_int ?_
  | with_reducible refine ew_bl ?_
  | with_reducible refine ew_non ?_
  | with_reducible refine ew_str ?_
  | with_reducible refine aw_nil ?_
  | with_reducible refine aw_cons ?_
  | with_reducible refine ew_isi ?_
  | with_reducible refine ew_isi2 ?_
  | with_reducible refine ew_isiC ?_
  | with_reducible refine ew_op ?_
  | with_reducible refine ew_un ?_
  | with_reducible refine uw_neg ?_
  | with_reducible refine ew_cb ?_
  | with_reducible refine ew_call ?_
  | with_reducible refine ew_k01 ?_
  | with_reducible refine ew_k02 ?_
  | with_reducible refine ew_k02s ?_
  | with_reducible refine ew_k3t ?_
  | with_reducible refine ew_chain ?_
  | with_reducible refine ew_andV ?_
  | with_reducible refine ew_orV ?_
  | with_reducible refine ew_notV ?_
  | with_reducible refine ew_if ?_
  | with_reducible refine ew_slT ?_
  | with_reducible refine ew_slL ?_
  | with_reducible refine ow_none ?_
  | with_reducible refine ow_some ?_
  | with_reducible refine tw_test ?_
  | with_reducible refine tw_B ?_
  | with_reducible refine tw_and ?_
  | with_reducible refine tw_or ?_
  | with_reducible refine tw_not ?_
  | with_reducible refine tw_tru ?_
  | with_reducible refine gw_tup rfl ?_
  | with_reducible refine gs_cons ?_
  | with_reducible refine gs_nil ?_
  | with_reducible refine gw_name ?_
  | with_reducible refine rw_add ?_
  | with_reducible refine rw_sub ?_
  | with_reducible refine rw_lt ?_
  | with_reducible refine rw_le ?_
  | with_reducible refine rw_gt ?_
  | with_reducible refine rw_ge ?_
  | with_reducible refine rw_eqI ?_
  | with_reducible refine rw_neI ?_
  | with_reducible refine rw_eqB ?_
  | with_reducible refine rw_neS ?_
  | with_reducible refine rw_isN ?_
  | with_reducible refine rw_notN ?_
  | with_reducible refine rw_isB ?_
  | with_reducible refine rw_notB ?_
  | ((with_reducible refine' rw_ixT ?hi ?_); (case hi => exact rfl))
  | ((with_reducible refine' rw_ixL ?hi ?_); (case hi => exact rfl))
  | with_reducible refine cw_lenT ?_
  | with_reducible refine cw_lenL ?_
  | with_reducible refine cw_tupL ?_
  | with_reducible refine cw_max2 ?_
  | with_reducible refine cw_abs ?_
  | with_reducible refine cw_int1 ?_
  | with_reducible refine leaf_bl ?_
  | with_reducible refine leaf_int ?_
  | with_reducible refine leaf_tup ?_
  | with_reducible refine leaf_lst ?_
  | with_reducible refine leaf_two ?_
  | with_reducible refine leaf_three ?_
  | with_reducible refine ew_tup ?_
  | with_reducible refine sz0 ?_
  | with_reducible refine sz1 ?_
  | with_reducible refine sz2 ?_
  | with_reducible refine sz3 ?_
  | with_reducible refine sz4 ?_
  | with_reducible refine if_t ?_
  | with_reducible refine if_f ?_
  | with_reducible refine if_nt ?_
  | with_reducible refine if_nf ?_))

/- end of the rules -/
theorem ni_snoc (ns : List Nat) (k : Nat) : ni ns ++ [Dat.int (k : Nat)] = ni (ns ++ [k]) := by rw [← ni_app]; rfl
theorem ni_take (ns : List Nat) (k : Nat) : (ni ns).take k = ni (ns.take k) := by unfold ni; rw [List.map_take]
theorem ni_drop (ns : List Nat) (k : Nat) : (ni ns).drop k = ni (ns.drop k) := by unfold ni; rw [List.map_drop]
/-! ### going along: the package's defs -/
theorem at_end {r : Mu} {x : Option (List Dat)} : (r ++ [x])[r.length]? = some x := by simp
theorem set_end {r : Mu} {x y : Option (List Dat)} : (r ++ [x]).set r.length y = r ++ [y] := by
  rw [List.set_append_right _ _ (Nat.le_refl _), Nat.sub_self]
  rfl
theorem itL {d : Dat} {μ : Mu} (hn : noCell d = true) (h : isL d = true) : d = .tup (itms d) ∨ Lv μ d (itms d) := (isL_seq hn h).imp id .inl
theorem atN {xs : List Dat} {i : Nat} {x : Dat} {z : Int} (e : z = (i : Nat)) (h : xs[i]? = some x) : atI xs z = some x := by rw [e]; exact atI_nat h
def f_gone (C : Addr) : FW := fun ds m P => ∃ L N ws nums d mm r w, ds = [rdr C L N ws nums, d, .key [((mm : Nat) : Int), ((r : Nat) : Int)], tw w] ∧ (∀ w ∈ ws, WayOk L N w) ∧ TabOk ws L N d ∧ noCell d = true ∧ mm < (itms d).length ∧ (r : Int) < N ∧ In L w ∧ w.length ≤ 100 ∧
  P (.tup [.cell m.length, .key [((go d ws mm r w).2.1 : Int), ((go d ws mm r w).2.2 : Int)]]) (m ++ [some (ni (go d ws mm r w).1)])
theorem ok__gone (T : All K mg) : FnOk P w K mg base CX0 5 T.d__gone.f T.d__gone.fd ["reader", "table", "pair", "word"] (spD K (f_gone T.C_Reader)) := by
  refine T.d__gone.F.ok sc__gone (fun vs H Q E h => sp_len (by intro ds m P f; first | (obtain ⟨rfl, _⟩ := f; rfl) | (obtain ⟨_, h⟩ := f; first | (obtain ⟨rfl, _⟩ := h; rfl) | (obtain ⟨_, rfl, _⟩ := h; rfl) | (obtain ⟨_, _, rfl, _⟩ := h; rfl) | (obtain ⟨_, _, _, rfl, _⟩ := h; rfl) | (obtain ⟨_, _, _, _, rfl, _⟩ := h; rfl) | (obtain ⟨_, _, _, _, _, rfl, _⟩ := h; rfl) | (obtain ⟨_, _, _, _, _, _, rfl, _⟩ := h; rfl) | (obtain ⟨_, _, _, _, _, _, _, rfl, _⟩ := h; rfl) | (obtain ⟨_, _, _, _, _, _, _, _, rfl, _⟩ := h; rfl) | (obtain ⟨_, _, _, _, _, _, _, _, _, rfl, _⟩ := h; rfl))) h) (fun cdv A outer s H vs Q E hr h => ?_)
  refine ⟨_, (pss_cons (ps_asg (pv 2) (pg_tup (by rfl) (pgs_cons (pg_name (i := 4) sc__gone.nd rfl (Or.inl rfl)) (pgs_cons (pg_name (i := 5) sc__gone.nd rfl (Or.inl rfl)) pgs_nil))))
      (pss_cons (ps_set (i := 6) sc__gone.nd rfl (Or.inl rfl) (pe_lst pa_nil))
      (pss_cons (ps_for PassesOwn.never rfl (pi_tup (pv 3)) (pg_name (i := 7) sc__gone.nd rfl (Or.inl rfl)) (pss_cons (ps_asg (pe_ix (show IxR _ (rIxA K) from ix_any) (pe_ix (show IxR _ (rIxA K) from ix_any) (pe_ix (show IxR _ (rIxA K) from ix_any) (pv 1) (pv 4) (fun _ _ => rfl)) (pv 5) (fun _ _ => rfl)) (pv 7) (fun _ _ => rfl)) (pg_tup (by rfl) (pgs_cons (pg_name (i := 8) sc__gone.nd rfl (Or.inl rfl)) (pgs_cons (pg_name (i := 4) sc__gone.nd rfl (Or.inl rfl)) pgs_nil))))
      (pss_cons (ps_expr (pe_bm PySem.F.plainAttrs_list PySem.F.slot_list_append PySem.F.type_list_append mt_append (pv 6) (pa_cons (pv 8) pa_nil)))
      (pss_one (ps_set (i := 5) sc__gone.nd rfl (Or.inl rfl) (pe_ix (show IxR _ (rIxT K) from ix_tup) (pe_meth (pv 0) T.oc_Reader.cls T.m_Reader_way (ok_Reader_way T) (hr.mono (by decide)) T.d_Reader_way.b .nil pass0 (pa_cons (pv 8) pa_nil)) pe_int (fun _ _ => rfl)))))))
      (pss_one (ps_ret (pe_tup (pa_cons (pv 6) (pa_cons (pe_tup (pa_cons (pv 4) (pa_cons (pv 5) pa_nil))) pa_nil)))))))), body_of h fun ds m P f => ?_⟩
  try dsimp only [cxOf, Cx.nox, Cx.wish, Cx.blk]
  obtain ⟨L, N, ws, nums, d, mm, r, w, rfl, hw, t, hn, hm, hr, hi, few, p⟩ := f
  refine s_seq (s_asg (ew_var rfl (gw_key (l := [((mm : Nat) : Int), ((r : Nat) : Int)]) rfl (gs_cons (d := .int (mm : Nat)) (ds := [.int (r : Nat)]) (gw_name (gs_cons (gw_name (gs_nil ?_))))))))
  walk_at "dl"
  refine ew_lstC ?_
  walk_at "dl"
  refine ⟨rfl, ?_⟩
  walk_at "dl"
  refine s_forT ?_
  walk_at "dl"
  refine ⟨fun i ρ' m' => ∃ g, g = go d ws mm r (w.take i) ∧ m' = m ++ [some (ni g.1)] ∧ ∃ e1 e2, ρ' = [some (rdr T.C_Reader L N ws nums), some d, some (.key [((mm : Nat) : Int), ((r : Nat) : Int)]), some (tw w), some (.int (g.2.1 : Nat)), some (.int (g.2.2 : Nat)), some (.cell m.length), e1, e2], ⟨_, rfl, rfl, _, _, rfl⟩, ?_, ?_⟩
  · rintro i x ρ' m' hx ⟨g, eg, rfl, e1, e2, rfl⟩
    have hx' : (w.map Dat.int)[i]? = some x := hx
    rw [List.getElem?_map] at hx'
    obtain ⟨c, hc, rfl⟩ := Option.map_eq_some_iff.mp hx'
    have hcm := hi c (List.mem_of_getElem? hc)
    have tk : w.take (i + 1) = w.take i ++ [c] := by rw [List.take_succ, hc]; rfl
    have hit : In L (w.take i) := fun x hx => hi x (List.mem_of_mem_take hx)
    have gk := go_ok t hw (w.take i) mm r hm hr hit
    obtain ⟨k, j, ta, e⟩ := go_app d ws t hw (w.take i) c mm r hm hr hit hcm.1 hcm.2
    rw [← tk] at e
    rw [← eg] at gk ta e
    obtain ⟨M, R, hM, lM, hR, lR, hX⟩ := ta.ex
    have a2 := at4_ok hw ta.kl
    walk_at "dl"
    refine rw_ixA (itL hn t.1) (atN rfl hM) ?_
    walk_at "dl"
    refine rw_ixA (itL (nc_item hn hM) lM) (atN rfl hR) ?_
    walk_at "dl"
    refine rw_ixA (itL (nc_item (nc_item hn hM) hR) lR) (atN (by omega) hX) ?_
    refine gw_tup (ds := [.int (k : Nat), .int (j : Nat)]) rfl ?_
    walk_at "dl"
    refine ew_append ?_
    walk_at "dl"
    refine ⟨⟨_, _, rfl, at_end⟩, ?_⟩
    have il : i < w.length := (List.getElem?_eq_some_iff.mp hc).1
    walk_at "dl"
    refine ⟨_, _, _, rfl, rfl, rfl, at_end, by rw [ni_len, gk.len, List.length_take, sizeLine_eq]; omega, ?_⟩
    rw [set_end, ni_snoc]
    walk_at "dl"
    refine ew_meth (ew_var rfl ⟨nmR, _, rfl, by decide, ?_⟩)
    walk_at "dl"
    refine ⟨L, N, ws, nums, k, _, rfl, way4 hw ta.kl, ?_⟩
    walk_at "dl"
    refine ⟨_, rfl, by rw [e], (some (.int c)), (some (.int (k : Nat))), ?_⟩
    rw [e]
    have e2 : at4 ws k 2 = (((at4 ws k 2).toNat : Nat) : Int) := by omega
    show [_, _, _, _, some (Dat.int (j : Nat)), some (Dat.int (at4 ws k 2)), _, some (Dat.int c), some (Dat.int (k : Nat))] = _
    rw [e2]
    rfl
  · rintro ρ' m' ⟨g, eg, rfl, e1, e2, rfl⟩
    rw [wi_len, List.take_length] at eg
    subst eg
    refine s_ret (ew_tup (aw_cons (ew_var rfl (aw_cons (ew_key ?_)))))
    walk_at "dl"
    exact ⟨[_, _], rfl, by show 2 ≤ sizeLine; decide, aw_nil ⟨by show 2 ≤ sizeLine; decide, p⟩⟩
theorem valD_none {f : Nat → List L2.Key} {g : Nat → Dat} {key : List L2.Key} : ∀ {l : List Nat}, (∀ a ∈ l, f a ≠ key) → valD (l.map f) (l.map g) key = none
  | [], _ => rfl
  | a :: l, h => by
    rw [List.map_cons, List.map_cons, valD, if_neg (h a (by simp))]
    exact valD_none fun b hb => h b (List.mem_cons_of_mem _ hb)
theorem valD_some {f : Nat → List L2.Key} {g : Nat → Dat} {key : List L2.Key} {a : Nat} : ∀ {l : List Nat}, a ∈ l → f a = key → (∀ b ∈ l, f b = key → b = a) → valD (l.map f) (l.map g) key = some (g a)
  | [], h, _, _ => absurd h List.not_mem_nil
  | b :: l, h, e, u => by
    rw [List.map_cons, List.map_cons, valD]
    by_cases c : f b = key
    · rw [if_pos c, u b (by simp) c]
    · rw [if_neg c]
      rcases List.mem_cons.mp h with z | z
      · rw [← z] at c; exact absurd e c
      · exact valD_some z e fun x hx => u x (List.mem_cons_of_mem _ hx)
def kyR (p : Nat × Nat) : List Int := [(p.1 : Int), (p.2 : Int)]
theorem kyR_inj {p q : Nat × Nat} (h : kI (kyR p) = kI (kyR q)) : p = q := by
  have h := kI_inj h
  unfold kyR at h
  injection h with h1 h2
  injection h2 with h2 _
  obtain ⟨a, b⟩ := p
  obtain ⟨c, e⟩ := q
  dsimp only at h1 h2
  have : a = c := by omega
  have : b = e := by omega
  subst_vars
  rfl
theorem at2a {r : Mu} {x y : Option (List Dat)} {J : Mu} : (r ++ ([x, y] ++ J))[r.length]? = some x := by simp
theorem at2b {r : Mu} {x y : Option (List Dat)} {J : Mu} : (r ++ ([x, y] ++ J))[r.length + 1]? = some y := by simp
theorem set2a {r : Mu} {x y z : Option (List Dat)} {J : Mu} : (r ++ ([x, y] ++ J)).set r.length z = r ++ ([z, y] ++ J) := by
  rw [List.set_append_right _ _ (Nat.le_refl _), Nat.sub_self]; rfl
theorem set2b {r : Mu} {x y z : Option (List Dat)} {J : Mu} : (r ++ ([x, y] ++ J)).set (r.length + 1) z = r ++ ([x, z] ++ J) := by
  rw [List.set_append_right _ _ (by omega)]
  have : r.length + 1 - r.length = 1 := by omega
  rw [this]; rfl
theorem snoc2 {r : Mu} {x y z : Option (List Dat)} {J : Mu} : (r ++ ([x, y] ++ J)) ++ [z] = r ++ ([x, y] ++ (J ++ [z])) := by simp
structure RunIn (L N : Int) (ws : List (List Int)) (d : Dat) (B A : List Int) : Prop where
  hw : ∀ w ∈ ws, WayOk L N w
  t : TabOk ws L N d
  nc : noCell d = true
  n1 : 1 ≤ N
  few : (itms d).length * N.toNat ≤ 100
  row : Rw L B A
def f_run (C : Addr) : FW := fun ds m P => ∃ L N ws nums d B A, ds = [rdr C L N ws nums, d, rw_ B A] ∧ RunIn L N ws d B A ∧ ∀ n j J, RunAt d ws B A n j → P (.tup [.lst (ni (hdR d ws B A n j)), .lst (ni (lpR d ws B A n j))]) (m ++ J)
theorem ok__run (T : All K mg) : FnOk P w K mg base CX0 6 T.d__run.f T.d__run.fd ["reader", "table", "row"] (spD K (f_run T.C_Reader)) := by
  refine T.d__run.F.ok sc__run (fun vs H Q E h => sp_len (by intro ds m P f; first | (obtain ⟨rfl, _⟩ := f; rfl) | (obtain ⟨_, h⟩ := f; first | (obtain ⟨rfl, _⟩ := h; rfl) | (obtain ⟨_, rfl, _⟩ := h; rfl) | (obtain ⟨_, _, rfl, _⟩ := h; rfl) | (obtain ⟨_, _, _, rfl, _⟩ := h; rfl) | (obtain ⟨_, _, _, _, rfl, _⟩ := h; rfl) | (obtain ⟨_, _, _, _, _, rfl, _⟩ := h; rfl) | (obtain ⟨_, _, _, _, _, _, rfl, _⟩ := h; rfl) | (obtain ⟨_, _, _, _, _, _, _, rfl, _⟩ := h; rfl) | (obtain ⟨_, _, _, _, _, _, _, _, rfl, _⟩ := h; rfl) | (obtain ⟨_, _, _, _, _, _, _, _, _, rfl, _⟩ := h; rfl))) h) (fun cdv A outer s H vs Q E hr h => ?_)
  refine ⟨_, (pss_cons (ps_asg (pv 2) (pg_tup (by rfl) (pgs_cons (pg_name (i := 3) sc__run.nd rfl (Or.inl rfl)) (pgs_cons (pg_name (i := 4) sc__run.nd rfl (Or.inl rfl)) pgs_nil))))
      (pss_cons (ps_asg (pe_call (ok__gone T) (hr.mono (by decide)) rfl T.d__gone.g T.d__gone.F.kp T.d__gone.b .nil pass0 (pa_cons (pv 0) (pa_cons (pv 1) (pa_cons (pe_tup (pa_cons pe_int (pa_cons pe_int pa_nil))) (pa_cons (pv 3) pa_nil))))) (pg_tup (by rfl) (pgs_cons (pg_name (i := 5) sc__run.nd rfl (Or.inl rfl)) (pgs_cons (pg_name (i := 6) sc__run.nd rfl (Or.inl rfl)) pgs_nil))))
      (pss_cons (ps_set (i := 7) sc__run.nd rfl (Or.inl rfl) pe_dnewT)
      (pss_cons (ps_while PassesOwn.never (pt_cmp (pc_dnotin (hu_of hr) (pv 6) (pv 7)) (by rfl)) (pss_cons (ps_asg (pe_callB (show CallR _ (.builtin "len") (DL.rLen K) from call_lenS) (by rfl) T.z_len (by decide +kernel) (pa_cons (pv 5) pa_nil)) (pg_sub (pv 7) (pv 6) (set_dict (hu_of hr))))
      (pss_cons (ps_asg (pe_call (ok__gone T) (hr.mono (by decide)) rfl T.d__gone.g T.d__gone.F.kp T.d__gone.b .nil pass0 (pa_cons (pv 0) (pa_cons (pv 1) (pa_cons (pv 6) (pa_cons (pv 4) pa_nil))))) (pg_tup (by rfl) (pgs_cons (pg_name (i := 8) sc__run.nd rfl (Or.inl rfl)) (pgs_cons (pg_name (i := 6) sc__run.nd rfl (Or.inl rfl)) pgs_nil))))
      (pss_one (ps_expr (pe_bm PySem.F.plainAttrs_list PySem.F.slot_list_extend PySem.F.type_list_extend mt_extL (pv 5) (pa_cons (pv 8) pa_nil)))))))
      (pss_one (ps_ret (pe_tup (pa_cons (pe_slice (show SlR _ (rSlL K) from sl_list) (pv 5) po_none (po_some (pe_dget (hu_of hr) (pv 7) (pv 6) (fun _ _ => rfl)))) (pa_cons (pe_slice (show SlR _ (rSlL K) from sl_list) (pv 5) (po_some (pe_dget (hu_of hr) (pv 7) (pv 6) (fun _ _ => rfl))) po_none) pa_nil))))))))), body_of h fun ds m P f => ?_⟩
  try dsimp only [cxOf, Cx.nox, Cx.wish, Cx.blk]
  obtain ⟨L, N, ws, nums, d, B, A, rfl, ri, p⟩ := f
  have t := ri.t
  have hw := ri.hw
  have few := ri.few
  have lB := ri.row.lb
  have lA := ri.row.la
  have one := t.2.1.1
  have n1 := ri.n1
  have sok := st_ok t hw n1 ri.row.b ri.row.a
  refine s_seq (s_asg (ew_var rfl (gw_tup (ds := [tw B, tw A]) rfl (gs_cons (gw_name (gs_cons (gw_name (gs_nil ?_))))))))
  refine s_seq (s_asg (ew_call (aw_cons (ew_var rfl (aw_cons (ew_var rfl (aw_cons (ew_key (aw_cons (ew_int (aw_cons (ew_int (aw_nil ⟨[0, 0], rfl, by show 2 ≤ sizeLine; decide, aw_cons (ew_var rfl (aw_nil ?_))⟩)))))))))))))
  refine ⟨L, N, ws, nums, d, 0, 0, B, rfl, hw, t, ri.nc, by omega, by omega, ri.row.b, by omega, ?_⟩
  refine gw_tup (ds := [.cell m.length, .key (kyR (st d ws B A 0).2)]) rfl (gs_cons (gw_name (gs_cons (gw_name (gs_nil ?_)))))
  refine s_seq (s_set (ew_dnew ?_))
  have e0 : (m ++ [some (ni (go d ws 0 0 B).1)]) ++ [some [Dat.dst [] []]] = m ++ ([some (ni (st d ws B A 0).1), some [.dst [] []]] ++ []) := by simp [st]
  have e1 : (m ++ [some (ni (go d ws 0 0 B).1)]).length = m.length + 1 := by simp
  rw [e0, e1]
  refine s_seq (s_while (fun n ρ' m' => ∃ (i : Nat) (J : Mu), n = (itms d).length * N.toNat + 1 - i ∧ i ≤ (itms d).length * N.toNat ∧ (∀ a b, a < b → b < i → (st d ws B A a).2 ≠ (st d ws B A b).2) ∧
      m' = m ++ ([some (ni (st d ws B A i).1), some [.dst ((List.range i).map fun a => kI (kyR (st d ws B A a).2)) ((List.range i).map fun a => .int ((st d ws B A a).1.length : Nat))]] ++ J) ∧
      ∃ e, ρ' = [some (rdr T.C_Reader L N ws nums), some d, some (rw_ B A), some (tw B), some (tw A), some (.cell m.length), some (.key (kyR (st d ws B A i).2)), some (.dcell (m.length + 1)), e]) ⟨_, 0, [], rfl, Nat.zero_le _, fun a b _ hb => absurd hb (Nat.not_lt_zero _), rfl, none, rfl⟩ ?_)
  rintro n ρ' m' ⟨i, J, rfl, hi, dist, rfl, e, rfl⟩
  refine tw_B (ew_dnotin (ew_var rfl (ew_var rfl ⟨_, _, _, _, rfl, rfl, at2b, ?_⟩)))
  by_cases hex : ∃ j, j < i ∧ (st d ws B A j).2 = (st d ws B A i).2
  · obtain ⟨j, hj, ej⟩ := hex
    have hv := valD_some (f := fun a => kI (kyR (st d ws B A a).2)) (g := fun a => Dat.int ((st d ws B A a).1.length : Nat)) (key := kI (kyR (st d ws B A i).2)) (a := j) (l := List.range i) (List.mem_range.mpr hj) (by rw [ej]) fun b hb eb => by
      have eb' := (kyR_inj eb).trans ej.symm
      have hb' := List.mem_range.mp hb
      rcases Nat.lt_trichotomy b j with q | q | q
      · exact absurd eb' (dist b j q hj)
      · exact q
      · exact absurd eb'.symm (dist j b q hb')
    refine leaf_bl ?_
    rw [hv]
    refine if_f ?_
    have sj := sok j
    have si := sok i
    have tk := st_take (d := d) (ws := ws) (B := B) (A := A) (Nat.le_of_lt hj)
    refine s_ret (ew_tup (aw_cons (ew_slC (ew_var rfl (ow_none (ow_some (ew_dget (ew_var rfl (ew_var rfl ⟨_, _, _, _, _, rfl, rfl, at2b, hv, leaf_int ⟨_, _, rfl, at2a, ?_⟩⟩)))))))))
    refine aw_cons (ew_slC (ew_var rfl (ow_some (ew_dget (ew_var rfl (ew_var rfl ⟨_, _, _, _, _, rfl, rfl, at2b, hv, leaf_int (ow_none ⟨_, _, rfl, at2a, aw_nil ⟨by show 2 ≤ sizeLine; decide, ?_⟩⟩)⟩))))))
    rw [cut_to (by omega), cut_from (by omega), Int.toNat_natCast, ni_take, ni_drop]
    exact p i j _ ⟨hj, ej, dist⟩
  · have hno : ∀ a b, a < b → b < i + 1 → (st d ws B A a).2 ≠ (st d ws B A b).2 := fun a b hab hb => by
      by_cases c : b < i
      · exact dist a b hab c
      · have : b = i := by omega
        subst this
        exact fun z => hex ⟨a, hab, z⟩
    have few2 := st_few t hw n1 ri.row.b ri.row.a hno
    have hv := valD_none (f := fun a => kI (kyR (st d ws B A a).2)) (g := fun a => Dat.int ((st d ws B A a).1.length : Nat)) (key := kI (kyR (st d ws B A i).2)) (l := List.range i) fun a ha ea => hex ⟨a, List.mem_range.mp ha, kyR_inj ea⟩
    have si := sok i
    have li := si.len
    have mi : i * A.length ≤ 100 * 3 := Nat.mul_le_mul (by omega) lA
    refine leaf_bl ?_
    rw [hv]
    refine if_t ?_
    refine s_seq (s_asg (ew_cb (aw_cons (ew_var rfl (aw_nil (cw_lenC at2a ?_))))))
    refine gw_subD (ew_var rfl (ew_var rfl ⟨_, _, _, _, rfl, rfl, at2b, hv, by rw [List.length_map, List.length_range, sizeLine_eq]; omega, ?_⟩))
    rw [set2b, ni_len]
    have ek : (List.range i).map (fun a => kI (kyR (st d ws B A a).2)) ++ [kI (kyR (st d ws B A i).2)] = (List.range (i + 1)).map fun a => kI (kyR (st d ws B A a).2) := by rw [List.range_succ, List.map_append]; rfl
    have ex : (List.range i).map (fun a => Dat.int ((st d ws B A a).1.length : Nat)) ++ [Dat.int ((st d ws B A i).1.length : Nat)] = (List.range (i + 1)).map fun a => Dat.int ((st d ws B A a).1.length : Nat) := by rw [List.range_succ, List.map_append]; rfl
    rw [ek, ex]
    refine s_seq (s_asg (ew_call (aw_cons (ew_var rfl (aw_cons (ew_var rfl (aw_cons (ew_var rfl (aw_cons (ew_var rfl (aw_nil ?_)))))))))))
    refine ⟨L, N, ws, nums, d, (st d ws B A i).2.1, (st d ws B A i).2.2, A, rfl, hw, t, ri.nc, si.m, si.n, ri.row.a, by omega, ?_⟩
    have gk := go_ok t hw A (st d ws B A i).2.1 (st d ws B A i).2.2 si.m si.n ri.row.a
    refine gw_tup (ds := [.cell _, .key (kyR (st d ws B A (i + 1)).2)]) rfl (gs_cons (gw_name (gs_cons (gw_name (gs_nil ?_)))))
    rw [snoc2]
    refine s_drop (ew_extendC (ew_var rfl ⟨⟨_, _, rfl, at2a⟩, aw_cons (ew_var rfl (aw_nil ⟨_, _, ni (go d ws (st d ws B A i).2.1 (st d ws B A i).2.2 A).1, _, rfl, rfl, ?_, at2a, by rw [ni_len, ni_len, gk.len, sizeLine_eq]; omega, ?_⟩))⟩))
    · rw [← snoc2]; exact at_end
    rw [set2a, ni_app]
    exact ⟨_, by omega, i + 1, _, rfl, by omega, hno, rfl, _, rfl⟩
end
end L56
namespace L56
open PySem PySem.Spec PyProof.Rows L2 DL StX KM RM
section
variable {P : Program} {w : World} {K : PySem.W.Frag} {mg : Str → Option Value} {base : Heap}
/- one rule a construct; what asks for a fact is left -/
local macro_rules | `(tactic| walk_at "dl") => `(tactic| repeat (first
  | ((with_reducible refine' ew_var ?hv ?_); (case hv => exact rfl))
  | with_reducible refine ew_int ?_
  | with_reducible refine ew_bl ?_
  | with_reducible refine ew_non ?_
  | with_reducible refine ew_str ?_
  | with_reducible refine aw_nil ?_
  | with_reducible refine aw_cons ?_
  | with_reducible refine ew_isi ?_
  | with_reducible refine ew_isi2 ?_
  | with_reducible refine ew_isiC ?_
  | with_reducible refine ew_op ?_
  | with_reducible refine ew_un ?_
  | with_reducible refine uw_neg ?_
  | with_reducible refine ew_cb ?_
  | with_reducible refine ew_call ?_
  | with_reducible refine ew_k01 ?_
  | with_reducible refine ew_k02 ?_
  | with_reducible refine ew_k02s ?_
  | with_reducible refine ew_k3t ?_
  | with_reducible refine ew_chain ?_
  | with_reducible refine ew_andV ?_
  | with_reducible refine ew_orV ?_
  | with_reducible refine ew_notV ?_
  | with_reducible refine ew_if ?_
  | with_reducible refine ew_slT ?_
  | with_reducible refine ew_slL ?_
  | with_reducible refine ow_none ?_
  | with_reducible refine ow_some ?_
  | with_reducible refine tw_test ?_
  | with_reducible refine tw_B ?_
  | with_reducible refine tw_and ?_
  | with_reducible refine tw_or ?_
  | with_reducible refine tw_not ?_
  | with_reducible refine tw_tru ?_
  | with_reducible refine s_seq ?_
  | with_reducible refine s_set ?_
  | with_reducible refine s_asg ?_
  | with_reducible refine s_ret ?_
  | with_reducible refine s_retN ?_
  | with_reducible refine s_if ?_
  | with_reducible refine s_drop ?_
  | with_reducible refine s_par ?_
  | with_reducible refine s_par3 ?_
  | with_reducible refine s_next ?_
  | with_reducible refine gw_tup rfl ?_
  | with_reducible refine gs_cons ?_
  | with_reducible refine gs_nil ?_
  | with_reducible refine gw_name ?_
  | with_reducible refine rw_add ?_
  | with_reducible refine rw_sub ?_
  | with_reducible refine rw_lt ?_
  | with_reducible refine rw_le ?_
  | with_reducible refine rw_gt ?_
  | with_reducible refine rw_ge ?_
  | with_reducible refine rw_eqI ?_
  | with_reducible refine rw_neI ?_
  | with_reducible refine rw_eqB ?_
  | with_reducible refine rw_neS ?_
  | with_reducible refine rw_isN ?_
  | with_reducible refine rw_notN ?_
  | with_reducible refine rw_isB ?_
  | with_reducible refine rw_notB ?_
  | ((with_reducible refine' rw_ixT ?hi ?_); (case hi => exact rfl))
  | ((with_reducible refine' rw_ixL ?hi ?_); (case hi => exact rfl))
  | with_reducible refine cw_lenT ?_
  | with_reducible refine cw_lenL ?_
  | with_reducible refine cw_tupL ?_
  | with_reducible refine cw_max2 ?_
  | with_reducible refine cw_abs ?_
  | with_reducible refine cw_int1 ?_
  | with_reducible refine leaf_bl ?_
  | with_reducible refine leaf_int ?_
  | with_reducible refine leaf_tup ?_
  | with_reducible refine leaf_lst ?_
  | with_reducible refine leaf_two ?_
  | with_reducible refine leaf_three ?_
  | with_reducible refine ew_tup ?_
  | with_reducible refine sz0 ?_
  | with_reducible refine sz1 ?_
  | with_reducible refine sz2 ?_
  | with_reducible refine sz3 ?_
  | with_reducible refine sz4 ?_
  | with_reducible refine if_t ?_
  | with_reducible refine if_f ?_
  | with_reducible refine if_nt ?_
  | with_reducible refine if_nf ?_))
/- one rule a construct; what asks for a fact is left -/
local macro_rules | `(tactic| walk_at "de") => `(tactic| repeat (first
  | ((with_reducible refine' ew_var ?hv ?_); (case hv => exact rfl))
  | with_reducible refine ew_int ?_
  | with_reducible refine ew_bl ?_
  | with_reducible refine ew_non ?_
  | with_reducible refine ew_str ?_
  | with_reducible refine aw_nil ?_
  | with_reducible refine aw_cons ?_
  | with_reducible refine ew_isi ?_
  | with_reducible refine ew_isi2 ?_
  | with_reducible refine ew_isiC ?_
  | with_reducible refine ew_op ?_
  | with_reducible refine ew_un ?_
  | with_reducible refine uw_neg ?_
  | with_reducible refine ew_cb ?_
  | with_reducible refine ew_call ?_
  | with_reducible refine ew_k01 ?_
  | with_reducible refine ew_k02 ?_
  | with_reducible refine ew_k02s ?_
  | with_reducible refine ew_k3t ?_
  | with_reducible refine ew_chain ?_
  | with_reducible refine ew_andV ?_
  | with_reducible refine ew_orV ?_
  | with_reducible refine ew_notV ?_
  | with_reducible refine ew_if ?_
  | with_reducible refine ew_slT ?_
  | with_reducible refine ew_slL ?_
  | with_reducible refine ow_none ?_
  | with_reducible refine ow_some ?_
  | with_reducible refine tw_test ?_
  | with_reducible refine tw_B ?_
  | with_reducible refine tw_and ?_
  | with_reducible refine tw_or ?_
  | with_reducible refine tw_not ?_
  | with_reducible refine tw_tru ?_
  | with_reducible refine gw_tup rfl ?_
  | with_reducible refine gs_cons ?_
  | with_reducible refine gs_nil ?_
  | with_reducible refine gw_name ?_
  | with_reducible refine rw_add ?_
  | with_reducible refine rw_sub ?_
  | with_reducible refine rw_lt ?_
  | with_reducible refine rw_le ?_
  | with_reducible refine rw_gt ?_
  | with_reducible refine rw_ge ?_
  | with_reducible refine rw_eqI ?_
  | with_reducible refine rw_neI ?_
  | with_reducible refine rw_eqB ?_
  | with_reducible refine rw_neS ?_
  | with_reducible refine rw_isN ?_
  | with_reducible refine rw_notN ?_
  | with_reducible refine rw_isB ?_
  | with_reducible refine rw_notB ?_
  | ((with_reducible refine' rw_ixT ?hi ?_); (case hi => exact rfl))
  | ((with_reducible refine' rw_ixL ?hi ?_); (case hi => exact rfl))
  | with_reducible refine cw_lenT ?_
  | with_reducible refine cw_lenL ?_
  | with_reducible refine cw_tupL ?_
  | with_reducible refine cw_max2 ?_
  | with_reducible refine cw_abs ?_
  | with_reducible refine cw_int1 ?_
  | with_reducible refine leaf_bl ?_
  | with_reducible refine leaf_int ?_
  | with_reducible refine leaf_tup ?_
  | with_reducible refine leaf_lst ?_
  | with_reducible refine leaf_two ?_
  | with_reducible refine leaf_three ?_
  | with_reducible refine ew_tup ?_
  | with_reducible refine sz0 ?_
  | with_reducible refine sz1 ?_
  | with_reducible refine sz2 ?_
  | with_reducible refine sz3 ?_
  | with_reducible refine sz4 ?_
  | with_reducible refine if_t ?_
  | with_reducible refine if_f ?_
  | with_reducible refine if_nt ?_
  | with_reducible refine if_nf ?_))

/- end of the rules -/
/-! ### run_by, keeps -/
theorem RunIn.tb {L N : Int} {ws : List (List Int)} {d : Dat} {B A : List Int} (h : RunIn L N ws d B A) : N ≤ 100 := by
  have h1 := h.t.2.1.1
  have h2 := h.few
  have : 1 * N.toNat ≤ (itms d).length * N.toNat := Nat.mul_le_mul_right _ (by omega)
  omega
theorem Rw.ok {L : Int} {B A : List Int} (h : Rw L B A) : Ok L B A := ⟨by have := h.lb; omega, by have := h.la; omega, h.ne, h.b, h.a⟩
theorem RunIn.ok {L N : Int} {ws : List (List Int)} {d : Dat} {B A : List Int} (h : RunIn L N ws d B A) {n j : Nat} (r : RunAt d ws B A n j) : RunOk ws B A (hdR d ws B A n j) (lpR d ws B A n j) :=
  run_ok h.t h.hw h.n1 h.row.b h.row.a h.row.ne h.row.lb h.row.la h.few r
theorem ok_run_by (T : All K mg) : FnOk P w K mg base CX0 9 T.d_run_by.f T.d_run_by.fd ["reader", "table", "row"] (spD K (f_run T.C_Reader)) := by
  refine T.d_run_by.F.ok sc_run_by (fun vs H Q E h => sp_len (by intro ds m P f; first | (obtain ⟨rfl, _⟩ := f; rfl) | (obtain ⟨_, h⟩ := f; first | (obtain ⟨rfl, _⟩ := h; rfl) | (obtain ⟨_, rfl, _⟩ := h; rfl) | (obtain ⟨_, _, rfl, _⟩ := h; rfl) | (obtain ⟨_, _, _, rfl, _⟩ := h; rfl) | (obtain ⟨_, _, _, _, rfl, _⟩ := h; rfl) | (obtain ⟨_, _, _, _, _, rfl, _⟩ := h; rfl) | (obtain ⟨_, _, _, _, _, _, rfl, _⟩ := h; rfl) | (obtain ⟨_, _, _, _, _, _, _, rfl, _⟩ := h; rfl) | (obtain ⟨_, _, _, _, _, _, _, _, rfl, _⟩ := h; rfl) | (obtain ⟨_, _, _, _, _, _, _, _, _, rfl, _⟩ := h; rfl))) h) (fun cdv A outer s H vs Q E hr h => ?_)
  refine ⟨_, (pss_cons (ps_expr (pe_call (ok_check_reader T) (hr.mono (by decide)) rfl T.d_check_reader.g T.d_check_reader.F.kp T.d_check_reader.b .nil pass0 (pa_cons (pv 0) pa_nil)))
      (pss_cons (ps_expr (pe_call (ok_check_table T) (hr.mono (by decide)) rfl T.d_check_table.g T.d_check_table.F.kp T.d_check_table.b .nil pass0 (pa_cons (pv 0) (pa_cons (pv 1) pa_nil))))
      (pss_cons (ps_expr (pe_call (ok_check_row T) (hr.mono (by decide)) rfl T.d_check_row.g T.d_check_row.F.kp T.d_check_row.b .nil pass0 (pa_cons (pe_prop (pv 0) T.oc_Reader.cls T.p_Reader_letters (ok_Reader_letters T) (hr.mono (by decide)) T.d_Reader_letters.b .nil pass0 (by rfl)) (pa_cons (pv 2) pa_nil))))
      (pss_cons (ps_asg (pe_call (ok__run T) (hr.mono (by decide)) rfl T.d__run.g T.d__run.F.kp T.d__run.b .nil pass0 (pa_cons (pv 0) (pa_cons (pv 1) (pa_cons (pv 2) pa_nil)))) (pg_tup (by rfl) (pgs_cons (pg_name (i := 3) sc_run_by.nd rfl (Or.inl rfl)) (pgs_cons (pg_name (i := 4) sc_run_by.nd rfl (Or.inl rfl)) pgs_nil))))
      (pss_cons (ps_if (pt_cmpR op_gt (pe_callB (show CallR _ (.builtin "len") (DL.rLen K) from call_lenS) (by rfl) T.z_len (by decide +kernel) (pa_cons (pv 3) pa_nil)) (pe_glob (v := .int 520) rfl T.c_MOST_HEAD.choose_spec.1 T.c_MOST_HEAD.choose_spec.2) (nomark _)) pss_never pss_nil)
      (pss_cons (ps_if (pt_cmpR op_gt (pe_callB (show CallR _ (.builtin "len") (DL.rLen K) from call_lenS) (by rfl) T.z_len (by decide +kernel) (pa_cons (pv 4) pa_nil)) (pe_glob (v := .int 480) rfl T.c_MOST_LOOP.choose_spec.1 T.c_MOST_LOOP.choose_spec.2) (nomark _)) pss_never pss_nil)
      (pss_one (ps_ret (pe_tup (pa_cons (pv 3) (pa_cons (pv 4) pa_nil))))))))))), body_of h fun ds m P f => ?_⟩
  try dsimp only [cxOf, Cx.nox, Cx.wish, Cx.blk]
  obtain ⟨L, N, ws, nums, d, B, A, rfl, ri, p⟩ := f
  walk_at "dl"
  refine ⟨L, N, ws, nums, rfl, ?_⟩
  walk_at "dl"
  refine ⟨L, N, ws, nums, d, rfl, ri.hw, ri.tb, ri.nc, ri.t, ?_⟩
  walk_at "dl"
  refine ew_prop (ew_var rfl ⟨⟨nmR, _, rfl⟩, L, N, ws, nums, rfl, ?_⟩)
  walk_at "dl"
  refine ⟨L, B, A, rfl, ri.row.ok, ?_⟩
  walk_at "dl"
  refine ⟨L, N, ws, nums, d, B, A, rfl, ri, fun n j J ra => ?_⟩
  have rk := ri.ok ra
  have t1 := rk.told.1
  have t3 := rk.told.2.2.1
  refine gw_tup (ds := [.lst (ni (hdR d ws B A n j)), .lst (ni (lpR d ws B A n j))]) rfl ?_
  walk_at "dl"
  rw [ni_len]
  refine if_d (fun c => ?_) (fun _ => ?_)
  · omega
  walk_at "dl"
  rw [ni_len]
  refine if_d (fun c => ?_) (fun _ => ?_)
  · omega
  walk_at "dl"
  exact p n j J ra
def slK (ws : List (List Int)) : Dat → Dat | .int i => .bl (decide (at4 ws i.toNat 3 = 0)) | _ => .bl true
def clean (ws : List (List Int)) (ls : List Nat) : Bool := (ls.map fun k => decide (at4 ws k 3 = 0)).all id
theorem slK_map (ws : List (List Int)) : ∀ ls : List Nat, (ni ls).filterMap (fun d => some (slK ws d)) = (ls.map fun k => decide (at4 ws k 3 = 0)).map Dat.bl
  | [] => rfl
  | k :: ls => by
    have h : ni (k :: ls) = Dat.int (k : Nat) :: ni ls := rfl
    rw [h, List.filterMap_cons]
    show _ :: _ = _
    rw [slK_map ws ls]
    rfl
def f_keeps (C : Addr) : FW := fun ds m P => ∃ L N ws nums d B A, ds = [rdr C L N ws nums, d, rw_ B A] ∧ RunIn L N ws d B A ∧ ∀ n j J, RunAt d ws B A n j → P (.bl (clean ws (lpR d ws B A n j))) (m ++ J)
theorem ok_keeps (T : All K mg) : FnOk P w K mg base CX0 9 T.d_keeps.f T.d_keeps.fd ["reader", "table", "row"] (spD K (f_keeps T.C_Reader)) := by
  refine T.d_keeps.F.ok sc_keeps (fun vs H Q E h => sp_len (by intro ds m P f; first | (obtain ⟨rfl, _⟩ := f; rfl) | (obtain ⟨_, h⟩ := f; first | (obtain ⟨rfl, _⟩ := h; rfl) | (obtain ⟨_, rfl, _⟩ := h; rfl) | (obtain ⟨_, _, rfl, _⟩ := h; rfl) | (obtain ⟨_, _, _, rfl, _⟩ := h; rfl) | (obtain ⟨_, _, _, _, rfl, _⟩ := h; rfl) | (obtain ⟨_, _, _, _, _, rfl, _⟩ := h; rfl) | (obtain ⟨_, _, _, _, _, _, rfl, _⟩ := h; rfl) | (obtain ⟨_, _, _, _, _, _, _, rfl, _⟩ := h; rfl) | (obtain ⟨_, _, _, _, _, _, _, _, rfl, _⟩ := h; rfl) | (obtain ⟨_, _, _, _, _, _, _, _, _, rfl, _⟩ := h; rfl))) h) (fun cdv A outer s H vs Q E hr h => ?_)
  refine ⟨_, (pss_cons (ps_expr (pe_call (ok_check_reader T) (hr.mono (by decide)) rfl T.d_check_reader.g T.d_check_reader.F.kp T.d_check_reader.b .nil pass0 (pa_cons (pv 0) pa_nil)))
      (pss_cons (ps_expr (pe_call (ok_check_table T) (hr.mono (by decide)) rfl T.d_check_table.g T.d_check_table.F.kp T.d_check_table.b .nil pass0 (pa_cons (pv 0) (pa_cons (pv 1) pa_nil))))
      (pss_cons (ps_expr (pe_call (ok_check_row T) (hr.mono (by decide)) rfl T.d_check_row.g T.d_check_row.F.kp T.d_check_row.b .nil pass0 (pa_cons (pe_prop (pv 0) T.oc_Reader.cls T.p_Reader_letters (ok_Reader_letters T) (hr.mono (by decide)) T.d_Reader_letters.b .nil pass0 (by rfl)) (pa_cons (pv 2) pa_nil))))
      (pss_cons (ps_asg (pe_call (ok__run T) (hr.mono (by decide)) rfl T.d__run.g T.d__run.F.kp T.d__run.b .nil pass0 (pa_cons (pv 0) (pa_cons (pv 1) (pa_cons (pv 2) pa_nil)))) (pg_tup (by rfl) (pgs_cons (pg_name (i := 3) sc_keeps.nd rfl (Or.inl rfl)) (pgs_cons (pg_name (i := 4) sc_keeps.nd rfl (Or.inl rfl)) pgs_nil))))
      (pss_one (ps_ret (pe_callB (cr_all rfl) (by rfl) T.z_all (by decide +kernel) (pa_cons (pe_lc (own := [("number", 5)]) (g := gName 5) rfl sc_keeps.nd (pi_list (pv 4)) (blkOk_by (N := N_keeps) (sc := defScope s_keeps) (by decide +kernel)) (fun _ _ _ _ _ => pg_name (i := 5) sc_keeps.nd rfl (Or.inl rfl)) (fun _ _ _ _ _ => pts_nil) (fun _ _ _ _ _ => (pe_cmpR op_eq (pe_ix (show IxR _ (rIxT K) from ix_tup) (pe_meth (pv 0) T.oc_Reader.cls T.m_Reader_way (ok_Reader_way T) (hr.mono (by decide)) T.d_Reader_way.b .nil pass0 (pa_cons (pv 5) pa_nil)) pe_int (fun _ _ => rfl)) pe_int (nomark _)))) pa_nil)))))))), body_of h fun ds m P f => ?_⟩
  try dsimp only [cxOf, Cx.nox, Cx.wish, Cx.blk]
  obtain ⟨L, N, ws, nums, d, B, A, rfl, ri, p⟩ := f
  walk_at "dl"
  refine ⟨L, N, ws, nums, rfl, ?_⟩
  walk_at "dl"
  refine ⟨L, N, ws, nums, d, rfl, ri.hw, ri.tb, ri.nc, ri.t, ?_⟩
  walk_at "dl"
  refine ew_prop (ew_var rfl ⟨⟨nmR, _, rfl⟩, L, N, ws, nums, rfl, ?_⟩)
  walk_at "dl"
  refine ⟨L, B, A, rfl, ri.row.ok, ?_⟩
  walk_at "dl"
  refine ⟨L, N, ws, nums, d, B, A, rfl, ri, fun n j J ra => ?_⟩
  have rk := ri.ok ra
  have t3 := rk.told.2.2.1
  refine gw_tup (ds := [.lst (ni (hdR d ws B A n j)), .lst (ni (lpR d ws B A n j))]) rfl ?_
  walk_at "dl"
  refine ew_lcL ?_
  walk_at "dl"
  refine ⟨by rw [ni_len, sizeLine_eq]; omega, fun d => some (slK ws d), ?_, ?_⟩
  · intro x acc hx
    obtain ⟨k, hk, rfl⟩ := ni_mem hx
    refine turn_yes rfl ?_
    walk_at "dl"
    refine ew_meth (ew_var rfl ⟨nmR, _, rfl, by decide, ?_⟩)
    walk_at "dl"
    refine ⟨L, N, ws, nums, k, _, rfl, way4 ri.hw (rk.lt k (List.mem_append_right _ hk)), ?_⟩
    walk_at "dl"
    exact ⟨rfl, rfl⟩
  · rw [slK_map]
    walk_at "dl"
    exact cw_all (p n j J ra)
/-! ### the law's own run -/
theorem at_ways {L N : Int} {ws : List (List Int)} {n : Nat} (hw : ∀ w ∈ ws, WayOk L N w) (hn : n < ws.length) : atI (ws.map tw) (n : Nat) = some (.tup [.int (at4 ws n 0), .int (at4 ws n 1), .int (at4 ws n 2), .int (at4 ws n 3)]) := by
  refine atI_nat ?_
  rw [List.getElem?_map, way4 hw hn]
  rfl
def f_along : FW := fun ds m P => ∃ L N ws d mm r w, ds = [wrl L N ws, d, tw (kyR (mm, r)), tw w] ∧ (∀ w ∈ ws, WayOk L N w) ∧ TabOk ws L N d ∧ noCell d = true ∧ mm < (itms d).length ∧ (r : Int) < N ∧ In L w ∧ w.length ≤ 100 ∧
  P (.tup [tw (kyR (go d ws mm r w).2), .cell m.length]) (m ++ [some (ni (go d ws mm r w).1)])
theorem ok__law_along (T : All K mg) : FnOk P w K mg base CX0 1 T.d__law_along.f T.d__law_along.fd ["_law_world_here", "_law_table_here", "_law_pair", "_law_letters_here"] (spD K f_along) := by
  refine T.d__law_along.F.ok sc__law_along (fun vs H Q E h => sp_len (by intro ds m P f; first | (obtain ⟨rfl, _⟩ := f; rfl) | (obtain ⟨_, h⟩ := f; first | (obtain ⟨rfl, _⟩ := h; rfl) | (obtain ⟨_, rfl, _⟩ := h; rfl) | (obtain ⟨_, _, rfl, _⟩ := h; rfl) | (obtain ⟨_, _, _, rfl, _⟩ := h; rfl) | (obtain ⟨_, _, _, _, rfl, _⟩ := h; rfl) | (obtain ⟨_, _, _, _, _, rfl, _⟩ := h; rfl) | (obtain ⟨_, _, _, _, _, _, rfl, _⟩ := h; rfl) | (obtain ⟨_, _, _, _, _, _, _, rfl, _⟩ := h; rfl) | (obtain ⟨_, _, _, _, _, _, _, _, rfl, _⟩ := h; rfl) | (obtain ⟨_, _, _, _, _, _, _, _, _, rfl, _⟩ := h; rfl))) h) (fun cdv A outer s H vs Q E hr h => ?_)
  refine ⟨_, (pss_cons (ps_asg (pv 2) (pg_tup (by rfl) (pgs_cons (pg_name (i := 4) sc__law_along.nd rfl (Or.inl rfl)) (pgs_cons (pg_name (i := 5) sc__law_along.nd rfl (Or.inl rfl)) pgs_nil))))
      (pss_cons (ps_set (i := 6) sc__law_along.nd rfl (Or.inl rfl) (pe_lst pa_nil))
      (pss_cons (ps_for PassesOwn.never rfl (pi_tup (pv 3)) (pg_name (i := 7) sc__law_along.nd rfl (Or.inl rfl)) (pss_cons (ps_asg (pe_ix (show IxR _ (rIxA K) from ix_any) (pe_ix (show IxR _ (rIxA K) from ix_any) (pe_ix (show IxR _ (rIxA K) from ix_any) (pv 1) (pv 4) (fun _ _ => rfl)) (pv 5) (fun _ _ => rfl)) (pv 7) (fun _ _ => rfl)) (pg_tup (by rfl) (pgs_cons (pg_name (i := 8) sc__law_along.nd rfl (Or.inl rfl)) (pgs_cons (pg_name (i := 4) sc__law_along.nd rfl (Or.inl rfl)) pgs_nil))))
      (pss_cons (ps_set (i := 5) sc__law_along.nd rfl (Or.inl rfl) (pe_ix (show IxR _ (rIxT K) from ix_tup) (pe_ix (show IxR _ (rIxL K) from ix_list) (pe_ix (show IxR _ (rIxT K) from ix_tup) (pv 0) pe_int (fun _ _ => rfl)) (pv 8) (fun _ _ => rfl)) pe_int (fun _ _ => rfl)))
      (pss_one (ps_expr (pe_bm PySem.F.plainAttrs_list PySem.F.slot_list_append PySem.F.type_list_append mt_append (pv 6) (pa_cons (pv 8) pa_nil)))))))
      (pss_one (ps_ret (pe_tup (pa_cons (pe_tup (pa_cons (pv 4) (pa_cons (pv 5) pa_nil))) (pa_cons (pv 6) pa_nil)))))))), body_of h fun ds m P f => ?_⟩
  try dsimp only [cxOf, Cx.nox, Cx.wish, Cx.blk]
  obtain ⟨L, N, ws, d, mm, r, w, rfl, hw, t, hn, hm, hr, hi, few, p⟩ := f
  refine s_seq (s_asg (ew_var rfl (gw_tup (ds := [.int (mm : Nat), .int (r : Nat)]) rfl (gs_cons (gw_name (gs_cons (gw_name (gs_nil ?_))))))))
  walk_at "dl"
  refine ew_lstC ?_
  walk_at "dl"
  refine ⟨rfl, ?_⟩
  walk_at "dl"
  refine s_forT ?_
  walk_at "dl"
  refine ⟨fun i ρ' m' => ∃ g, g = go d ws mm r (w.take i) ∧ m' = m ++ [some (ni g.1)] ∧ ∃ e1 e2, ρ' = [some (wrl L N ws), some d, some (tw (kyR (mm, r))), some (tw w), some (.int (g.2.1 : Nat)), some (.int (g.2.2 : Nat)), some (.cell m.length), e1, e2], ⟨_, rfl, rfl, _, _, rfl⟩, ?_, ?_⟩
  · rintro i x ρ' m' hx ⟨g, eg, rfl, e1, e2, rfl⟩
    have hx' : (w.map Dat.int)[i]? = some x := hx
    rw [List.getElem?_map] at hx'
    obtain ⟨c, hc, rfl⟩ := Option.map_eq_some_iff.mp hx'
    have hcm := hi c (List.mem_of_getElem? hc)
    have tk : w.take (i + 1) = w.take i ++ [c] := by rw [List.take_succ, hc]; rfl
    have hit : In L (w.take i) := fun x hx => hi x (List.mem_of_mem_take hx)
    have gk := go_ok t hw (w.take i) mm r hm hr hit
    obtain ⟨k, j, ta, e⟩ := go_app d ws t hw (w.take i) c mm r hm hr hit hcm.1 hcm.2
    rw [← tk] at e
    rw [← eg] at gk ta e
    obtain ⟨M, R, hM, lM, hR, lR, hX⟩ := ta.ex
    have a2 := at4_ok hw ta.kl
    have il : i < w.length := (List.getElem?_eq_some_iff.mp hc).1
    walk_at "dl"
    refine rw_ixA (itL hn t.1) (atN rfl hM) ?_
    walk_at "dl"
    refine rw_ixA (itL (nc_item hn hM) lM) (atN rfl hR) ?_
    walk_at "dl"
    refine rw_ixA (itL (nc_item (nc_item hn hM) hR) lR) (atN (by omega) hX) ?_
    refine gw_tup (ds := [.int (k : Nat), .int (j : Nat)]) rfl ?_
    walk_at "dl"
    refine rw_ixL (at_ways hw ta.kl) ?_
    walk_at "dl"
    refine ew_append ?_
    walk_at "dl"
    refine ⟨⟨_, _, rfl, at_end⟩, ?_⟩
    walk_at "dl"
    refine ⟨_, _, _, rfl, rfl, rfl, at_end, by rw [ni_len, gk.len, List.length_take, sizeLine_eq]; omega, ?_⟩
    rw [set_end, ni_snoc]
    walk_at "dl"
    refine ⟨_, rfl, by rw [e], (some (.int c)), (some (.int (k : Nat))), ?_⟩
    rw [e]
    have e2 : at4 ws k 2 = (((at4 ws k 2).toNat : Nat) : Int) := by omega
    show [_, _, _, _, some (Dat.int (j : Nat)), some (Dat.int (at4 ws k 2)), _, some (Dat.int c), some (Dat.int (k : Nat))] = _
    rw [e2]
    rfl
  · rintro ρ' m' ⟨g, eg, rfl, e1, e2, rfl⟩
    rw [wi_len, List.take_length] at eg
    subst eg
    walk_at "dl"
    exact p
theorem nc_ok (l : List Int) : noCell (tw l) = true := shp_nc (shp_tw l)
theorem cw_lenV {K : PySem.W.Frag} {μ : Mu} {Q : PD} {d : Dat} {xs : List Dat} (h : Lv μ d xs) (p : Q (.int (xs.length : Nat)) μ) : CW K (DL.rLen K) [d] μ Q := by
  rcases h with e | ⟨k, e, hm⟩
  · rw [e]; exact cw_lenL p
  · rw [e]; exact cw_lenC hm p
theorem shp_tws {ws : List (List Int)} : shp (.lst (ws.map tw)) = true := by
  have h : okDs (ws.map tw) = true ∧ deps (ws.map tw) ≤ 1 := by
    induction ws with
    | nil => exact ⟨rfl, Nat.zero_le _⟩
    | cons w ws ih =>
      refine ⟨by rw [List.map_cons, okDs, ih.1, okD, ok_wi]; rfl, ?_⟩
      rw [List.map_cons, deps, dep, dep_wi]
      have := ih.2
      omega
  unfold shp
  rw [okD, h.1, Bool.true_and, dep]
  exact decide_eq_true (by have := h.2; omega)
theorem kyR_inj' {p q : Nat × Nat} (h : kyR p = kyR q) : p = q := kyR_inj (by rw [h])
theorem prs_any (ps : List (Nat × Nat)) (p : Nat × Nat) : ((ps.map fun q => tw (kyR q)).any fun z => eqD z (tw (kyR p))) = true ↔ p ∈ ps := by
  rw [List.any_map, List.any_eq_true]
  constructor
  · rintro ⟨q, hq, e⟩
    have e' : eqD (tw (kyR q)) (tw (kyR p)) = true := e
    rw [eqD_tw, decide_eq_true_iff] at e'
    rw [← kyR_inj' e']
    exact hq
  · intro h
    exact ⟨p, h, by show eqD (tw (kyR p)) (tw (kyR p)) = true; rw [eqD_tw]; exact decide_eq_true rfl⟩
theorem fm_congr {α β : Type} {f g : α → Option β} : ∀ {l : List α}, (∀ x ∈ l, f x = g x) → l.filterMap f = l.filterMap g
  | [], _ => rfl
  | x :: l, h => by rw [List.filterMap_cons, List.filterMap_cons, h x List.mem_cons_self, fm_congr fun y hy => h y (List.mem_cons_of_mem x hy)]
theorem fm_one {α : Type} {n j : Nat} {v : α} (h : j < n) : (List.range n).filterMap (fun i => if i = j then some v else none) = [v] := by
  induction n with
  | zero => exact absurd h (Nat.not_lt_zero _)
  | succ n ih =>
    rw [List.range_succ, List.filterMap_append]
    by_cases c : j = n
    · subst c
      have : (List.range j).filterMap (fun i => if i = j then some v else none) = [] := by
        rw [List.filterMap_eq_nil_iff]
        intro i hi
        have := List.mem_range.mp hi
        rw [if_neg (by omega)]
      rw [this]
      simp
    · rw [ih (by omega)]
      simp [Ne.symm c]
theorem at3a {r : Mu} {x y z : Option (List Dat)} {J : Mu} : (r ++ ([x, y, z] ++ J))[r.length]? = some x := by simp
theorem at3b {r : Mu} {x y z : Option (List Dat)} {J : Mu} : (r ++ ([x, y, z] ++ J))[r.length + 1]? = some y := by simp
theorem at3c {r : Mu} {x y z : Option (List Dat)} {J : Mu} : (r ++ ([x, y, z] ++ J))[r.length + 2]? = some z := by simp
theorem set3b {r : Mu} {x y z w : Option (List Dat)} {J : Mu} : (r ++ ([x, y, z] ++ J)).set (r.length + 1) w = r ++ ([x, w, z] ++ J) := by
  rw [List.set_append_right _ _ (by omega)]
  have : r.length + 1 - r.length = 1 := by omega
  rw [this]; rfl
theorem set3c {r : Mu} {x y z w : Option (List Dat)} {J : Mu} : (r ++ ([x, y, z] ++ J)).set (r.length + 2) w = r ++ ([x, y, w] ++ J) := by
  rw [List.set_append_right _ _ (by omega)]
  have : r.length + 2 - r.length = 2 := by omega
  rw [this]; rfl
theorem snoc3 {r : Mu} {x y z w : Option (List Dat)} {J : Mu} : (r ++ ([x, y, z] ++ J)) ++ [w] = r ++ ([x, y, z] ++ (J ++ [w])) := by simp
def f_lrun : FW := fun ds m P => ∃ L N ws d B A, ds = [wrl L N ws, d, rw_ B A] ∧ RunIn L N ws d B A ∧ ∀ n j J, RunAt d ws B A n j → P (.tup [.lst (ni (hdR d ws B A n j)), .lst (ni (lpR d ws B A n j))]) (m ++ J)
def prR (d : Dat) (ws : List (List Int)) (B A : List Int) (i : Nat) : List Dat := ((List.range i).map fun a => (st d ws B A a).2).map fun q => tw (kyR q)
def bgR (d : Dat) (ws : List (List Int)) (B A : List Int) (i : Nat) : List Dat := (List.range i).map fun a => Dat.int ((st d ws B A a).1.length : Nat)
def pickR (p : Nat × Nat) (x y : Dat) : Option Dat := if eqD x (tw (kyR p)) = true then some y else none
theorem ok__law_run (T : All K mg) : FnOk P w K mg base CX0 2 T.d__law_run.f T.d__law_run.fd ["_law_world_here", "_law_table_here", "_law_row_here"] (spD K f_lrun) := by
  refine T.d__law_run.F.ok sc__law_run (fun vs H Q E h => sp_len (by intro ds m P f; first | (obtain ⟨rfl, _⟩ := f; rfl) | (obtain ⟨_, h⟩ := f; first | (obtain ⟨rfl, _⟩ := h; rfl) | (obtain ⟨_, rfl, _⟩ := h; rfl) | (obtain ⟨_, _, rfl, _⟩ := h; rfl) | (obtain ⟨_, _, _, rfl, _⟩ := h; rfl) | (obtain ⟨_, _, _, _, rfl, _⟩ := h; rfl) | (obtain ⟨_, _, _, _, _, rfl, _⟩ := h; rfl) | (obtain ⟨_, _, _, _, _, _, rfl, _⟩ := h; rfl) | (obtain ⟨_, _, _, _, _, _, _, rfl, _⟩ := h; rfl) | (obtain ⟨_, _, _, _, _, _, _, _, rfl, _⟩ := h; rfl) | (obtain ⟨_, _, _, _, _, _, _, _, _, rfl, _⟩ := h; rfl))) h) (fun cdv A outer s H vs Q E hr h => ?_)
  refine ⟨_, (pss_cons (ps_asg (pe_call (ok__law_along T) (hr.mono (by decide)) rfl T.d__law_along.g T.d__law_along.F.kp T.d__law_along.b .nil pass0 (pa_cons (pv 0) (pa_cons (pv 1) (pa_cons (pe_tup (pa_cons pe_int (pa_cons pe_int pa_nil))) (pa_cons (pe_ix (show IxR _ (rIxT K) from ix_tup) (pv 2) pe_int (fun _ _ => rfl)) pa_nil))))) (pg_tup (by rfl) (pgs_cons (pg_name (i := 3) sc__law_run.nd rfl (Or.inr rfl)) (pgs_cons (pg_name (i := 4) sc__law_run.nd rfl (Or.inl rfl)) pgs_nil))))
      (pss_cons (ps_par (i := 5) (j := 6) rfl sc__law_run.nd rfl rfl (by decide) rfl rfl (pa_cons (pe_lst pa_nil) (pa_cons (pe_lst pa_nil) pa_nil)) (by rfl))
      (pss_cons (ps_while PassesOwn.never (pt_cmpR (show OpR _ _ (rNotInD K) from op_notInD (u65 hr)) (pv 3) (pv 5) (by rfl)) (pss_cons (ps_expr (pe_bm PySem.F.plainAttrs_list PySem.F.slot_list_append PySem.F.type_list_append mt_append (pv 5) (pa_cons (pv 3) pa_nil)))
      (pss_cons (ps_expr (pe_bm PySem.F.plainAttrs_list PySem.F.slot_list_append PySem.F.type_list_append mt_append (pv 6) (pa_cons (pe_callB (show CallR _ (.builtin "len") (DL.rLen K) from call_lenS) (by rfl) T.z_len (by decide +kernel) (pa_cons (pv 4) pa_nil)) pa_nil)))
      (pss_cons (ps_asg (pe_call (ok__law_along T) (hr.mono (by decide)) rfl T.d__law_along.g T.d__law_along.F.kp T.d__law_along.b .nil pass0 (pa_cons (pv 0) (pa_cons (pv 1) (pa_cons (pv 3) (pa_cons (pe_ix (show IxR _ (rIxT K) from ix_tup) (pv 2) pe_int (fun _ _ => rfl)) pa_nil))))) (pg_tup (by rfl) (pgs_cons (pg_name (i := 3) sc__law_run.nd rfl (Or.inr rfl)) (pgs_cons (pg_name (i := 7) sc__law_run.nd rfl (Or.inl rfl)) pgs_nil))))
      (pss_one (ps_set (i := 4) sc__law_run.nd rfl (Or.inl rfl) (pe_op op_catL (pv 4) (pv 7))))))))
      (pss_cons (ps_set (i := 8) sc__law_run.nd rfl (Or.inl rfl) (pe_ix (show IxR _ (rIxL K) from ix_list) (pe_lc (own := [("_law_one", 9), ("_law_begin", 10)]) (g := gTup K 2 (gCons (gName 9) (gCons (gName 10) gNil))) rfl sc__law_run.nd (pi_zip (by rfl) T.z_zip (pa_cons (pv 5) (pa_cons (pv 6) pa_nil))) (blkOk_by (N := N__law_run) (sc := defScope s__law_run) (by decide +kernel)) (fun _ _ _ _ _ => pg_tup (by rfl) (pgs_cons (pg_name (i := 9) sc__law_run.nd rfl (Or.inl rfl)) (pgs_cons (pg_name (i := 10) sc__law_run.nd rfl (Or.inl rfl)) pgs_nil))) (fun _ _ _ _ _ => pts_one (pt_cmpR (show OpR _ _ (rEqD K) from op_eqD hr.units) (pv 9) (pv 3) (nomark _))) (fun _ _ _ _ _ => (pv 10))) pe_int (fun _ _ => rfl)))
      (pss_one (ps_ret (pe_tup (pa_cons (pe_slice (show SlR _ (rSlL K) from sl_list) (pv 4) po_none (po_some (pv 8))) (pa_cons (pe_slice (show SlR _ (rSlL K) from sl_list) (pv 4) (po_some (pv 8)) po_none) pa_nil))))))))), body_of h fun ds m P f => ?_⟩
  try dsimp only [cxOf, Cx.nox, Cx.wish, Cx.blk]
  obtain ⟨L, N, ws, d, B, A, rfl, ri, p⟩ := f
  have t := ri.t
  have hw := ri.hw
  have few := ri.few
  have lB := ri.row.lb
  have lA := ri.row.la
  have one := t.2.1.1
  have n1 := ri.n1
  have sok := st_ok t hw n1 ri.row.b ri.row.a
  refine s_seq (s_asg (ew_call ?_))
  walk_at "de"
  refine ⟨L, N, ws, d, 0, 0, B, rfl, hw, t, ri.nc, by omega, by omega, ri.row.b, by omega, ?_⟩
  refine gw_tup (ds := [tw (kyR (st d ws B A 0).2), .cell m.length]) rfl (gs_cons (gw_name (gs_cons (gw_name (gs_nil ?_)))))
  refine s_seq (s_par (aw_cons (ew_lstC (aw_nil ⟨Nat.zero_le _, rfl, aw_cons (ew_lstC (aw_nil ⟨Nat.zero_le _, rfl, aw_nil (leaf_two ?_)⟩))⟩))))
  have e0 : ((m ++ [some (ni (go d ws 0 0 B).1)]) ++ [some []]) ++ [some []] = m ++ ([some (ni (st d ws B A 0).1), some (prR d ws B A 0), some (bgR d ws B A 0)] ++ []) := by simp [st, prR, bgR]
  have e1 : (m ++ [some (ni (go d ws 0 0 B).1)]).length = m.length + 1 := by simp
  have e2 : ((m ++ [some (ni (go d ws 0 0 B).1)]) ++ [some []]).length = m.length + 2 := by simp
  rw [e0, e1, e2]
  refine s_seq (s_while (fun n ρ' m' => ∃ (i : Nat) (J : Mu) (dw : Dat), n = (itms d).length * N.toNat + 1 - i ∧ i ≤ (itms d).length * N.toNat ∧ (∀ a b, a < b → b < i → (st d ws B A a).2 ≠ (st d ws B A b).2) ∧ (dw = .lst (ni (st d ws B A i).1) ∨ i = 0 ∧ dw = .cell m.length) ∧
      m' = m ++ ([some (ni (st d ws B A 0).1), some (prR d ws B A i), some (bgR d ws B A i)] ++ J) ∧
      ∃ e1 e2 e3 e4, ρ' = [some (wrl L N ws), some d, some (rw_ B A), some (tw (kyR (st d ws B A i).2)), some dw, some (.cell (m.length + 1)), some (.cell (m.length + 2)), e1, e2, e3, e4]) ⟨_, 0, [], _, rfl, Nat.zero_le _, fun a b _ hb => absurd hb (Nat.not_lt_zero _), .inr ⟨rfl, rfl⟩, rfl, none, none, none, none, rfl⟩ ?_)
  rintro n ρ' m' ⟨i, J, dw, rfl, hi, dist, hdw, rfl, e1, e2, e3, e4, rfl⟩
  have okp : shp (.lst (prR d ws B A i)) = true := by
    have : prR d ws B A i = (((List.range i).map fun a => (st d ws B A a).2).map kyR).map tw := by unfold prR; simp only [List.map_map]; rfl
    rw [this]; exact shp_tws
  have lp : (prR d ws B A i).length = i := by unfold prR; rw [List.length_map, List.length_map, List.length_range]
  have lb : (bgR d ws B A i).length = i := by unfold bgR; rw [List.length_map, List.length_range]
  have si := sok i
  have li := si.len
  have mi : i * A.length ≤ 100 * 3 := Nat.mul_le_mul (by omega) lA
  refine tw_test (ew_op (ew_var rfl (ew_var rfl (rw_notInV (.inr ⟨_, rfl, at3b⟩) (shp_tw _) okp ?_))))
  have hany : ((prR d ws B A i).any fun z => eqD z (tw (kyR (st d ws B A i).2))) = true ↔ ∃ j, j < i ∧ (st d ws B A j).2 = (st d ws B A i).2 := by
    unfold prR
    rw [prs_any, List.mem_map]
    exact ⟨fun ⟨j, hj, e⟩ => ⟨j, List.mem_range.mp hj, e⟩, fun ⟨j, hj, e⟩ => ⟨j, List.mem_range.mpr hj, e⟩⟩
  cases ha : (prR d ws B A i).any fun z => eqD z (tw (kyR (st d ws B A i).2)) with
  | true =>
    obtain ⟨j, hj, ej⟩ := hany.mp ha
    refine leaf_bl (if_f ?_)
    have edw : dw = .lst (ni (st d ws B A i).1) := by
      rcases hdw with z | ⟨z, _⟩
      · exact z
      · omega
    subst edw
    refine s_seq (s_set (ew_op (ew_lcZ ?_)))
    walk_at "dl"
    refine ⟨_, _, prR d ws B A i, bgR d ws B A i, rfl, .inr ⟨_, rfl, at3b⟩, .inr ⟨_, rfl, at3c⟩, by rw [lp, lb], by rw [lp, sizeLine_eq]; omega, pickR (st d ws B A i).2, ?_, ?_⟩
    · intro q x y acc hx hy
      obtain ⟨a, haq, rfl⟩ : ∃ a, a = (st d ws B A q).2 ∧ tw (kyR a) = x := by
        unfold prR at hx
        rw [List.getElem?_map, List.getElem?_map] at hx
        obtain ⟨u, hu, rfl⟩ := Option.map_eq_some_iff.mp hx
        obtain ⟨v, hv, rfl⟩ := Option.map_eq_some_iff.mp hu
        have := (List.getElem?_range (show q < i by have := (List.getElem?_eq_some_iff.mp hv).1; rwa [List.length_range] at this))
        rw [hv] at this
        cases this
        exact ⟨_, rfl, rfl⟩
      obtain ⟨z, rfl⟩ : ∃ z, y = .int z := by
        unfold bgR at hy
        rw [List.getElem?_map] at hy
        obtain ⟨u, hu, rfl⟩ := Option.map_eq_some_iff.mp hy
        exact ⟨_, rfl⟩
      unfold TurnW pickR
      walk_at "dl"
      refine rw_eqD (shp_tw _) (shp_tw _) ?_
      walk_at "dl"
      cases he : eqD (tw (kyR a)) (tw (kyR (st d ws B A i).2)) with
      | true =>
        refine if_t ?_
        walk_at "dl"
        exact ⟨rfl, rfl, if_pos rfl⟩
      | false => exact if_f ⟨rfl, if_neg Bool.false_ne_true⟩
    · have er : (List.range (prR d ws B A i).length).filterMap (fun q => ((prR d ws B A i)[q]?).bind fun x => ((bgR d ws B A i)[q]?).bind (pickR (st d ws B A i).2 x)) = [Dat.int ((st d ws B A j).1.length : Nat)] := by
        rw [lp]
        have : (List.range i).filterMap (fun q => ((prR d ws B A i)[q]?).bind fun x => ((bgR d ws B A i)[q]?).bind (pickR (st d ws B A i).2 x)) = (List.range i).filterMap (fun q => if q = j then some (Dat.int ((st d ws B A j).1.length : Nat)) else none) := by
          refine fm_congr fun q hq => ?_
          have hq' := List.mem_range.mp hq
          have h1 : (prR d ws B A i)[q]? = some (tw (kyR (st d ws B A q).2)) := by
            unfold prR
            rw [List.getElem?_map, List.getElem?_map, List.getElem?_range hq']
            rfl
          have h2 : (bgR d ws B A i)[q]? = some (Dat.int ((st d ws B A q).1.length : Nat)) := by
            unfold bgR
            rw [List.getElem?_map, List.getElem?_range hq']
            rfl
          rw [h1, h2, Option.bind_some, Option.bind_some]
          unfold pickR
          rw [eqD_tw]
          by_cases c : q = j
          · subst c
            rw [if_pos rfl, if_pos (by rw [ej]; exact decide_eq_true rfl)]
          · rw [if_neg c, if_neg]
            intro z
            have z' := kyR_inj' (of_decide_eq_true z)
            rcases Nat.lt_trichotomy q j with w1 | w1 | w1
            · exact dist q j w1 hj (z'.trans ej.symm)
            · exact c w1
            · exact dist j q w1 hq' (ej.trans z'.symm)
        rw [this, fm_one hj]
      rw [er]
      have tk := st_take (d := d) (ws := ws) (B := B) (A := A) (Nat.le_of_lt hj)
      walk_at "dl"
      rw [cut_to (by omega), cut_from (by omega), Int.toNat_natCast, ni_take, ni_drop]
      exact p i j _ ⟨hj, ej, dist⟩
  | false =>
    have hex : ¬ ∃ j, j < i ∧ (st d ws B A j).2 = (st d ws B A i).2 := fun z => by
      rw [hany.mpr z] at ha
      cases ha
    have hno : ∀ a b, a < b → b < i + 1 → (st d ws B A a).2 ≠ (st d ws B A b).2 := fun a b hab hb => by
      by_cases c : b < i
      · exact dist a b hab c
      · have : b = i := by omega
        subst this
        exact fun z => hex ⟨a, hab, z⟩
    have few2 := st_few t hw n1 ri.row.b ri.row.a hno
    refine leaf_bl (if_t ?_)
    have lv : Lv (m ++ ([some (ni (st d ws B A 0).1), some (prR d ws B A (i + 1)), some (bgR d ws B A i)] ++ J)) dw (ni (st d ws B A i).1) := by
      rcases hdw with z | ⟨z1, z2⟩
      · exact .inl z
      · subst z1; exact .inr ⟨_, z2, at3a⟩
    have ep : prR d ws B A i ++ [tw (kyR (st d ws B A i).2)] = prR d ws B A (i + 1) := by unfold prR; rw [List.range_succ, List.map_append, List.map_append]; rfl
    have eb : bgR d ws B A i ++ [Dat.int ((st d ws B A i).1.length : Nat)] = bgR d ws B A (i + 1) := by unfold bgR; rw [List.range_succ, List.map_append]; rfl
    refine s_seq (s_drop (ew_append (ew_var rfl ⟨⟨_, _, rfl, at3b⟩, aw_cons (ew_var rfl (aw_nil ⟨_, _, _, rfl, rfl, nc_ok _, at3b, by rw [lp, sizeLine_eq]; omega, ?_⟩))⟩)))
    rw [set3b, ep]
    refine s_seq (s_drop (ew_append (ew_var rfl ⟨⟨_, _, rfl, at3c⟩, aw_cons (ew_cb (aw_cons (ew_var rfl (aw_nil (cw_lenV lv (aw_nil ⟨_, _, _, rfl, rfl, rfl, at3c, by rw [lb, sizeLine_eq]; omega, ?_⟩))))))⟩)))
    rw [set3c, ni_len, eb]
    refine s_seq (s_asg (ew_call ?_))
    walk_at "de"
    refine ⟨L, N, ws, d, (st d ws B A i).2.1, (st d ws B A i).2.2, A, rfl, hw, t, ri.nc, si.m, si.n, ri.row.a, by omega, ?_⟩
    have gk := go_ok t hw A (st d ws B A i).2.1 (st d ws B A i).2.2 si.m si.n ri.row.a
    refine gw_tup (ds := [tw (kyR (st d ws B A (i + 1)).2), .cell _]) rfl (gs_cons (gw_name (gs_cons (gw_name (gs_nil ?_)))))
    have lv2 : Lv (m ++ ([some (ni (st d ws B A 0).1), some (prR d ws B A (i + 1)), some (bgR d ws B A (i + 1))] ++ (J ++ [some (ni (go d ws (st d ws B A i).2.1 (st d ws B A i).2.2 A).1)]))) dw (ni (st d ws B A i).1) := by
      rcases hdw with z | ⟨z1, z2⟩
      · exact .inl z
      · subst z1; exact .inr ⟨_, z2, at3a⟩
    rw [snoc3]
    refine s_set (ew_op (ew_var rfl (ew_var rfl (rw_catV lv2 (.inr ⟨_, rfl, (by rw [← snoc3]; exact at_end)⟩) (by rw [ni_len, ni_len, gk.len, sizeLine_eq]; omega) ?_))))
    rw [ni_app]
    exact ⟨_, by omega, i + 1, _, _, rfl, by omega, hno, .inl rfl, rfl, _, _, _, _, rfl⟩
def f_lkeeps : FW := fun ds m P => ∃ L N ws d B A, ds = [wrl L N ws, d, rw_ B A] ∧ RunIn L N ws d B A ∧ ∀ n j J, RunAt d ws B A n j → P (.bl (clean ws (lpR d ws B A n j))) (m ++ J)

end
end L56
namespace L56
open PySem PySem.Spec PyProof.Rows L2 DL StX KM RM
section
variable {P : Program} {w : World} {K : PySem.W.Frag} {mg : Str → Option Value} {base : Heap}
/- one rule a construct; what asks for a fact is left -/
local macro_rules | `(tactic| walk_at "dl") => `(tactic| repeat (first
  | ((with_reducible refine' ew_var ?hv ?_); (case hv => exact rfl))
  | with_reducible refine ew_int ?_
  | with_reducible refine ew_bl ?_
  | with_reducible refine ew_non ?_
  | with_reducible refine ew_str ?_
  | with_reducible refine aw_nil ?_
  | with_reducible refine aw_cons ?_
  | with_reducible refine ew_isi ?_
  | with_reducible refine ew_isi2 ?_
  | with_reducible refine ew_isiC ?_
  | with_reducible refine ew_op ?_
  | with_reducible refine ew_un ?_
  | with_reducible refine uw_neg ?_
  | with_reducible refine ew_cb ?_
  | with_reducible refine ew_call ?_
  | with_reducible refine ew_k01 ?_
  | with_reducible refine ew_k02 ?_
  | with_reducible refine ew_k02s ?_
  | with_reducible refine ew_k3t ?_
  | with_reducible refine ew_chain ?_
  | with_reducible refine ew_andV ?_
  | with_reducible refine ew_orV ?_
  | with_reducible refine ew_notV ?_
  | with_reducible refine ew_if ?_
  | with_reducible refine ew_slT ?_
  | with_reducible refine ew_slL ?_
  | with_reducible refine ow_none ?_
  | with_reducible refine ow_some ?_
  | with_reducible refine tw_test ?_
  | with_reducible refine tw_B ?_
  | with_reducible refine tw_and ?_
  | with_reducible refine tw_or ?_
  | with_reducible refine tw_not ?_
  | with_reducible refine tw_tru ?_
  | with_reducible refine s_seq ?_
  | with_reducible refine s_set ?_
  | with_reducible refine s_asg ?_
  | with_reducible refine s_ret ?_
  | with_reducible refine s_retN ?_
  | with_reducible refine s_if ?_
  | with_reducible refine s_drop ?_
  | with_reducible refine s_par ?_
  | with_reducible refine s_par3 ?_
  | with_reducible refine s_next ?_
  | with_reducible refine gw_tup rfl ?_
  | with_reducible refine gs_cons ?_
  | with_reducible refine gs_nil ?_
  | with_reducible refine gw_name ?_
  | with_reducible refine rw_add ?_
  | with_reducible refine rw_sub ?_
  | with_reducible refine rw_lt ?_
  | with_reducible refine rw_le ?_
  | with_reducible refine rw_gt ?_
  | with_reducible refine rw_ge ?_
  | with_reducible refine rw_eqI ?_
  | with_reducible refine rw_neI ?_
  | with_reducible refine rw_eqB ?_
  | with_reducible refine rw_neS ?_
  | with_reducible refine rw_isN ?_
  | with_reducible refine rw_notN ?_
  | with_reducible refine rw_isB ?_
  | with_reducible refine rw_notB ?_
  | ((with_reducible refine' rw_ixT ?hi ?_); (case hi => exact rfl))
  | ((with_reducible refine' rw_ixL ?hi ?_); (case hi => exact rfl))
  | with_reducible refine cw_lenT ?_
  | with_reducible refine cw_lenL ?_
  | with_reducible refine cw_tupL ?_
  | with_reducible refine cw_max2 ?_
  | with_reducible refine cw_abs ?_
  | with_reducible refine cw_int1 ?_
  | with_reducible refine leaf_bl ?_
  | with_reducible refine leaf_int ?_
  | with_reducible refine leaf_tup ?_
  | with_reducible refine leaf_lst ?_
  | with_reducible refine leaf_two ?_
  | with_reducible refine leaf_three ?_
  | with_reducible refine ew_tup ?_
  | with_reducible refine sz0 ?_
  | with_reducible refine sz1 ?_
  | with_reducible refine sz2 ?_
  | with_reducible refine sz3 ?_
  | with_reducible refine sz4 ?_
  | with_reducible refine if_t ?_
  | with_reducible refine if_f ?_
  | with_reducible refine if_nt ?_
  | with_reducible refine if_nf ?_))
/- one rule a construct; what asks for a fact is left -/
local macro_rules | `(tactic| walk_at "de") => `(tactic| repeat (first
  | ((with_reducible refine' ew_var ?hv ?_); (case hv => exact rfl))
  | with_reducible refine ew_int ?_
  | with_reducible refine ew_bl ?_
  | with_reducible refine ew_non ?_
  | with_reducible refine ew_str ?_
  | with_reducible refine aw_nil ?_
  | with_reducible refine aw_cons ?_
  | with_reducible refine ew_isi ?_
  | with_reducible refine ew_isi2 ?_
  | with_reducible refine ew_isiC ?_
  | with_reducible refine ew_op ?_
  | with_reducible refine ew_un ?_
  | with_reducible refine uw_neg ?_
  | with_reducible refine ew_cb ?_
  | with_reducible refine ew_call ?_
  | with_reducible refine ew_k01 ?_
  | with_reducible refine ew_k02 ?_
  | with_reducible refine ew_k02s ?_
  | with_reducible refine ew_k3t ?_
  | with_reducible refine ew_chain ?_
  | with_reducible refine ew_andV ?_
  | with_reducible refine ew_orV ?_
  | with_reducible refine ew_notV ?_
  | with_reducible refine ew_if ?_
  | with_reducible refine ew_slT ?_
  | with_reducible refine ew_slL ?_
  | with_reducible refine ow_none ?_
  | with_reducible refine ow_some ?_
  | with_reducible refine tw_test ?_
  | with_reducible refine tw_B ?_
  | with_reducible refine tw_and ?_
  | with_reducible refine tw_or ?_
  | with_reducible refine tw_not ?_
  | with_reducible refine tw_tru ?_
  | with_reducible refine gw_tup rfl ?_
  | with_reducible refine gs_cons ?_
  | with_reducible refine gs_nil ?_
  | with_reducible refine gw_name ?_
  | with_reducible refine rw_add ?_
  | with_reducible refine rw_sub ?_
  | with_reducible refine rw_lt ?_
  | with_reducible refine rw_le ?_
  | with_reducible refine rw_gt ?_
  | with_reducible refine rw_ge ?_
  | with_reducible refine rw_eqI ?_
  | with_reducible refine rw_neI ?_
  | with_reducible refine rw_eqB ?_
  | with_reducible refine rw_neS ?_
  | with_reducible refine rw_isN ?_
  | with_reducible refine rw_notN ?_
  | with_reducible refine rw_isB ?_
  | with_reducible refine rw_notB ?_
  | ((with_reducible refine' rw_ixT ?hi ?_); (case hi => exact rfl))
  | ((with_reducible refine' rw_ixL ?hi ?_); (case hi => exact rfl))
  | with_reducible refine cw_lenT ?_
  | with_reducible refine cw_lenL ?_
  | with_reducible refine cw_tupL ?_
  | with_reducible refine cw_max2 ?_
  | with_reducible refine cw_abs ?_
  | with_reducible refine cw_int1 ?_
  | with_reducible refine leaf_bl ?_
  | with_reducible refine leaf_int ?_
  | with_reducible refine leaf_tup ?_
  | with_reducible refine leaf_lst ?_
  | with_reducible refine leaf_two ?_
  | with_reducible refine leaf_three ?_
  | with_reducible refine ew_tup ?_
  | with_reducible refine sz0 ?_
  | with_reducible refine sz1 ?_
  | with_reducible refine sz2 ?_
  | with_reducible refine sz3 ?_
  | with_reducible refine sz4 ?_
  | with_reducible refine if_t ?_
  | with_reducible refine if_f ?_
  | with_reducible refine if_nt ?_
  | with_reducible refine if_nf ?_))

/- end of the rules -/
def onK (ws : List (List Int)) : Dat → Option Dat | .int i => if at4 ws i.toNat 3 = 1 then some (.int 1) else none | _ => none
theorem at4_slip {L N : Int} {ws : List (List Int)} {n : Nat} (hw : ∀ w ∈ ws, WayOk L N w) (hn : n < ws.length) : at4 ws n 3 = 0 ∨ at4 ws n 3 = 1 := by
  have e := way4 hw hn
  obtain ⟨a, b, c, s, h, _, _, _, h4⟩ := hw _ (List.mem_of_getElem? e)
  injection h with h1 h
  injection h with h2 h
  injection h with h3 h
  injection h with h5 h
  rw [h5]
  omega
theorem onK_all {L N : Int} {ws : List (List Int)} (hw : ∀ w ∈ ws, WayOk L N w) : ∀ {ls : List Nat}, (∀ k ∈ ls, k < ws.length) → (eqD (.lst ((ni ls).filterMap (onK ws))) (.lst []) = clean ws ls ∧ shp (.lst ((ni ls).filterMap (onK ws))) = true)
  | [], _ => ⟨(show eqD (.lst []) (.lst []) = true by decide), (show shp (.lst []) = true by decide)⟩
  | k :: ls, h => by
    have e : ni (k :: ls) = Dat.int (k : Nat) :: ni ls := rfl
    have ih := onK_all hw (ls := ls) fun x hx => h x (List.mem_cons_of_mem _ hx)
    rw [e, List.filterMap_cons]
    have hz : onK ws (.int (k : Nat)) = if at4 ws k 3 = 1 then some (.int 1) else none := rfl
    rw [hz]
    rcases at4_slip hw (h k List.mem_cons_self) with c | c
    · rw [if_neg (by rw [c]; decide)]
      have : clean ws (k :: ls) = clean ws ls := by
        unfold clean
        rw [List.map_cons, c]
        simp
      rw [this]
      exact ih
    · rw [if_pos c]
      have : clean ws (k :: ls) = false := by
        unfold clean
        rw [List.map_cons, c]
        simp
      rw [this]
      refine ⟨?_, ?_⟩
      · simp [eqD, toPy, toPys, PyData.eqv, PyData.eqvAll]
      · have h2 := ih.2
        unfold shp at h2 ⊢
        rw [Bool.and_eq_true] at h2 ⊢
        refine ⟨?_, ?_⟩
        · rw [okD, okDs, okD]
          have := h2.1
          rw [okD] at this
          rw [this]; rfl
        · have := of_decide_eq_true h2.2
          refine decide_eq_true ?_
          simp only [dep, deps] at this ⊢
          omega
theorem ok__law_keeps (T : All K mg) : FnOk P w K mg base CX0 3 T.d__law_keeps.f T.d__law_keeps.fd ["_law_world_here", "_law_table_here", "_law_row_here"] (spD K f_lkeeps) := by
  refine T.d__law_keeps.F.ok sc__law_keeps (fun vs H Q E h => sp_len (by intro ds m P f; first | (obtain ⟨rfl, _⟩ := f; rfl) | (obtain ⟨_, h⟩ := f; first | (obtain ⟨rfl, _⟩ := h; rfl) | (obtain ⟨_, rfl, _⟩ := h; rfl) | (obtain ⟨_, _, rfl, _⟩ := h; rfl) | (obtain ⟨_, _, _, rfl, _⟩ := h; rfl) | (obtain ⟨_, _, _, _, rfl, _⟩ := h; rfl) | (obtain ⟨_, _, _, _, _, rfl, _⟩ := h; rfl) | (obtain ⟨_, _, _, _, _, _, rfl, _⟩ := h; rfl) | (obtain ⟨_, _, _, _, _, _, _, rfl, _⟩ := h; rfl) | (obtain ⟨_, _, _, _, _, _, _, _, rfl, _⟩ := h; rfl) | (obtain ⟨_, _, _, _, _, _, _, _, _, rfl, _⟩ := h; rfl))) h) (fun cdv A outer s H vs Q E hr h => ?_)
  refine ⟨_, (pss_one (ps_ret (pe_cmpR (op_eqD hr.units) (pe_lc (own := [("_law_number", 3)]) (g := gName 3) rfl sc__law_keeps.nd (pi_list (pe_ix (show IxR _ (rIxT K) from ix_tup) (pe_call (ok__law_run T) (hr.mono (by decide)) rfl T.d__law_run.g T.d__law_run.F.kp T.d__law_run.b .nil pass0 (pa_cons (pv 0) (pa_cons (pv 1) (pa_cons (pv 2) pa_nil)))) pe_int (fun _ _ => rfl))) (blkOk_by (N := N__law_keeps) (sc := defScope s__law_keeps) (by decide +kernel)) (fun _ _ _ _ _ => pg_name (i := 3) sc__law_keeps.nd rfl (Or.inl rfl)) (fun _ _ _ _ _ => pts_one (pt_cmpR op_eq (pe_ix (show IxR _ (rIxT K) from ix_tup) (pe_ix (show IxR _ (rIxL K) from ix_list) (pe_ix (show IxR _ (rIxT K) from ix_tup) (pv 0) pe_int (fun _ _ => rfl)) (pv 3) (fun _ _ => rfl)) pe_int (fun _ _ => rfl)) pe_int (nomark _))) (fun _ _ _ _ _ => pe_int)) (pe_lst pa_nil) (nomark _)))), body_of h fun ds m P f => ?_⟩
  try dsimp only [cxOf, Cx.nox, Cx.wish, Cx.blk]
  obtain ⟨L, N, ws, d, B, A, rfl, ri, p⟩ := f
  walk_at "dl"
  refine ew_lcL ?_
  walk_at "dl"
  refine ⟨L, N, ws, d, B, A, rfl, ri, fun n j J ra => ?_⟩
  have rk := ri.ok ra
  have t3 := rk.told.2.2.1
  walk_at "dl"
  refine ⟨by rw [ni_len, sizeLine_eq]; omega, onK ws, ?_, ?_⟩
  · intro x acc hx
    obtain ⟨k, hk, rfl⟩ := ni_mem hx
    have kl := rk.lt k (List.mem_append_right _ hk)
    unfold TurnW
    walk_at "dl"
    refine rw_ixL (at_ways ri.hw kl) ?_
    walk_at "dl"
    by_cases c : at4 ws k 3 = 1
    · rw [decide_eq_true c]
      refine if_t ?_
      walk_at "dl"
      exact ⟨rfl, rfl, if_pos c⟩
    · rw [decide_eq_false c]
      exact if_f ⟨rfl, if_neg c⟩
  · have oa := onK_all ri.hw (ls := lpR d ws B A n j) fun k hk => rk.lt k (List.mem_append_right _ hk)
    refine ew_lst ?_
    walk_at "dl"
    refine rw_eqD oa.2 (by decide) ?_
    rw [oa.1]
    walk_at "dl"
    exact p n j J ra
theorem fm_some {α β : Type} (f : α → β) : ∀ l : List α, l.filterMap (fun x => some (f x)) = l.map f
  | [] => rfl
  | x :: l => by rw [List.filterMap_cons, List.map_cons, fm_some f l]
theorem nc_tupmap {α : Type} {f : α → Dat} : ∀ {l : List α}, (∀ x ∈ l, noCell (f x) = true) → noCells (l.map f) = true
  | [], _ => rfl
  | x :: l, h => by rw [List.map_cons, noCells, h x List.mem_cons_self, nc_tupmap fun y hy => h y (List.mem_cons_of_mem _ hy)]; rfl
def frz (c : Dat → List Dat) (Ms : List Dat) : Dat := .tup (Ms.map fun y => .tup ((c y).map fun z => .tup (c z)))
def f_frozen : FW := fun ds m P => ∃ d Ms c, ds = [d] ∧ Lv m d Ms ∧ Ms.length < 1000 ∧ (∀ y ∈ Ms, Lv m y (c y) ∧ (c y).length < 1000 ∧ ∀ z ∈ c y, Lv m z (c z) ∧ noCells (c z) = true) ∧ P (frz c Ms) m
theorem ok__law_frozen (T : All K mg) : FnOk P w K mg base CX0 1 T.d__law_frozen.f T.d__law_frozen.fd ["_law_table_here"] (spD K f_frozen) := by
  refine T.d__law_frozen.F.ok sc__law_frozen (fun vs H Q E h => sp_len (by intro ds m P f; first | (obtain ⟨rfl, _⟩ := f; rfl) | (obtain ⟨_, h⟩ := f; first | (obtain ⟨rfl, _⟩ := h; rfl) | (obtain ⟨_, rfl, _⟩ := h; rfl) | (obtain ⟨_, _, rfl, _⟩ := h; rfl) | (obtain ⟨_, _, _, rfl, _⟩ := h; rfl) | (obtain ⟨_, _, _, _, rfl, _⟩ := h; rfl) | (obtain ⟨_, _, _, _, _, rfl, _⟩ := h; rfl) | (obtain ⟨_, _, _, _, _, _, rfl, _⟩ := h; rfl) | (obtain ⟨_, _, _, _, _, _, _, rfl, _⟩ := h; rfl) | (obtain ⟨_, _, _, _, _, _, _, _, rfl, _⟩ := h; rfl) | (obtain ⟨_, _, _, _, _, _, _, _, _, rfl, _⟩ := h; rfl))) h) (fun cdv A outer s H vs Q E hr h => ?_)
  refine ⟨_, (pss_one (ps_ret (pe_callTy (show CallR _ (.type "tuple") (rTupOf K) from call_tupOf) (by rfl) T.z_tuple (by decide +kernel) (pa_cons (pe_lc (own := [("_law_rooms", 1)]) (g := gName 1) rfl sc__law_frozen.nd (pi_seq (pv 0)) (blkOk_by (N := N__law_frozen) (sc := defScope s__law_frozen) (by decide +kernel)) (fun _ _ _ _ _ => pg_name (i := 1) sc__law_frozen.nd rfl (Or.inl rfl)) (fun _ _ _ _ _ => pts_nil) (fun _ _ _ _ _ => (pe_callTy (show CallR _ (.type "tuple") (rTupOf K) from call_tupOf) (by rfl) T.z_tuple (by decide +kernel) (pa_cons (pe_lc (own := [("_law_row_here", 2)]) (g := gName 2) rfl sc__law_frozen.nd (show PI _ _ _ (iSeq K _) from pi_seq (pv 1)) (blkOk_by (N := N__law_frozen) (by rfl)) (fun _ _ _ _ _ => pg_name (i := 2) sc__law_frozen.nd rfl (Or.inl rfl)) (fun _ _ _ _ _ => pts_nil) (fun _ _ _ _ _ => (pe_callTy (show CallR _ (.type "tuple") (rTupOf K) from call_tupOf) (by rfl) T.z_tuple (by decide +kernel) (pa_cons (pv 2) pa_nil)))) pa_nil)))) pa_nil)))), body_of h fun ds m P f => ?_⟩
  try dsimp only [cxOf, Cx.nox, Cx.wish, Cx.blk]
  obtain ⟨d, Ms, c, rfl, hd, lm, hc, p⟩ := f
  walk_at "dl"
  refine ew_lcV rfl hd (by rw [sizeLine_eq]; omega) (fun y => some (.tup ((c y).map fun z => .tup (c z)))) ?_ ?_
  · intro y acc hy
    obtain ⟨h1, h2, h3⟩ := hc y hy
    refine turn_yes (by rw [noCell]; exact nc_tupmap fun z hz => by rw [noCell]; exact (h3 z hz).2) ?_
    walk_at "dl"
    refine ew_lcV rfl h1.more (by rw [sizeLine_eq]; omega) (fun z => some (.tup (c z))) ?_ ?_
    · intro z acc2 hz
      obtain ⟨h4, h5⟩ := h3 z hz
      refine turn_yes (by rw [noCell]; exact h5) ?_
      walk_at "dl"
      refine cw_tupV h4.more.more ?_
      walk_at "dl"
      exact ⟨rfl, rfl⟩
    · rw [fm_some]
      walk_at "dl"
      exact ⟨rfl, rfl⟩
  · rw [fm_some]
    walk_at "dl"
    exact p
end
end L56
namespace L56
open PySem PySem.Spec PyProof.Rows L2 DL StX KM RM
section
variable {P : Program} {w : World} {K : PySem.W.Frag} {mg : Str → Option Value} {base : Heap}
/- one rule a construct; what asks for a fact is left -/
local macro_rules | `(tactic| walk_at "dl") => `(tactic| repeat (first
  | ((with_reducible refine' ew_var ?hv ?_); (case hv => exact rfl))
  | with_reducible refine ew_int ?_
  | with_reducible refine ew_bl ?_
  | with_reducible refine ew_non ?_
  | with_reducible refine ew_str ?_
  | with_reducible refine aw_nil ?_
  | with_reducible refine aw_cons ?_
  | with_reducible refine ew_isi ?_
  | with_reducible refine ew_isi2 ?_
  | with_reducible refine ew_isiC ?_
  | with_reducible refine ew_op ?_
  | with_reducible refine ew_un ?_
  | with_reducible refine uw_neg ?_
  | with_reducible refine ew_cb ?_
  | with_reducible refine ew_call ?_
  | with_reducible refine ew_k01 ?_
  | with_reducible refine ew_k02 ?_
  | with_reducible refine ew_k02s ?_
  | with_reducible refine ew_k3t ?_
  | with_reducible refine ew_chain ?_
  | with_reducible refine ew_andV ?_
  | with_reducible refine ew_orV ?_
  | with_reducible refine ew_notV ?_
  | with_reducible refine ew_if ?_
  | with_reducible refine ew_slT ?_
  | with_reducible refine ew_slL ?_
  | with_reducible refine ow_none ?_
  | with_reducible refine ow_some ?_
  | with_reducible refine tw_test ?_
  | with_reducible refine tw_B ?_
  | with_reducible refine tw_and ?_
  | with_reducible refine tw_or ?_
  | with_reducible refine tw_not ?_
  | with_reducible refine tw_tru ?_
  | with_reducible refine s_seq ?_
  | with_reducible refine s_set ?_
  | with_reducible refine s_asg ?_
  | with_reducible refine s_ret ?_
  | with_reducible refine s_retN ?_
  | with_reducible refine s_if ?_
  | with_reducible refine s_drop ?_
  | with_reducible refine s_par ?_
  | with_reducible refine s_par3 ?_
  | with_reducible refine s_next ?_
  | with_reducible refine gw_tup rfl ?_
  | with_reducible refine gs_cons ?_
  | with_reducible refine gs_nil ?_
  | with_reducible refine gw_name ?_
  | with_reducible refine rw_add ?_
  | with_reducible refine rw_sub ?_
  | with_reducible refine rw_lt ?_
  | with_reducible refine rw_le ?_
  | with_reducible refine rw_gt ?_
  | with_reducible refine rw_ge ?_
  | with_reducible refine rw_eqI ?_
  | with_reducible refine rw_neI ?_
  | with_reducible refine rw_eqB ?_
  | with_reducible refine rw_neS ?_
  | with_reducible refine rw_isN ?_
  | with_reducible refine rw_notN ?_
  | with_reducible refine rw_isB ?_
  | with_reducible refine rw_notB ?_
  | ((with_reducible refine' rw_ixT ?hi ?_); (case hi => exact rfl))
  | ((with_reducible refine' rw_ixL ?hi ?_); (case hi => exact rfl))
  | with_reducible refine cw_lenT ?_
  | with_reducible refine cw_lenL ?_
  | with_reducible refine cw_tupL ?_
  | with_reducible refine cw_max2 ?_
  | with_reducible refine cw_abs ?_
  | with_reducible refine cw_int1 ?_
  | with_reducible refine leaf_bl ?_
  | with_reducible refine leaf_int ?_
  | with_reducible refine leaf_tup ?_
  | with_reducible refine leaf_lst ?_
  | with_reducible refine leaf_two ?_
  | with_reducible refine leaf_three ?_
  | with_reducible refine ew_tup ?_
  | with_reducible refine sz0 ?_
  | with_reducible refine sz1 ?_
  | with_reducible refine sz2 ?_
  | with_reducible refine sz3 ?_
  | with_reducible refine sz4 ?_
  | with_reducible refine if_t ?_
  | with_reducible refine if_f ?_
  | with_reducible refine if_nt ?_
  | with_reducible refine if_nf ?_))
/- one rule a construct; what asks for a fact is left -/
local macro_rules | `(tactic| walk_at "de") => `(tactic| repeat (first
  | ((with_reducible refine' ew_var ?hv ?_); (case hv => exact rfl))
  | with_reducible refine ew_int ?_
  | with_reducible refine ew_bl ?_
  | with_reducible refine ew_non ?_
  | with_reducible refine ew_str ?_
  | with_reducible refine aw_nil ?_
  | with_reducible refine aw_cons ?_
  | with_reducible refine ew_isi ?_
  | with_reducible refine ew_isi2 ?_
  | with_reducible refine ew_isiC ?_
  | with_reducible refine ew_op ?_
  | with_reducible refine ew_un ?_
  | with_reducible refine uw_neg ?_
  | with_reducible refine ew_cb ?_
  | with_reducible refine ew_call ?_
  | with_reducible refine ew_k01 ?_
  | with_reducible refine ew_k02 ?_
  | with_reducible refine ew_k02s ?_
  | with_reducible refine ew_k3t ?_
  | with_reducible refine ew_chain ?_
  | with_reducible refine ew_andV ?_
  | with_reducible refine ew_orV ?_
  | with_reducible refine ew_notV ?_
  | with_reducible refine ew_if ?_
  | with_reducible refine ew_slT ?_
  | with_reducible refine ew_slL ?_
  | with_reducible refine ow_none ?_
  | with_reducible refine ow_some ?_
  | with_reducible refine tw_test ?_
  | with_reducible refine tw_B ?_
  | with_reducible refine tw_and ?_
  | with_reducible refine tw_or ?_
  | with_reducible refine tw_not ?_
  | with_reducible refine tw_tru ?_
  | with_reducible refine gw_tup rfl ?_
  | with_reducible refine gs_cons ?_
  | with_reducible refine gs_nil ?_
  | with_reducible refine gw_name ?_
  | with_reducible refine rw_add ?_
  | with_reducible refine rw_sub ?_
  | with_reducible refine rw_lt ?_
  | with_reducible refine rw_le ?_
  | with_reducible refine rw_gt ?_
  | with_reducible refine rw_ge ?_
  | with_reducible refine rw_eqI ?_
  | with_reducible refine rw_neI ?_
  | with_reducible refine rw_eqB ?_
  | with_reducible refine rw_neS ?_
  | with_reducible refine rw_isN ?_
  | with_reducible refine rw_notN ?_
  | with_reducible refine rw_isB ?_
  | with_reducible refine rw_notB ?_
  | ((with_reducible refine' rw_ixT ?hi ?_); (case hi => exact rfl))
  | ((with_reducible refine' rw_ixL ?hi ?_); (case hi => exact rfl))
  | with_reducible refine cw_lenT ?_
  | with_reducible refine cw_lenL ?_
  | with_reducible refine cw_tupL ?_
  | with_reducible refine cw_max2 ?_
  | with_reducible refine cw_abs ?_
  | with_reducible refine cw_int1 ?_
  | with_reducible refine leaf_bl ?_
  | with_reducible refine leaf_int ?_
  | with_reducible refine leaf_tup ?_
  | with_reducible refine leaf_lst ?_
  | with_reducible refine leaf_two ?_
  | with_reducible refine leaf_three ?_
  | with_reducible refine ew_tup ?_
  | with_reducible refine sz0 ?_
  | with_reducible refine sz1 ?_
  | with_reducible refine sz2 ?_
  | with_reducible refine sz3 ?_
  | with_reducible refine sz4 ?_
  | with_reducible refine if_t ?_
  | with_reducible refine if_f ?_
  | with_reducible refine if_nt ?_
  | with_reducible refine if_nf ?_))

/- end of the rules -/
/-! ### closing cells -/
theorem resE_nil {m : Mu} {n : Nat} : ResE m n [] [] := ⟨rfl, fun i d' h => by cases i <;> cases h⟩
theorem resE_none {m : Mu} {n : Nat} {ρ ρ' : Ro} (x : Option Dat) (h : ResE m n ρ ρ') : ResE m n (x :: ρ) (none :: ρ') := ⟨by rw [List.length_cons, List.length_cons, h.1], fun i d' q => by
  cases i with
  | zero => cases q
  | succ i => exact h.2 i d' q⟩
theorem resE_some {m : Mu} {n : Nat} {ρ ρ' : Ro} {d d' : Dat} (r : Res m n d d') (h : ResE m n ρ ρ') : ResE m n (some d :: ρ) (some d' :: ρ') := ⟨by rw [List.length_cons, List.length_cons, h.1], fun i e q => by
  cases i with
  | zero =>
    have : d' = e := by
      injection q with q
      injection q
    subst this
    exact ⟨d, rfl, r⟩
  | succ i => exact h.2 i e q⟩
theorem res_cell {m : Mu} {n k : Nat} (h : k < n) : Res m n (.cell k) (.cell k) := .id (by rw [blw]; exact decide_eq_true h)
theorem keepB_pot {a b a' b' : Int} {s J : Mu} : KeepB (pt a b :: s) (pt a' b' :: (s ++ J)) := fun j ds hj q => by
  cases j with
  | zero =>
    right
    have : some (some [Dat.int a', Dat.int b']) = some (some ds) := q
    cases this
    rfl
  | succ j =>
    left
    have hj' : j < s.length := Nat.lt_of_succ_lt_succ hj
    have q' : (s ++ J)[j]? = some (some ds) := q
    rw [List.getElem?_append_left hj'] at q'
    exact q'
theorem take_pot {a b a' b' : Int} {s J : Mu} : (pt a' b' :: (s ++ J)).take (pt a b :: s).length = pt a' b' :: s := by
  rw [List.length_cons, List.take_succ_cons, List.take_left]
theorem le_pot {a b a' b' : Int} {s J : Mu} : (pt a b :: s).length ≤ (pt a' b' :: (s ++ J)).length := by simp
/-! ### the law's tables -/
def itm (x : Nat × Nat) : Dat := .tup [.int (x.1 : Nat), .int (x.2 : Nat)]
def rowD (R : List (Nat × Nat)) : Dat := .lst (R.map itm)
def memD (M : List (List (Nat × Nat))) : Dat := .lst (M.map rowD)
def tabD (T : List (List (List (Nat × Nat)))) : Dat := .lst (T.map memD)
def RowG (ws : List (List Int)) (n : Nat) (r : Nat) (R : List (Nat × Nat)) : Prop := ∀ (c : Nat) (x : Nat × Nat), R[c]? = some x → x.1 ∈ sel ws (r : Nat) (c : Nat) ∧ x.2 < n
def MemG (ws : List (List Int)) (n l : Nat) (M : List (List (Nat × Nat))) : Prop := ∀ (r : Nat) R, M[r]? = some R → R.length = l ∧ RowG ws n r R
structure TabG (ws : List (List Int)) (L N : Int) (T : List (List (List (Nat × Nat)))) : Prop where
  one : 1 ≤ T.length
  few : T.length ≤ 3
  mem : ∀ M ∈ T, (M.length : Int) = N ∧ MemG ws T.length L.toNat M
theorem nc_itm (R : List (Nat × Nat)) : noCells (R.map itm) = true := nc_tupmap fun x _ => rfl
theorem nc_rows (M : List (List (Nat × Nat))) : noCells (M.map rowD) = true := nc_tupmap fun x _ => by rw [rowD, noCell]; exact nc_itm x
theorem nc_mems (T : List (List (List (Nat × Nat)))) : noCells (T.map memD) = true := nc_tupmap fun x _ => by rw [memD, noCell]; exact nc_rows x
theorem snocAt {α : Type} {l : List α} {x y : α} {i : Nat} (h : (l ++ [x])[i]? = some y) : l[i]? = some y ∨ i = l.length ∧ y = x := by
  by_cases c : i < l.length
  · rw [List.getElem?_append_left c] at h
    exact .inl h
  · have : i < (l ++ [x]).length := (List.getElem?_eq_some_iff.mp h).1
    rw [List.length_append, List.length_singleton] at this
    have : i = l.length := by omega
    subst this
    rw [List.getElem?_append_right (Nat.le_refl _), Nat.sub_self] at h
    cases h
    exact .inr ⟨rfl, rfl⟩
theorem nc_wrl {L N : Int} {ws : List (List Int)} : noCell (wrl L N ws) = true := by
  simp only [wrl, noCell, noCells, Bool.true_and, Bool.and_true]
  exact nc_tupmap fun w _ => nc_ok w
def f_table : FW := fun ds m P => ∃ a b r L N ws, ds = [.cell 0, wrl L N ws, .int 3] ∧ m = pt a b :: r ∧ Okp a b ∧ (1 ≤ L ∧ L ≤ 2) ∧ (1 ≤ N ∧ N ≤ 3) ∧ Rd4 L N ws ∧ ∀ a' b' T, Okp a' b' → TabG ws L N T → P (tabD T) (pt a' b' :: r)
theorem ok__law_table (T : All K mg) : FnOk P w K mg base CX0 3 T.d__law_table.f T.d__law_table.fd ["_law_pot_here", "_law_world_here", "_law_most"] (spD K f_table) := by
  refine T.d__law_table.F.ok sc__law_table (fun vs H Q E h => sp_len (by intro ds m P f; first | (obtain ⟨rfl, _⟩ := f; rfl) | (obtain ⟨_, h⟩ := f; first | (obtain ⟨rfl, _⟩ := h; rfl) | (obtain ⟨_, rfl, _⟩ := h; rfl) | (obtain ⟨_, _, rfl, _⟩ := h; rfl) | (obtain ⟨_, _, _, rfl, _⟩ := h; rfl) | (obtain ⟨_, _, _, _, rfl, _⟩ := h; rfl) | (obtain ⟨_, _, _, _, _, rfl, _⟩ := h; rfl) | (obtain ⟨_, _, _, _, _, _, rfl, _⟩ := h; rfl) | (obtain ⟨_, _, _, _, _, _, _, rfl, _⟩ := h; rfl) | (obtain ⟨_, _, _, _, _, _, _, _, rfl, _⟩ := h; rfl) | (obtain ⟨_, _, _, _, _, _, _, _, _, rfl, _⟩ := h; rfl))) h) (fun cdv A outer s H vs Q E hr h => ?_)
  refine ⟨_, (pss_cons (ps_par (i := 3) (j := 4) rfl sc__law_table.nd rfl rfl (by decide) rfl rfl (pa_cons (pe_op op_add pe_int (pe_call (ok__law_draw T) (hr.mono (by decide)) rfl T.d__law_draw.g T.d__law_draw.F.kp T.d__law_draw.b .nil pass0 (pa_cons (pv 0) (pa_cons (pv 2) pa_nil)))) (pa_cons (pe_lst pa_nil) pa_nil)) (by rfl))
      (pss_cons (ps_for PassesOwn.never rfl (pi_range1 (by rfl) T.z_range (pa_cons (pv 3) pa_nil)) (pg_name (i := 5) sc__law_table.nd rfl (Or.inl rfl)) (pss_cons (ps_set (i := 6) sc__law_table.nd rfl (Or.inl rfl) (pe_lst pa_nil))
      (pss_cons (ps_for PassesOwn.never rfl (pi_range1 (by rfl) T.z_range (pa_cons (pe_ix (show IxR _ (rIxT K) from ix_tup) (pv 1) pe_int (fun _ _ => rfl)) pa_nil)) (pg_name (i := 7) sc__law_table.nd rfl (Or.inl rfl)) (pss_cons (ps_set (i := 8) sc__law_table.nd rfl (Or.inl rfl) (pe_lst pa_nil))
      (pss_cons (ps_for PassesOwn.never rfl (pi_range1 (by rfl) T.z_range (pa_cons (pe_ix (show IxR _ (rIxT K) from ix_tup) (pv 1) pe_int (fun _ _ => rfl)) pa_nil)) (pg_name (i := 9) sc__law_table.nd rfl (Or.inl rfl)) (pss_cons (ps_set (i := 10) sc__law_table.nd rfl (Or.inl rfl) (pe_call (ok__law_pick T) (hr.mono (by decide)) rfl T.d__law_pick.g T.d__law_pick.F.kp T.d__law_pick.b .nil pass0 (pa_cons (pv 0) (pa_cons (pe_call (ok__law_numbers T) (hr.mono (by decide)) rfl T.d__law_numbers.g T.d__law_numbers.F.kp T.d__law_numbers.b .nil pass0 (pa_cons (pv 1) (pa_cons (pv 7) (pa_cons (pv 9) pa_nil)))) pa_nil))))
      (pss_one (ps_expr (pe_bm PySem.F.plainAttrs_list PySem.F.slot_list_append PySem.F.type_list_append mt_append (pv 8) (pa_cons (pe_tup (pa_cons (pv 10) (pa_cons (pe_call (ok__law_draw T) (hr.mono (by decide)) rfl T.d__law_draw.g T.d__law_draw.F.kp T.d__law_draw.b .nil pass0 (pa_cons (pv 0) (pa_cons (pv 3) pa_nil))) pa_nil))) pa_nil))))))
      (pss_one (ps_expr (pe_bm PySem.F.plainAttrs_list PySem.F.slot_list_append PySem.F.type_list_append mt_append (pv 6) (pa_cons (pv 8) pa_nil)))))))
      (pss_one (ps_expr (pe_bm PySem.F.plainAttrs_list PySem.F.slot_list_append PySem.F.type_list_append mt_append (pv 4) (pa_cons (pv 6) pa_nil)))))))
      (pss_one (ps_ret (pv 4))))), body_of h fun ds m P f => ?_⟩
  try dsimp only [cxOf, Cx.nox, Cx.wish, Cx.blk]
  obtain ⟨a, b, r, L, N, ws, rfl, rfl, ok, hL, hN, rd, p⟩ := f
  refine s_fin ?_
  walk_at "dl"
  refine ⟨a, b, r, 3, rfl, rfl, ok, by omega, by omega, fun a1 b1 v ok v0 v1 => ?_⟩
  walk_at "dl"
  refine ew_lstC ?_
  walk_at "dl"
  refine ⟨rfl, aw_nil (leaf_two ?_)⟩
  generalize en : 1 + v = n0
  obtain ⟨n, rfl⟩ : ∃ n : Nat, n0 = (n : Int) := ⟨n0.toNat, by omega⟩
  have n1 : 1 ≤ n := by omega
  have n3 : n ≤ 3 := by omega
  have few := rd.few
  clear en v0 v1
  refine s_seq (s_forR1 ?_)
  walk_at "dl"
  refine ⟨(n : Nat), rfl, by omega, by omega, fun i ρ' m' => ∃ a b T, Okp a b ∧ T.length = i ∧ (∀ M ∈ T, (M.length : Int) = N ∧ MemG ws n L.toNat M) ∧ m' = pt a b :: (r ++ [some (T.map memD)]) ∧
    ∃ e1 e2 e3 e4 e5 e6, ρ' = [some (.cell 0), some (wrl L N ws), some (.int 3), some (.int (n : Nat)), some (.cell (r.length + 1)), e1, e2, e3, e4, e5, e6], ⟨a1, b1, [], ok, rfl, fun M h => absurd h List.not_mem_nil, rfl, _, _, _, _, _, _, rfl⟩, ?_, ?_⟩
  · rintro i ρ' m' hi ⟨a, b, T, ok, hT, gT, rfl, e1, e2, e3, e4, e5, e6, rfl⟩
    refine gw_name ?_
    refine s_assoc (s_close ?_)
    refine s_seq (s_set (ew_lstC (aw_nil ⟨Nat.zero_le _, rfl, ?_⟩)))
    generalize hs : r ++ [some (T.map memD)] = s1
    refine s_forR1 ?_
    walk_at "dl"
    refine ⟨N, rfl, by omega, by omega, fun j ρ' m' => ∃ a b M, Okp a b ∧ M.length = j ∧ MemG ws n L.toNat M ∧ m' = pt a b :: (s1 ++ [some (M.map rowD)]) ∧
      ∃ e3 e4 e5 e6, ρ' = [some (.cell 0), some (wrl L N ws), some (.int 3), some (.int (n : Nat)), some (.cell (r.length + 1)), some (.int (i : Nat)), some (.cell (s1.length + 1)), e3, e4, e5, e6], ⟨a, b, [], ok, rfl, (fun r R h => by cases r <;> cases h), rfl, _, _, _, _, rfl⟩, ?_, ?_⟩
    · rintro j ρ' m' hj ⟨a, b, M, ok, hM, gM, rfl, e3, e4, e5, e6, rfl⟩
      refine gw_name ?_
      refine s_assoc (s_close ?_)
      refine s_seq (s_set (ew_lstC (aw_nil ⟨Nat.zero_le _, rfl, ?_⟩)))
      generalize hs2 : s1 ++ [some (M.map rowD)] = s2
      refine s_forR1 ?_
      walk_at "dl"
      refine ⟨L, rfl, by omega, by omega, fun c ρ' m' => ∃ a b R, Okp a b ∧ R.length = c ∧ RowG ws n j R ∧ m' = pt a b :: (s2 ++ [some (R.map itm)]) ∧
        ∃ e5 e6, ρ' = [some (.cell 0), some (wrl L N ws), some (.int 3), some (.int (n : Nat)), some (.cell (r.length + 1)), some (.int (i : Nat)), some (.cell (s1.length + 1)), some (.int (j : Nat)), some (.cell (s2.length + 1)), e5, e6], ⟨a, b, [], ok, rfl, (fun r R h => by cases r <;> cases h), rfl, _, _, rfl⟩, ?_, ?_⟩
      · rintro c ρ' m' hc ⟨a, b, R, ok, hR, gR, rfl, e5, e6, rfl⟩
        walk_at "dl"
        refine ⟨L, N, ws, (j : Nat), (c : Nat), rfl, rd.way, by omega, ?_⟩
        walk_at "dl"
        have ne : ni (sel ws (j : Nat) (c : Nat)) ≠ [] := by
          obtain ⟨w, hw, h1, h2⟩ := rd.all (j : Nat) (c : Nat) (by omega) (by omega) (by omega) (by omega)
          obtain ⟨k, hk⟩ := List.mem_iff_getElem?.mp hw
          have kl := (List.getElem?_eq_some_iff.mp hk).1
          have : k ∈ sel ws (j : Nat) (c : Nat) := sel_mem.mpr ⟨kl, by unfold at4; rw [List.getD_eq_getElem?_getD (l := ws), hk]; exact h1, by unfold at4; rw [List.getD_eq_getElem?_getD (l := ws), hk]; exact h2⟩
          intro z
          have : Dat.int (k : Nat) ∈ ni (sel ws (j : Nat) (c : Nat)) := List.mem_map.mpr ⟨k, this, rfl⟩
          rw [z] at this
          cases this
        have lsel : (ni (sel ws (j : Nat) (c : Nat))).length ≤ 1000 := by
          rw [ni_len]
          unfold sel
          refine Nat.le_trans (List.length_filter_le _ _) ?_
          rw [List.length_range]
          omega
        refine ⟨a, b, _, _, _, rfl, rfl, ok, .inl rfl, ne, lsel, fun a b x ok hx => ?_⟩
        obtain ⟨k, hk, rfl⟩ := ni_mem hx
        walk_at "dl"
        refine ew_append ?_
        walk_at "dl"
        refine ⟨⟨_, _, rfl, at_new⟩, ?_⟩
        walk_at "dl"
        refine ⟨a, b, _, (n : Nat), rfl, rfl, ok, by omega, by omega, fun a b v ok v0 v1 => ?_⟩
        walk_at "dl"
        refine ⟨_, _, _, rfl, rfl, rfl, at_new, by rw [List.length_map, sizeLine_eq]; omega, ?_⟩
        rw [set_new]
        obtain ⟨q, rfl⟩ : ∃ q : Nat, v = (q : Int) := ⟨v.toNat, by omega⟩
        refine ⟨a, b, R ++ [(k, q)], ok, by rw [List.length_append, hR]; rfl, fun c' x h => ?_, by rw [List.map_append]; rfl, _, _, rfl⟩
        rcases snocAt h with h | ⟨h1, h2⟩
        · exact gR c' x h
        · subst h2
          rw [h1, hR]
          exact ⟨hk, by show q < n; omega⟩
      · rintro ρ' m' ⟨a, b, R, ok, hR, gR, rfl, e5, e6, rfl⟩
        refine ⟨[some (.cell 0), some (wrl L N ws), some (.int 3), some (.int (n : Nat)), some (.cell (r.length + 1)), some (.int (i : Nat)), some (.cell (s1.length + 1)), some (.int (j : Nat)), some (rowD R), none, none], ?_, le_pot, keepB_pot, ?_⟩
        · have l1 : s1.length = r.length + 1 := by rw [← hs]; simp
          have l2 : s2.length = s1.length + 1 := by rw [← hs2]; simp
          exact resE_some (res_cell (Nat.succ_pos _)) (resE_some (.nc nc_wrl) (resE_some (.nc rfl) (resE_some (.nc rfl) (resE_some (res_cell (by rw [List.length_cons]; omega)) (resE_some (.nc rfl) (resE_some (res_cell (by rw [List.length_cons]; omega))
            (resE_some (.nc rfl) (resE_some (.cell (Nat.le_refl _) at_new (.ncs (nc_itm R))) (resE_none _ (resE_none _ resE_nil))))))))))
        · rw [take_pot, ← hs2]
          walk_at "dl"
          refine ew_append ?_
          walk_at "dl"
          refine ⟨⟨_, _, rfl, at_new⟩, ?_⟩
          walk_at "dl"
          refine ⟨_, _, _, rfl, rfl, by rw [rowD, noCell]; exact nc_itm R, at_new, by rw [List.length_map, sizeLine_eq]; omega, ?_⟩
          rw [set_new]
          refine ⟨a, b, M ++ [R], ok, by rw [List.length_append, hM]; rfl, fun q R' h => ?_, by rw [List.map_append]; rfl, _, _, _, _, rfl⟩
          rcases snocAt h with h | ⟨h1, h2⟩
          · exact gM q R' h
          · subst h2
            rw [h1, hM]
            exact ⟨by omega, gR⟩
    · rintro ρ' m' ⟨a, b, M, ok, hM, gM, rfl, e3, e4, e5, e6, rfl⟩
      refine ⟨[some (.cell 0), some (wrl L N ws), some (.int 3), some (.int (n : Nat)), some (.cell (r.length + 1)), some (.int (i : Nat)), some (memD M), none, none, none, none], ?_, le_pot, keepB_pot, ?_⟩
      · have l1 : s1.length = r.length + 1 := by rw [← hs]; simp
        exact resE_some (res_cell (Nat.succ_pos _)) (resE_some (.nc nc_wrl) (resE_some (.nc rfl) (resE_some (.nc rfl) (resE_some (res_cell (by rw [List.length_cons]; omega)) (resE_some (.nc rfl) (resE_some (.cell (Nat.le_refl _) at_new (.ncs (nc_rows M)))
          (resE_none _ (resE_none _ (resE_none _ (resE_none _ resE_nil))))))))))
      · rw [take_pot, ← hs]
        walk_at "dl"
        refine ew_append ?_
        walk_at "dl"
        refine ⟨⟨_, _, rfl, at_new⟩, ?_⟩
        walk_at "dl"
        refine ⟨_, _, _, rfl, rfl, by rw [memD, noCell]; exact nc_rows M, at_new, by rw [List.length_map, sizeLine_eq]; omega, ?_⟩
        rw [set_new]
        refine ⟨a, b, T ++ [M], ok, by rw [List.length_append, hT]; rfl, fun M' h => ?_, by rw [List.map_append]; rfl, _, _, _, _, _, _, rfl⟩
        rcases List.mem_append.mp h with h | h
        · exact gT M' h
        · rw [List.mem_singleton.mp h]
          exact ⟨by omega, gM⟩
  · rintro ρ' m' ⟨a, b, T, ok, hT, gT, rfl, e1, e2, e3, e4, e5, e6, rfl⟩
    walk_at "dl"
    refine ⟨tabD T, .cell (Nat.le_refl _) at_new (.ncs (nc_mems T)), le_pot, keepB_pot, ?_⟩
    rw [take_pot]
    have hn : T.length = n := by omega
    exact p a b T ok ⟨by omega, by omega, by rw [hn]; exact gT⟩
end
end L56
namespace L56
open PySem PySem.Spec PyProof.Rows L2 DL StX KM RM
section
variable {P : Program} {w : World} {K : PySem.W.Frag} {mg : Str → Option Value} {base : Heap}
/- one rule a construct; what asks for a fact is left -/
local macro_rules | `(tactic| walk_at "dl") => `(tactic| repeat (first
  | ((with_reducible refine' ew_var ?hv ?_); (case hv => exact rfl))
  | with_reducible refine ew_int ?_
  | with_reducible refine ew_bl ?_
  | with_reducible refine ew_non ?_
  | with_reducible refine ew_str ?_
  | with_reducible refine aw_nil ?_
  | with_reducible refine aw_cons ?_
  | with_reducible refine ew_isi ?_
  | with_reducible refine ew_isi2 ?_
  | with_reducible refine ew_isiC ?_
  | with_reducible refine ew_op ?_
  | with_reducible refine ew_un ?_
  | with_reducible refine uw_neg ?_
  | with_reducible refine ew_cb ?_
  | with_reducible refine ew_call ?_
  | with_reducible refine ew_k01 ?_
  | with_reducible refine ew_k02 ?_
  | with_reducible refine ew_k02s ?_
  | with_reducible refine ew_k3t ?_
  | with_reducible refine ew_chain ?_
  | with_reducible refine ew_andV ?_
  | with_reducible refine ew_orV ?_
  | with_reducible refine ew_notV ?_
  | with_reducible refine ew_if ?_
  | with_reducible refine ew_slT ?_
  | with_reducible refine ew_slL ?_
  | with_reducible refine ow_none ?_
  | with_reducible refine ow_some ?_
  | with_reducible refine tw_test ?_
  | with_reducible refine tw_B ?_
  | with_reducible refine tw_and ?_
  | with_reducible refine tw_or ?_
  | with_reducible refine tw_not ?_
  | with_reducible refine tw_tru ?_
  | with_reducible refine s_seq ?_
  | with_reducible refine s_set ?_
  | with_reducible refine s_asg ?_
  | with_reducible refine s_ret ?_
  | with_reducible refine s_retN ?_
  | with_reducible refine s_if ?_
  | with_reducible refine s_drop ?_
  | with_reducible refine s_par ?_
  | with_reducible refine s_par3 ?_
  | with_reducible refine s_next ?_
  | with_reducible refine gw_tup rfl ?_
  | with_reducible refine gs_cons ?_
  | with_reducible refine gs_nil ?_
  | with_reducible refine gw_name ?_
  | with_reducible refine rw_add ?_
  | with_reducible refine rw_sub ?_
  | with_reducible refine rw_lt ?_
  | with_reducible refine rw_le ?_
  | with_reducible refine rw_gt ?_
  | with_reducible refine rw_ge ?_
  | with_reducible refine rw_eqI ?_
  | with_reducible refine rw_neI ?_
  | with_reducible refine rw_eqB ?_
  | with_reducible refine rw_neS ?_
  | with_reducible refine rw_isN ?_
  | with_reducible refine rw_notN ?_
  | with_reducible refine rw_isB ?_
  | with_reducible refine rw_notB ?_
  | ((with_reducible refine' rw_ixT ?hi ?_); (case hi => exact rfl))
  | ((with_reducible refine' rw_ixL ?hi ?_); (case hi => exact rfl))
  | with_reducible refine cw_lenT ?_
  | with_reducible refine cw_lenL ?_
  | with_reducible refine cw_tupL ?_
  | with_reducible refine cw_max2 ?_
  | with_reducible refine cw_abs ?_
  | with_reducible refine cw_int1 ?_
  | with_reducible refine leaf_bl ?_
  | with_reducible refine leaf_int ?_
  | with_reducible refine leaf_tup ?_
  | with_reducible refine leaf_lst ?_
  | with_reducible refine leaf_two ?_
  | with_reducible refine leaf_three ?_
  | with_reducible refine ew_tup ?_
  | with_reducible refine sz0 ?_
  | with_reducible refine sz1 ?_
  | with_reducible refine sz2 ?_
  | with_reducible refine sz3 ?_
  | with_reducible refine sz4 ?_
  | with_reducible refine if_t ?_
  | with_reducible refine if_f ?_
  | with_reducible refine if_nt ?_
  | with_reducible refine if_nf ?_))
/- one rule a construct; what asks for a fact is left -/
local macro_rules | `(tactic| walk_at "de") => `(tactic| repeat (first
  | ((with_reducible refine' ew_var ?hv ?_); (case hv => exact rfl))
  | with_reducible refine ew_int ?_
  | with_reducible refine ew_bl ?_
  | with_reducible refine ew_non ?_
  | with_reducible refine ew_str ?_
  | with_reducible refine aw_nil ?_
  | with_reducible refine aw_cons ?_
  | with_reducible refine ew_isi ?_
  | with_reducible refine ew_isi2 ?_
  | with_reducible refine ew_isiC ?_
  | with_reducible refine ew_op ?_
  | with_reducible refine ew_un ?_
  | with_reducible refine uw_neg ?_
  | with_reducible refine ew_cb ?_
  | with_reducible refine ew_call ?_
  | with_reducible refine ew_k01 ?_
  | with_reducible refine ew_k02 ?_
  | with_reducible refine ew_k02s ?_
  | with_reducible refine ew_k3t ?_
  | with_reducible refine ew_chain ?_
  | with_reducible refine ew_andV ?_
  | with_reducible refine ew_orV ?_
  | with_reducible refine ew_notV ?_
  | with_reducible refine ew_if ?_
  | with_reducible refine ew_slT ?_
  | with_reducible refine ew_slL ?_
  | with_reducible refine ow_none ?_
  | with_reducible refine ow_some ?_
  | with_reducible refine tw_test ?_
  | with_reducible refine tw_B ?_
  | with_reducible refine tw_and ?_
  | with_reducible refine tw_or ?_
  | with_reducible refine tw_not ?_
  | with_reducible refine tw_tru ?_
  | with_reducible refine gw_tup rfl ?_
  | with_reducible refine gs_cons ?_
  | with_reducible refine gs_nil ?_
  | with_reducible refine gw_name ?_
  | with_reducible refine rw_add ?_
  | with_reducible refine rw_sub ?_
  | with_reducible refine rw_lt ?_
  | with_reducible refine rw_le ?_
  | with_reducible refine rw_gt ?_
  | with_reducible refine rw_ge ?_
  | with_reducible refine rw_eqI ?_
  | with_reducible refine rw_neI ?_
  | with_reducible refine rw_eqB ?_
  | with_reducible refine rw_neS ?_
  | with_reducible refine rw_isN ?_
  | with_reducible refine rw_notN ?_
  | with_reducible refine rw_isB ?_
  | with_reducible refine rw_notB ?_
  | ((with_reducible refine' rw_ixT ?hi ?_); (case hi => exact rfl))
  | ((with_reducible refine' rw_ixL ?hi ?_); (case hi => exact rfl))
  | with_reducible refine cw_lenT ?_
  | with_reducible refine cw_lenL ?_
  | with_reducible refine cw_tupL ?_
  | with_reducible refine cw_max2 ?_
  | with_reducible refine cw_abs ?_
  | with_reducible refine cw_int1 ?_
  | with_reducible refine leaf_bl ?_
  | with_reducible refine leaf_int ?_
  | with_reducible refine leaf_tup ?_
  | with_reducible refine leaf_lst ?_
  | with_reducible refine leaf_two ?_
  | with_reducible refine leaf_three ?_
  | with_reducible refine ew_tup ?_
  | with_reducible refine sz0 ?_
  | with_reducible refine sz1 ?_
  | with_reducible refine sz2 ?_
  | with_reducible refine sz3 ?_
  | with_reducible refine sz4 ?_
  | with_reducible refine if_t ?_
  | with_reducible refine if_f ?_
  | with_reducible refine if_nt ?_
  | with_reducible refine if_nf ?_))

/- end of the rules -/
/-! ### lists that change: of what kinds, how long -/
def TV (G : Dat → Prop) (ln : Nat → Nat → Prop) (cl : Bool) (rs : List Nat) (lo : Nat) : Nat → Dat → Prop
  | 0, d => G d
  | r + 1, d => (∃ k, d = .cell (lo + k) ∧ rs[k]? = some r) ∨ cl = true ∧ ∃ xs, d = .lst xs ∧ ln r xs.length ∧ ∀ x ∈ xs, TV G ln cl rs lo r x
structure Ty (G : Dat → Prop) (ln : Nat → Nat → Prop) (cl : Bool) (rs : List Nat) (lo : Nat) (m : Mu) : Prop where
  len : m.length = lo + rs.length
  at_ : ∀ k r, rs[k]? = some r → ∃ xs, m[lo + k]? = some (some xs) ∧ ln r xs.length ∧ ∀ x ∈ xs, TV G ln cl rs lo r x
section
variable {G G' : Dat → Prop} {ln ln' : Nat → Nat → Prop} {cl cl' : Bool} {rs : List Nat} {lo : Nat} {m : Mu}
theorem TV.imp (hG : ∀ d, G d → G' d) (hl : ∀ r n, ln r n → ln' r n) (hc : cl = true → cl' = true) : ∀ {r : Nat} {d : Dat}, TV G ln cl rs lo r d → TV G' ln' cl' rs lo r d
  | 0, d, h => hG d h
  | r + 1, d, .inl h => .inl h
  | r + 1, d, .inr ⟨h1, xs, h2, h3, h4⟩ => .inr ⟨hc h1, xs, h2, hl _ _ h3, fun x hx => TV.imp hG hl hc (h4 x hx)⟩
theorem Ty.imp (hG : ∀ d, G d → G' d) (hl : ∀ r n, ln r n → ln' r n) (hc : cl = true → cl' = true) (h : Ty G ln cl rs lo m) : Ty G' ln' cl' rs lo m :=
  ⟨h.len, fun k r q => let ⟨xs, h1, h2, h3⟩ := h.at_ k r q; ⟨xs, h1, hl _ _ h2, fun x hx => (h3 x hx).imp hG hl hc⟩⟩
theorem TV.more (qs : List Nat) : ∀ {r : Nat} {d : Dat}, TV G ln cl rs lo r d → TV G ln cl (rs ++ qs) lo r d
  | 0, d, h => h
  | r + 1, d, .inl ⟨k, h1, h2⟩ => .inl ⟨k, h1, by rw [List.getElem?_append_left (List.getElem?_eq_some_iff.mp h2).1]; exact h2⟩
  | r + 1, d, .inr ⟨h1, xs, h2, h3, h4⟩ => .inr ⟨h1, xs, h2, h3, fun x hx => TV.more qs (h4 x hx)⟩
theorem TV.down (q : Nat) : ∀ {r : Nat} {d : Dat}, TV G ln cl rs (lo + 1) r d → TV G ln cl (q :: rs) lo r d
  | 0, d, h => h
  | r + 1, d, .inl ⟨k, h1, h2⟩ => .inl ⟨k + 1, by rw [h1, Nat.add_assoc, Nat.add_comm 1 k], h2⟩
  | r + 1, d, .inr ⟨h1, xs, h2, h3, h4⟩ => .inr ⟨h1, xs, h2, h3, fun x hx => TV.down q (h4 x hx)⟩
theorem Ty.set {k r j : Nat} {xs : List Dat} {x : Dat} (h : Ty G ln cl rs lo m) (hk : rs[k]? = some r) (hm : m[lo + k]? = some (some xs)) (hx : TV G ln cl rs lo r x) : Ty G ln cl rs lo (m.set (lo + k) (some (xs.set j x))) :=
  ⟨by rw [List.length_set]; exact h.len, fun i q hi => by
    obtain ⟨ys, h1, h2, h3⟩ := h.at_ i q hi
    by_cases c : i = k
    · subst c
      rw [hk] at hi
      cases hi
      rw [hm] at h1
      cases h1
      refine ⟨xs.set j x, by rw [List.getElem?_set_self (List.getElem?_eq_some_iff.mp hm).1], by rw [List.length_set]; exact h2, fun y hy => ?_⟩
      rcases List.mem_or_eq_of_mem_set hy with z | z
      · exact h3 y z
      · subst z; exact hx
    · exact ⟨ys, by rw [List.getElem?_set_ne (by omega)]; exact h1, h2, h3⟩⟩
theorem Ty.set0 {v : Option (List Dat)} (h : Ty G ln cl rs (lo + 1) m) : Ty G ln cl rs (lo + 1) (m.set lo v) :=
  ⟨by rw [List.length_set]; exact h.len, fun i q hi => by
    obtain ⟨ys, h1, h2, h3⟩ := h.at_ i q hi
    exact ⟨ys, by rw [List.getElem?_set_ne (by omega)]; exact h1, h2, h3⟩⟩
theorem Ty.pot {p p' : Option (List Dat)} {s : Mu} (h : Ty G ln cl rs (lo + 1) (p :: s)) : Ty G ln cl rs (lo + 1) (p' :: s) :=
  ⟨h.len, fun i q hi => by
    obtain ⟨ys, h1, h2, h3⟩ := h.at_ i q hi
    refine ⟨ys, ?_, h2, h3⟩
    have e : lo + 1 + i = (lo + i) + 1 := by omega
    rw [e] at h1 ⊢
    exact h1⟩
theorem Ty.down {q : Nat} {xs : List Dat} (h : Ty G ln cl rs (lo + 1) m) (hm : m[lo]? = some (some xs)) (hl : ln q xs.length) (hx : ∀ x ∈ xs, TV G ln cl rs (lo + 1) q x) : Ty G ln cl (q :: rs) lo m :=
  ⟨by rw [h.len, List.length_cons]; omega, fun k r hk => by
    cases k with
    | zero =>
      cases hk
      exact ⟨xs, hm, hl, fun x hx' => (hx x hx').down q⟩
    | succ k =>
      obtain ⟨ys, h1, h2, h3⟩ := h.at_ k r hk
      refine ⟨ys, ?_, h2, fun x hx' => (h3 x hx').down q⟩
      have e : lo + (k + 1) = lo + 1 + k := by omega
      rw [e]
      exact h1⟩
theorem Ty.mem (h : Ty G ln cl rs lo m) (M : List (List Dat)) (h1 : ln 1 M.length) (h0 : ∀ R ∈ M, ln 0 R.length ∧ ∀ x ∈ R, G x) :
    Ty G ln cl (rs ++ 1 :: List.replicate M.length 0) lo (m ++ some ((List.range M.length).map fun q => Dat.cell (m.length + 1 + q)) :: M.map some) := by
  refine ⟨by simp [h.len]; omega, fun k r hk => ?_⟩
  rcases Nat.lt_trichotomy k rs.length with c | c | c
  · rw [List.getElem?_append_left c] at hk
    obtain ⟨ys, g1, g2, g3⟩ := h.at_ k r hk
    exact ⟨ys, by rw [List.getElem?_append_left (List.getElem?_eq_some_iff.mp g1).1]; exact g1, g2, fun x hx => (g3 x hx).more _⟩
  · subst c
    rw [List.getElem?_append_right (Nat.le_refl _), Nat.sub_self] at hk
    cases hk
    refine ⟨_, by rw [← h.len, List.getElem?_append_right (Nat.le_refl _), Nat.sub_self]; rfl, by rw [List.length_map, List.length_range]; exact h1, fun x hx => ?_⟩
    obtain ⟨q, hq, rfl⟩ := List.mem_map.mp hx
    refine .inl ⟨rs.length + 1 + q, by rw [h.len]; congr 1; omega, ?_⟩
    rw [List.getElem?_append_right (by omega)]
    have e : rs.length + 1 + q - rs.length = q + 1 := by omega
    rw [e]
    show (List.replicate M.length 0)[q]? = some 0
    rw [List.getElem?_replicate, if_pos (List.mem_range.mp hq)]
  · obtain ⟨q, rfl⟩ : ∃ q, k = rs.length + 1 + q := ⟨k - rs.length - 1, by omega⟩
    rw [List.getElem?_append_right (by omega)] at hk
    have e : rs.length + 1 + q - rs.length = q + 1 := by omega
    rw [e] at hk
    have hk' : (List.replicate M.length 0)[q]? = some r := hk
    rw [List.getElem?_replicate] at hk'
    by_cases hq : q < M.length
    · rw [if_pos hq] at hk'
      cases hk'
      have hM : M[q]? = some M[q] := List.getElem?_eq_getElem hq
      obtain ⟨g1, g2⟩ := h0 _ (List.getElem_mem hq)
      refine ⟨M[q], ?_, g1, fun x hx => g2 x hx⟩
      rw [List.getElem?_append_right (by rw [h.len]; omega)]
      have e2 : lo + (rs.length + 1 + q) - m.length = q + 1 := by rw [h.len]; omega
      rw [e2]
      show (M.map some)[q]? = _
      rw [List.getElem?_map, hM]
      rfl
    · rw [if_neg hq] at hk'
      cases hk'
end
/-! ### closed, they are small -/
def Bd6 : Nat → Nat
  | 0 => 60
  | r + 1 => 6 * (Bd6 r + 2) + 4
structure Gd (r : Nat) (d : Dat) : Prop where
  ok : okD d = true
  sm : small d = true
  dp : dep d ≤ r + 2
  w : wt d ≤ Bd6 r
theorem gd_all {r : Nat} : ∀ {ys : List Dat}, (∀ y ∈ ys, Gd r y) → okDs ys = true ∧ smalls ys = true ∧ deps ys ≤ r + 2 ∧ wts ys ≤ ys.length * (Bd6 r + 2)
  | [], _ => ⟨by rw [okDs], by rw [smalls], by rw [deps]; omega, by rw [wts]; omega⟩
  | y :: ys, h => by
    have g := h y List.mem_cons_self
    obtain ⟨h1, h2, h3, h4⟩ := gd_all (ys := ys) fun z hz => h z (List.mem_cons_of_mem _ hz)
    have g3 := g.dp
    have g4 := g.w
    refine ⟨by rw [okDs, g.ok, h1]; rfl, by rw [smalls, g.sm, h2]; rfl, by rw [deps]; omega, ?_⟩
    rw [wts, List.length_cons, Nat.succ_mul]
    omega
theorem gd_lst {r : Nat} {ys : List Dat} (h : ∀ y ∈ ys, Gd r y) (hl : ys.length ≤ 6) : Gd (r + 1) (.lst ys) := by
  obtain ⟨h1, h2, h3, h4⟩ := gd_all h
  have : ys.length * (Bd6 r + 2) ≤ 6 * (Bd6 r + 2) := Nat.mul_le_mul_right _ hl
  exact ⟨by rw [okD]; exact h1, by rw [small]; exact h2, by rw [dep]; omega, by rw [wt, Bd6]; omega⟩
theorem gd_tup {r : Nat} {ys : List Dat} (h : ∀ y ∈ ys, Gd r y) (hl : ys.length ≤ 6) : Gd (r + 1) (.tup ys) := by
  obtain ⟨h1, h2, h3, h4⟩ := gd_all h
  have : ys.length * (Bd6 r + 2) ≤ 6 * (Bd6 r + 2) := Nat.mul_le_mul_right _ hl
  exact ⟨by rw [okD]; exact h1, by rw [small]; exact h2, by rw [dep]; omega, by rw [wt, Bd6]; omega⟩
theorem Gd.nc {r : Nat} {d : Dat} (h : Gd r d) : noCell d = true := (ok_shape d h.ok).2.2
theorem bd6_le : ∀ r, r ≤ 4 → Bd6 r ≤ 1000000 := by decide
theorem rq_lst {r : Nat} {ys : List Dat} (h : Gd r (.lst ys)) (hr : r ≤ 4) : Rq (.lst ys) := by
  have h1 := h.ok
  have h2 := h.sm
  have h3 := h.dp
  have h4 := h.w
  have h5 := bd6_le r hr
  rw [okD] at h1
  rw [small] at h2
  rw [dep] at h3
  rw [wt] at h4
  exact .rp (.lst ys h1 h2 (by omega) (by omega))
theorem rq_tup {r : Nat} {ys : List Dat} (h : Gd r (.tup ys)) (hr : r ≤ 4) : Rq (.tup ys) := by
  have h1 := h.ok
  have h2 := h.sm
  have h3 := h.dp
  have h4 := h.w
  have h5 := bd6_le r hr
  rw [okD] at h1
  rw [small] at h2
  rw [dep] at h3
  rw [wt] at h4
  exact .rp (.tup ys h1 h2 (by omega) (by omega))
abbrev Gw (d : Dat) : Prop := Gd 0 d
abbrev lnw (_ n : Nat) : Prop := n ≤ 6
theorem TV.close {rs : List Nat} {lo : Nat} {m : Mu} (t : Ty Gw lnw true rs lo m) : ∀ (r : Nat) (d : Dat), TV Gw lnw true rs lo r d → ∃ d', Res m lo d d' ∧ Gd r d' ∧ (1 ≤ r → ∃ ys, d' = .lst ys)
  | 0, d, h => ⟨d, .nc (Gd.nc h), h, fun z => by omega⟩
  | r + 1, d, h => by
    have all : ∀ xs : List Dat, (∀ x ∈ xs, TV Gw lnw true rs lo r x) → ∃ ys, Ress m lo xs ys ∧ ys.length = xs.length ∧ ∀ y ∈ ys, Gd r y := fun xs => by
      induction xs with
      | nil => exact fun _ => ⟨[], .nil, rfl, fun y hy => absurd hy List.not_mem_nil⟩
      | cons x xs ih =>
        intro hx
        obtain ⟨ys, h1, h2, h3⟩ := ih fun z hz => hx z (List.mem_cons_of_mem _ hz)
        obtain ⟨y, g1, g2, _⟩ := TV.close t r x (hx x List.mem_cons_self)
        refine ⟨y :: ys, .cons g1 h1, by rw [List.length_cons, List.length_cons, h2], fun z hz => ?_⟩
        rcases List.mem_cons.mp hz with e | e
        · subst e; exact g2
        · exact h3 z e
    rcases h with ⟨k, rfl, hk⟩ | ⟨_, xs, rfl, hl, hx⟩
    · obtain ⟨xs, h1, h2, h3⟩ := t.at_ k r hk
      obtain ⟨ys, g1, g2, g3⟩ := all xs h3
      exact ⟨.lst ys, .cell (Nat.le_add_right _ _) h1 g1, gd_lst g3 (by rw [g2]; exact h2), fun _ => ⟨ys, rfl⟩⟩
    · obtain ⟨ys, g1, g2, g3⟩ := all xs hx
      exact ⟨.lst ys, .lst g1, gd_lst g3 (by rw [g2]; exact hl), fun _ => ⟨ys, rfl⟩⟩

end
end L56
namespace L56
open PySem PySem.Spec PyProof.Rows L2 DL StX KM RM
section
variable {P : Program} {w : World} {K : PySem.W.Frag} {mg : Str → Option Value} {base : Heap}
/- one rule a construct; what asks for a fact is left -/
local macro_rules | `(tactic| walk_at "dl") => `(tactic| repeat (first
  | ((with_reducible refine' ew_var ?hv ?_); (case hv => exact rfl))
  | with_reducible refine ew_int ?_
  | with_reducible refine ew_bl ?_
  | with_reducible refine ew_non ?_
  | with_reducible refine ew_str ?_
  | with_reducible refine aw_nil ?_
  | with_reducible refine aw_cons ?_
  | with_reducible refine ew_isi ?_
  | with_reducible refine ew_isi2 ?_
  | with_reducible refine ew_isiC ?_
  | with_reducible refine ew_op ?_
  | with_reducible refine ew_un ?_
  | with_reducible refine uw_neg ?_
  | with_reducible refine ew_cb ?_
  | with_reducible refine ew_call ?_
  | with_reducible refine ew_k01 ?_
  | with_reducible refine ew_k02 ?_
  | with_reducible refine ew_k02s ?_
  | with_reducible refine ew_k3t ?_
  | with_reducible refine ew_chain ?_
  | with_reducible refine ew_andV ?_
  | with_reducible refine ew_orV ?_
  | with_reducible refine ew_notV ?_
  | with_reducible refine ew_if ?_
  | with_reducible refine ew_slT ?_
  | with_reducible refine ew_slL ?_
  | with_reducible refine ow_none ?_
  | with_reducible refine ow_some ?_
  | with_reducible refine tw_test ?_
  | with_reducible refine tw_B ?_
  | with_reducible refine tw_and ?_
  | with_reducible refine tw_or ?_
  | with_reducible refine tw_not ?_
  | with_reducible refine tw_tru ?_
  | with_reducible refine s_seq ?_
  | with_reducible refine s_set ?_
  | with_reducible refine s_asg ?_
  | with_reducible refine s_ret ?_
  | with_reducible refine s_retN ?_
  | with_reducible refine s_if ?_
  | with_reducible refine s_drop ?_
  | with_reducible refine s_par ?_
  | with_reducible refine s_par3 ?_
  | with_reducible refine s_next ?_
  | with_reducible refine gw_tup rfl ?_
  | with_reducible refine gs_cons ?_
  | with_reducible refine gs_nil ?_
  | with_reducible refine gw_name ?_
  | with_reducible refine rw_add ?_
  | with_reducible refine rw_sub ?_
  | with_reducible refine rw_lt ?_
  | with_reducible refine rw_le ?_
  | with_reducible refine rw_gt ?_
  | with_reducible refine rw_ge ?_
  | with_reducible refine rw_eqI ?_
  | with_reducible refine rw_neI ?_
  | with_reducible refine rw_eqB ?_
  | with_reducible refine rw_neS ?_
  | with_reducible refine rw_isN ?_
  | with_reducible refine rw_notN ?_
  | with_reducible refine rw_isB ?_
  | with_reducible refine rw_notB ?_
  | ((with_reducible refine' rw_ixT ?hi ?_); (case hi => exact rfl))
  | ((with_reducible refine' rw_ixL ?hi ?_); (case hi => exact rfl))
  | with_reducible refine cw_lenT ?_
  | with_reducible refine cw_lenL ?_
  | with_reducible refine cw_tupL ?_
  | with_reducible refine cw_max2 ?_
  | with_reducible refine cw_abs ?_
  | with_reducible refine cw_int1 ?_
  | with_reducible refine leaf_bl ?_
  | with_reducible refine leaf_int ?_
  | with_reducible refine leaf_tup ?_
  | with_reducible refine leaf_lst ?_
  | with_reducible refine leaf_two ?_
  | with_reducible refine leaf_three ?_
  | with_reducible refine ew_tup ?_
  | with_reducible refine sz0 ?_
  | with_reducible refine sz1 ?_
  | with_reducible refine sz2 ?_
  | with_reducible refine sz3 ?_
  | with_reducible refine sz4 ?_
  | with_reducible refine if_t ?_
  | with_reducible refine if_f ?_
  | with_reducible refine if_nt ?_
  | with_reducible refine if_nf ?_))
/- one rule a construct; what asks for a fact is left -/
local macro_rules | `(tactic| walk_at "de") => `(tactic| repeat (first
  | ((with_reducible refine' ew_var ?hv ?_); (case hv => exact rfl))
  | with_reducible refine ew_int ?_
  | with_reducible refine ew_bl ?_
  | with_reducible refine ew_non ?_
  | with_reducible refine ew_str ?_
  | with_reducible refine aw_nil ?_
  | with_reducible refine aw_cons ?_
  | with_reducible refine ew_isi ?_
  | with_reducible refine ew_isi2 ?_
  | with_reducible refine ew_isiC ?_
  | with_reducible refine ew_op ?_
  | with_reducible refine ew_un ?_
  | with_reducible refine uw_neg ?_
  | with_reducible refine ew_cb ?_
  | with_reducible refine ew_call ?_
  | with_reducible refine ew_k01 ?_
  | with_reducible refine ew_k02 ?_
  | with_reducible refine ew_k02s ?_
  | with_reducible refine ew_k3t ?_
  | with_reducible refine ew_chain ?_
  | with_reducible refine ew_andV ?_
  | with_reducible refine ew_orV ?_
  | with_reducible refine ew_notV ?_
  | with_reducible refine ew_if ?_
  | with_reducible refine ew_slT ?_
  | with_reducible refine ew_slL ?_
  | with_reducible refine ow_none ?_
  | with_reducible refine ow_some ?_
  | with_reducible refine tw_test ?_
  | with_reducible refine tw_B ?_
  | with_reducible refine tw_and ?_
  | with_reducible refine tw_or ?_
  | with_reducible refine tw_not ?_
  | with_reducible refine tw_tru ?_
  | with_reducible refine gw_tup rfl ?_
  | with_reducible refine gs_cons ?_
  | with_reducible refine gs_nil ?_
  | with_reducible refine gw_name ?_
  | with_reducible refine rw_add ?_
  | with_reducible refine rw_sub ?_
  | with_reducible refine rw_lt ?_
  | with_reducible refine rw_le ?_
  | with_reducible refine rw_gt ?_
  | with_reducible refine rw_ge ?_
  | with_reducible refine rw_eqI ?_
  | with_reducible refine rw_neI ?_
  | with_reducible refine rw_eqB ?_
  | with_reducible refine rw_neS ?_
  | with_reducible refine rw_isN ?_
  | with_reducible refine rw_notN ?_
  | with_reducible refine rw_isB ?_
  | with_reducible refine rw_notB ?_
  | ((with_reducible refine' rw_ixT ?hi ?_); (case hi => exact rfl))
  | ((with_reducible refine' rw_ixL ?hi ?_); (case hi => exact rfl))
  | with_reducible refine cw_lenT ?_
  | with_reducible refine cw_lenL ?_
  | with_reducible refine cw_tupL ?_
  | with_reducible refine cw_max2 ?_
  | with_reducible refine cw_abs ?_
  | with_reducible refine cw_int1 ?_
  | with_reducible refine leaf_bl ?_
  | with_reducible refine leaf_int ?_
  | with_reducible refine leaf_tup ?_
  | with_reducible refine leaf_lst ?_
  | with_reducible refine leaf_two ?_
  | with_reducible refine leaf_three ?_
  | with_reducible refine ew_tup ?_
  | with_reducible refine sz0 ?_
  | with_reducible refine sz1 ?_
  | with_reducible refine sz2 ?_
  | with_reducible refine sz3 ?_
  | with_reducible refine sz4 ?_
  | with_reducible refine if_t ?_
  | with_reducible refine if_f ?_
  | with_reducible refine if_nt ?_
  | with_reducible refine if_nf ?_))

/- end of the rules -/
/-! ### the law's bent tables -/
def Gi (x : Dat) : Prop := ∃ k j : Nat, x = .tup [.int (k : Nat), .int (j : Nat)] ∧ k < 100 ∧ j < 100
def ln0 (L N : Int) (n : Nat) (r k : Nat) : Prop := (r = 0 → (k : Int) = L) ∧ (r = 1 → (k : Int) = N) ∧ (r = 2 → k = n) ∧ k ≤ 6
theorem gd_int {i : Int} (h : i.natAbs < 1000) : Gd 0 (.int i) := ⟨rfl, by rw [small]; exact decide_eq_true h, by simp [dep], by simp [wt, Bd6]⟩
theorem gd_pair {x y : Dat} (hx : Gd 0 x ∧ dep x ≤ 0 ∧ wt x ≤ 5) (hy : Gd 0 y ∧ dep y ≤ 0 ∧ wt y ≤ 5) : Gd 0 (.tup [x, y]) ∧ Gd 0 (.lst [x, y]) := by
  obtain ⟨⟨a1, a2, a3, a4⟩, a5, a6⟩ := hx
  obtain ⟨⟨b1, b2, b3, b4⟩, b5, b6⟩ := hy
  constructor
  · exact ⟨by simp [okD, okDs, a1, b1], by simp [small, smalls, a2, b2], by simp [dep, deps]; omega, by simp [wt, wts, Bd6]; omega⟩
  · exact ⟨by simp [okD, okDs, a1, b1], by simp [small, smalls, a2, b2], by simp [dep, deps]; omega, by simp [wt, wts, Bd6]; omega⟩
theorem gd_one {x : Dat} (hx : Gd 0 x ∧ dep x ≤ 0 ∧ wt x ≤ 5) : Gd 0 (.tup [x]) := by
  obtain ⟨⟨a1, a2, a3, a4⟩, a5, a6⟩ := hx
  exact ⟨by simp [okD, okDs, a1], by simp [small, smalls, a2], by simp [dep, deps]; omega, by simp [wt, wts, Bd6]; omega⟩
theorem gI {i : Int} (h : i.natAbs < 1000) : Gd 0 (.int i) ∧ dep (.int i) ≤ 0 ∧ wt (.int i) ≤ 5 := ⟨gd_int h, by simp [dep], by simp [wt]⟩
theorem Gi.gw {x : Dat} (h : Gi x) : Gw x := by
  obtain ⟨k, j, rfl, h1, h2⟩ := h
  exact (gd_pair (gI (by omega)) (gI (by omega))).1
theorem set_hd {μ : Mu} {x y : Option (List Dat)} {J : Mu} : (μ ++ x :: J).set μ.length y = μ ++ y :: J := by
  rw [List.set_append_right _ _ (Nat.le_refl _), Nat.sub_self]; rfl
theorem at_hd {μ : Mu} {x : Option (List Dat)} {J : Mu} : (μ ++ x :: J)[μ.length]? = some x := by
  rw [List.getElem?_append_right (Nat.le_refl _), Nat.sub_self]; rfl
theorem set_lo {p v : Option (List Dat)} {r J : Mu} {k : Nat} : (p :: (r ++ J)).set (r.length + 1 + k) v = p :: (r ++ J.set k v) := by
  have e : r.length + 1 + k = (r.length + k) + 1 := by omega
  rw [e, List.set_cons_succ, List.set_append_right _ _ (Nat.le_add_right _ _)]
  have e2 : r.length + k - r.length = k := by omega
  rw [e2]
/-- what stands at a place -/
structure Look (L N : Int) (n : Nat) (rs : List Nat) (lo : Nat) (m : Mu) (mm rr ll : Nat) (xs xs1 xs2 : List Dat) (k1 k2 kk jj : Nat) : Prop where
  h0 : m[lo]? = some (some xs)
  l0 : xs.length = n
  y0 : xs[mm]? = some (.cell (lo + k1))
  q1 : rs[k1]? = some 1
  h1 : m[lo + k1]? = some (some xs1)
  l1 : (xs1.length : Int) = N
  y1 : xs1[rr]? = some (.cell (lo + k2))
  q2 : rs[k2]? = some 0
  h2 : m[lo + k2]? = some (some xs2)
  l2 : (xs2.length : Int) = L
  y2 : xs2[ll]? = some (.tup [.int (kk : Nat), .int (jj : Nat)])
  b : kk < 100 ∧ jj < 100
theorem Look.pot {L N : Int} {n : Nat} {rs : List Nat} {lo : Nat} {p p' : Option (List Dat)} {s : Mu} {mm rr ll : Nat} {xs xs1 xs2 : List Dat} {k1 k2 kk jj : Nat} (h : Look L N n rs (lo + 1) (p :: s) mm rr ll xs xs1 xs2 k1 k2 kk jj) : Look L N n rs (lo + 1) (p' :: s) mm rr ll xs xs1 xs2 k1 k2 kk jj := by
  obtain ⟨a1, a2, a3, a4, a5, a6, a7, a8, a9, b1, b2, b3⟩ := h
  have e1 : lo + 1 + k1 = (lo + k1) + 1 := by omega
  have e2 : lo + 1 + k2 = (lo + k2) + 1 := by omega
  rw [e1] at a5
  rw [e2] at a9
  exact ⟨a1, a2, a3, a4, by rw [e1]; exact a5, a6, a7, a8, by rw [e2]; exact a9, b1, b2, b3⟩
theorem ixN_at {n j : Nat} (h : j < n) : ixN n (j : Int) = some j := by
  unfold ixN
  rw [if_pos (by omega), if_pos (by omega)]
  rfl
theorem cut_mem {α : Type} {xs : List α} {lo hi : Option Int} {x : α} (h : x ∈ cut xs lo hi) : x ∈ xs := List.mem_of_mem_drop (List.mem_of_mem_take h)
theorem cut_len {α : Type} {xs : List α} {lo hi : Option Int} : (cut xs lo hi).length ≤ xs.length := by
  unfold cut
  rw [List.length_take, List.length_drop]
  omega
theorem look {L N : Int} {n : Nat} {rs : List Nat} {lo : Nat} {m : Mu} (t : Ty Gi (ln0 L N n) false rs lo m) (h2 : rs[0]? = some 2) {mm rr ll : Nat} (hm : mm < n) (hr : (rr : Int) < N) (hl : (ll : Int) < L) :
    ∃ xs xs1 xs2 k1 k2 kk jj, Look L N n rs lo m mm rr ll xs xs1 xs2 k1 k2 kk jj := by
  have cel : ∀ {r : Nat} {d : Dat}, TV Gi (ln0 L N n) false rs lo (r + 1) d → ∃ k, d = .cell (lo + k) ∧ rs[k]? = some r := fun h => by
    rcases h with h | ⟨h, _⟩
    · exact h
    · cases h
  obtain ⟨xs, a1, a2, a3⟩ := t.at_ 0 2 h2
  have lx : xs.length = n := a2.2.2.1 rfl
  have g0 : xs[mm]? = some (xs[mm]'(by omega)) := List.getElem?_eq_getElem _
  obtain ⟨k1, e1, q1⟩ := cel (a3 _ (List.mem_of_getElem? g0))
  rw [e1] at g0
  obtain ⟨xs1, b1, b2, b3⟩ := t.at_ k1 1 q1
  have lx1 : (xs1.length : Int) = N := b2.2.1 rfl
  have g1 : xs1[rr]? = some (xs1[rr]'(by omega)) := List.getElem?_eq_getElem _
  obtain ⟨k2, e2, q2⟩ := cel (b3 _ (List.mem_of_getElem? g1))
  rw [e2] at g1
  obtain ⟨xs2, c1, c2, c3⟩ := t.at_ k2 0 q2
  have lx2 : (xs2.length : Int) = L := c2.1 rfl
  have g2 : xs2[ll]? = some (xs2[ll]'(by omega)) := List.getElem?_eq_getElem _
  obtain ⟨kk, jj, e3, hb⟩ := c3 _ (List.mem_of_getElem? g2)
  rw [e3] at g2
  exact ⟨xs, xs1, xs2, k1, k2, kk, jj, a1, lx, g0, q1, b1, lx1, g1, q2, c1, lx2, g2, hb⟩
def cont (m : Mu) : Dat → List Dat | .cell k => ((m[k]?).getD none).getD [] | _ => []
theorem froz {L N : Int} {n : Nat} {rs : List Nat} {lo : Nat} {m : Mu} {xs : List Dat} (t : Ty Gi (ln0 L N n) false rs lo m) (h2 : rs[0]? = some 2) (h0 : m[lo]? = some (some xs)) :
    xs.length < 1000 ∧ (∀ y ∈ xs, Lv m y (cont m y) ∧ (cont m y).length < 1000 ∧ ∀ z ∈ cont m y, Lv m z (cont m z) ∧ noCells (cont m z) = true) ∧ Gd 3 (frz (cont m) xs) := by
  have cel : ∀ {r : Nat} {d : Dat}, TV Gi (ln0 L N n) false rs lo (r + 1) d → Lv m d (cont m d) ∧ (cont m d).length ≤ 6 ∧ ∀ x ∈ cont m d, TV Gi (ln0 L N n) false rs lo r x := fun h => by
    rcases h with ⟨k, rfl, hk⟩ | ⟨h, _⟩
    · obtain ⟨ys, a1, a2, a3⟩ := t.at_ k _ hk
      have e : cont m (.cell (lo + k)) = ys := by
        show ((m[lo + k]?).getD none).getD [] = ys
        rw [a1]
        rfl
      rw [e]
      exact ⟨.inr ⟨_, rfl, a1⟩, a2.2.2.2, a3⟩
    · cases h
  obtain ⟨ys, a1, a2, a3⟩ := t.at_ 0 2 h2
  have a1' : m[lo]? = some (some ys) := a1
  rw [h0] at a1'
  cases a1'
  have l6 := a2.2.2.2
  refine ⟨by omega, fun y hy => ?_, ?_⟩
  · obtain ⟨b1, b2, b3⟩ := cel (a3 y hy)
    refine ⟨b1, by omega, fun z hz => ?_⟩
    obtain ⟨c1, c2, c3⟩ := cel (b3 z hz)
    exact ⟨c1, noCells_iff.mpr fun x hx => (Gi.gw (c3 x hx)).nc⟩
  · refine gd_tup (fun y hy => ?_) (by rw [List.length_map]; exact l6)
    obtain ⟨y, hy', rfl⟩ := List.mem_map.mp hy
    obtain ⟨b1, b2, b3⟩ := cel (a3 y hy')
    refine gd_tup (fun z hz => ?_) (by rw [List.length_map]; exact b2)
    obtain ⟨z, hz', rfl⟩ := List.mem_map.mp hz
    obtain ⟨c1, c2, c3⟩ := cel (b3 z hz')
    exact gd_tup (fun x hx => Gi.gw (c3 x hx)) c2
def f_bent : FW := fun ds m P => ∃ a b r L N ws T, ds = [.cell 0, wrl L N ws, .lst (T.map memD)] ∧ m = pt a b :: r ∧ Okp a b ∧ (1 ≤ L ∧ L ≤ 2) ∧ (1 ≤ N ∧ N ≤ 3) ∧ Rd4 L N ws ∧ TabG ws L N T ∧ ∀ a' b' d, Okp a' b' → noCell d = true → Rq d → P d (pt a' b' :: r)
theorem ok__law_bent (T : All K mg) : FnOk P w K mg base CX0 3 T.d__law_bent.f T.d__law_bent.fd ["_law_pot_here", "_law_world_here", "_law_table_here"] (spD K f_bent) := by
  refine T.d__law_bent.F.ok sc__law_bent (fun vs H Q E h => sp_len (by intro ds m P f; first | (obtain ⟨rfl, _⟩ := f; rfl) | (obtain ⟨_, h⟩ := f; first | (obtain ⟨rfl, _⟩ := h; rfl) | (obtain ⟨_, rfl, _⟩ := h; rfl) | (obtain ⟨_, _, rfl, _⟩ := h; rfl) | (obtain ⟨_, _, _, rfl, _⟩ := h; rfl) | (obtain ⟨_, _, _, _, rfl, _⟩ := h; rfl) | (obtain ⟨_, _, _, _, _, rfl, _⟩ := h; rfl) | (obtain ⟨_, _, _, _, _, _, rfl, _⟩ := h; rfl) | (obtain ⟨_, _, _, _, _, _, _, rfl, _⟩ := h; rfl) | (obtain ⟨_, _, _, _, _, _, _, _, rfl, _⟩ := h; rfl) | (obtain ⟨_, _, _, _, _, _, _, _, _, rfl, _⟩ := h; rfl))) h) (fun cdv A outer s H vs Q E hr h => ?_)
  refine ⟨_, (pss_cons (ps_par3 (i := 3) (j := 4) (l := 5) rfl sc__law_bent.nd rfl rfl rfl (by decide) (by decide) (by decide) rfl rfl rfl (pa_cons (pe_op op_mod (pe_call (ok__law_draw T) (hr.mono (by decide)) rfl T.d__law_draw.g T.d__law_draw.F.kp T.d__law_draw.b .nil pass0 (pa_cons (pv 0) (pa_cons pe_int pa_nil))) (pe_callB (show CallR _ (.builtin "len") (DL.rLen K) from call_lenS) (by rfl) T.z_len (by decide +kernel) (pa_cons (pv 2) pa_nil))) (pa_cons (pe_op op_mod (pe_call (ok__law_draw T) (hr.mono (by decide)) rfl T.d__law_draw.g T.d__law_draw.F.kp T.d__law_draw.b .nil pass0 (pa_cons (pv 0) (pa_cons pe_int pa_nil))) (pe_ix (show IxR _ (rIxT K) from ix_tup) (pv 1) pe_int (fun _ _ => rfl))) (pa_cons (pe_call (ok__law_draw T) (hr.mono (by decide)) rfl T.d__law_draw.g T.d__law_draw.F.kp T.d__law_draw.b .nil pass0 (pa_cons (pv 0) (pa_cons pe_int pa_nil))) pa_nil))) (by rfl))
      (pss_cons (ps_setLc (i := 6) (own := [("_law_rooms", 10)]) (g := gName 10) rfl sc__law_bent.nd rfl rfl (sw_true rfl rfl rfl rfl) (pi_seq (pv 2)) (blkOk_by (N := N__law_bent) (sc := defScope s__law_bent) (by decide +kernel)) (fun _ _ _ _ _ => pg_name (i := 10) sc__law_bent.nd rfl (Or.inl rfl)) (fun _ _ _ _ _ => pts_nil) (fun _ _ _ _ _ => (pe_lc (own := [("_law_row_here", 11)]) (g := gName 11) rfl sc__law_bent.nd (show PI _ _ _ (iSeq K _) from pi_seq (pv 10)) (blkOk_by (N := N__law_bent) (by rfl)) (fun _ _ _ _ _ => pg_name (i := 11) sc__law_bent.nd rfl (Or.inl rfl)) (fun _ _ _ _ _ => pts_nil) (fun _ _ _ _ _ => (pe_callTy (show CallR _ (.type "list") (rListOf K) from call_listOf) (by rfl) T.z_list (by decide +kernel) (pa_cons (pv 11) pa_nil))))))
      (pss_cons (ps_par (i := 5) (j := 7) rfl sc__law_bent.nd rfl rfl (by decide) rfl rfl (pa_cons (pe_op op_mod (pe_callTy call_int1' (by rfl) T.z_int (by decide +kernel) (pa_cons (pv 5) pa_nil)) (pe_ix (show IxR _ (rIxT K) from ix_tup) (pv 1) pe_int (fun _ _ => rfl))) (pa_cons (pe_call (ok__law_draw T) (hr.mono (by decide)) rfl T.d__law_draw.g T.d__law_draw.F.kp T.d__law_draw.b .nil pass0 (pa_cons (pv 0) (pa_cons pe_int pa_nil))) pa_nil)) (by rfl))
      (pss_cons (ps_asg (pe_ix (show IxR _ (rIxL K) from ix_list) (pe_ix (show IxR _ (rIxL K) from ix_list) (pe_ix (show IxR _ (rIxL K) from ix_list) (pv 6) (pv 3) (fun _ _ => rfl)) (pv 4) (fun _ _ => rfl)) (pv 5) (fun _ _ => rfl)) (pg_tup (by rfl) (pgs_cons (pg_name (i := 8) sc__law_bent.nd rfl (Or.inl rfl)) (pgs_cons (pg_name (i := 9) sc__law_bent.nd rfl (Or.inl rfl)) pgs_nil))))
      (pss_cons (ps_if (pt_cmpR op_eq (pv 7) pe_int (nomark _)) (pss_one (ps_asg (pe_tup (pa_cons (pe_call (ok__law_draw T) (hr.mono (by decide)) rfl T.d__law_draw.g T.d__law_draw.F.kp T.d__law_draw.b .nil pass0 (pa_cons (pv 0) (pa_cons pe_int pa_nil))) (pa_cons (pv 9) pa_nil))) (pg_sub (pe_ix (show IxR _ (rIxL K) from ix_list) (pe_ix (show IxR _ (rIxL K) from ix_list) (pv 6) (pv 3) (fun _ _ => rfl)) (pv 4) (fun _ _ => rfl)) (pv 5) set_list))) (pss_one (ps_if (pt_cmpR op_eq (pv 7) pe_int (nomark _)) (pss_one (ps_asg (pe_tup (pa_cons (pv 8) (pa_cons (pe_op op_sub (pe_call (ok__law_draw T) (hr.mono (by decide)) rfl T.d__law_draw.g T.d__law_draw.F.kp T.d__law_draw.b .nil pass0 (pa_cons (pv 0) (pa_cons pe_int pa_nil))) pe_int) pa_nil))) (pg_sub (pe_ix (show IxR _ (rIxL K) from ix_list) (pe_ix (show IxR _ (rIxL K) from ix_list) (pv 6) (pv 3) (fun _ _ => rfl)) (pv 4) (fun _ _ => rfl)) (pv 5) set_list))) (pss_one (ps_if (pt_cmpR op_eq (pv 7) pe_int (nomark _)) (pss_one (ps_asg (pe_call (ok__law_pick T) (hr.mono (by decide)) rfl T.d__law_pick.g T.d__law_pick.F.kp T.d__law_pick.b .nil pass0 (pa_cons (pv 0) (pa_cons (pe_lst (pa_cons pe_non (pa_cons (pe_lst (pa_cons (pv 8) (pa_cons (pv 9) pa_nil))) (pa_cons (pe_tup (pa_cons (pv 8) pa_nil)) (pa_cons (pe_tup (pa_cons pe_bl (pa_cons (pv 9) pa_nil))) (pa_cons (pe_tup (pa_cons pe_str (pa_cons (pv 9) pa_nil))) pa_nil)))))) pa_nil))) (pg_sub (pe_ix (show IxR _ (rIxL K) from ix_list) (pe_ix (show IxR _ (rIxL K) from ix_list) (pv 6) (pv 3) (fun _ _ => rfl)) (pv 4) (fun _ _ => rfl)) (pv 5) set_list))) (pss_one (ps_if (pt_cmpR op_eq (pv 7) pe_int (nomark _)) (pss_one (ps_asg (pe_slice (show SlR _ (rSlL K) from sl_list) (pe_ix (show IxR _ (rIxL K) from ix_list) (pe_ix (show IxR _ (rIxL K) from ix_list) (pv 6) (pv 3) (fun _ _ => rfl)) (pv 4) (fun _ _ => rfl)) (po_some pe_int) po_none) (pg_sub (pe_ix (show IxR _ (rIxL K) from ix_list) (pv 6) (pv 3) (fun _ _ => rfl)) (pv 4) set_list))) (pss_one (ps_if (pt_cmpR op_eq (pv 7) pe_int (nomark _)) (pss_one (ps_asg (pe_op op_catL (pe_ix (show IxR _ (rIxL K) from ix_list) (pv 6) (pv 3) (fun _ _ => rfl)) (pe_slice (show SlR _ (rSlL K) from sl_list) (pe_ix (show IxR _ (rIxL K) from ix_list) (pv 6) (pv 3) (fun _ _ => rfl)) po_none (po_some pe_int))) (pg_sub (pv 6) (pv 3) set_list))) (pss_one (ps_if (pt_cmpR op_eq (pv 7) pe_int (nomark _)) (pss_one (ps_ret (pe_op op_catL (pv 6) (pv 6)))) (pss_one (ps_if (pt_cmpR op_eq (pv 7) pe_int (nomark _)) (pss_one (ps_ret (pe_call (ok__law_pick T) (hr.mono (by decide)) rfl T.d__law_pick.g T.d__law_pick.F.kp T.d__law_pick.b .nil pass0 (pa_cons (pv 0) (pa_cons (pe_lst (pa_cons pe_non (pa_cons pe_int (pa_cons pe_bl (pa_cons (pe_tup pa_nil) (pa_cons (pe_lst pa_nil) (pa_cons pe_dnewT (pa_cons pe_str (pa_cons (pe_lst (pa_cons pe_non pa_nil)) (pa_cons (pe_lst (pa_cons (pe_lst pa_nil) pa_nil)) (pa_cons (pe_lst (pa_cons (pe_lst (pa_cons (pe_lst pa_nil) pa_nil)) pa_nil)) (pa_cons (pe_lst (pa_cons (pv 6) pa_nil)) pa_nil)))))))))))) pa_nil))))) (pss_one (ps_ret (pe_call (ok__law_frozen T) (hr.mono (by decide)) rfl T.d__law_frozen.g T.d__law_frozen.F.kp T.d__law_frozen.b .nil pass0 (pa_cons (pv 6) pa_nil)))))))))))))))))
      (pss_one (ps_ret (pv 6)))))))), body_of h fun ds m P f => ?_⟩
  try dsimp only [cxOf, Cx.nox, Cx.wish, Cx.blk]
  obtain ⟨a0, b0, r, L, N, ws, T, rfl, rfl, ok, hL, hN, rd, tg, p⟩ := f
  have t1 := tg.one
  have t3 := tg.few
  have few := rd.few
  refine s_fin ?_
  walk_at "dl"
  refine ⟨a0, b0, r, 3, rfl, rfl, ok, by omega, by omega, fun a b v ok v0 v1 => ?_⟩
  walk_at "dl"
  refine rw_mod (by rw [List.length_map]; omega) ?_
  walk_at "dl"
  refine ⟨a, b, r, 3, rfl, rfl, ok, by omega, by omega, fun a b w ok w0 w1 => ?_⟩
  walk_at "dl"
  refine rw_mod (by omega) ?_
  walk_at "dl"
  refine ⟨a, b, r, 2, rfl, rfl, ok, by omega, by omega, fun a b z ok z0 z1 => ?_⟩
  walk_at "dl"
  obtain ⟨mm, em, hmm⟩ : ∃ mm : Nat, v % (((T.map memD).length : Nat) : Int) = (mm : Int) ∧ mm < T.length := by
    have h1 := Int.emod_nonneg v (b := (((T.map memD).length : Nat) : Int)) (by rw [List.length_map]; omega)
    have h2 := Int.emod_lt_of_pos v (b := (((T.map memD).length : Nat) : Int)) (by rw [List.length_map]; omega)
    rw [List.length_map] at h1 h2 ⊢
    exact ⟨(v % ((T.length : Nat) : Int)).toNat, by omega, by omega⟩
  obtain ⟨rr, er, hrr⟩ : ∃ rr : Nat, w % N = (rr : Int) ∧ (rr : Int) < N := by
    have h1 := Int.emod_nonneg w (b := N) (by omega)
    have h2 := Int.emod_lt_of_pos w (b := N) (by omega)
    exact ⟨(w % N).toNat, by omega, by omega⟩
  rw [em, er]
  refine ew_lcK (xs := T.map memD) (.inr rfl) (by rw [List.length_map, sizeLine_eq]; omega) (fun i acc m => ∃ rs Js, m = (pt a b :: r) ++ some acc :: Js ∧ Ty Gi (ln0 L N T.length) false rs (r.length + 2) m ∧ acc.length = i ∧ ∀ x ∈ acc, TV Gi (ln0 L N T.length) false rs (r.length + 2) 2 x) ⟨[], [], rfl, ⟨by simp, fun k r h => by cases h⟩, rfl, fun x h => absurd h List.not_mem_nil⟩ ?_ ?_
  · rintro i x acc m hx ⟨rs, Js, rfl, ty, la, ha⟩ hm
    obtain ⟨M, hM, rfl⟩ : ∃ M, M ∈ T ∧ memD M = x := by
      rw [List.getElem?_map] at hx
      obtain ⟨M, h1, h2⟩ := Option.map_eq_some_iff.mp hx
      exact ⟨M, List.mem_of_getElem? h1, h2⟩
    obtain ⟨lM, gM⟩ := tg.mem M hM
    generalize em : (pt a b :: r) ++ some acc :: Js = m0
    rw [em] at ty
    refine ew_lcK (xs := M.map rowD) (.inr rfl) (by rw [List.length_map, sizeLine_eq]; omega) (fun j acc2 m3 => acc2 = (List.range j).map (fun q => Dat.cell (m0.length + 1 + q)) ∧ m3 = m0 ++ some acc2 :: ((M.take j).map fun R => some (R.map itm))) ⟨rfl, rfl⟩ ?_ ?_
    · rintro j y acc2 m3 hy ⟨rfl, rfl⟩ hm3
      obtain ⟨R, hR, rfl⟩ : ∃ R, M[j]? = some R ∧ rowD R = y := by
        rw [List.getElem?_map] at hy
        exact Option.map_eq_some_iff.mp hy
      walk_at "dl"
      refine cw_listN (xs := R.map itm) (.inr (.inl rfl)) ?_
      have jl := (List.getElem?_eq_some_iff.mp hR).1
      have e : (m0 ++ some ((List.range j).map fun q => Dat.cell (m0.length + 1 + q)) :: (M.take j).map fun R => some (R.map itm)).length = m0.length + 1 + j := by
        rw [List.length_append, List.length_cons, List.length_map, List.length_take]
        omega
      rw [e]
      rw [List.append_assoc, List.cons_append]
      refine ⟨at_hd, ?_, ?_⟩
      · rw [List.range_succ, List.map_append]
        rfl
      · rw [set_hd, List.take_succ, hR, List.map_append]
        rfl
    · rintro acc2 m3 ⟨rfl, rfl⟩ hm3
      have el : (M.map rowD).length = M.length := List.length_map _
      rw [el, List.take_length]
      have tm := ty.mem (M.map fun R => R.map itm) (by rw [List.length_map]; exact ⟨fun z => by omega, fun _ => lM, fun z => by omega, by omega⟩) (fun R hR => by
        obtain ⟨R0, h0, rfl⟩ := List.mem_map.mp hR
        obtain ⟨q, hq⟩ := List.mem_iff_getElem?.mp h0
        obtain ⟨h1, h2⟩ := gM q R0 hq
        refine ⟨by rw [List.length_map, h1]; exact ⟨fun _ => by omega, fun z => by omega, fun z => by omega, by omega⟩, fun x hx => ?_⟩
        obtain ⟨y, hy, rfl⟩ := List.mem_map.mp hx
        obtain ⟨c, hc⟩ := List.mem_iff_getElem?.mp hy
        obtain ⟨g1, g2⟩ := h2 c y hc
        have g3 := (sel_mem.mp g1).1
        exact ⟨y.1, y.2, rfl, by omega, by omega⟩)
      rw [List.length_map, List.map_map] at tm
      have tm' : Ty Gi (ln0 L N T.length) false (rs ++ 1 :: List.replicate M.length 0) (r.length + 2) (m0 ++ some ((List.range M.length).map fun q => Dat.cell (m0.length + 1 + q)) :: M.map fun R => some (R.map itm)) := tm
      have lm := ty.len
      generalize hX : (some ((List.range M.length).map fun q => Dat.cell (m0.length + 1 + q)) :: M.map fun R => some (R.map itm)) = X at tm' ⊢
      rw [← em] at tm' lm ⊢
      refine ⟨by rw [List.append_assoc]; exact at_hd, rs ++ 1 :: List.replicate M.length 0, Js ++ X, ?_, Ty.set0 (lo := r.length + 1) tm', by rw [List.length_append, la]; rfl, fun x hx => ?_⟩
      · rw [List.append_assoc]
        exact set_hd
      · rcases List.mem_append.mp hx with z | z
        · exact (ha x z).more _
        · rw [List.mem_singleton.mp z]
          refine .inl ⟨rs.length, by rw [lm], ?_⟩
          rw [List.getElem?_append_right (Nat.le_refl _), Nat.sub_self]
          rfl
  rintro acc m ⟨rs, Js, rfl, ty, la, ha⟩ hm
  rw [List.length_map] at la
  have ty0 := Ty.down (lo := r.length + 1) (q := 2) ty hm ⟨fun z => by omega, fun z => by omega, fun _ => la, by omega⟩ ha
  have em2 : (pt a b :: r) ++ some acc :: Js = pt a b :: (r ++ (some acc :: Js)) := rfl
  rw [em2] at ty0 ⊢
  clear hm ha ty
  generalize some acc :: Js = J at ty0 ⊢
  have er0 : (2 :: rs)[0]? = some 2 := rfl
  generalize 2 :: rs = rs' at ty0 er0 ⊢
  walk_at "dl"
  refine rw_mod (by omega) ?_
  walk_at "dl"
  refine ⟨a, b, _, 8, rfl, rfl, ok, by omega, by omega, fun a b way ok w0 w1 => ?_⟩
  walk_at "dl"
  obtain ⟨ll, el, hll⟩ : ∃ ll : Nat, z % L = (ll : Int) ∧ (ll : Int) < L := by
    have h1 := Int.emod_nonneg z (b := L) (by omega)
    have h2 := Int.emod_lt_of_pos z (b := L) (by omega)
    exact ⟨(z % L).toNat, by omega, by omega⟩
  rw [el]
  have ty1 : Ty Gi (ln0 L N T.length) false rs' (r.length + 1) (pt a b :: (r ++ J)) := Ty.pot ty0
  obtain ⟨xs, xs1, xs2, k1, k2, kk, jj, lo⟩ := look ty1 er0 hmm hrr hll
  have tyw : ∀ a b, Ty Gw lnw true rs' (r.length + 1) (pt a b :: (r ++ J)) := fun a' b' => Ty.pot (ty1.imp (fun _ h => h.gw) (fun _ _ h => h.2.2.2) (fun h => rfl))
  have kl := lo.b
  have ml : ll < xs2.length := by have := lo.l2; omega
  have rl : rr < xs1.length := by have := lo.l1; omega
  have hl0 : mm < xs.length := by have := lo.l0; omega
  refine rw_ixC lo.h0 (atI_nat lo.y0) ?_
  walk_at "dl"
  refine rw_ixC lo.h1 (atI_nat lo.y1) ?_
  walk_at "dl"
  refine rw_ixC lo.h2 (atI_nat lo.y2) ?_
  walk_at "dl"
  have fin : ∀ (a b : Int) (J : Mu) (q : Nat) (d : Dat), Okp a b → Ty Gw lnw true rs' (r.length + 1) (pt a b :: (r ++ J)) → TV Gw lnw true rs' (r.length + 1) (q + 1) d → q ≤ 3 →
      ∃ d', Res (pt a b :: (r ++ J)) (pt a0 b0 :: r).length d d' ∧ (pt a0 b0 :: r).length ≤ (pt a b :: (r ++ J)).length ∧ KeepB (pt a0 b0 :: r) (pt a b :: (r ++ J)) ∧ P d' ((pt a b :: (r ++ J)).take (pt a0 b0 :: r).length) := fun a b J q d ok ty tv hq => by
    obtain ⟨d', h1, h2, h3⟩ := TV.close ty (q + 1) d tv
    obtain ⟨ys, rfl⟩ := h3 (by omega)
    refine ⟨_, h1, le_pot, keepB_pot, ?_⟩
    rw [take_pot]
    exact p a b _ ok h2.nc (rq_lst h2 (by omega))
  have finX : ∀ (a b : Int) (J : Mu) (d : Dat), Okp a b → noCell d = true → Rq d →
      ∃ d', Res (pt a b :: (r ++ J)) (pt a0 b0 :: r).length d d' ∧ (pt a0 b0 :: r).length ≤ (pt a b :: (r ++ J)).length ∧ KeepB (pt a0 b0 :: r) (pt a b :: (r ++ J)) ∧ P d' ((pt a b :: (r ++ J)).take (pt a0 b0 :: r).length) := fun a b J d ok nc rq => by
    refine ⟨d, .nc nc, le_pot, keepB_pot, ?_⟩
    rw [take_pot]
    exact p a b _ ok nc rq
  have self : TV Gw lnw true rs' (r.length + 1) 3 (.cell (pt a0 b0 :: r).length) := .inl ⟨0, rfl, er0⟩
  have wr : ∀ (a b : Int) (k q j : Nat) (ys : List Dat) (x : Dat), Okp a b → rs'[k]? = some q → (pt a b :: (r ++ J))[r.length + 1 + k]? = some (some ys) → TV Gw lnw true rs' (r.length + 1) q x →
      ∃ d', Res (pt a b :: (r ++ J.set k (some (ys.set j x)))) (pt a0 b0 :: r).length (.cell (pt a0 b0 :: r).length) d' ∧ (pt a0 b0 :: r).length ≤ (pt a b :: (r ++ J.set k (some (ys.set j x)))).length ∧ KeepB (pt a0 b0 :: r) (pt a b :: (r ++ J.set k (some (ys.set j x)))) ∧ P d' ((pt a b :: (r ++ J.set k (some (ys.set j x)))).take (pt a0 b0 :: r).length) := fun a b k q j ys x ok hk hm hx => by
    refine fin a b _ 2 _ ok ?_ self (by omega)
    rw [← set_lo]
    exact Ty.set (tyw a b) hk hm hx
  have lk1 : ∀ a b, Look L N T.length rs' (r.length + 1) (pt a b :: (r ++ J)) mm rr ll xs xs1 xs2 k1 k2 kk jj := fun a b => lo.pot
  walk_at "dl"
  refine if_d (fun c0 => ?_) (fun c0 => ?_)
  · walk_at "dl"
    refine ⟨a, b, _, 12, rfl, rfl, ok, by omega, by omega, fun a b v ok v0 v1 => ?_⟩
    walk_at "dl"
    refine gw_subN ?_
    walk_at "dl"
    refine rw_ixC (lk1 a b).h0 (atI_nat lo.y0) ?_
    walk_at "dl"
    refine rw_ixC (lk1 a b).h1 (atI_nat lo.y1) ?_
    walk_at "dl"
    refine ⟨_, _, ll, _, rfl, rfl, (lk1 a b).h2, ixN_at ml, ?_⟩
    rw [set_lo]
    walk_at "dl"
    exact wr a b k2 0 ll xs2 _ ok lo.q2 (lk1 a b).h2 (gd_pair (gI (by omega)) (gI (by omega))).1
  walk_at "dl"
  refine if_d (fun c1 => ?_) (fun c1 => ?_)
  · walk_at "dl"
    refine ⟨a, b, _, 5, rfl, rfl, ok, by omega, by omega, fun a b v ok v0 v1 => ?_⟩
    walk_at "dl"
    refine gw_subN ?_
    walk_at "dl"
    refine rw_ixC (lk1 a b).h0 (atI_nat lo.y0) ?_
    walk_at "dl"
    refine rw_ixC (lk1 a b).h1 (atI_nat lo.y1) ?_
    walk_at "dl"
    refine ⟨_, _, ll, _, rfl, rfl, (lk1 a b).h2, ixN_at ml, ?_⟩
    rw [set_lo]
    walk_at "dl"
    exact wr a b k2 0 ll xs2 _ ok lo.q2 (lk1 a b).h2 (gd_pair (gI (by omega)) (gI (by omega))).1
  walk_at "dl"
  refine if_d (fun c2 => ?_) (fun c2 => ?_)
  · walk_at "dl"
    refine ew_lst ?_
    walk_at "dl"
    refine ew_lst ?_
    walk_at "dl"
    refine ⟨by show 5 ≤ sizeLine; decide, ?_⟩
    walk_at "dl"
    refine ⟨a, b, _, _, _, rfl, rfl, ok, .inl rfl, List.cons_ne_nil _ _, by show 5 ≤ 1000; decide, fun a b x ok hx => ?_⟩
    walk_at "dl"
    have gx : Gd 0 x := by
      have nn : Gd 0 .non := ⟨rfl, rfl, by simp [dep], by simp [wt, Bd6]⟩
      simp only [List.mem_cons, List.not_mem_nil, or_false] at hx
      rcases hx with rfl | rfl | rfl | rfl | rfl
      · exact nn
      · exact (gd_pair (gI (by omega)) (gI (by omega))).2
      · exact gd_one (gI (by omega))
      · exact (gd_pair ⟨⟨rfl, rfl, by simp [dep], by simp [wt, Bd6]⟩, by simp [dep], by simp [wt]⟩ (gI (by omega))).1
      · exact (gd_pair ⟨⟨by decide +kernel, by decide +kernel, by simp [dep], by simp [wt, Bd6]⟩, by simp [dep], by simp [wt]⟩ (gI (by omega))).1
    refine gw_subN ?_
    walk_at "dl"
    refine rw_ixC (lk1 a b).h0 (atI_nat lo.y0) ?_
    walk_at "dl"
    refine rw_ixC (lk1 a b).h1 (atI_nat lo.y1) ?_
    walk_at "dl"
    refine ⟨_, _, ll, _, rfl, rfl, (lk1 a b).h2, ixN_at ml, ?_⟩
    rw [set_lo]
    walk_at "dl"
    exact wr a b k2 0 ll xs2 _ ok lo.q2 (lk1 a b).h2 gx
  walk_at "dl"
  refine if_d (fun c3 => ?_) (fun c3 => ?_)
  · refine s_asg (ew_slV ?_)
    walk_at "dl"
    refine rw_ixC (lk1 a b).h0 (atI_nat lo.y0) ?_
    walk_at "dl"
    refine rw_ixC (lk1 a b).h1 (atI_nat lo.y1) ?_
    walk_at "dl"
    refine ⟨xs2, .inr ⟨_, rfl, (lk1 a b).h2⟩, ?_⟩
    walk_at "dl"
    refine gw_subN ?_
    walk_at "dl"
    refine rw_ixC (lk1 a b).h0 (atI_nat lo.y0) ?_
    walk_at "dl"
    refine ⟨_, _, rr, _, rfl, rfl, (lk1 a b).h1, ixN_at rl, ?_⟩
    rw [set_lo]
    walk_at "dl"
    obtain ⟨ys, g1, g2, g3⟩ := (tyw a b).at_ k2 0 lo.q2
    rw [(lk1 a b).h2] at g1
    cases g1
    exact wr a b k1 1 rr xs1 _ ok lo.q1 (lk1 a b).h1 (.inr ⟨rfl, _, rfl, Nat.le_trans cut_len g2, fun x hx => g3 x (cut_mem hx)⟩)
  walk_at "dl"
  refine if_d (fun c4 => ?_) (fun c4 => ?_)
  · walk_at "dl"
    refine rw_ixC (lk1 a b).h0 (atI_nat lo.y0) ?_
    refine ew_slV ?_
    walk_at "dl"
    refine rw_ixC (lk1 a b).h0 (atI_nat lo.y0) ?_
    walk_at "dl"
    refine ⟨xs1, .inr ⟨_, rfl, (lk1 a b).h1⟩, ?_⟩
    have l1 := lo.l1
    have lc : (cut xs1 none (some 1)).length ≤ 1 := by
      rw [cut_to (by omega), List.length_take]
      exact Nat.min_le_left _ _
    refine rw_catV (.inr ⟨_, rfl, (lk1 a b).h1⟩) (.inl rfl) (by rw [sizeLine_eq]; omega) ?_
    walk_at "dl"
    refine gw_subN ?_
    walk_at "dl"
    refine ⟨r.length + 1 + 0, _, mm, _, rfl, rfl, (lk1 a b).h0, ixN_at hl0, ?_⟩
    rw [set_lo]
    walk_at "dl"
    obtain ⟨ys, g1, g2, g3⟩ := (tyw a b).at_ k1 1 lo.q1
    rw [(lk1 a b).h1] at g1
    cases g1
    exact wr a b 0 2 mm xs _ ok er0 (lk1 a b).h0 (.inr ⟨rfl, _, rfl, by show _ ≤ 6; rw [List.length_append]; omega, fun x hx => by
      rcases List.mem_append.mp hx with z | z
      · exact g3 x z
      · exact g3 x (cut_mem z)⟩)
  walk_at "dl"
  refine if_d (fun c5 => ?_) (fun c5 => ?_)
  · walk_at "dl"
    have l0 := lo.l0
    refine rw_catV (.inr ⟨_, rfl, (lk1 a b).h0⟩) (.inr ⟨_, rfl, (lk1 a b).h0⟩) (by rw [sizeLine_eq]; omega) ?_
    walk_at "dl"
    obtain ⟨ys, g1, g2, g3⟩ := (tyw a b).at_ 0 2 er0
    have g1' : (pt a b :: (r ++ J))[r.length + 1]? = some (some ys) := g1
    rw [(lk1 a b).h0] at g1'
    cases g1'
    exact fin a b J 2 _ ok (tyw a b) (.inr ⟨rfl, _, rfl, by show _ ≤ 6; rw [List.length_append]; omega, fun x hx => by
      rcases List.mem_append.mp hx with z | z
      · exact g3 x z
      · exact g3 x z⟩) (by omega)
  walk_at "dl"
  refine if_d (fun c6 => ?_) (fun c6 => ?_)
  · walk_at "dl"
    refine ew_lst ?_
    iterate 12 (walk_at "dl"; try first | refine ew_lst ?_ | refine ew_dict0 ?_)
    refine ⟨by show 11 ≤ sizeLine; decide, ?_⟩
    walk_at "dl"
    refine ⟨a, b, _, _, _, rfl, rfl, ok, .inl rfl, List.cons_ne_nil _ _, by show 11 ≤ 1000; decide, fun a b x ok hx => ?_⟩
    walk_at "dl"
    simp only [List.mem_cons, List.not_mem_nil, or_false] at hx
    rcases hx with rfl | rfl | rfl | rfl | rfl | rfl | rfl | rfl | rfl | rfl | rfl
    · exact finX a b J _ ok rfl (.rp .non)
    · exact finX a b J _ ok rfl (.int 0 (by decide))
    · exact finX a b J _ ok rfl (.rp (.bl true))
    · exact finX a b J _ ok rfl (.rp (.tup [] rfl rfl (by simp [deps]) (by simp [wts])))
    · exact finX a b J _ ok rfl (.rp (.lst [] rfl rfl (by simp [deps]) (by simp [wts])))
    · exact finX a b J _ ok rfl (.rp .dct)
    · exact finX a b J _ ok rfl (.rp (.str _ (by decide +kernel)))
    · exact finX a b J _ ok rfl (.rp (.lst _ rfl rfl (by simp [deps, dep]) (by simp [wts, wt])))
    · exact finX a b J _ ok rfl (.rp (.lst _ rfl rfl (by simp [deps, dep]) (by simp [wts, wt])))
    · exact finX a b J _ ok rfl (.rp (.lst _ rfl rfl (by simp [deps, dep]) (by simp [wts, wt])))
    · exact fin a b J 3 _ ok (tyw a b) (.inr ⟨rfl, _, rfl, (show 1 ≤ 6 by decide), fun x hx => by rw [List.mem_singleton.mp hx]; exact self⟩) (by omega)
  walk_at "dl"
  obtain ⟨g1, g2, g3⟩ := froz (show Ty Gi (ln0 L N T.length) false rs' (r.length + 1) (pt a b :: (r ++ J)) from Ty.pot ty1) er0 (lk1 a b).h0
  refine ⟨_, xs, _, rfl, .inr ⟨_, rfl, (lk1 a b).h0⟩, g1, g2, ?_⟩
  walk_at "dl"
  exact finX a b J _ ok g3.nc (rq_tup g3 (by omega))
end
end L56
namespace L56
open PySem PySem.Spec PyProof.Rows L2 DL StX KM RM
section
variable {P : Program} {w : World} {K : PySem.W.Frag} {mg : Str → Option Value} {base : Heap}
/- one rule a construct; what asks for a fact is left -/
local macro_rules | `(tactic| walk_at "dl") => `(tactic| repeat (first
  | ((with_reducible refine' ew_var ?hv ?_); (case hv => exact rfl))
  | with_reducible refine ew_int ?_
  | with_reducible refine ew_bl ?_
  | with_reducible refine ew_non ?_
  | with_reducible refine ew_str ?_
  | with_reducible refine aw_nil ?_
  | with_reducible refine aw_cons ?_
  | with_reducible refine ew_isi ?_
  | with_reducible refine ew_isi2 ?_
  | with_reducible refine ew_isiC ?_
  | with_reducible refine ew_op ?_
  | with_reducible refine ew_un ?_
  | with_reducible refine uw_neg ?_
  | with_reducible refine ew_cb ?_
  | with_reducible refine ew_call ?_
  | with_reducible refine ew_k01 ?_
  | with_reducible refine ew_k02 ?_
  | with_reducible refine ew_k02s ?_
  | with_reducible refine ew_k3t ?_
  | with_reducible refine ew_chain ?_
  | with_reducible refine ew_andV ?_
  | with_reducible refine ew_orV ?_
  | with_reducible refine ew_notV ?_
  | with_reducible refine ew_if ?_
  | with_reducible refine ew_slT ?_
  | with_reducible refine ew_slL ?_
  | with_reducible refine ow_none ?_
  | with_reducible refine ow_some ?_
  | with_reducible refine tw_test ?_
  | with_reducible refine tw_B ?_
  | with_reducible refine tw_and ?_
  | with_reducible refine tw_or ?_
  | with_reducible refine tw_not ?_
  | with_reducible refine tw_tru ?_
  | with_reducible refine s_seq ?_
  | with_reducible refine s_set ?_
  | with_reducible refine s_asg ?_
  | with_reducible refine s_ret ?_
  | with_reducible refine s_retN ?_
  | with_reducible refine s_if ?_
  | with_reducible refine s_drop ?_
  | with_reducible refine s_par ?_
  | with_reducible refine s_par3 ?_
  | with_reducible refine s_next ?_
  | with_reducible refine gw_tup rfl ?_
  | with_reducible refine gs_cons ?_
  | with_reducible refine gs_nil ?_
  | with_reducible refine gw_name ?_
  | with_reducible refine rw_add ?_
  | with_reducible refine rw_sub ?_
  | with_reducible refine rw_lt ?_
  | with_reducible refine rw_le ?_
  | with_reducible refine rw_gt ?_
  | with_reducible refine rw_ge ?_
  | with_reducible refine rw_eqI ?_
  | with_reducible refine rw_neI ?_
  | with_reducible refine rw_eqB ?_
  | with_reducible refine rw_neS ?_
  | with_reducible refine rw_isN ?_
  | with_reducible refine rw_notN ?_
  | with_reducible refine rw_isB ?_
  | with_reducible refine rw_notB ?_
  | ((with_reducible refine' rw_ixT ?hi ?_); (case hi => exact rfl))
  | ((with_reducible refine' rw_ixL ?hi ?_); (case hi => exact rfl))
  | with_reducible refine cw_lenT ?_
  | with_reducible refine cw_lenL ?_
  | with_reducible refine cw_tupL ?_
  | with_reducible refine cw_max2 ?_
  | with_reducible refine cw_abs ?_
  | with_reducible refine cw_int1 ?_
  | with_reducible refine leaf_bl ?_
  | with_reducible refine leaf_int ?_
  | with_reducible refine leaf_tup ?_
  | with_reducible refine leaf_lst ?_
  | with_reducible refine leaf_two ?_
  | with_reducible refine leaf_three ?_
  | with_reducible refine ew_tup ?_
  | with_reducible refine sz0 ?_
  | with_reducible refine sz1 ?_
  | with_reducible refine sz2 ?_
  | with_reducible refine sz3 ?_
  | with_reducible refine sz4 ?_
  | with_reducible refine if_t ?_
  | with_reducible refine if_f ?_
  | with_reducible refine if_nt ?_
  | with_reducible refine if_nf ?_))
/- one rule a construct; what asks for a fact is left -/
local macro_rules | `(tactic| walk_at "de") => `(tactic| repeat (first
  | ((with_reducible refine' ew_var ?hv ?_); (case hv => exact rfl))
  | with_reducible refine ew_int ?_
  | with_reducible refine ew_bl ?_
  | with_reducible refine ew_non ?_
  | with_reducible refine ew_str ?_
  | with_reducible refine aw_nil ?_
  | with_reducible refine aw_cons ?_
  | with_reducible refine ew_isi ?_
  | with_reducible refine ew_isi2 ?_
  | with_reducible refine ew_isiC ?_
  | with_reducible refine ew_op ?_
  | with_reducible refine ew_un ?_
  | with_reducible refine uw_neg ?_
  | with_reducible refine ew_cb ?_
  | with_reducible refine ew_call ?_
  | with_reducible refine ew_k01 ?_
  | with_reducible refine ew_k02 ?_
  | with_reducible refine ew_k02s ?_
  | with_reducible refine ew_k3t ?_
  | with_reducible refine ew_chain ?_
  | with_reducible refine ew_andV ?_
  | with_reducible refine ew_orV ?_
  | with_reducible refine ew_notV ?_
  | with_reducible refine ew_if ?_
  | with_reducible refine ew_slT ?_
  | with_reducible refine ew_slL ?_
  | with_reducible refine ow_none ?_
  | with_reducible refine ow_some ?_
  | with_reducible refine tw_test ?_
  | with_reducible refine tw_B ?_
  | with_reducible refine tw_and ?_
  | with_reducible refine tw_or ?_
  | with_reducible refine tw_not ?_
  | with_reducible refine tw_tru ?_
  | with_reducible refine gw_tup rfl ?_
  | with_reducible refine gs_cons ?_
  | with_reducible refine gs_nil ?_
  | with_reducible refine gw_name ?_
  | with_reducible refine rw_add ?_
  | with_reducible refine rw_sub ?_
  | with_reducible refine rw_lt ?_
  | with_reducible refine rw_le ?_
  | with_reducible refine rw_gt ?_
  | with_reducible refine rw_ge ?_
  | with_reducible refine rw_eqI ?_
  | with_reducible refine rw_neI ?_
  | with_reducible refine rw_eqB ?_
  | with_reducible refine rw_neS ?_
  | with_reducible refine rw_isN ?_
  | with_reducible refine rw_notN ?_
  | with_reducible refine rw_isB ?_
  | with_reducible refine rw_notB ?_
  | ((with_reducible refine' rw_ixT ?hi ?_); (case hi => exact rfl))
  | ((with_reducible refine' rw_ixL ?hi ?_); (case hi => exact rfl))
  | with_reducible refine cw_lenT ?_
  | with_reducible refine cw_lenL ?_
  | with_reducible refine cw_tupL ?_
  | with_reducible refine cw_max2 ?_
  | with_reducible refine cw_abs ?_
  | with_reducible refine cw_int1 ?_
  | with_reducible refine leaf_bl ?_
  | with_reducible refine leaf_int ?_
  | with_reducible refine leaf_tup ?_
  | with_reducible refine leaf_lst ?_
  | with_reducible refine leaf_two ?_
  | with_reducible refine leaf_three ?_
  | with_reducible refine ew_tup ?_
  | with_reducible refine sz0 ?_
  | with_reducible refine sz1 ?_
  | with_reducible refine sz2 ?_
  | with_reducible refine sz3 ?_
  | with_reducible refine sz4 ?_
  | with_reducible refine if_t ?_
  | with_reducible refine if_f ?_
  | with_reducible refine if_nt ?_
  | with_reducible refine if_nf ?_))

/- end of the rules -/
/-! ### the law's tables are tables -/
def lkT (T : List (List (List (Nat × Nat)))) (m r l : Nat) : Option (Nat × Nat) := (T[m]?).bind fun M => (M[r]?).bind fun R => R[l]?
theorem lk_gen {T : List (List (List (Nat × Nat)))} {f0 f1 f2 : List Dat → Dat} (h0 : ∀ xs, itms (f0 xs) = xs) (h1 : ∀ xs, itms (f1 xs) = xs) (h2 : ∀ xs, itms (f2 xs) = xs) (m r l : Nat) :
    lk (f2 (T.map fun M => f1 (M.map fun R => f0 (R.map itm)))) m r l = lkT T m r l := by
  unfold lk lkT
  rw [h2, List.getElem?_map]
  cases T[m]? with
  | none => rfl
  | some M =>
    rw [Option.map_some, Option.bind_some, Option.bind_some, h1, List.getElem?_map]
    cases M[r]? with
    | none => rfl
    | some R =>
      rw [Option.map_some, Option.bind_some, Option.bind_some, h0, List.getElem?_map]
      cases R[l]? with
      | none => rfl
      | some x => rfl
theorem tab_gen {ws : List (List Int)} {L N : Int} {T : List (List (List (Nat × Nat)))} {f0 f1 f2 : List Dat → Dat} (h0 : ∀ xs, itms (f0 xs) = xs ∧ isL (f0 xs) = true) (h1 : ∀ xs, itms (f1 xs) = xs ∧ isL (f1 xs) = true) (h2 : ∀ xs, itms (f2 xs) = xs ∧ isL (f2 xs) = true)
    (hL : 0 ≤ L) (tg : TabG ws L N T) : TabOk ws L N (f2 (T.map fun M => f1 (M.map fun R => f0 (R.map itm)))) := by
  have t1 := tg.one
  have t3 := tg.few
  refine ⟨(h2 _).2, by rw [(h2 _).1, List.length_map]; omega, fun i y hy => ?_⟩
  rw [(h2 _).1, List.getElem?_map] at hy
  rw [(h2 _).1, List.length_map]
  obtain ⟨M, hM, rfl⟩ := Option.map_eq_some_iff.mp hy
  obtain ⟨lM, gM⟩ := tg.mem M (List.mem_of_getElem? hM)
  refine ⟨(h1 _).2, by rw [(h1 _).1, List.length_map]; exact lM, fun r z hz => ?_⟩
  rw [(h1 _).1, List.getElem?_map] at hz
  obtain ⟨R, hR, rfl⟩ := Option.map_eq_some_iff.mp hz
  obtain ⟨lR, gR⟩ := gM r R hR
  refine ⟨(h0 _).2, by rw [(h0 _).1, List.length_map]; omega, fun c x hx => ?_⟩
  rw [(h0 _).1, List.getElem?_map] at hx
  obtain ⟨q, hq, rfl⟩ := Option.map_eq_some_iff.mp hx
  obtain ⟨g1, g2⟩ := gR c q hq
  obtain ⟨s1, s2, s3⟩ := sel_mem.mp g1
  exact ⟨q.1, (q.2 : Nat), rfl, s1, ⟨by omega, by omega⟩, s2, s3⟩
theorem frz_eq (T : List (List (List (Nat × Nat)))) : frz itms (T.map memD) = .tup (T.map fun M => .tup (M.map fun R => .tup (R.map itm))) := by
  unfold frz
  rw [List.map_map]
  congr 1
  refine List.map_congr_left fun M _ => ?_
  show Dat.tup ((M.map rowD).map fun z => .tup (itms z)) = _
  rw [List.map_map]
  rfl
theorem tabD_eq (T : List (List (List (Nat × Nat)))) : tabD T = .lst (T.map fun M => .lst (M.map fun R => .lst (R.map itm))) := rfl
theorem itmsL (xs : List Dat) : itms (.lst xs) = xs ∧ isL (.lst xs) = true := ⟨rfl, rfl⟩
theorem itmsT (xs : List Dat) : itms (.tup xs) = xs ∧ isL (.tup xs) = true := ⟨rfl, rfl⟩
theorem lk_frz (T : List (List (List (Nat × Nat)))) (m r l : Nat) : lk (frz itms (T.map memD)) m r l = lk (tabD T) m r l := by
  rw [frz_eq, tabD_eq, lk_gen (fun xs => (itmsT xs).1) (fun xs => (itmsT xs).1) (fun xs => (itmsT xs).1), lk_gen (fun xs => (itmsL xs).1) (fun xs => (itmsL xs).1) (fun xs => (itmsL xs).1)]
theorem nc_tabD (T : List (List (List (Nat × Nat)))) : noCell (tabD T) = true := by rw [tabD, noCell]; exact nc_mems T
theorem nc_frz (T : List (List (List (Nat × Nat)))) : noCell (frz itms (T.map memD)) = true := by
  rw [frz_eq, noCell]
  exact nc_tupmap fun M _ => by rw [noCell]; exact nc_tupmap fun R _ => by rw [noCell]; exact nc_itm R
theorem tabG_gd {ws : List (List Int)} {L N : Int} {T : List (List (List (Nat × Nat)))} (hL : 1 ≤ L ∧ L ≤ 2) (hN : 1 ≤ N ∧ N ≤ 3) (few : ws.length ≤ 12) (tg : TabG ws L N T) : Gd 3 (tabD T) := by
  have t3 := tg.few
  refine gd_lst (fun y hy => ?_) (by rw [List.length_map]; omega)
  obtain ⟨M, hM, rfl⟩ := List.mem_map.mp hy
  obtain ⟨lM, gM⟩ := tg.mem M hM
  refine gd_lst (fun z hz => ?_) (by rw [List.length_map]; omega)
  obtain ⟨R, hR, rfl⟩ := List.mem_map.mp hz
  obtain ⟨q, hq⟩ := List.mem_iff_getElem?.mp hR
  obtain ⟨lR, gR⟩ := gM q R hq
  refine gd_lst (fun x hx => ?_) (by rw [List.length_map]; omega)
  obtain ⟨p, hp, rfl⟩ := List.mem_map.mp hx
  obtain ⟨c, hc⟩ := List.mem_iff_getElem?.mp hp
  obtain ⟨g1, g2⟩ := gR c p hc
  have s1 := (sel_mem.mp g1).1
  exact (gd_pair (gI (by omega)) (gI (by omega))).1
theorem runAt_one {d : Dat} {ws : List (List Int)} {B A : List Int} {n j n' j' : Nat} (h : RunAt d ws B A n j) (h' : RunAt d ws B A n' j') : n = n' ∧ j = j' := by
  obtain ⟨a1, a2, a3⟩ := h
  obtain ⟨b1, b2, b3⟩ := h'
  have e : n = n' := by
    rcases Nat.lt_trichotomy n n' with c | c | c
    · exact absurd a2 (b3 j n a1 c)
    · exact c
    · exact absurd b2 (a3 j' n' b1 c)
  subst e
  refine ⟨rfl, ?_⟩
  rcases Nat.lt_trichotomy j j' with c | c | c
  · exact absurd (a2.trans b2.symm) (a3 j j' c b1)
  · exact c
  · exact absurd (b2.trans a2.symm) (a3 j' j c a1)
def toldD (hs ls : List Nat) : Dat := .tup [.lst (ni hs), .lst (ni ls)]
theorem shp_told (hs ls : List Nat) : shp (.tup [.lst (ni hs), .lst (ni ls)]) = true := by simp [shp, okD, okDs, ni_wi, ok_wi, dep, deps, dep_wi]
theorem eq_told (hs ls : List Nat) : eqD (.tup [.lst (ni hs), .lst (ni ls)]) (.tup [.lst (ni hs), .lst (ni ls)]) = true := by
  simp only [eqD, toPy, toPys, PyData.eqv, PyData.eqvAll, ni_wi, eqv_wi, decide_true, Bool.and_true]
theorem nc_told (hs ls : List Nat) : noCell (.tup [.lst (ni hs), .lst (ni ls)]) = true := shp_nc (shp_told hs ls)
def f_right : FW := fun ds m P => ∃ (a b : Int), ds = [.cell 0] ∧ m = [pt a b] ∧ Okp a b ∧ ∀ m', P (.bl true) m'

end
end L56
namespace L56
open PySem PySem.Spec PyProof.Rows L2 DL StX KM RM
section
variable {P : Program} {w : World} {K : PySem.W.Frag} {mg : Str → Option Value} {base : Heap}
/- one rule a construct; what asks for a fact is left -/
local macro_rules | `(tactic| walk_at "dl") => `(tactic| repeat (first
  | ((with_reducible refine' ew_var ?hv ?_); (case hv => exact rfl))
  | with_reducible refine ew_int ?_
  | with_reducible refine ew_bl ?_
  | with_reducible refine ew_non ?_
  | with_reducible refine ew_str ?_
  | with_reducible refine aw_nil ?_
  | with_reducible refine aw_cons ?_
  | with_reducible refine ew_isi ?_
  | with_reducible refine ew_isi2 ?_
  | with_reducible refine ew_isiC ?_
  | with_reducible refine ew_op ?_
  | with_reducible refine ew_un ?_
  | with_reducible refine uw_neg ?_
  | with_reducible refine ew_cb ?_
  | with_reducible refine ew_call ?_
  | with_reducible refine ew_k01 ?_
  | with_reducible refine ew_k02 ?_
  | with_reducible refine ew_k02s ?_
  | with_reducible refine ew_k3t ?_
  | with_reducible refine ew_chain ?_
  | with_reducible refine ew_andV ?_
  | with_reducible refine ew_orV ?_
  | with_reducible refine ew_notV ?_
  | with_reducible refine ew_if ?_
  | with_reducible refine ew_slT ?_
  | with_reducible refine ew_slL ?_
  | with_reducible refine ow_none ?_
  | with_reducible refine ow_some ?_
  | with_reducible refine tw_test ?_
  | with_reducible refine tw_B ?_
  | with_reducible refine tw_and ?_
  | with_reducible refine tw_or ?_
  | with_reducible refine tw_not ?_
  | with_reducible refine tw_tru ?_
  | with_reducible refine s_seq ?_
  | with_reducible refine s_set ?_
  | with_reducible refine s_asg ?_
  | with_reducible refine s_ret ?_
  | with_reducible refine s_retN ?_
  | with_reducible refine s_if ?_
  | with_reducible refine s_drop ?_
  | with_reducible refine s_par ?_
  | with_reducible refine s_par3 ?_
  | with_reducible refine s_next ?_
  | with_reducible refine gw_tup rfl ?_
  | with_reducible refine gs_cons ?_
  | with_reducible refine gs_nil ?_
  | with_reducible refine gw_name ?_
  | with_reducible refine rw_add ?_
  | with_reducible refine rw_sub ?_
  | with_reducible refine rw_lt ?_
  | with_reducible refine rw_le ?_
  | with_reducible refine rw_gt ?_
  | with_reducible refine rw_ge ?_
  | with_reducible refine rw_eqI ?_
  | with_reducible refine rw_neI ?_
  | with_reducible refine rw_eqB ?_
  | with_reducible refine rw_neS ?_
  | with_reducible refine rw_isN ?_
  | with_reducible refine rw_notN ?_
  | with_reducible refine rw_isB ?_
  | with_reducible refine rw_notB ?_
  | ((with_reducible refine' rw_ixT ?hi ?_); (case hi => exact rfl))
  | ((with_reducible refine' rw_ixL ?hi ?_); (case hi => exact rfl))
  | with_reducible refine cw_lenT ?_
  | with_reducible refine cw_lenL ?_
  | with_reducible refine cw_tupL ?_
  | with_reducible refine cw_max2 ?_
  | with_reducible refine cw_abs ?_
  | with_reducible refine cw_int1 ?_
  | with_reducible refine leaf_bl ?_
  | with_reducible refine leaf_int ?_
  | with_reducible refine leaf_tup ?_
  | with_reducible refine leaf_lst ?_
  | with_reducible refine leaf_two ?_
  | with_reducible refine leaf_three ?_
  | with_reducible refine ew_tup ?_
  | with_reducible refine sz0 ?_
  | with_reducible refine sz1 ?_
  | with_reducible refine sz2 ?_
  | with_reducible refine sz3 ?_
  | with_reducible refine sz4 ?_
  | with_reducible refine if_t ?_
  | with_reducible refine if_f ?_
  | with_reducible refine if_nt ?_
  | with_reducible refine if_nf ?_))
/- one rule a construct; what asks for a fact is left -/
local macro_rules | `(tactic| walk_at "de") => `(tactic| repeat (first
  | ((with_reducible refine' ew_var ?hv ?_); (case hv => exact rfl))
  | with_reducible refine ew_int ?_
  | with_reducible refine ew_bl ?_
  | with_reducible refine ew_non ?_
  | with_reducible refine ew_str ?_
  | with_reducible refine aw_nil ?_
  | with_reducible refine aw_cons ?_
  | with_reducible refine ew_isi ?_
  | with_reducible refine ew_isi2 ?_
  | with_reducible refine ew_isiC ?_
  | with_reducible refine ew_op ?_
  | with_reducible refine ew_un ?_
  | with_reducible refine uw_neg ?_
  | with_reducible refine ew_cb ?_
  | with_reducible refine ew_call ?_
  | with_reducible refine ew_k01 ?_
  | with_reducible refine ew_k02 ?_
  | with_reducible refine ew_k02s ?_
  | with_reducible refine ew_k3t ?_
  | with_reducible refine ew_chain ?_
  | with_reducible refine ew_andV ?_
  | with_reducible refine ew_orV ?_
  | with_reducible refine ew_notV ?_
  | with_reducible refine ew_if ?_
  | with_reducible refine ew_slT ?_
  | with_reducible refine ew_slL ?_
  | with_reducible refine ow_none ?_
  | with_reducible refine ow_some ?_
  | with_reducible refine tw_test ?_
  | with_reducible refine tw_B ?_
  | with_reducible refine tw_and ?_
  | with_reducible refine tw_or ?_
  | with_reducible refine tw_not ?_
  | with_reducible refine tw_tru ?_
  | with_reducible refine gw_tup rfl ?_
  | with_reducible refine gs_cons ?_
  | with_reducible refine gs_nil ?_
  | with_reducible refine gw_name ?_
  | with_reducible refine rw_add ?_
  | with_reducible refine rw_sub ?_
  | with_reducible refine rw_lt ?_
  | with_reducible refine rw_le ?_
  | with_reducible refine rw_gt ?_
  | with_reducible refine rw_ge ?_
  | with_reducible refine rw_eqI ?_
  | with_reducible refine rw_neI ?_
  | with_reducible refine rw_eqB ?_
  | with_reducible refine rw_neS ?_
  | with_reducible refine rw_isN ?_
  | with_reducible refine rw_notN ?_
  | with_reducible refine rw_isB ?_
  | with_reducible refine rw_notB ?_
  | ((with_reducible refine' rw_ixT ?hi ?_); (case hi => exact rfl))
  | ((with_reducible refine' rw_ixL ?hi ?_); (case hi => exact rfl))
  | with_reducible refine cw_lenT ?_
  | with_reducible refine cw_lenL ?_
  | with_reducible refine cw_tupL ?_
  | with_reducible refine cw_max2 ?_
  | with_reducible refine cw_abs ?_
  | with_reducible refine cw_int1 ?_
  | with_reducible refine leaf_bl ?_
  | with_reducible refine leaf_int ?_
  | with_reducible refine leaf_tup ?_
  | with_reducible refine leaf_lst ?_
  | with_reducible refine leaf_two ?_
  | with_reducible refine leaf_three ?_
  | with_reducible refine ew_tup ?_
  | with_reducible refine sz0 ?_
  | with_reducible refine sz1 ?_
  | with_reducible refine sz2 ?_
  | with_reducible refine sz3 ?_
  | with_reducible refine sz4 ?_
  | with_reducible refine if_t ?_
  | with_reducible refine if_f ?_
  | with_reducible refine if_nt ?_
  | with_reducible refine if_nf ?_))

/- end of the rules -/
theorem ok__law_right (T : All K mg) : FnG P w K mg base 10 T.d__law_right.f T.d__law_right.fd ["_law_pot_here"] (spD K f_right) := by
  refine okG T.d__law_right.F sc__law_right (fun vs H Q E h => sp_len (by intro ds m P f; first | (obtain ⟨rfl, _⟩ := f; rfl) | (obtain ⟨_, h⟩ := f; first | (obtain ⟨rfl, _⟩ := h; rfl) | (obtain ⟨_, rfl, _⟩ := h; rfl) | (obtain ⟨_, _, rfl, _⟩ := h; rfl) | (obtain ⟨_, _, _, rfl, _⟩ := h; rfl) | (obtain ⟨_, _, _, _, rfl, _⟩ := h; rfl) | (obtain ⟨_, _, _, _, _, rfl, _⟩ := h; rfl) | (obtain ⟨_, _, _, _, _, _, rfl, _⟩ := h; rfl) | (obtain ⟨_, _, _, _, _, _, _, rfl, _⟩ := h; rfl) | (obtain ⟨_, _, _, _, _, _, _, _, rfl, _⟩ := h; rfl) | (obtain ⟨_, _, _, _, _, _, _, _, _, rfl, _⟩ := h; rfl))) h) (fun cdv A outer s H vs Q E hG hr h => ?_)
  refine ⟨_, (pss_cons (ps_set (i := 1) sc__law_right.nd rfl (Or.inl rfl) (pe_call (ok__law_world T) (hr.mono (by decide)) rfl T.d__law_world.g T.d__law_world.F.kp T.d__law_world.b .nil pass0 (pa_cons (pv 0) pa_nil)))
      (pss_cons (ps_par (i := 2) (j := 3) rfl sc__law_right.nd rfl rfl (by decide) rfl rfl (pa_cons (pe_make T.mk_Reader (ok_Reader___init__ T) (hr.mono (by decide)) rfl T.g_Reader T.d_Reader___init__.b .nil pass0 (pa_cons (pe_ix (show IxR _ (rIxT K) from ix_tup) (pv 1) pe_int (fun _ _ => rfl)) (pa_cons (pe_ix (show IxR _ (rIxT K) from ix_tup) (pv 1) pe_int (fun _ _ => rfl)) (pa_cons (pe_ix (show IxR _ (rIxT K) from ix_tup) (pv 1) pe_int (fun _ _ => rfl)) pa_nil)))) (pa_cons (pe_call (ok__law_table T) (hr.mono (by decide)) rfl T.d__law_table.g T.d__law_table.F.kp T.d__law_table.b .nil pass0 (pa_cons (pv 0) (pa_cons (pv 1) (pa_cons pe_int pa_nil)))) pa_nil)) (by rfl))
      (pss_cons (ps_set (i := 4) sc__law_right.nd rfl (Or.inl rfl) (pe_lst (pa_cons (pv 3) pa_nil)))
      (pss_cons (ps_for PassesOwn.never rfl (pi_range1 (by rfl) T.z_range (pa_cons pe_int pa_nil)) (pg_name (i := 5) sc__law_right.nd rfl (Or.inl rfl)) (pss_one (ps_expr (pe_bm PySem.F.plainAttrs_list PySem.F.slot_list_append PySem.F.type_list_append mt_append (pv 4) (pa_cons (pe_call (ok__law_bent T) (hr.mono (by decide)) rfl T.d__law_bent.g T.d__law_bent.F.kp T.d__law_bent.b .nil pass0 (pa_cons (pv 0) (pa_cons (pv 1) (pa_cons (pv 3) pa_nil)))) pa_nil)))))
      (pss_cons (ps_for PassesOwn.never rfl (pi_list (pv 4)) (pg_name (i := 6) sc__law_right.nd rfl (Or.inl rfl)) (pss_cons (ps_set (i := 7) sc__law_right.nd rfl (Or.inl rfl) (pe_callB (call_reprY hG hr.units) (by rfl) T.z_repr (by decide +kernel) (pa_cons (pv 6) pa_nil)))
      (pss_cons (ps_set (i := 8) sc__law_right.nd rfl (Or.inl rfl) (pe_callN0 (ok_is_table T) (hr.mono (by decide)) rfl T.d_is_table.g T.d_is_table.F.kp (kb_is_table_0_value_reader T.d_is_table) pass0 (pk_cons (pv 6) (pk_cons (pv 2) pk_nil))))
      (pss_one (ps_if (PW.pt (pw_or (pt_cmpR op_ne (pe_callB (call_reprY hG hr.units) (by rfl) T.z_repr (by decide +kernel) (pa_cons (pv 8) pa_nil)) (pe_callB (call_reprY hG hr.units) (by rfl) T.z_repr (by decide +kernel) (pa_cons (pe_call (ok__law_is_table T) (hr.mono (by decide)) rfl T.d__law_is_table.g T.d__law_is_table.F.kp T.d__law_is_table.b .nil pass0 (pa_cons (pv 1) (pa_cons (pv 6) pa_nil))) pa_nil)) (nomark _)) (pw_or1 (pt_cmpR op_ne (pe_callB (call_reprY hG hr.units) (by rfl) T.z_repr (by decide +kernel) (pa_cons (pv 6) pa_nil)) (pv 7) (nomark _))))) (pss_one (ps_ret pe_bl)) pss_nil)))))
      (pss_cons (ps_for PassesOwn.never rfl (pi_range1 (by rfl) T.z_range (pa_cons pe_int pa_nil)) (pg_name (i := 5) sc__law_right.nd rfl (Or.inl rfl)) (pss_cons (ps_set (i := 9) sc__law_right.nd rfl (Or.inl rfl) (pe_call (ok__law_row T) (hr.mono (by decide)) rfl T.d__law_row.g T.d__law_row.F.kp T.d__law_row.b .nil pass0 (pa_cons (pv 0) (pa_cons (pe_ix (show IxR _ (rIxT K) from ix_tup) (pv 1) pe_int (fun _ _ => rfl)) (pa_cons pe_int pa_nil)))))
      (pss_cons (ps_set (i := 10) sc__law_right.nd rfl (Or.inl rfl) (pe_call (ok__law_run T) (hr.mono (by decide)) rfl T.d__law_run.g T.d__law_run.F.kp T.d__law_run.b .nil pass0 (pa_cons (pv 1) (pa_cons (pv 3) (pa_cons (pv 9) pa_nil)))))
      (pss_cons (ps_if (PW.pt (pw_or (pt_cmpR (op_neD hr.units) (pe_call (ok_run_by T) (hr.mono (by decide)) rfl T.d_run_by.g T.d_run_by.F.kp T.d_run_by.b .nil pass0 (pa_cons (pv 2) (pa_cons (pv 3) (pa_cons (pv 9) pa_nil)))) (pv 10) (nomark _)) (pw_or1 (pt_cmpR op_notB (pe_call (ok_is_run T) (hr.mono (by decide)) rfl T.d_is_run.g T.d_is_run.F.kp T.d_is_run.b .nil pass0 (pa_cons (pv 2) (pa_cons (pv 9) (pa_cons (pv 10) pa_nil)))) pe_bl (nomark _))))) (pss_one (ps_ret pe_bl)) pss_nil)
      (pss_cons (ps_if (pt_cmpR (op_neD hr.units) (pe_callN0 (ok_run_by T) (hr.mono (by decide)) rfl T.d_run_by.g T.d_run_by.F.kp (kb_run_by_0_row_table_reader T.d_run_by) pass0 (pk_cons (pv 9) (pk_cons (pe_call (ok__law_frozen T) (hr.mono (by decide)) rfl T.d__law_frozen.g T.d__law_frozen.F.kp T.d__law_frozen.b .nil pass0 (pa_cons (pv 3) pa_nil)) (pk_cons (pv 2) pk_nil)))) (pv 10) (nomark _)) (pss_one (ps_ret pe_bl)) pss_nil)
      (pss_one (ps_if (pt_cmpR op_ne (pe_callB (call_reprY hG hr.units) (by rfl) T.z_repr (by decide +kernel) (pa_cons (pe_call (ok_keeps T) (hr.mono (by decide)) rfl T.d_keeps.g T.d_keeps.F.kp T.d_keeps.b .nil pass0 (pa_cons (pv 2) (pa_cons (pv 3) (pa_cons (pv 9) pa_nil)))) pa_nil)) (pe_callB (call_reprY hG hr.units) (by rfl) T.z_repr (by decide +kernel) (pa_cons (pe_call (ok__law_keeps T) (hr.mono (by decide)) rfl T.d__law_keeps.g T.d__law_keeps.F.kp T.d__law_keeps.b .nil pass0 (pa_cons (pv 1) (pa_cons (pv 3) (pa_cons (pv 9) pa_nil)))) pa_nil)) (nomark _)) (pss_one (ps_ret pe_bl)) pss_nil)))))))
      (pss_one (ps_ret (pe_cmpR op_eq (pe_callB (call_reprY hG hr.units) (by rfl) T.z_repr (by decide +kernel) (pa_cons (pe_callN0 (ok_keeps T) (hr.mono (by decide)) rfl T.d_keeps.g T.d_keeps.F.kp (kb_keeps_0_row_table_reader T.d_keeps) pass0 (pk_cons (pv 9) (pk_cons (pv 3) (pk_cons (pv 2) pk_nil)))) pa_nil)) (pe_callB (call_reprY hG hr.units) (by rfl) T.z_repr (by decide +kernel) (pa_cons (pe_call (ok__law_keeps T) (hr.mono (by decide)) rfl T.d__law_keeps.g T.d__law_keeps.F.kp T.d__law_keeps.b .nil pass0 (pa_cons (pv 1) (pa_cons (pv 3) (pa_cons (pv 9) pa_nil)))) pa_nil)) (nomark _)))))))))), body_of h fun ds m P f => ?_⟩
  try dsimp only [cxOf, Cx.nox, Cx.wish, Cx.blk]
  obtain ⟨a, b, rfl, rfl, ok, p⟩ := f
  walk_at "dl"
  refine ⟨a, b, [], rfl, rfl, ok, fun a b L N ws j ok hL hN rd srt => ?_⟩
  have few := rd.few
  walk_at "dl"
  refine ew_make T.oc_Reader ?_
  walk_at "dl"
  refine ⟨L, N, ws, rfl, rd.way, rd.nd, by omega, rd.cov hL hN, ⟨by omega, by omega, by omega, by omega⟩, fun ws' nums pm pw => ?_⟩
  have e := sorted_one (rd.bd (by omega) (by omega)) pm srt pw
  subst e
  walk_at "dl"
  refine ⟨a, b, j, L, N, ws', rfl, rfl, ok, hL, hN, rd, fun a b X ok tg => ?_⟩
  walk_at "dl"
  refine ew_lstC ?_
  walk_at "dl"
  refine ⟨by rw [noCells, noCells, nc_tabD]; rfl, ?_⟩
  have gX := tabG_gd hL hN few tg
  have rX : Rq (tabD X) := rq_lst gX (by omega)
  have tX : TabOk ws' L N (tabD X) := tab_gen itmsL itmsL itmsL (by omega) tg
  have tF : TabOk ws' L N (frz itms (X.map memD)) := by rw [frz_eq]; exact tab_gen itmsT itmsT itmsT (by omega) tg
  have lX : (itms (tabD X)).length = X.length := List.length_map _
  have lF : (itms (frz itms (X.map memD))).length = X.length := by rw [frz_eq]; exact List.length_map _
  have x3 := tg.few
  have fw : X.length * N.toNat ≤ 100 := Nat.le_trans (Nat.mul_le_mul x3 (show N.toNat ≤ 3 by omega)) (by decide)
  walk_at "dl"
  refine s_forR1 ?_
  walk_at "dl"
  refine ⟨5, rfl, by omega, by omega, fun i ρ' m' => ∃ a b vs, Okp a b ∧ (∀ x ∈ vs, noCell x = true ∧ Rq x) ∧ vs.length = 1 + i ∧ m' = pt a b :: (j ++ [some vs]) ∧ ∃ e1, ρ' = [some (.cell 0), some (wrl L N ws'), some (rdr T.C_Reader L N ws' nums), some (tabD X), some (.cell (j.length + 1)), e1, none, none, none, none, none],
    ⟨a, b, [tabD X], ok, fun x hx => by rw [List.mem_singleton.mp hx]; exact ⟨nc_tabD X, rX⟩, rfl, rfl, _, rfl⟩, ?_, ?_⟩
  · rintro i ρ' m' hi ⟨a, b, vs, ok, vok, vl, rfl, e1, rfl⟩
    walk_at "dl"
    refine ew_append ?_
    walk_at "dl"
    refine ⟨⟨_, _, rfl, at_new⟩, ?_⟩
    walk_at "dl"
    refine ⟨a, b, _, L, N, ws', X, rfl, rfl, ok, hL, hN, rd, tg, fun a b v ok nv rv => ?_⟩
    walk_at "dl"
    refine ⟨_, _, _, rfl, rfl, nv, at_new, by rw [sizeLine_eq]; omega, ?_⟩
    rw [set_new]
    refine ⟨a, b, vs ++ [v], ok, fun x hx => ?_, by rw [List.length_append, vl, List.length_singleton]; omega, rfl, _, rfl⟩
    rcases List.mem_append.mp hx with z | z
    · exact vok x z
    · rw [List.mem_singleton.mp z]; exact ⟨nv, rv⟩
  · rintro ρ' m' ⟨a, b, vs, ok, vok, vl, rfl, e1, rfl⟩
    walk_at "dl"
    refine s_forC ?_
    walk_at "dl"
    refine ⟨vs, fun i ρ' m' => m' = pt a b :: (j ++ [some vs]) ∧ ∃ e6 e7 e8, ρ' = [some (.cell 0), some (wrl L N ws'), some (rdr T.C_Reader L N ws' nums), some (tabD X), some (.cell (j.length + 1)), e1, e6, e7, e8, none, none],
      .inr ⟨j.length + 1, rfl, fun m' ⟨i, ρ', e, _⟩ => by rw [e]; exact at_new⟩, ⟨rfl, _, _, _, rfl⟩, ?_, ?_⟩
    · rintro i val ρ' m' hval ⟨rfl, e6, e7, e8, rfl⟩
      obtain ⟨nv, rv⟩ := vok val (List.mem_of_getElem? hval)
      walk_at "dl"
      refine cw_rq rv ?_
      walk_at "dl"
      refine ⟨rfl, L, N, ws', nums, val, rfl, rd.way, by omega, nv, fun b1 hb1 => ?_⟩
      walk_at "dl"
      refine cw_rq (.rp (.bl _)) ?_
      walk_at "dl"
      refine ⟨L, N, ws', val, rfl, rd.way, by omega, nv, fun b2 hb2 => ?_⟩
      have : b2 = b1 := Bool.eq_iff_iff.mpr (hb2.trans hb1.symm)
      subst this
      walk_at "dl"
      refine cw_rq (.rp (.bl _)) ?_
      walk_at "dl"
      refine if_nd (fun h => absurd rfl h) (fun _ => ?_)
      walk_at "dl"
      refine cw_rq rv ?_
      walk_at "dl"
      refine if_nd (fun h => absurd rfl h) (fun _ => ?_)
      walk_at "dl"
      exact ⟨rfl, _, _, _, rfl⟩
    · rintro ρ' m' ⟨rfl, e6, e7, e8, rfl⟩
      generalize (j ++ [some vs]) = r
      walk_at "dl"
      refine s_forR1 ?_
      walk_at "dl"
      refine ⟨4, rfl, by omega, by omega, fun i ρ' m' => ∃ a b r, Okp a b ∧ m' = pt a b :: r ∧ ∃ e5 e9 e10, (i = 0 ∨ ∃ B A, Rw L B A ∧ e9 = some (rw_ B A)) ∧ ρ' = [some (.cell 0), some (wrl L N ws'), some (rdr T.C_Reader L N ws' nums), some (tabD X), some (.cell (j.length + 1)), e5, e6, e7, e8, e9, e10],
        ⟨a, b, r, ok, rfl, _, _, _, .inl rfl, rfl⟩, ?_, ?_⟩
      · rintro i ρ' m' hi ⟨a, b, r, ok, rfl, e5, e9, e10, _, rfl⟩
        walk_at "dl"
        refine ⟨a, b, r, L, rfl, rfl, ok, by omega, by omega, fun a b B A j2 ok rw1 => ?_⟩
        have rX : RunIn L N ws' (tabD X) B A := ⟨rd.way, tX, nc_tabD X, hN.1, by rw [lX]; exact fw, rw1⟩
        have rF : RunIn L N ws' (frz itms (X.map memD)) B A := ⟨rd.way, tF, nc_frz X, hN.1, by rw [lF]; exact fw, rw1⟩
        walk_at "dl"
        refine ⟨L, N, ws', _, B, A, rfl, rX, fun n k J1 ra => ?_⟩
        have rk := rX.ok ra
        walk_at "dl"
        refine ⟨L, N, ws', nums, _, B, A, rfl, rX, fun n2 k2 J2 ra2 => ?_⟩
        obtain ⟨rfl, rfl⟩ := runAt_one ra ra2
        walk_at "dl"
        refine rw_neD (shp_told _ _) (shp_told _ _) ?_
        rw [eq_told]
        walk_at "dl"
        refine ⟨L, N, ws', nums, B, A, _, rfl, rd.way, rw1.ok, nc_told _ _, fun b1 hb1 => ?_⟩
        have : b1 = true := hb1.mpr ⟨_, _, ⟨_, _, rfl, ⟨.inr rfl, fun q hq => rk.lt q (List.mem_append_left _ hq)⟩, ⟨.inr rfl, fun q hq => rk.lt q (List.mem_append_right _ hq)⟩⟩, rk.told, rk.along⟩
        subst this
        walk_at "dl"
        refine if_nd (fun h => absurd rfl h) (fun _ => ?_)
        walk_at "dl"
        have hfz : ∀ y ∈ X.map memD, Lv (pt a b :: (r ++ j2) ++ J1 ++ J2) y (itms y) ∧ (itms y).length < 1000 ∧ ∀ z ∈ itms y, Lv (pt a b :: (r ++ j2) ++ J1 ++ J2) z (itms z) ∧ noCells (itms z) = true := fun y hy => by
          obtain ⟨M, hM, rfl⟩ := List.mem_map.mp hy
          obtain ⟨lM, gM⟩ := tg.mem M hM
          refine ⟨.inl rfl, by show (M.map rowD).length < 1000; rw [List.length_map]; omega, fun z hz => ?_⟩
          obtain ⟨R, hR, rfl⟩ := List.mem_map.mp (show z ∈ M.map rowD from hz)
          exact ⟨.inl rfl, nc_itm R⟩
        refine ⟨_, X.map memD, itms, rfl, .inl rfl, by rw [List.length_map]; omega, hfz, ?_⟩
        walk_at "dl"
        refine ⟨rfl, L, N, ws', nums, _, B, A, rfl, rF, fun n2 k2 J3 ra3 => ?_⟩
        obtain ⟨rfl, rfl⟩ := runAt_one ra (RunAt.congr (lk_frz X) ra3)
        have eh : hdR (frz itms (X.map memD)) ws' B A n k = hdR (tabD X) ws' B A n k := by
          unfold hdR
          rw [st_congr (lk_frz X), st_congr (lk_frz X)]
        have el : lpR (frz itms (X.map memD)) ws' B A n k = lpR (tabD X) ws' B A n k := by
          unfold lpR
          rw [st_congr (lk_frz X), st_congr (lk_frz X)]
        rw [eh, el]
        walk_at "dl"
        refine rw_neD (shp_told _ _) (shp_told _ _) ?_
        rw [eq_told]
        walk_at "dl"
        refine ⟨L, N, ws', nums, _, B, A, rfl, rX, fun n4 k4 J4 ra4 => ?_⟩
        obtain ⟨rfl, rfl⟩ := runAt_one ra ra4
        walk_at "dl"
        refine cw_rq (.rp (.bl _)) ?_
        walk_at "dl"
        refine ⟨L, N, ws', _, B, A, rfl, rX, fun n5 k5 J5 ra5 => ?_⟩
        obtain ⟨rfl, rfl⟩ := runAt_one ra ra5
        walk_at "dl"
        refine cw_rq (.rp (.bl _)) ?_
        walk_at "dl"
        refine if_nd (fun h => absurd rfl h) (fun _ => ?_)
        walk_at "dl"
        exact ⟨a, b, _, ok, rfl, _, _, _, .inr ⟨B, A, rw1, rfl⟩, rfl⟩
      · rintro ρ' m' ⟨a, b, r, ok, rfl, e5, e9, e10, h9, rfl⟩
        rcases h9 with h9 | ⟨B, A, rw1, rfl⟩
        · exact absurd h9 (by decide)
        have rX : RunIn L N ws' (tabD X) B A := ⟨rd.way, tX, nc_tabD X, hN.1, by rw [lX]; exact fw, rw1⟩
        walk_at "dl"
        refine ⟨rfl, L, N, ws', nums, _, B, A, rfl, rX, fun n k J4 ra => ?_⟩
        walk_at "dl"
        refine cw_rq (.rp (.bl _)) ?_
        walk_at "dl"
        refine ⟨L, N, ws', _, B, A, rfl, rX, fun n5 k5 J5 ra5 => ?_⟩
        obtain ⟨rfl, rfl⟩ := runAt_one ra ra5
        walk_at "dl"
        refine cw_rq (.rp (.bl _)) ?_
        have rw_eqS : ∀ {μ : Mu} {P : PD} {a b : Str}, P (.bl (decide (a = b))) μ → RW K rEq (.str a) (.str b) μ P := fun {μ P a b} p => rw_eq rfl (by
          have : decide (fl (.str a) = fl (.str b)) = decide (a = b) := by simp [fl]
          rw [this]; exact p)
        refine rw_eqS ?_
        rw [decide_eq_true rfl]
        exact p _
def f_law : FW := fun ds m P => ∃ ns, ds = [.lst (wi ns)] ∧ m = [] ∧ ∀ m', P (.bl true) m'
theorem ok_law (T : All K mg) : FnG P w K mg base 11 T.d_law.f T.d_law.fd ["_law_script"] (spD K f_law) := by
  refine okG T.d_law.F sc_law (fun vs H Q E h => sp_len (by intro ds m P f; first | (obtain ⟨rfl, _⟩ := f; rfl) | (obtain ⟨_, h⟩ := f; first | (obtain ⟨rfl, _⟩ := h; rfl) | (obtain ⟨_, rfl, _⟩ := h; rfl) | (obtain ⟨_, _, rfl, _⟩ := h; rfl) | (obtain ⟨_, _, _, rfl, _⟩ := h; rfl) | (obtain ⟨_, _, _, _, rfl, _⟩ := h; rfl) | (obtain ⟨_, _, _, _, _, rfl, _⟩ := h; rfl) | (obtain ⟨_, _, _, _, _, _, rfl, _⟩ := h; rfl) | (obtain ⟨_, _, _, _, _, _, _, rfl, _⟩ := h; rfl) | (obtain ⟨_, _, _, _, _, _, _, _, rfl, _⟩ := h; rfl) | (obtain ⟨_, _, _, _, _, _, _, _, _, rfl, _⟩ := h; rfl))) h) (fun cdv A outer s H vs Q E hG hr h => ?_)
  refine ⟨_, (pss_one (ps_ret (pe_callG (ok__law_right T) hG (hr.mono (by decide)) rfl T.d__law_right.g T.d__law_right.F.kp T.d__law_right.b (pa_cons (pe_call (ok__law_pot T) (hr.mono (by decide)) rfl T.d__law_pot.g T.d__law_pot.F.kp T.d__law_pot.b .nil pass0 (pa_cons (pv 0) (pa_cons pe_int pa_nil))) pa_nil)))), body_of h fun ds m P f => ?_⟩
  try dsimp only [cxOf, Cx.nox, Cx.wish, Cx.blk]
  obtain ⟨ns, rfl, rfl, p⟩ := f
  walk_at "dl"
  refine ⟨ns, rfl, rfl, fun a b ok => ?_⟩
  walk_at "dl"
  exact ⟨a, b, rfl, rfl, ok, p⟩
end
end L56
namespace L56
open PySem PySem.Spec PyProof.Rows L2 DL StX KM RM
/-! ### what the top has written -/
section
variable {K : PySem.W.Frag} {mg : Str → Option Value} {h : Heap}
noncomputable def df_mk {x : Str} {st : Stmt} {ps : List Str} {f : Addr} {oc : Value} {od an : Option Addr} {sl : Array (Option Value)} {kV doc pm cdv ct : Value} (X : K.In h) (G : h.Ns mainGlobals mg) (a : PySem.W.nsIn K mainGlobals x = some (some (.ref f)))
    (l : K.lookup f = some ⟨oc, od, .func (PySem.W.fnOf x x (defArgs st) (defBody st) (defScope st) .none kV doc pm an cdv ct), sl⟩) (c : PySem.W.codeIn K cdv x = true) (k : PySem.W.keepIn K (.ref f) = true)
    (hb : ∀ (kV doc pm : Value) (an : Option Addr) (cdv ct : Value) (us : List Value), us.length = ps.length → bindArgs (PySem.W.fnOf x x (defArgs st) (defBody st) (defScope st) .none kV doc pm an cdv ct) ⟨us, []⟩ = pure (ps.zip us)) : Df K mg x st ps where
  f := f
  fd := PySem.W.fnOf x x (defArgs st) (defBody st) (defScope st) .none kV doc pm an cdv ct
  F := fun_mk l c k
  g := PySem.W.mg_of X G a
  b := (fun_mk (st := st) l c k).binds hb
noncomputable def dm_mk {x q : Str} {st : Stmt} {ps : List Str} {f : Addr} {oc : Value} {od an : Option Addr} {sl : Array (Option Value)} {kV doc pm cdv ct : Value}
    (l : K.lookup f = some ⟨oc, od, .func (PySem.W.fnOf x q (defArgs st) (defBody st) (defScope st) .none kV doc pm an cdv ct), sl⟩) (c : PySem.W.codeIn K cdv q = true) (k : PySem.W.keepIn K (.ref f) = true)
    (hb : ∀ (kV doc pm : Value) (an : Option Addr) (cdv ct : Value) (us : List Value), us.length = ps.length → bindArgs (PySem.W.fnOf x q (defArgs st) (defBody st) (defScope st) .none kV doc pm an cdv ct) ⟨us, []⟩ = pure (ps.zip us)) : Dm K x q st ps where
  f := f
  fd := PySem.W.fnOf x q (defArgs st) (defBody st) (defScope st) .none kV doc pm an cdv ct
  F := fun_mk l c k
  b := (fun_mk (st := st) l c k).binds hb
theorem mk_mk {C f : Addr} (a : PySem.W.makesIn K C = true) (b : PySem.W.findIn K (.ref C) "__init__" = some (some (.ref f))) (c : PySem.W.isFn K (.ref f) = true) (d : PySem.W.keepIn K (.ref C) = true) : Mk K C f := ⟨a, b, c, d⟩
theorem prop_mk {C p g : Addr} {f : Str} (a : PySem.W.findIn K (.ref C) f = some (some (.ref p))) (b : PySem.W.specialIn K (.ref p) "__get__" = some (some (.builtin "property.__get__"))) (c : PySem.W.takesIn K (.ref p) = some true)
    {rest : List Value} (d : PySem.W.recIn K p "property" = some (.ref g :: rest)) : PropOf K C f p g := ⟨a, b, c, rest, d⟩
theorem meth_mk {C f : Addr} {m : Str} (a : PySem.W.findIn K (.ref C) m = some (some (.ref f))) (b : PySem.W.isFn K (.ref f) = true) (c : PySem.W.keepIn K (.ref f) = true) : Meth K C m f := ⟨a, b, c⟩
theorem na_mk {C : Addr} {f : Str} (h : PySem.W.findIn K (.ref C) f = some none) : NoAttr K C f := h
theorem oc_mk {C : Addr} (c : Cls K C) (ha : PySem.W.findIn K (.ref C) "__class__" = some (some (.builtin "object.__class__"))) (hn : PySem.W.specialIn K (.builtin "object.__class__") "__get__" = some (some (.builtin "getset_descriptor.__get__")))
    (htk : PySem.W.takesIn K (.builtin "object.__class__") = some true) (hm : PySem.W.mroIn K C (.type "object") = some true) (t1 : PySem.W.kitOne K (.ref C) (.type "int") = some false) (t2 : PySem.W.kitOne K (.ref C) (.type "bool") = some false)
    (t3 : PySem.W.kitOne K (.ref C) (.type "list") = some false) (t4 : PySem.W.kitOne K (.ref C) (.type "tuple") = some false) (t5 : PySem.W.kitOne K (.ref C) (.type "str") = some false) : OC K C :=
  ⟨c, ha, hn, htk, hm, fun T hT => by
    simp only [List.mem_cons, List.not_mem_nil, or_false] at hT
    rcases hT with e | e | e | e | e <;> subst e <;> assumption⟩
theorem hb_is_integer (kV doc pm : Value) (an : Option Addr) (cdv ct : Value) (us : List Value) (hl : us.length = (["value"] : List Str).length) : bindArgs (PySem.W.fnOf "is_integer" "is_integer" (defArgs s_is_integer) (defBody s_is_integer) (defScope s_is_integer) .none kV doc pm an cdv ct) ⟨us, []⟩ = pure ((["value"] : List Str).zip us) := match us, hl with
  | [_], _ => rfl
theorem hb_is_count (kV doc pm : Value) (an : Option Addr) (cdv ct : Value) (us : List Value) (hl : us.length = (["value"] : List Str).length) : bindArgs (PySem.W.fnOf "is_count" "is_count" (defArgs s_is_count) (defBody s_is_count) (defScope s_is_count) .none kV doc pm an cdv ct) ⟨us, []⟩ = pure ((["value"] : List Str).zip us) := match us, hl with
  | [_], _ => rfl
theorem hb_is_below (kV doc pm : Value) (an : Option Addr) (cdv ct : Value) (us : List Value) (hl : us.length = (["value", "bound"] : List Str).length) : bindArgs (PySem.W.fnOf "is_below" "is_below" (defArgs s_is_below) (defBody s_is_below) (defScope s_is_below) .none kV doc pm an cdv ct) ⟨us, []⟩ = pure ((["value", "bound"] : List Str).zip us) := match us, hl with
  | [_, _], _ => rfl
theorem hb_is_list (kV doc pm : Value) (an : Option Addr) (cdv ct : Value) (us : List Value) (hl : us.length = (["value"] : List Str).length) : bindArgs (PySem.W.fnOf "is_list" "is_list" (defArgs s_is_list) (defBody s_is_list) (defScope s_is_list) .none kV doc pm an cdv ct) ⟨us, []⟩ = pure ((["value"] : List Str).zip us) := match us, hl with
  | [_], _ => rfl
theorem hb_is_pair (kV doc pm : Value) (an : Option Addr) (cdv ct : Value) (us : List Value) (hl : us.length = (["value"] : List Str).length) : bindArgs (PySem.W.fnOf "is_pair" "is_pair" (defArgs s_is_pair) (defBody s_is_pair) (defScope s_is_pair) .none kV doc pm an cdv ct) ⟨us, []⟩ = pure ((["value"] : List Str).zip us) := match us, hl with
  | [_], _ => rfl
theorem hb_is_word (kV doc pm : Value) (an : Option Addr) (cdv ct : Value) (us : List Value) (hl : us.length = (["letters", "value"] : List Str).length) : bindArgs (PySem.W.fnOf "is_word" "is_word" (defArgs s_is_word) (defBody s_is_word) (defScope s_is_word) .none kV doc pm an cdv ct) ⟨us, []⟩ = pure ((["letters", "value"] : List Str).zip us) := match us, hl with
  | [_, _], _ => rfl
theorem hb_is_row_of (kV doc pm : Value) (an : Option Addr) (cdv ct : Value) (us : List Value) (hl : us.length = (["letters", "value"] : List Str).length) : bindArgs (PySem.W.fnOf "is_row_of" "is_row_of" (defArgs s_is_row_of) (defBody s_is_row_of) (defScope s_is_row_of) .none kV doc pm an cdv ct) ⟨us, []⟩ = pure ((["letters", "value"] : List Str).zip us) := match us, hl with
  | [_, _], _ => rfl
theorem hb_check_letters (kV doc pm : Value) (an : Option Addr) (cdv ct : Value) (us : List Value) (hl : us.length = (["letters"] : List Str).length) : bindArgs (PySem.W.fnOf "check_letters" "check_letters" (defArgs s_check_letters) (defBody s_check_letters) (defScope s_check_letters) .none kV doc pm an cdv ct) ⟨us, []⟩ = pure ((["letters"] : List Str).zip us) := match us, hl with
  | [_], _ => rfl
theorem hb_check_rooms (kV doc pm : Value) (an : Option Addr) (cdv ct : Value) (us : List Value) (hl : us.length = (["rooms"] : List Str).length) : bindArgs (PySem.W.fnOf "check_rooms" "check_rooms" (defArgs s_check_rooms) (defBody s_check_rooms) (defScope s_check_rooms) .none kV doc pm an cdv ct) ⟨us, []⟩ = pure ((["rooms"] : List Str).zip us) := match us, hl with
  | [_], _ => rfl
theorem hb_check_row (kV doc pm : Value) (an : Option Addr) (cdv ct : Value) (us : List Value) (hl : us.length = (["letters", "row"] : List Str).length) : bindArgs (PySem.W.fnOf "check_row" "check_row" (defArgs s_check_row) (defBody s_check_row) (defScope s_check_row) .none kV doc pm an cdv ct) ⟨us, []⟩ = pure ((["letters", "row"] : List Str).zip us) := match us, hl with
  | [_, _], _ => rfl
theorem hb__is_way (kV doc pm : Value) (an : Option Addr) (cdv ct : Value) (us : List Value) (hl : us.length = (["letters", "rooms", "value"] : List Str).length) : bindArgs (PySem.W.fnOf "_is_way" "_is_way" (defArgs s__is_way) (defBody s__is_way) (defScope s__is_way) .none kV doc pm an cdv ct) ⟨us, []⟩ = pure ((["letters", "rooms", "value"] : List Str).zip us) := match us, hl with
  | [_, _, _], _ => rfl
theorem hb_are_ways (kV doc pm : Value) (an : Option Addr) (cdv ct : Value) (us : List Value) (hl : us.length = (["letters", "rooms", "value"] : List Str).length) : bindArgs (PySem.W.fnOf "are_ways" "are_ways" (defArgs s_are_ways) (defBody s_are_ways) (defScope s_are_ways) .none kV doc pm an cdv ct) ⟨us, []⟩ = pure ((["letters", "rooms", "value"] : List Str).zip us) := match us, hl with
  | [_, _, _], _ => rfl
theorem hb_check_reader (kV doc pm : Value) (an : Option Addr) (cdv ct : Value) (us : List Value) (hl : us.length = (["reader"] : List Str).length) : bindArgs (PySem.W.fnOf "check_reader" "check_reader" (defArgs s_check_reader) (defBody s_check_reader) (defScope s_check_reader) .none kV doc pm an cdv ct) ⟨us, []⟩ = pure ((["reader"] : List Str).zip us) := match us, hl with
  | [_], _ => rfl
theorem hb_is_run (kV doc pm : Value) (an : Option Addr) (cdv ct : Value) (us : List Value) (hl : us.length = (["reader", "row", "value"] : List Str).length) : bindArgs (PySem.W.fnOf "is_run" "is_run" (defArgs s_is_run) (defBody s_is_run) (defScope s_is_run) .none kV doc pm an cdv ct) ⟨us, []⟩ = pure ((["reader", "row", "value"] : List Str).zip us) := match us, hl with
  | [_, _, _], _ => rfl
theorem hb_is_told_run (kV doc pm : Value) (an : Option Addr) (cdv ct : Value) (us : List Value) (hl : us.length = (["reader", "value"] : List Str).length) : bindArgs (PySem.W.fnOf "is_told_run" "is_told_run" (defArgs s_is_told_run) (defBody s_is_told_run) (defScope s_is_told_run) .none kV doc pm an cdv ct) ⟨us, []⟩ = pure ((["reader", "value"] : List Str).zip us) := match us, hl with
  | [_, _], _ => rfl
theorem hb__led (kV doc pm : Value) (an : Option Addr) (cdv ct : Value) (us : List Value) (hl : us.length = (["reader", "room", "numbers"] : List Str).length) : bindArgs (PySem.W.fnOf "_led" "_led" (defArgs s__led) (defBody s__led) (defScope s__led) .none kV doc pm an cdv ct) ⟨us, []⟩ = pure ((["reader", "room", "numbers"] : List Str).zip us) := match us, hl with
  | [_, _, _], _ => rfl
theorem hb_is_table (kV doc pm : Value) (an : Option Addr) (cdv ct : Value) (us : List Value) (hl : us.length = (["reader", "value"] : List Str).length) : bindArgs (PySem.W.fnOf "is_table" "is_table" (defArgs s_is_table) (defBody s_is_table) (defScope s_is_table) .none kV doc pm an cdv ct) ⟨us, []⟩ = pure ((["reader", "value"] : List Str).zip us) := match us, hl with
  | [_, _], _ => rfl
theorem hb_run_by (kV doc pm : Value) (an : Option Addr) (cdv ct : Value) (us : List Value) (hl : us.length = (["reader", "table", "row"] : List Str).length) : bindArgs (PySem.W.fnOf "run_by" "run_by" (defArgs s_run_by) (defBody s_run_by) (defScope s_run_by) .none kV doc pm an cdv ct) ⟨us, []⟩ = pure ((["reader", "table", "row"] : List Str).zip us) := match us, hl with
  | [_, _, _], _ => rfl
theorem hb_keeps (kV doc pm : Value) (an : Option Addr) (cdv ct : Value) (us : List Value) (hl : us.length = (["reader", "table", "row"] : List Str).length) : bindArgs (PySem.W.fnOf "keeps" "keeps" (defArgs s_keeps) (defBody s_keeps) (defScope s_keeps) .none kV doc pm an cdv ct) ⟨us, []⟩ = pure ((["reader", "table", "row"] : List Str).zip us) := match us, hl with
  | [_, _, _], _ => rfl
theorem hb_check_table (kV doc pm : Value) (an : Option Addr) (cdv ct : Value) (us : List Value) (hl : us.length = (["reader", "table"] : List Str).length) : bindArgs (PySem.W.fnOf "check_table" "check_table" (defArgs s_check_table) (defBody s_check_table) (defScope s_check_table) .none kV doc pm an cdv ct) ⟨us, []⟩ = pure ((["reader", "table"] : List Str).zip us) := match us, hl with
  | [_, _], _ => rfl
theorem hb__is_memory (kV doc pm : Value) (an : Option Addr) (cdv ct : Value) (us : List Value) (hl : us.length = (["reader", "memories", "value"] : List Str).length) : bindArgs (PySem.W.fnOf "_is_memory" "_is_memory" (defArgs s__is_memory) (defBody s__is_memory) (defScope s__is_memory) .none kV doc pm an cdv ct) ⟨us, []⟩ = pure ((["reader", "memories", "value"] : List Str).zip us) := match us, hl with
  | [_, _, _], _ => rfl
theorem hb__is_room (kV doc pm : Value) (an : Option Addr) (cdv ct : Value) (us : List Value) (hl : us.length = (["reader", "memories", "room", "value"] : List Str).length) : bindArgs (PySem.W.fnOf "_is_room" "_is_room" (defArgs s__is_room) (defBody s__is_room) (defScope s__is_room) .none kV doc pm an cdv ct) ⟨us, []⟩ = pure ((["reader", "memories", "room", "value"] : List Str).zip us) := match us, hl with
  | [_, _, _, _], _ => rfl
theorem hb__run (kV doc pm : Value) (an : Option Addr) (cdv ct : Value) (us : List Value) (hl : us.length = (["reader", "table", "row"] : List Str).length) : bindArgs (PySem.W.fnOf "_run" "_run" (defArgs s__run) (defBody s__run) (defScope s__run) .none kV doc pm an cdv ct) ⟨us, []⟩ = pure ((["reader", "table", "row"] : List Str).zip us) := match us, hl with
  | [_, _, _], _ => rfl
theorem hb__gone (kV doc pm : Value) (an : Option Addr) (cdv ct : Value) (us : List Value) (hl : us.length = (["reader", "table", "pair", "word"] : List Str).length) : bindArgs (PySem.W.fnOf "_gone" "_gone" (defArgs s__gone) (defBody s__gone) (defScope s__gone) .none kV doc pm an cdv ct) ⟨us, []⟩ = pure ((["reader", "table", "pair", "word"] : List Str).zip us) := match us, hl with
  | [_, _, _, _], _ => rfl
theorem hb__law_pot (kV doc pm : Value) (an : Option Addr) (cdv ct : Value) (us : List Value) (hl : us.length = (["_law_script", "_law_k"] : List Str).length) : bindArgs (PySem.W.fnOf "_law_pot" "_law_pot" (defArgs s__law_pot) (defBody s__law_pot) (defScope s__law_pot) .none kV doc pm an cdv ct) ⟨us, []⟩ = pure ((["_law_script", "_law_k"] : List Str).zip us) := match us, hl with
  | [_, _], _ => rfl
theorem hb__law_draw (kV doc pm : Value) (an : Option Addr) (cdv ct : Value) (us : List Value) (hl : us.length = (["_law_pot_here", "_law_size"] : List Str).length) : bindArgs (PySem.W.fnOf "_law_draw" "_law_draw" (defArgs s__law_draw) (defBody s__law_draw) (defScope s__law_draw) .none kV doc pm an cdv ct) ⟨us, []⟩ = pure ((["_law_pot_here", "_law_size"] : List Str).zip us) := match us, hl with
  | [_, _], _ => rfl
theorem hb__law_pick (kV doc pm : Value) (an : Option Addr) (cdv ct : Value) (us : List Value) (hl : us.length = (["_law_pot_here", "_law_some"] : List Str).length) : bindArgs (PySem.W.fnOf "_law_pick" "_law_pick" (defArgs s__law_pick) (defBody s__law_pick) (defScope s__law_pick) .none kV doc pm an cdv ct) ⟨us, []⟩ = pure ((["_law_pot_here", "_law_some"] : List Str).zip us) := match us, hl with
  | [_, _], _ => rfl
theorem hb__law_world (kV doc pm : Value) (an : Option Addr) (cdv ct : Value) (us : List Value) (hl : us.length = (["_law_pot_here"] : List Str).length) : bindArgs (PySem.W.fnOf "_law_world" "_law_world" (defArgs s__law_world) (defBody s__law_world) (defScope s__law_world) .none kV doc pm an cdv ct) ⟨us, []⟩ = pure ((["_law_pot_here"] : List Str).zip us) := match us, hl with
  | [_], _ => rfl
theorem hb__law_numbers (kV doc pm : Value) (an : Option Addr) (cdv ct : Value) (us : List Value) (hl : us.length = (["_law_world_here", "_law_room", "_law_letter"] : List Str).length) : bindArgs (PySem.W.fnOf "_law_numbers" "_law_numbers" (defArgs s__law_numbers) (defBody s__law_numbers) (defScope s__law_numbers) .none kV doc pm an cdv ct) ⟨us, []⟩ = pure ((["_law_world_here", "_law_room", "_law_letter"] : List Str).zip us) := match us, hl with
  | [_, _, _], _ => rfl
theorem hb__law_letters (kV doc pm : Value) (an : Option Addr) (cdv ct : Value) (us : List Value) (hl : us.length = (["_law_pot_here", "_law_letters_here", "_law_most"] : List Str).length) : bindArgs (PySem.W.fnOf "_law_letters" "_law_letters" (defArgs s__law_letters) (defBody s__law_letters) (defScope s__law_letters) .none kV doc pm an cdv ct) ⟨us, []⟩ = pure ((["_law_pot_here", "_law_letters_here", "_law_most"] : List Str).zip us) := match us, hl with
  | [_, _, _], _ => rfl
theorem hb__law_row (kV doc pm : Value) (an : Option Addr) (cdv ct : Value) (us : List Value) (hl : us.length = (["_law_pot_here", "_law_letters_here", "_law_most"] : List Str).length) : bindArgs (PySem.W.fnOf "_law_row" "_law_row" (defArgs s__law_row) (defBody s__law_row) (defScope s__law_row) .none kV doc pm an cdv ct) ⟨us, []⟩ = pure ((["_law_pot_here", "_law_letters_here", "_law_most"] : List Str).zip us) := match us, hl with
  | [_, _, _], _ => rfl
theorem hb__law_table (kV doc pm : Value) (an : Option Addr) (cdv ct : Value) (us : List Value) (hl : us.length = (["_law_pot_here", "_law_world_here", "_law_most"] : List Str).length) : bindArgs (PySem.W.fnOf "_law_table" "_law_table" (defArgs s__law_table) (defBody s__law_table) (defScope s__law_table) .none kV doc pm an cdv ct) ⟨us, []⟩ = pure ((["_law_pot_here", "_law_world_here", "_law_most"] : List Str).zip us) := match us, hl with
  | [_, _, _], _ => rfl
theorem hb__law_along (kV doc pm : Value) (an : Option Addr) (cdv ct : Value) (us : List Value) (hl : us.length = (["_law_world_here", "_law_table_here", "_law_pair", "_law_letters_here"] : List Str).length) : bindArgs (PySem.W.fnOf "_law_along" "_law_along" (defArgs s__law_along) (defBody s__law_along) (defScope s__law_along) .none kV doc pm an cdv ct) ⟨us, []⟩ = pure ((["_law_world_here", "_law_table_here", "_law_pair", "_law_letters_here"] : List Str).zip us) := match us, hl with
  | [_, _, _, _], _ => rfl
theorem hb__law_run (kV doc pm : Value) (an : Option Addr) (cdv ct : Value) (us : List Value) (hl : us.length = (["_law_world_here", "_law_table_here", "_law_row_here"] : List Str).length) : bindArgs (PySem.W.fnOf "_law_run" "_law_run" (defArgs s__law_run) (defBody s__law_run) (defScope s__law_run) .none kV doc pm an cdv ct) ⟨us, []⟩ = pure ((["_law_world_here", "_law_table_here", "_law_row_here"] : List Str).zip us) := match us, hl with
  | [_, _, _], _ => rfl
theorem hb__law_keeps (kV doc pm : Value) (an : Option Addr) (cdv ct : Value) (us : List Value) (hl : us.length = (["_law_world_here", "_law_table_here", "_law_row_here"] : List Str).length) : bindArgs (PySem.W.fnOf "_law_keeps" "_law_keeps" (defArgs s__law_keeps) (defBody s__law_keeps) (defScope s__law_keeps) .none kV doc pm an cdv ct) ⟨us, []⟩ = pure ((["_law_world_here", "_law_table_here", "_law_row_here"] : List Str).zip us) := match us, hl with
  | [_, _, _], _ => rfl
theorem hb__law_is_count (kV doc pm : Value) (an : Option Addr) (cdv ct : Value) (us : List Value) (hl : us.length = (["_law_value", "_law_most"] : List Str).length) : bindArgs (PySem.W.fnOf "_law_is_count" "_law_is_count" (defArgs s__law_is_count) (defBody s__law_is_count) (defScope s__law_is_count) .none kV doc pm an cdv ct) ⟨us, []⟩ = pure ((["_law_value", "_law_most"] : List Str).zip us) := match us, hl with
  | [_, _], _ => rfl
theorem hb__law_is_table (kV doc pm : Value) (an : Option Addr) (cdv ct : Value) (us : List Value) (hl : us.length = (["_law_world_here", "_law_value"] : List Str).length) : bindArgs (PySem.W.fnOf "_law_is_table" "_law_is_table" (defArgs s__law_is_table) (defBody s__law_is_table) (defScope s__law_is_table) .none kV doc pm an cdv ct) ⟨us, []⟩ = pure ((["_law_world_here", "_law_value"] : List Str).zip us) := match us, hl with
  | [_, _], _ => rfl
theorem hb__law_frozen (kV doc pm : Value) (an : Option Addr) (cdv ct : Value) (us : List Value) (hl : us.length = (["_law_table_here"] : List Str).length) : bindArgs (PySem.W.fnOf "_law_frozen" "_law_frozen" (defArgs s__law_frozen) (defBody s__law_frozen) (defScope s__law_frozen) .none kV doc pm an cdv ct) ⟨us, []⟩ = pure ((["_law_table_here"] : List Str).zip us) := match us, hl with
  | [_], _ => rfl
theorem hb__law_bent (kV doc pm : Value) (an : Option Addr) (cdv ct : Value) (us : List Value) (hl : us.length = (["_law_pot_here", "_law_world_here", "_law_table_here"] : List Str).length) : bindArgs (PySem.W.fnOf "_law_bent" "_law_bent" (defArgs s__law_bent) (defBody s__law_bent) (defScope s__law_bent) .none kV doc pm an cdv ct) ⟨us, []⟩ = pure ((["_law_pot_here", "_law_world_here", "_law_table_here"] : List Str).zip us) := match us, hl with
  | [_, _, _], _ => rfl
theorem hb__law_right (kV doc pm : Value) (an : Option Addr) (cdv ct : Value) (us : List Value) (hl : us.length = (["_law_pot_here"] : List Str).length) : bindArgs (PySem.W.fnOf "_law_right" "_law_right" (defArgs s__law_right) (defBody s__law_right) (defScope s__law_right) .none kV doc pm an cdv ct) ⟨us, []⟩ = pure ((["_law_pot_here"] : List Str).zip us) := match us, hl with
  | [_], _ => rfl
theorem hb_law (kV doc pm : Value) (an : Option Addr) (cdv ct : Value) (us : List Value) (hl : us.length = (["_law_script"] : List Str).length) : bindArgs (PySem.W.fnOf "law" "law" (defArgs s_law) (defBody s_law) (defScope s_law) .none kV doc pm an cdv ct) ⟨us, []⟩ = pure ((["_law_script"] : List Str).zip us) := match us, hl with
  | [_], _ => rfl
theorem hb_Reader___init__ (kV doc pm : Value) (an : Option Addr) (cdv ct : Value) (us : List Value) (hl : us.length = (["self", "letters", "rooms", "ways"] : List Str).length) : bindArgs (PySem.W.fnOf "__init__" "Reader.__init__" (defArgs s_Reader___init__) (defBody s_Reader___init__) (defScope s_Reader___init__) .none kV doc pm an cdv ct) ⟨us, []⟩ = pure ((["self", "letters", "rooms", "ways"] : List Str).zip us) := match us, hl with
  | [_, _, _, _], _ => rfl
theorem hb_Reader_letters (kV doc pm : Value) (an : Option Addr) (cdv ct : Value) (us : List Value) (hl : us.length = (["self"] : List Str).length) : bindArgs (PySem.W.fnOf "letters" "Reader.letters" (defArgs s_Reader_letters) (defBody s_Reader_letters) (defScope s_Reader_letters) .none kV doc pm an cdv ct) ⟨us, []⟩ = pure ((["self"] : List Str).zip us) := match us, hl with
  | [_], _ => rfl
theorem hb_Reader_rooms (kV doc pm : Value) (an : Option Addr) (cdv ct : Value) (us : List Value) (hl : us.length = (["self"] : List Str).length) : bindArgs (PySem.W.fnOf "rooms" "Reader.rooms" (defArgs s_Reader_rooms) (defBody s_Reader_rooms) (defScope s_Reader_rooms) .none kV doc pm an cdv ct) ⟨us, []⟩ = pure ((["self"] : List Str).zip us) := match us, hl with
  | [_], _ => rfl
theorem hb_Reader_many (kV doc pm : Value) (an : Option Addr) (cdv ct : Value) (us : List Value) (hl : us.length = (["self"] : List Str).length) : bindArgs (PySem.W.fnOf "many" "Reader.many" (defArgs s_Reader_many) (defBody s_Reader_many) (defScope s_Reader_many) .none kV doc pm an cdv ct) ⟨us, []⟩ = pure ((["self"] : List Str).zip us) := match us, hl with
  | [_], _ => rfl
theorem hb_Reader_way (kV doc pm : Value) (an : Option Addr) (cdv ct : Value) (us : List Value) (hl : us.length = (["self", "number"] : List Str).length) : bindArgs (PySem.W.fnOf "way" "Reader.way" (defArgs s_Reader_way) (defBody s_Reader_way) (defScope s_Reader_way) .none kV doc pm an cdv ct) ⟨us, []⟩ = pure ((["self", "number"] : List Str).zip us) := match us, hl with
  | [_, _], _ => rfl
noncomputable def all_mk {C_Reader f41 f42 q42 f43 q43 f44 q44 f45 : Addr}
    (g_Reader : mg "Reader" = some (.ref C_Reader))
    (oc_Reader : OC K C_Reader)
    (d0 : Df K mg "is_integer" s_is_integer ["value"])
    (d1 : Df K mg "is_count" s_is_count ["value"])
    (d2 : Df K mg "is_below" s_is_below ["value", "bound"])
    (d3 : Df K mg "is_list" s_is_list ["value"])
    (d4 : Df K mg "is_pair" s_is_pair ["value"])
    (d5 : Df K mg "is_word" s_is_word ["letters", "value"])
    (d6 : Df K mg "is_row_of" s_is_row_of ["letters", "value"])
    (d7 : Df K mg "check_letters" s_check_letters ["letters"])
    (d8 : Df K mg "check_rooms" s_check_rooms ["rooms"])
    (d9 : Df K mg "check_row" s_check_row ["letters", "row"])
    (d10 : Df K mg "_is_way" s__is_way ["letters", "rooms", "value"])
    (d11 : Df K mg "are_ways" s_are_ways ["letters", "rooms", "value"])
    (d12 : Df K mg "check_reader" s_check_reader ["reader"])
    (d13 : Df K mg "is_run" s_is_run ["reader", "row", "value"])
    (d14 : Df K mg "is_told_run" s_is_told_run ["reader", "value"])
    (d15 : Df K mg "_led" s__led ["reader", "room", "numbers"])
    (d16 : Df K mg "is_table" s_is_table ["reader", "value"])
    (d17 : Df K mg "run_by" s_run_by ["reader", "table", "row"])
    (d18 : Df K mg "keeps" s_keeps ["reader", "table", "row"])
    (d19 : Df K mg "check_table" s_check_table ["reader", "table"])
    (d20 : Df K mg "_is_memory" s__is_memory ["reader", "memories", "value"])
    (d21 : Df K mg "_is_room" s__is_room ["reader", "memories", "room", "value"])
    (d22 : Df K mg "_run" s__run ["reader", "table", "row"])
    (d23 : Df K mg "_gone" s__gone ["reader", "table", "pair", "word"])
    (d24 : Df K mg "_law_pot" s__law_pot ["_law_script", "_law_k"])
    (d25 : Df K mg "_law_draw" s__law_draw ["_law_pot_here", "_law_size"])
    (d26 : Df K mg "_law_pick" s__law_pick ["_law_pot_here", "_law_some"])
    (d27 : Df K mg "_law_world" s__law_world ["_law_pot_here"])
    (d28 : Df K mg "_law_numbers" s__law_numbers ["_law_world_here", "_law_room", "_law_letter"])
    (d29 : Df K mg "_law_letters" s__law_letters ["_law_pot_here", "_law_letters_here", "_law_most"])
    (d30 : Df K mg "_law_row" s__law_row ["_law_pot_here", "_law_letters_here", "_law_most"])
    (d31 : Df K mg "_law_table" s__law_table ["_law_pot_here", "_law_world_here", "_law_most"])
    (d32 : Df K mg "_law_along" s__law_along ["_law_world_here", "_law_table_here", "_law_pair", "_law_letters_here"])
    (d33 : Df K mg "_law_run" s__law_run ["_law_world_here", "_law_table_here", "_law_row_here"])
    (d34 : Df K mg "_law_keeps" s__law_keeps ["_law_world_here", "_law_table_here", "_law_row_here"])
    (d35 : Df K mg "_law_is_count" s__law_is_count ["_law_value", "_law_most"])
    (d36 : Df K mg "_law_is_table" s__law_is_table ["_law_world_here", "_law_value"])
    (d37 : Df K mg "_law_frozen" s__law_frozen ["_law_table_here"])
    (d38 : Df K mg "_law_bent" s__law_bent ["_law_pot_here", "_law_world_here", "_law_table_here"])
    (d39 : Df K mg "_law_right" s__law_right ["_law_pot_here"])
    (d40 : Df K mg "law" s_law ["_law_script"])
    {oc41 : Value} {od41 an41 : Option Addr} {sl41 : Array (Option Value)} {kV41 doc41 pm41 cdv41 ct41 : Value} (l41 : K.lookup f41 = some ⟨oc41, od41, .func (PySem.W.fnOf "__init__" "Reader.__init__" (defArgs s_Reader___init__) (defBody s_Reader___init__) (defScope s_Reader___init__) .none kV41 doc41 pm41 an41 cdv41 ct41), sl41⟩) (c41 : PySem.W.codeIn K cdv41 "Reader.__init__" = true) (k41 : PySem.W.keepIn K (.ref f41) = true)
    (m41 : Mk K C_Reader f41)
    {oc42 : Value} {od42 an42 : Option Addr} {sl42 : Array (Option Value)} {kV42 doc42 pm42 cdv42 ct42 : Value} (l42 : K.lookup f42 = some ⟨oc42, od42, .func (PySem.W.fnOf "letters" "Reader.letters" (defArgs s_Reader_letters) (defBody s_Reader_letters) (defScope s_Reader_letters) .none kV42 doc42 pm42 an42 cdv42 ct42), sl42⟩) (c42 : PySem.W.codeIn K cdv42 "Reader.letters" = true) (k42 : PySem.W.keepIn K (.ref f42) = true)
    (m42 : PropOf K C_Reader "letters" q42 f42)
    {oc43 : Value} {od43 an43 : Option Addr} {sl43 : Array (Option Value)} {kV43 doc43 pm43 cdv43 ct43 : Value} (l43 : K.lookup f43 = some ⟨oc43, od43, .func (PySem.W.fnOf "rooms" "Reader.rooms" (defArgs s_Reader_rooms) (defBody s_Reader_rooms) (defScope s_Reader_rooms) .none kV43 doc43 pm43 an43 cdv43 ct43), sl43⟩) (c43 : PySem.W.codeIn K cdv43 "Reader.rooms" = true) (k43 : PySem.W.keepIn K (.ref f43) = true)
    (m43 : PropOf K C_Reader "rooms" q43 f43)
    {oc44 : Value} {od44 an44 : Option Addr} {sl44 : Array (Option Value)} {kV44 doc44 pm44 cdv44 ct44 : Value} (l44 : K.lookup f44 = some ⟨oc44, od44, .func (PySem.W.fnOf "many" "Reader.many" (defArgs s_Reader_many) (defBody s_Reader_many) (defScope s_Reader_many) .none kV44 doc44 pm44 an44 cdv44 ct44), sl44⟩) (c44 : PySem.W.codeIn K cdv44 "Reader.many" = true) (k44 : PySem.W.keepIn K (.ref f44) = true)
    (m44 : PropOf K C_Reader "many" q44 f44)
    {oc45 : Value} {od45 an45 : Option Addr} {sl45 : Array (Option Value)} {kV45 doc45 pm45 cdv45 ct45 : Value} (l45 : K.lookup f45 = some ⟨oc45, od45, .func (PySem.W.fnOf "way" "Reader.way" (defArgs s_Reader_way) (defBody s_Reader_way) (defScope s_Reader_way) .none kV45 doc45 pm45 an45 cdv45 ct45), sl45⟩) (c45 : PySem.W.codeIn K cdv45 "Reader.way" = true) (k45 : PySem.W.keepIn K (.ref f45) = true)
    (m45 : Meth K C_Reader "way" f45)
    (n0 : NoAttr K C_Reader "_letters")
    (n1 : NoAttr K C_Reader "_rooms")
    (n2 : NoAttr K C_Reader "_ways")
    (n3 : NoAttr K C_Reader "_numbers")
    (x0 : ∃ u, mg "LONGEST" = some u ∧ RelV (.int 40) u)
    (x1 : ∃ u, mg "MOST_HEAD" = some u ∧ RelV (.int 520) u)
    (x2 : ∃ u, mg "MOST_LETTERS" = some u ∧ RelV (.int 4) u)
    (x3 : ∃ u, mg "MOST_LOOP" = some u ∧ RelV (.int 480) u)
    (x4 : ∃ u, mg "MOST_MEMORIES" = some u ∧ RelV (.int 60) u)
    (x5 : ∃ u, mg "MOST_ROOMS" = some u ∧ RelV (.int 12) u)
    (x6 : ∃ u, mg "MOST_WAYS" = some u ∧ RelV (.int 96) u)
    (z0 : mg "abs" = none)
    (z1 : mg "all" = none)
    (z2 : mg "bool" = none)
    (z3 : mg "divmod" = none)
    (z4 : mg "enumerate" = none)
    (z5 : mg "int" = none)
    (z6 : mg "isinstance" = none)
    (z7 : mg "len" = none)
    (z8 : mg "list" = none)
    (z9 : mg "max" = none)
    (z10 : mg "range" = none)
    (z11 : mg "repr" = none)
    (z12 : mg "set" = none)
    (z13 : mg "sorted" = none)
    (z14 : mg "tuple" = none)
    (z15 : mg "zip" = none)
    (kcReader : PySem.W.kitOne K (.ref C_Reader) (.ref C_Reader) = some true) : All K mg :=
  All.mk C_Reader g_Reader oc_Reader d0 d1 d2 d3 d4 d5 d6 d7 d8 d9 d10 d11 d12 d13 d14 d15 d16 d17 d18 d19 d20 d21 d22 d23 d24 d25 d26 d27 d28 d29 d30 d31 d32 d33 d34 d35 d36 d37 d38 d39 d40 (dm_mk l41 c41 k41 hb_Reader___init__) m41 (dm_mk l42 c42 k42 hb_Reader_letters) q42 m42 (dm_mk l43 c43 k43 hb_Reader_rooms) q43 m43 (dm_mk l44 c44 k44 hb_Reader_many) q44 m44 (dm_mk l45 c45 k45 hb_Reader_way) m45 n0 n1 n2 n3 x0 x1 x2 x3 x4 x5 x6 z0 z1 z2 z3 z4 z5 z6 z7 z8 z9 z10 z11 z12 z13 z14 z15 kcReader
theorem fin {P : Program} {w : World} {fa : Addr} (T : All K mg) (hfa : mg "law" = some (.ref fa)) :
    ∃ fd : FuncData, (∀ (s : Shared) (u : Value), BindsTo s fd ⟨[u], []⟩ [("_law_script", u)]) ∧ ∀ base : Heap, K.In base → base.Ns mainGlobals mg → FnG P w K mg base 11 fa fd ["_law_script"] (spD K f_law) := by
  have e := hfa.symm.trans T.d_law.g
  cases e
  refine ⟨T.d_law.fd, fun s u => ?_, fun base _ _ => (ok_law T)⟩
  obtain ⟨oc, od, kV, doc, pm, an, cdv, ct, osl, e, lk, hcd⟩ := T.d_law.F.ex
  rw [e]
  exact .of_eq rfl
end
end L56
open PySem PySem.W PyProof.Rows in
set_option maxRecDepth 100000 in
set_option maxHeartbeats 0 in
theorem PySem.Challenge.cw_tworivals_k56_whole_runs_of_tables_holds : PySem.Challenge.rw_tworivals_k56_whole_runs_of_tables.Holds := by
  w_on; o_law; k_head; (case hw => w_witness2)
  k_fill
  refine DL.walkG (l := PySem.Challenge.rw_tworivals_k56_whole_runs_of_tables) (n := 63) (k := 11) (F0 := fun _ => L56.f_law) (x := "_law_script") rfl (by decide) rfl ⟨rfl, by decide, by decide⟩ (fun w h Y => PySem.W.kIn_of Y) ?F (fun K ns _ => ⟨ns, rfl, rfl, fun _ => rfl⟩)
  case F =>
    intro w mg fa h KX G hmg
    refine' L56.fin (L56.all_mk
      (PySem.W.mg_of KX G ?CReader)
      (L56.oc_mk ⟨?oReader0, ?oReader1, ?oReader2, ?oReader3⟩ ?oReader4 ?oReader5 ?oReader6 ?oReader7 ?oReader8 ?oReader9 ?oReader10 ?oReader11 ?oReader12)
      (L56.df_mk KX G ?a0 ?l0 ?c0 ?k0 L56.hb_is_integer)
      (L56.df_mk KX G ?a1 ?l1 ?c1 ?k1 L56.hb_is_count)
      (L56.df_mk KX G ?a2 ?l2 ?c2 ?k2 L56.hb_is_below)
      (L56.df_mk KX G ?a3 ?l3 ?c3 ?k3 L56.hb_is_list)
      (L56.df_mk KX G ?a4 ?l4 ?c4 ?k4 L56.hb_is_pair)
      (L56.df_mk KX G ?a5 ?l5 ?c5 ?k5 L56.hb_is_word)
      (L56.df_mk KX G ?a6 ?l6 ?c6 ?k6 L56.hb_is_row_of)
      (L56.df_mk KX G ?a7 ?l7 ?c7 ?k7 L56.hb_check_letters)
      (L56.df_mk KX G ?a8 ?l8 ?c8 ?k8 L56.hb_check_rooms)
      (L56.df_mk KX G ?a9 ?l9 ?c9 ?k9 L56.hb_check_row)
      (L56.df_mk KX G ?a10 ?l10 ?c10 ?k10 L56.hb__is_way)
      (L56.df_mk KX G ?a11 ?l11 ?c11 ?k11 L56.hb_are_ways)
      (L56.df_mk KX G ?a12 ?l12 ?c12 ?k12 L56.hb_check_reader)
      (L56.df_mk KX G ?a13 ?l13 ?c13 ?k13 L56.hb_is_run)
      (L56.df_mk KX G ?a14 ?l14 ?c14 ?k14 L56.hb_is_told_run)
      (L56.df_mk KX G ?a15 ?l15 ?c15 ?k15 L56.hb__led)
      (L56.df_mk KX G ?a16 ?l16 ?c16 ?k16 L56.hb_is_table)
      (L56.df_mk KX G ?a17 ?l17 ?c17 ?k17 L56.hb_run_by)
      (L56.df_mk KX G ?a18 ?l18 ?c18 ?k18 L56.hb_keeps)
      (L56.df_mk KX G ?a19 ?l19 ?c19 ?k19 L56.hb_check_table)
      (L56.df_mk KX G ?a20 ?l20 ?c20 ?k20 L56.hb__is_memory)
      (L56.df_mk KX G ?a21 ?l21 ?c21 ?k21 L56.hb__is_room)
      (L56.df_mk KX G ?a22 ?l22 ?c22 ?k22 L56.hb__run)
      (L56.df_mk KX G ?a23 ?l23 ?c23 ?k23 L56.hb__gone)
      (L56.df_mk KX G ?a24 ?l24 ?c24 ?k24 L56.hb__law_pot)
      (L56.df_mk KX G ?a25 ?l25 ?c25 ?k25 L56.hb__law_draw)
      (L56.df_mk KX G ?a26 ?l26 ?c26 ?k26 L56.hb__law_pick)
      (L56.df_mk KX G ?a27 ?l27 ?c27 ?k27 L56.hb__law_world)
      (L56.df_mk KX G ?a28 ?l28 ?c28 ?k28 L56.hb__law_numbers)
      (L56.df_mk KX G ?a29 ?l29 ?c29 ?k29 L56.hb__law_letters)
      (L56.df_mk KX G ?a30 ?l30 ?c30 ?k30 L56.hb__law_row)
      (L56.df_mk KX G ?a31 ?l31 ?c31 ?k31 L56.hb__law_table)
      (L56.df_mk KX G ?a32 ?l32 ?c32 ?k32 L56.hb__law_along)
      (L56.df_mk KX G ?a33 ?l33 ?c33 ?k33 L56.hb__law_run)
      (L56.df_mk KX G ?a34 ?l34 ?c34 ?k34 L56.hb__law_keeps)
      (L56.df_mk KX G ?a35 ?l35 ?c35 ?k35 L56.hb__law_is_count)
      (L56.df_mk KX G ?a36 ?l36 ?c36 ?k36 L56.hb__law_is_table)
      (L56.df_mk KX G ?a37 ?l37 ?c37 ?k37 L56.hb__law_frozen)
      (L56.df_mk KX G ?a38 ?l38 ?c38 ?k38 L56.hb__law_bent)
      (L56.df_mk KX G ?a39 ?l39 ?c39 ?k39 L56.hb__law_right)
      (L56.df_mk KX G ?a40 ?l40 ?c40 ?k40 L56.hb_law)
      ?l41 ?c41 ?k41
      (L56.mk_mk ?ma41 ?mb41 ?mc41 ?md41)
      ?l42 ?c42 ?k42
      (L56.prop_mk ?pa42 ?pb42 ?pc42 ?pd42)
      ?l43 ?c43 ?k43
      (L56.prop_mk ?pa43 ?pb43 ?pc43 ?pd43)
      ?l44 ?c44 ?k44
      (L56.prop_mk ?pa44 ?pb44 ?pc44 ?pd44)
      ?l45 ?c45 ?k45
      (L56.meth_mk ?ea45 ?eb45 ?ec45)
      (L56.na_mk ?n0)
      (L56.na_mk ?n1)
      (L56.na_mk ?n2)
      (L56.na_mk ?n3)
      ⟨_, PySem.W.mg_of KX G ?x0, ?y0⟩
      ⟨_, PySem.W.mg_of KX G ?x1, ?y1⟩
      ⟨_, PySem.W.mg_of KX G ?x2, ?y2⟩
      ⟨_, PySem.W.mg_of KX G ?x3, ?y3⟩
      ⟨_, PySem.W.mg_of KX G ?x4, ?y4⟩
      ⟨_, PySem.W.mg_of KX G ?x5, ?y5⟩
      ⟨_, PySem.W.mg_of KX G ?x6, ?y6⟩
      (PySem.W.mg_none_of KX G ?z0)
      (PySem.W.mg_none_of KX G ?z1)
      (PySem.W.mg_none_of KX G ?z2)
      (PySem.W.mg_none_of KX G ?z3)
      (PySem.W.mg_none_of KX G ?z4)
      (PySem.W.mg_none_of KX G ?z5)
      (PySem.W.mg_none_of KX G ?z6)
      (PySem.W.mg_none_of KX G ?z7)
      (PySem.W.mg_none_of KX G ?z8)
      (PySem.W.mg_none_of KX G ?z9)
      (PySem.W.mg_none_of KX G ?z10)
      (PySem.W.mg_none_of KX G ?z11)
      (PySem.W.mg_none_of KX G ?z12)
      (PySem.W.mg_none_of KX G ?z13)
      (PySem.W.mg_none_of KX G ?z14)
      (PySem.W.mg_none_of KX G ?z15)
      ?kcReader) hmg
    (case CReader => k_is)
    (case a0 => k_is)
    (case a1 => k_is)
    (case a2 => k_is)
    (case a3 => k_is)
    (case a4 => k_is)
    (case a5 => k_is)
    (case a6 => k_is)
    (case a7 => k_is)
    (case a8 => k_is)
    (case a9 => k_is)
    (case a10 => k_is)
    (case a11 => k_is)
    (case a12 => k_is)
    (case a13 => k_is)
    (case a14 => k_is)
    (case a15 => k_is)
    (case a16 => k_is)
    (case a17 => k_is)
    (case a18 => k_is)
    (case a19 => k_is)
    (case a20 => k_is)
    (case a21 => k_is)
    (case a22 => k_is)
    (case a23 => k_is)
    (case a24 => k_is)
    (case a25 => k_is)
    (case a26 => k_is)
    (case a27 => k_is)
    (case a28 => k_is)
    (case a29 => k_is)
    (case a30 => k_is)
    (case a31 => k_is)
    (case a32 => k_is)
    (case a33 => k_is)
    (case a34 => k_is)
    (case a35 => k_is)
    (case a36 => k_is)
    (case a37 => k_is)
    (case a38 => k_is)
    (case a39 => k_is)
    (case a40 => k_is)
    (case mb41 => k_is)
    (case pa42 => k_is)
    (case pd42 => k_is)
    (case pa43 => k_is)
    (case pd43 => k_is)
    (case pa44 => k_is)
    (case pd44 => k_is)
    (case ea45 => k_is)
    (case oReader0 => k_is)
    (case oReader1 => k_is)
    (case oReader2 => k_is)
    (case oReader3 => k_is)
    (case oReader4 => k_is)
    (case oReader5 => k_is)
    (case oReader6 => k_is)
    (case oReader7 => k_is)
    (case oReader8 => kit_is)
    (case oReader9 => kit_is)
    (case oReader10 => kit_is)
    (case oReader11 => kit_is)
    (case oReader12 => kit_is)
    (case l0 => k_is)
    (case c0 => k_is)
    (case k0 => k_is)
    (case l1 => k_is)
    (case c1 => k_is)
    (case k1 => k_is)
    (case l2 => k_is)
    (case c2 => k_is)
    (case k2 => k_is)
    (case l3 => k_is)
    (case c3 => k_is)
    (case k3 => k_is)
    (case l4 => k_is)
    (case c4 => k_is)
    (case k4 => k_is)
    (case l5 => k_is)
    (case c5 => k_is)
    (case k5 => k_is)
    (case l6 => k_is)
    (case c6 => k_is)
    (case k6 => k_is)
    (case l7 => k_is)
    (case c7 => k_is)
    (case k7 => k_is)
    (case l8 => k_is)
    (case c8 => k_is)
    (case k8 => k_is)
    (case l9 => k_is)
    (case c9 => k_is)
    (case k9 => k_is)
    (case l10 => k_is)
    (case c10 => k_is)
    (case k10 => k_is)
    (case l11 => k_is)
    (case c11 => k_is)
    (case k11 => k_is)
    (case l12 => k_is)
    (case c12 => k_is)
    (case k12 => k_is)
    (case l13 => k_is)
    (case c13 => k_is)
    (case k13 => k_is)
    (case l14 => k_is)
    (case c14 => k_is)
    (case k14 => k_is)
    (case l15 => k_is)
    (case c15 => k_is)
    (case k15 => k_is)
    (case l16 => k_is)
    (case c16 => k_is)
    (case k16 => k_is)
    (case l17 => k_is)
    (case c17 => k_is)
    (case k17 => k_is)
    (case l18 => k_is)
    (case c18 => k_is)
    (case k18 => k_is)
    (case l19 => k_is)
    (case c19 => k_is)
    (case k19 => k_is)
    (case l20 => k_is)
    (case c20 => k_is)
    (case k20 => k_is)
    (case l21 => k_is)
    (case c21 => k_is)
    (case k21 => k_is)
    (case l22 => k_is)
    (case c22 => k_is)
    (case k22 => k_is)
    (case l23 => k_is)
    (case c23 => k_is)
    (case k23 => k_is)
    (case l24 => k_is)
    (case c24 => k_is)
    (case k24 => k_is)
    (case l25 => k_is)
    (case c25 => k_is)
    (case k25 => k_is)
    (case l26 => k_is)
    (case c26 => k_is)
    (case k26 => k_is)
    (case l27 => k_is)
    (case c27 => k_is)
    (case k27 => k_is)
    (case l28 => k_is)
    (case c28 => k_is)
    (case k28 => k_is)
    (case l29 => k_is)
    (case c29 => k_is)
    (case k29 => k_is)
    (case l30 => k_is)
    (case c30 => k_is)
    (case k30 => k_is)
    (case l31 => k_is)
    (case c31 => k_is)
    (case k31 => k_is)
    (case l32 => k_is)
    (case c32 => k_is)
    (case k32 => k_is)
    (case l33 => k_is)
    (case c33 => k_is)
    (case k33 => k_is)
    (case l34 => k_is)
    (case c34 => k_is)
    (case k34 => k_is)
    (case l35 => k_is)
    (case c35 => k_is)
    (case k35 => k_is)
    (case l36 => k_is)
    (case c36 => k_is)
    (case k36 => k_is)
    (case l37 => k_is)
    (case c37 => k_is)
    (case k37 => k_is)
    (case l38 => k_is)
    (case c38 => k_is)
    (case k38 => k_is)
    (case l39 => k_is)
    (case c39 => k_is)
    (case k39 => k_is)
    (case l40 => k_is)
    (case c40 => k_is)
    (case k40 => k_is)
    (case ma41 => k_is)
    (case mc41 => k_is)
    (case md41 => k_is)
    (case l41 => k_is)
    (case c41 => k_is)
    (case k41 => k_is)
    (case pb42 => k_is)
    (case pc42 => k_is)
    (case l42 => k_is)
    (case c42 => k_is)
    (case k42 => k_is)
    (case pb43 => k_is)
    (case pc43 => k_is)
    (case l43 => k_is)
    (case c43 => k_is)
    (case k43 => k_is)
    (case pb44 => k_is)
    (case pc44 => k_is)
    (case l44 => k_is)
    (case c44 => k_is)
    (case k44 => k_is)
    (case eb45 => k_is)
    (case ec45 => k_is)
    (case l45 => k_is)
    (case c45 => k_is)
    (case k45 => k_is)
    (case n0 => k_is)
    (case n1 => k_is)
    (case n2 => k_is)
    (case n3 => k_is)
    (case x0 => k_is)
    (case y0 => exact ⟨_, rfl⟩)
    (case x1 => k_is)
    (case y1 => exact ⟨_, rfl⟩)
    (case x2 => k_is)
    (case y2 => exact ⟨_, rfl⟩)
    (case x3 => k_is)
    (case y3 => exact ⟨_, rfl⟩)
    (case x4 => k_is)
    (case y4 => exact ⟨_, rfl⟩)
    (case x5 => k_is)
    (case y5 => exact ⟨_, rfl⟩)
    (case x6 => k_is)
    (case y6 => exact ⟨_, rfl⟩)
    (case z0 => k_is)
    (case z1 => k_is)
    (case z2 => k_is)
    (case z3 => k_is)
    (case z4 => k_is)
    (case z5 => k_is)
    (case z6 => k_is)
    (case z7 => k_is)
    (case z8 => k_is)
    (case z9 => k_is)
    (case z10 => k_is)
    (case z11 => k_is)
    (case z12 => k_is)
    (case z13 => k_is)
    (case z14 => k_is)
    (case z15 => k_is)
    (case kcReader => kit_is)
