import PyProof.Rows.All
import Wide.All
import OpenK.AllK
import Wide.FinOn
import HandS.ForMost
import HandS.TupAny
import HandS.TupMul
import HandS.TupLe
import HandS.IsInst
import HandS.Nested
import PyProof.ListMulRoad
import PyProof.FactsAll.tuple_2
import HandS.Defaults
import HandS.ExcInit
import HandS.ExcField
import HandS.TryMany
import HandS.ExcIs
import HandS.Star
import HandS.Walk
import HandS.RaiseMore
import HandS.Deep
import HandS.Small
import HandS.Property
import PyProof.ReprRoads
import KE.GoesMore
import PyProof.EnumMake
import HandS.Codes
import HandS.Zip
import HandS.ExcCtx
import HandS.HotCalls
import HandS.Hot
import HandS.WordsExc
import KE.KExcInit
import HandS.FStr
import HandS.NamedTupSort
import HandS.SortRule
import HandS.EndOwn
import KE.KExcIs
import KE.KExcLine
import PySem.Challenge.RW_tworivals_k12_whole_words_ahead_and_rows
set_option Elab.async false
set_option linter.all false
set_option maxRecDepth 100000
set_option maxHeartbeats 8000000
namespace DL
open PySem L2 LamX NdefX

/-! ### values as data -/
inductive Dat where
  | non | bl (b : Bool) | int (i : Int) | str (x : Str) | tup (xs : List Dat) | lst (xs : List Dat) | cell (k : Nat)
  | dct (ks : List (List L2.Key)) (xs : List Dat) | obj (C : Nat) (xs : List Dat)
  | dcell (k : Nat) | dst (ks : List (List L2.Key)) (xs : List Dat) | key (l : List Int)
  | clo (l : Nat) (ks : List (Nat × Nat)) | fn (i : Nat) | tb (i : Nat)
abbrev As := List (Option Addr)
abbrev Mu := List (Option (List Dat))
abbrev Ro := List (Option Dat)
def hid (A : As) (H : Hp) : Hp := fun b => if some b ∈ A then none else H b
theorem hid_of {A : As} {H : Hp} {b : Addr} {o : HO} (h : hid A H b = some o) : H b = some o ∧ some b ∉ A := by
  unfold hid at h
  by_cases c : some b ∈ A
  · rw [if_pos c] at h; cases h
  · rw [if_neg c] at h; exact ⟨h, c⟩
theorem hid_to {A : As} {H : Hp} {b : Addr} {o : HO} (h : H b = some o) (c : some b ∉ A) : hid A H b = some o := by
  unfold hid; rw [if_neg c]; exact h
/-- what is asked of an own class -/
structure OC (K : PySem.W.Frag) (C : Addr) : Prop where
  cls : Cls K C
  ha : PySem.W.findIn K (.ref C) "__class__" = some (some (.builtin "object.__class__"))
  hn : PySem.W.specialIn K (.builtin "object.__class__") "__get__" = some (some (.builtin "getset_descriptor.__get__"))
  htk : PySem.W.takesIn K (.builtin "object.__class__") = some true
  hm : PySem.W.mroIn K C (.type "object") = some true
  kit : ∀ T ∈ ["int", "bool", "list", "tuple", "str", "dict"], PySem.W.kitOne K (.ref C) (.type T) = some false
/-- a function's text: an expression's, a suite's -/
inductive FBody where
  | ex (e : Expr) | st (b : List Stmt)
/-- what the text says of a function that is made while a def runs: fr its captured names -/
structure LamT where
  name : Str
  qual : Str
  params : Arguments
  body : FBody
  scope : Scope
  ps : List Str
  fr : List Str
/-- the program's facts; C: the captured cells' addresses, level by level -/
structure Gm where
  K : PySem.W.Frag
  lam : Nat → Option LamT
  cls : Nat → Addr
  fn : Nat → Addr
  tab : Nat → Option NTab
  T : List (Addr × Str)
  C : List (List Addr)
  flds : Nat → List Str
  xfl : Nat → List Str
instance : Coe Gm PySem.W.Frag := ⟨Gm.K⟩
def FBody.fd (b : FBody) (L : LamT) (cl : List (Str × Addr)) (c : Addr) (doc pm ctv : Value) : FuncData := match b with
  | .ex e => PySem.W.kla_fn L.name L.qual L.params e L.scope cl pm (.ref c) ctv
  | .st s => PySem.W.fnX L.name L.qual L.params s L.scope cl .none .none doc pm none (.ref c) ctv
/-- the object at f is the function of the text L, with the captured cells cl -/
def FkO (f : Addr) (L : LamT) (cl : List (Str × Addr)) (c : Addr) : HO := .ext fun h => ∃ (od : Option Addr) (sl : Array (Option Value)) (doc pm ctv : Value), h.get? f = some (⟨.type "function", od, .func (L.body.fd L cl c doc pm ctv), sl⟩ : Obj)
structure Capt (C : List (List Addr)) (cl : List (Str × Addr)) (fr : List Str) (ks : List (Nat × Nat)) : Prop where
  len : ks.length = fr.length
  at_ : ∀ (i : Nat) (y : Str) (k : Nat × Nat), fr[i]? = some y → ks[i]? = some k → ∃ c, cl.lookup y = some c ∧ (C[k.1]?.bind fun r => r[k.2]?) = some c
  all : ∀ (y : Str) (c : Addr), cl.lookup y = some c → y ∈ fr
  inj : ∀ (x y : Str) (c : Addr), cl.lookup x = some c → cl.lookup y = some c → x = y
mutual
inductive Dn (K : Gm) (A : As) (H : Hp) : V → Dat → Prop
  | non : Dn K A H .non .non
  | bl (b : Bool) : Dn K A H (.bl b) (.bl b)
  | int (i : Int) : Dn K A H (.int i) (.int i)
  | str (x : Str) : Dn K A H (.str x) (.str x)
  | tup {a : Addr} {xs : List V} {ds : List Dat} : SqT K (hid A H) a xs → Dns K A H xs ds → Dn K A H (.ref a) (.tup ds)
  | lst {a : Addr} {xs : List V} {ds : List Dat} : SqL K (hid A H) a xs → Dns K A H xs ds → Dn K A H (.ref a) (.lst ds)
  | cell {a : Addr} {k : Nat} : A[k]? = some (some a) → (∃ xs, H a = some (.lst xs)) → Dn K A H (.ref a) (.cell k)
  | dcell {a : Addr} {k : Nat} : A[k]? = some (some a) → (∃ kvs, H a = some (.dT kvs)) → Dn K A H (.ref a) (.dcell k)
  | dead {a : Addr} {k : Nat} : A[k]? = some none → Dn K A H (.ref a) (.cell k)
  | deadD {a : Addr} {k : Nat} : A[k]? = some none → Dn K A H (.ref a) (.dcell k)
  | key {a : Addr} {l : List Int} : hid A H a = some (.tup (l.map V.int)) → Dn K A H (.ref a) (.key l)
  | dct {a : Addr} {kvs : List (List L2.Key × V)} {ds : List Dat} : hid A H a = some (.dT kvs) → Dns K A H (kvs.map (·.2)) ds → Dn K A H (.ref a) (.dct (kvs.map (·.1)) ds)
  | obj {a dx : Addr} {C : Nat} {fs : List (Str × V)} {ds : List Dat} : OC K (K.cls C) → fs.map (·.1) = K.flds C → hid A H a = some (.ins (K.cls C) dx fs) → Dns K A H (fs.map (·.2)) ds → Dn K A H (.ref a) (.obj C ds)
  | clo {f c : Addr} {l : Nat} {ks : List (Nat × Nat)} {L : LamT} {cl : List (Str × Addr)} : K.lam l = some L → Capt K.C cl L.fr ks → hid A H f = some (FkO f L cl c) → hid A H c = some (CodeO c L.qual) → Dn K A H (.ref f) (.clo l ks)
  | fn (i : Nat) : Dn K A H (.ref (K.fn i)) (.fn i)
inductive Dns (K : Gm) (A : As) (H : Hp) : List V → List Dat → Prop
  | nil : Dns K A H [] []
  | cons {v : V} {vs : List V} {d : Dat} {ds : List Dat} : Dn K A H v d → Dns K A H vs ds → Dns K A H (v :: vs) (d :: ds)
end
structure Ext (A : As) (H : Hp) (A' : As) (H' : Hp) : Prop where
  keep : ∀ a o, hid A H a = some o → (∀ ps, o ≠ .tbl ps) → hid A' H' a = some o
  cells : ∀ (k : Nat) (o : Option Addr), A[k]? = some o → A'[k]? = some o ∨ A'[k]? = some none
  kl : ∀ (k : Nat) (a : Addr), A[k]? = some (some a) → A'[k]? = some (some a) → (∃ xs, H a = some (.lst xs)) → ∃ xs, H' a = some (.lst xs)
  kd : ∀ (k : Nat) (a : Addr), A[k]? = some (some a) → A'[k]? = some (some a) → (∃ kvs, H a = some (.dT kvs)) → ∃ kvs, H' a = some (.dT kvs)
theorem fkO_ne {f c : Addr} {L : LamT} {cl : List (Str × Addr)} (ps : Array Value) : FkO f L cl c ≠ .tbl ps := fun z => by
  unfold FkO at z
  cases z
theorem Ext.refl (A : As) (H : Hp) : Ext A H A H := ⟨fun _ _ h _ => h, fun _ _ h => .inl h, fun _ _ _ _ h => h, fun _ _ _ _ h => h⟩
theorem Ext.mid {A A1 A2 : As} {H H1 H2 : Hp} (x : Ext A H A1 H1) (y : Ext A1 H1 A2 H2) {k : Nat} {a : Addr} (h : A[k]? = some (some a)) (g : A2[k]? = some (some a)) : A1[k]? = some (some a) := by
  rcases x.cells k _ h with q | q
  · exact q
  · rcases y.cells k _ q with z | z <;> (rw [g] at z; cases z)
theorem Ext.trans {A A1 A2 : As} {H H1 H2 : Hp} (x : Ext A H A1 H1) (y : Ext A1 H1 A2 H2) : Ext A H A2 H2 := ⟨fun a o h n => y.keep a o (x.keep a o h n) n, fun k a h => by
  rcases x.cells k a h with q | q
  · exact y.cells k a q
  · rcases y.cells k _ q with z | z <;> exact .inr z, fun k a h g l => y.kl k a (x.mid y h g) g (x.kl k a h (x.mid y h g) l), fun k a h g l => y.kd k a (x.mid y h g) g (x.kd k a h (x.mid y h g) l)⟩
theorem Ext.rd {A A' : As} {H H' : Hp} (e : Ext A H A' H') {a : Addr} {u : HO} (n : ∀ ps, u ≠ .tbl ps) (h : Rd (hid A H) a u) : Rd (hid A' H') a u := by
  rcases h with h | ⟨o, h⟩
  · exact Or.inl (e.keep a _ h n)
  · exact Or.inr ⟨o, e.keep a _ h (fun _ z => nomatch z)⟩
theorem Ext.sqL {K : Gm} {A A' : As} {H H' : Hp} (e : Ext A H A' H') {a : Addr} {xs : List V} (h : SqL K (hid A H) a xs) : SqL K (hid A' H') a xs := by
  rcases h with h | h
  · exact Or.inl (e.rd (fun _ z => nomatch z) h)
  · exact Or.inr h
theorem Ext.sqT {K : Gm} {A A' : As} {H H' : Hp} (e : Ext A H A' H') {a : Addr} {xs : List V} (h : SqT K (hid A H) a xs) : SqT K (hid A' H') a xs := by
  rcases h with h | h
  · exact Or.inl (e.rd (fun _ z => nomatch z) h)
  · exact Or.inr h
mutual
theorem Dn.mono {K : Gm} {A A' : As} {H H' : Hp} (e : Ext A H A' H') : ∀ {v : V} {d : Dat}, Dn K A H v d → Dn K A' H' v d
  | _, _, .non => .non
  | _, _, .bl b => .bl b
  | _, _, .int i => .int i
  | _, _, .str x => .str x
  | _, _, .tup h t => .tup (e.sqT h) (Dns.mono e t)
  | _, _, .lst h t => .lst (e.sqL h) (Dns.mono e t)
  | _, _, .cell h l => (e.cells _ _ h).elim (fun q => .cell q (e.kl _ _ h q l)) .dead
  | _, _, .dcell h l => (e.cells _ _ h).elim (fun q => .dcell q (e.kd _ _ h q l)) .deadD
  | _, _, .dead h => (e.cells _ _ h).elim .dead .dead
  | _, _, .deadD h => (e.cells _ _ h).elim .deadD .deadD
  | _, _, .key h => .key (e.keep _ _ h (fun _ z => nomatch z))
  | _, _, .dct h t => .dct (e.keep _ _ h (fun _ z => nomatch z)) (Dns.mono e t)
  | _, _, .obj c f h t => .obj c f (e.keep _ _ h (fun _ z => nomatch z)) (Dns.mono e t)
  | _, _, .clo l q h g => .clo l q (e.keep _ _ h fkO_ne) (e.keep _ _ g LamX.codeO_ne)
  | _, _, .fn i => .fn i
theorem Dns.mono {K : Gm} {A A' : As} {H H' : Hp} (e : Ext A H A' H') : ∀ {vs : List V} {ds : List Dat}, Dns K A H vs ds → Dns K A' H' vs ds
  | _, _, .nil => .nil
  | _, _, .cons h t => .cons (Dn.mono e h) (Dns.mono e t)
end
theorem Dns.length {K : Gm} {A : As} {H : Hp} : ∀ {vs : List V} {ds : List Dat}, Dns K A H vs ds → vs.length = ds.length
  | _, _, .nil => rfl
  | _, _, .cons _ t => by rw [List.length_cons, List.length_cons, Dns.length t]
theorem Dns.get {K : Gm} {A : As} {H : Hp} : ∀ {vs : List V} {ds : List Dat} {i : Nat} {d : Dat}, Dns K A H vs ds → ds[i]? = some d → ∃ v, vs[i]? = some v ∧ Dn K A H v d
  | _, _, _, _, .nil, e => by simp at e
  | _, _, 0, _, .cons r _, e => by simp at e; subst e; exact ⟨_, rfl, r⟩
  | _, _, i + 1, x, .cons _ t, e => by
    obtain ⟨u, h1, h2⟩ := Dns.get (i := i) (d := x) t (by simpa using e)
    exact ⟨u, by simpa using h1, h2⟩
theorem Dns.getV {K : Gm} {A : As} {H : Hp} {vs : List V} {ds : List Dat} {i : Nat} {v : V} (h : Dns K A H vs ds) (e : vs[i]? = some v) : ∃ d, ds[i]? = some d ∧ Dn K A H v d := by
  have hl := h.length
  have hi : i < ds.length := by rw [← hl]; exact (List.getElem?_eq_some_iff.mp e).1
  obtain ⟨u, h1, h2⟩ := h.get (i := i) (d := ds[i]) (by simp [hi])
  rw [e] at h1; cases h1
  exact ⟨_, by simp [hi], h2⟩
theorem Dns.append {K : Gm} {A : As} {H : Hp} : ∀ {vs ws : List V} {ds es : List Dat}, Dns K A H vs ds → Dns K A H ws es → Dns K A H (vs ++ ws) (ds ++ es)
  | _, _, _, _, .nil, h => h
  | _, _, _, _, .cons a t, h => .cons a (Dns.append t h)
theorem Dns.take {K : Gm} {A : As} {H : Hp} : ∀ (n : Nat) {vs : List V} {ds : List Dat}, Dns K A H vs ds → Dns K A H (vs.take n) (ds.take n)
  | 0, _, _, _ => .nil
  | _ + 1, _, _, .nil => .nil
  | n + 1, _, _, .cons a t => .cons a (Dns.take n t)
theorem Dns.drop {K : Gm} {A : As} {H : Hp} : ∀ (n : Nat) {vs : List V} {ds : List Dat}, Dns K A H vs ds → Dns K A H (vs.drop n) (ds.drop n)
  | 0, _, _, h => h
  | _ + 1, _, _, .nil => .nil
  | n + 1, _, _, .cons _ t => Dns.drop n t
theorem Dns.set {K : Gm} {A : As} {H : Hp} {v : V} {d : Dat} (h : Dn K A H v d) : ∀ (n : Nat) {vs : List V} {ds : List Dat}, Dns K A H vs ds → Dns K A H (vs.set n v) (ds.set n d)
  | _, _, _, .nil => .nil
  | 0, _, _, .cons _ t => .cons h t
  | n + 1, _, _, .cons a t => .cons a (Dns.set h n t)
theorem Dns.rep {K : Gm} {A : As} {H : Hp} {vs : List V} {ds : List Dat} (h : Dns K A H vs ds) : ∀ (n : Nat), Dns K A H (List.replicate n vs).flatten (List.replicate n ds).flatten
  | 0 => .nil
  | n + 1 => by
    rw [List.replicate_succ, List.replicate_succ, List.flatten_cons, List.flatten_cons]
    exact h.append (Dns.rep h n)
theorem Dns.snoc {K : Gm} {A : As} {H : Hp} {vs : List V} {ds : List Dat} {v : V} {d : Dat} (h : Dns K A H vs ds) (x : Dn K A H v d) : Dns K A H (vs ++ [v]) (ds ++ [d]) := h.append (.cons x .nil)

/-! ### data without cells -/
mutual
def noCell : Dat → Bool
  | .tup xs => noCells xs
  | .lst xs => noCells xs
  | .cell _ => false
  | .dcell _ => false
  | .dst _ _ => false
  | .key _ => false
  | .dct _ xs => noCells xs
  | .obj _ xs => noCells xs
  | .clo _ _ => false
  | .tb _ => false
  | _ => true
def noCells : List Dat → Bool
  | [] => true
  | d :: ds => noCell d && noCells ds
end
theorem noCells_iff : ∀ {ds : List Dat}, noCells ds = true ↔ ∀ d ∈ ds, noCell d = true
  | [] => by simp [noCells]
  | d :: ds => by rw [noCells, Bool.and_eq_true, noCells_iff (ds := ds)]; simp
theorem noCells_append {xs ys : List Dat} (h : noCells xs = true) (g : noCells ys = true) : noCells (xs ++ ys) = true := noCells_iff.mpr fun d m => by
  rcases List.mem_append.mp m with m | m
  · exact noCells_iff.mp h d m
  · exact noCells_iff.mp g d m
theorem noCells_set {xs : List Dat} {k : Nat} {d : Dat} (h : noCells xs = true) (g : noCell d = true) : noCells (xs.set k d) = true := noCells_iff.mpr fun e m => by
  rcases List.mem_or_eq_of_mem_set m with m | m
  · exact noCells_iff.mp h e m
  · subst m; exact g
mutual
theorem Dn.mono0 {K : Gm} {A A' : As} {H H' : Hp} (e : ∀ a o, hid A H a = some o → hid A' H' a = some o) : ∀ {v : V} {d : Dat}, noCell d = true → Dn K A H v d → Dn K A' H' v d
  | _, _, _, .non => .non
  | _, _, _, .bl b => .bl b
  | _, _, _, .int i => .int i
  | _, _, _, .str x => .str x
  | _, _, n, .tup h t => .tup (by
        rcases h with (h | ⟨o, h⟩) | h
        · exact .inl (.inl (e _ _ h))
        · exact .inl (.inr ⟨o, e _ _ h⟩)
        · exact .inr h) (Dns.mono0 e (by rw [noCell] at n; exact n) t)
  | _, _, n, .lst h t => .lst (by
        rcases h with (h | ⟨o, h⟩) | h
        · exact .inl (.inl (e _ _ h))
        · exact .inl (.inr ⟨o, e _ _ h⟩)
        · exact .inr h) (Dns.mono0 e (by rw [noCell] at n; exact n) t)
  | _, _, n, .cell h _ => by simp [noCell] at n
  | _, _, n, .dcell h _ => by simp [noCell] at n
  | _, _, n, .dead h => by simp [noCell] at n
  | _, _, n, .deadD h => by simp [noCell] at n
  | _, _, n, .key h => by simp [noCell] at n
  | _, _, n, .dct h t => .dct (e _ _ h) (Dns.mono0 e (by rw [noCell] at n; exact n) t)
  | _, _, n, .obj c f h t => .obj c f (e _ _ h) (Dns.mono0 e (by rw [noCell] at n; exact n) t)
  | _, _, n, .clo _ _ _ _ => by simp [noCell] at n
  | _, _, _, .fn i => .fn i
theorem Dns.mono0 {K : Gm} {A A' : As} {H H' : Hp} (e : ∀ a o, hid A H a = some o → hid A' H' a = some o) : ∀ {vs : List V} {ds : List Dat}, noCells ds = true → Dns K A H vs ds → Dns K A' H' vs ds
  | _, _, _, .nil => .nil
  | _, _, n, .cons h t => .cons (Dn.mono0 e (by rw [noCells, Bool.and_eq_true] at n; exact n.1) h) (Dns.mono0 e (by rw [noCells, Bool.and_eq_true] at n; exact n.2) t)
end

/-! ### the store and the slots -/
/-- what the store says of the cell k at a: a list, or a dict (its content stands as .dst), or a table -/
def CAt (K : Gm) (A : As) (H : Hp) (μ : Mu) (k : Nat) (a : Addr) : Prop :=
  (∃ xs ds, H a = some (.lst xs) ∧ μ[k]? = some (some ds) ∧ Dns K A H xs ds) ∨
  ∃ (kvs : List (List L2.Key × V)) (ds : List Dat), H a = some (.dT kvs) ∧ μ[k]? = some (some [.dst (kvs.map (·.1)) ds]) ∧ Dns K A H (kvs.map (·.2)) ds
theorem CAt.has {K : Gm} {A : As} {H : Hp} {μ : Mu} {k : Nat} {a : Addr} (c : CAt K A H μ k a) : ∃ o, H a = some o := by
  rcases c with ⟨xs, ds, h, _⟩ | ⟨kvs, ds, h, _⟩
  · exact ⟨_, h⟩
  · exact ⟨_, h⟩
theorem CAt.plain {K : Gm} {A : As} {H : Hp} {μ : Mu} {k : Nat} {a : Addr} (c : CAt K A H μ k a) : (∃ xs, H a = some (.lst xs)) ∨ ∃ kvs, H a = some (.dT kvs) := by
  rcases c with ⟨xs, ds, h, _⟩ | ⟨kvs, ds, h, _⟩
  · exact .inl ⟨_, h⟩
  · exact .inr ⟨_, h⟩
theorem CAt.tr {K : Gm} {A A' : As} {H H' : Hp} {μ μ' : Mu} {k : Nat} {a : Addr} (c : CAt K A H μ k a) (hk : ∀ b o, hid A H b = some o → (∃ φ, o = .ext φ) → hid A' H' b = some o) (f : ∀ vs ds, (∃ ds0, μ[k]? = some (some ds0) ∧ (ds0 = ds ∨ ∃ ks, ds0 = [.dst ks ds])) → Dns K A H vs ds → Dns K A' H' vs ds) (hH : H' a = H a) (hm : μ'[k]? = μ[k]?) : CAt K A' H' μ' k a := by
  rcases c with ⟨xs, ds, h1, h2, h3⟩ | ⟨kvs, ds, h1, h2, h3⟩
  · exact .inl ⟨xs, ds, by rw [hH]; exact h1, by rw [hm]; exact h2, f _ _ ⟨_, h2, .inl rfl⟩ h3⟩
  · exact .inr ⟨kvs, ds, by rw [hH]; exact h1, by rw [hm]; exact h2, f _ _ ⟨_, h2, .inr ⟨_, rfl⟩⟩ h3⟩
structure Sto (K : Gm) (A : As) (H : Hp) (μ : Mu) : Prop where
  len : A.length = μ.length
  dead : ∀ (k : Nat), A[k]? = some none → μ[k]? = some none
  at_ : ∀ (k : Nat) (a : Addr), A[k]? = some (some a) → CAt K A H μ k a
  inj : ∀ (j k : Nat) (a : Addr), A[j]? = some (some a) → A[k]? = some (some a) → j = k
  tabs : LamX.Tabs K.T H
def Env (K : Gm) (A : As) (H : Hp) (σ : St) (ρ : Ro) : Prop := σ.length = ρ.length ∧ ∀ (i : Nat) (d : Dat), ρ[i]? = some (some d) → ∃ v, σ[i]? = some (some v) ∧ Dn K A H v d
theorem Env.mono {K : Gm} {A A' : As} {H H' : Hp} {σ : St} {ρ : Ro} (e : Ext A H A' H') (h : Env K A H σ ρ) : Env K A' H' σ ρ :=
  ⟨h.1, fun i d q => let ⟨v, a, b⟩ := h.2 i d q; ⟨v, a, b.mono e⟩⟩
theorem Env.set {K : Gm} {A : As} {H : Hp} {σ : St} {ρ : Ro} {v : V} {d : Dat} (i : Nat) (h : Env K A H σ ρ) (x : Dn K A H v d) : Env K A H (σ.set i (some v)) (ρ.set i (some d)) := by
  refine ⟨by rw [List.length_set, List.length_set, h.1], fun j e q => ?_⟩
  by_cases c : i = j
  · subst c
    have hi : i < ρ.length := by
      have := (List.getElem?_eq_some_iff.mp q).1
      rwa [List.length_set] at this
    rw [List.getElem?_set_self hi] at q
    cases q
    exact ⟨v, List.getElem?_set_self (by rw [h.1]; exact hi), x⟩
  · rw [List.getElem?_set_ne c] at q
    obtain ⟨u, a, b⟩ := h.2 j e q
    exact ⟨u, by rw [List.getElem?_set_ne c]; exact a, b⟩
/-- a new tracked object -/
theorem tabs_new {H : Hp} {p : Addr} {o : HO} (h : H p = none) : ∀ P q, LamX.TabS H P q → LamX.TabS (upd H p o) P q := fun P q t => t.ext fun b u e => by rw [upd_ne (ne_of_none e h)]; exact e
theorem tabs_put {H : Hp} {a : Addr} {o u : HO} (ho : H a = some u) (n1 : ∀ ps, u ≠ .tbl ps) (n2 : ∀ φ, u ≠ .ext φ) : ∀ P q, LamX.TabS H P q → LamX.TabS (upd H a o) P q := fun P q ⟨ps, h1, h2, h3⟩ => by
  have ne : ∀ b v, H b = some v → u ≠ v → b ≠ a := fun b v e n z => by
    rw [z, ho] at e
    exact n (Option.some.inj e)
  refine ⟨ps, by rw [upd_ne (ne _ _ h1 (n1 ps))]; exact h1, h2, fun pos cv hc => ?_⟩
  obtain ⟨c, e1, e2⟩ := h3 pos cv hc
  exact ⟨c, e1, by rw [upd_ne (ne _ _ e2 (n2 _))]; exact e2⟩
theorem ext_new {A : As} {H : Hp} {p : Addr} {o : HO} (h : H p = none) : Ext A H A (upd H p o) := ⟨fun a u e _ => by
  obtain ⟨e1, c⟩ := hid_of e
  exact hid_to (by rw [upd_ne (ne_of_none e1 h)]; exact e1) c, fun _ _ e => .inl e, fun _ _ _ _ ⟨xs, e⟩ => ⟨xs, by rw [upd_ne (ne_of_none e h)]; exact e⟩, fun _ _ _ _ ⟨xs, e⟩ => ⟨xs, by rw [upd_ne (ne_of_none e h)]; exact e⟩⟩
theorem Sto.fresh {K : Gm} {A : As} {H : Hp} {μ : Mu} (s : Sto K A H μ) {p : Addr} (h : H p = none) : some p ∉ A := fun m => by
  obtain ⟨k, hk⟩ := List.mem_iff_getElem?.mp m
  obtain ⟨o, e⟩ := (s.at_ k p hk).has
  rw [h] at e; cases e
theorem Sto.new {K : Gm} {A : As} {H : Hp} {μ : Mu} (s : Sto K A H μ) {p : Addr} {o : HO} (h : H p = none) : Sto K A (upd H p o) μ :=
  ⟨s.len, s.dead, fun k a e => by
    obtain ⟨u, hu⟩ := (s.at_ k a e).has
    exact (s.at_ k a e).tr (fun b o q ⟨φ, z⟩ => (ext_new h).keep b o q (by subst z; exact fun _ z => nomatch z)) (fun vs ds _ t => t.mono (ext_new h)) (by rw [upd_ne (ne_of_none hu h)]) rfl, s.inj, fun p hp => tabs_new h _ _ (s.tabs p hp)⟩
/-- what is in the hidden heap is in the heap -/
theorem sqT_hid {K : Gm} {A : As} {H : Hp} {a : Addr} {xs : List V} (h : SqT K (hid A H) a xs) : SqT K H a xs := by
  rcases h with (h | ⟨o, h⟩) | h
  · exact .inl (.inl (hid_of h).1)
  · exact .inl (.inr ⟨o, (hid_of h).1⟩)
  · exact .inr h
theorem sqL_hid {K : Gm} {A : As} {H : Hp} {a : Addr} {xs : List V} (h : SqL K (hid A H) a xs) : SqL K H a xs := by
  rcases h with (h | ⟨o, h⟩) | h
  · exact .inl (.inl (hid_of h).1)
  · exact .inl (.inr ⟨o, (hid_of h).1⟩)
  · exact .inr h
theorem Dn.newT {K : Gm} {A : As} {H : Hp} {μ : Mu} (s : Sto K A H μ) {p : Addr} {xs : List V} {ds : List Dat} (h : H p = none) (x : Dns K A H xs ds) : Dn K A (upd H p (.tup xs)) (.ref p) (.tup ds) :=
  .tup (.inl (.inl (hid_to upd_same (s.fresh h)))) (x.mono (ext_new h))
theorem Dn.newL {K : Gm} {A : As} {H : Hp} {μ : Mu} (s : Sto K A H μ) {p : Addr} {xs : List V} {ds : List Dat} (h : H p = none) (x : Dns K A H xs ds) : Dn K A (upd H p (.lst xs)) (.ref p) (.lst ds) :=
  .lst (.inl (.inl (hid_to upd_same (s.fresh h)))) (x.mono (ext_new h))
/-- a cell is written -/
theorem keep_cell {A : As} {H : Hp} {a : Addr} {k : Nat} {o : HO} (h : A[k]? = some (some a)) : ∀ b u, hid A H b = some u → hid A (upd H a o) b = some u := fun b u e => by
  obtain ⟨e1, c⟩ := hid_of e
  have : b ≠ a := fun z => c (by rw [z]; exact List.mem_of_getElem? h)
  exact hid_to (by rw [upd_ne this]; exact e1) c
theorem ext_cell {A : As} {H : Hp} {a : Addr} {k : Nat} {xs vs : List V} (h : A[k]? = some (some a)) (ho : H a = some (.lst vs)) : Ext A H A (upd H a (.lst xs)) := ⟨fun b u e _ => keep_cell h b u e, fun _ _ e => .inl e, fun j b _ _ l => by
  by_cases c : b = a
  · rw [c, upd_same]; exact ⟨_, rfl⟩
  · rw [upd_ne c]; exact l, fun j b _ _ ⟨kvs, l⟩ => by
  by_cases c : b = a
  · rw [c, ho] at l; cases l
  · rw [upd_ne c]; exact ⟨kvs, l⟩⟩
theorem ext_dcell {A : As} {H : Hp} {a : Addr} {k : Nat} {xs vs : List (List L2.Key × V)} (h : A[k]? = some (some a)) (ho : H a = some (.dT vs)) : Ext A H A (upd H a (.dT xs)) := ⟨fun b u e _ => keep_cell h b u e, fun _ _ e => .inl e, fun j b _ _ ⟨kvs, l⟩ => by
  by_cases c : b = a
  · rw [c, ho] at l; cases l
  · rw [upd_ne c]; exact ⟨kvs, l⟩, fun j b _ _ l => by
  by_cases c : b = a
  · rw [c, upd_same]; exact ⟨_, rfl⟩
  · rw [upd_ne c]; exact l⟩
theorem Sto.writeX {K : Gm} {A : As} {H : Hp} {μ : Mu} (s : Sto K A H μ) {a : Addr} {k : Nat} {o : HO} {ds : List Dat} (h : A[k]? = some (some a)) (e : Ext A H A (upd H a o)) (tb : ∀ P q, LamX.TabS H P q → LamX.TabS (upd H a o) P q) (x : CAt K A (upd H a o) (μ.set k (some ds)) k a) : Sto K A (upd H a o) (μ.set k (some ds)) := by
  refine ⟨by rw [List.length_set]; exact s.len, fun j q => ?_, fun j b q => ?_, s.inj, fun p hp => tb _ _ (s.tabs p hp)⟩
  · by_cases c : k = j
    · subst c
      rw [h] at q; cases q
    · rw [List.getElem?_set_ne c]; exact s.dead j q
  by_cases c : b = a
  · subst c
    have := s.inj k j b h q
    subst this
    exact x
  · have hj : k ≠ j := fun z => c (by subst z; rw [h] at q; cases q; rfl)
    exact (s.at_ j b q).tr (fun b o q ⟨φ, z⟩ => e.keep b o q (by subst z; exact fun _ z => nomatch z)) (fun vs ds _ t => t.mono e) (upd_ne c) (List.getElem?_set_ne hj)
theorem Sto.write {K : Gm} {A : As} {H : Hp} {μ : Mu} (s : Sto K A H μ) {a : Addr} {k : Nat} {xs vs : List V} {ds : List Dat} (h : A[k]? = some (some a)) (ho : H a = some (.lst vs)) (x : Dns K A H xs ds) : Sto K A (upd H a (.lst xs)) (μ.set k (some ds)) :=
  s.writeX h (ext_cell h ho) (tabs_put ho (fun _ z => nomatch z) (fun _ z => nomatch z)) (.inl ⟨xs, ds, upd_same, by rw [List.getElem?_set_self (by rw [← s.len]; exact (List.getElem?_eq_some_iff.mp h).1)], x.mono (ext_cell h ho)⟩)
theorem Sto.writeD {K : Gm} {A : As} {H : Hp} {μ : Mu} (s : Sto K A H μ) {a : Addr} {k : Nat} {kvs vs : List (List L2.Key × V)} {ds : List Dat} (h : A[k]? = some (some a)) (ho : H a = some (.dT vs)) (x : Dns K A H (kvs.map (·.2)) ds) :
    Sto K A (upd H a (.dT kvs)) (μ.set k (some [.dst (kvs.map (·.1)) ds])) :=
  s.writeX h (ext_dcell h ho) (tabs_put ho (fun _ z => nomatch z) (fun _ z => nomatch z)) (.inr ⟨kvs, ds, upd_same, by rw [List.getElem?_set_self (by rw [← s.len]; exact (List.getElem?_eq_some_iff.mp h).1)], x.mono (ext_dcell h ho)⟩)
/-- a new cell -/
theorem ext_open {A : As} {H : Hp} {p : Addr} {o : HO} (h : H p = none) : Ext A H (A ++ [some p]) (upd H p o) := ⟨fun a u e _ => by
  obtain ⟨e1, c⟩ := hid_of e
  have ne := ne_of_none e1 h
  refine hid_to (by rw [upd_ne ne]; exact e1) fun m => ?_
  rcases List.mem_append.mp m with m | m
  · exact c m
  · exact ne (Option.some.inj (List.mem_singleton.mp m)), fun k a e => .inl (by
    rw [List.getElem?_append_left (List.getElem?_eq_some_iff.mp e).1]; exact e), fun _ _ _ _ ⟨xs, e⟩ => ⟨xs, by rw [upd_ne (ne_of_none e h)]; exact e⟩, fun _ _ _ _ ⟨xs, e⟩ => ⟨xs, by rw [upd_ne (ne_of_none e h)]; exact e⟩⟩
theorem Sto.openX {K : Gm} {A : As} {H : Hp} {μ : Mu} (s : Sto K A H μ) {p : Addr} {o : HO} {ds : List Dat} (h : H p = none) (x : CAt K (A ++ [some p]) (upd H p o) (μ ++ [some ds]) A.length p) : Sto K (A ++ [some p]) (upd H p o) (μ ++ [some ds]) := by
  have cl : ∀ (k : Nat) (a : Addr), (A ++ [some p])[k]? = some (some a) → (A[k]? = some (some a) ∧ a ≠ p) ∨ (k = A.length ∧ a = p) := fun k a e => by
    by_cases c : k < A.length
    · rw [List.getElem?_append_left c] at e
      refine .inl ⟨e, fun z => ?_⟩
      subst z
      exact s.fresh h (List.mem_of_getElem? e)
    · rw [List.getElem?_append_right (by omega)] at e
      have : k - A.length = 0 := by
        have := (List.getElem?_eq_some_iff.mp e).1
        simp at this; omega
      rw [this] at e
      simp at e
      exact .inr ⟨by omega, e.symm⟩
  refine ⟨by simp [s.len], fun k q => ?_, fun k a e => ?_, fun j k a e1 e2 => ?_, fun p hp => tabs_new h _ _ (s.tabs p hp)⟩
  · by_cases c : k < A.length
    · rw [List.getElem?_append_left c] at q
      rw [List.getElem?_append_left (by rw [← s.len]; exact c)]
      exact s.dead k q
    · rw [List.getElem?_append_right (by omega)] at q
      have : k - A.length = 0 := by
        have := (List.getElem?_eq_some_iff.mp q).1
        simp at this; omega
      rw [this] at q
      simp at q
  · rcases cl k a e with ⟨e', ne⟩ | ⟨rfl, rfl⟩
    · refine (s.at_ k a e').tr (fun b o q ⟨φ, z⟩ => (ext_open h).keep b o q (by subst z; exact fun _ z => nomatch z)) (fun vs ds _ t => t.mono (ext_open h)) (upd_ne ne) ?_
      rw [List.getElem?_append_left (by rw [← s.len]; exact (List.getElem?_eq_some_iff.mp e').1)]
    · exact x
  · rcases cl j a e1 with ⟨e1', ne⟩ | ⟨rfl, rfl⟩
    · rcases cl k a e2 with ⟨e2', _⟩ | ⟨_, rfl⟩
      · exact s.inj j k a e1' e2'
      · exact absurd rfl ne
    · rcases cl k a e2 with ⟨_, ne⟩ | ⟨rfl, _⟩
      · exact absurd rfl ne
      · rfl
theorem Sto.open {K : Gm} {A : As} {H : Hp} {μ : Mu} (s : Sto K A H μ) {p : Addr} {xs : List V} {ds : List Dat} (h : H p = none) (x : Dns K A H xs ds) : Sto K (A ++ [some p]) (upd H p (.lst xs)) (μ ++ [some ds]) :=
  s.openX h (.inl ⟨xs, ds, upd_same, by rw [s.len]; simp, x.mono (ext_open h)⟩)
theorem Sto.openD {K : Gm} {A : As} {H : Hp} {μ : Mu} (s : Sto K A H μ) {p : Addr} (h : H p = none) : Sto K (A ++ [some p]) (upd H p (.dT [])) (μ ++ [some [.dst [] []]]) :=
  s.openX h (.inr ⟨[], [], upd_same, by rw [s.len]; simp, .nil⟩)
/-- a cell is closed: from now on it stands as data -/
theorem hid_kill {A : As} {H : Hp} (k : Nat) : ∀ a o, hid A H a = some o → hid (A.set k none) H a = some o := fun a o e => by
  obtain ⟨e1, c⟩ := hid_of e
  refine hid_to e1 fun m => ?_
  rcases List.mem_or_eq_of_mem_set m with m | m
  · exact c m
  · cases m
theorem ext_kill {A : As} {H : Hp} (k : Nat) : Ext A H (A.set k none) H := ⟨fun a o e _ => hid_kill k a o e, fun j o e => by
  by_cases c : k = j
  · subst c
    exact .inr (List.getElem?_set_self (List.getElem?_eq_some_iff.mp e).1)
  · exact .inl (by rw [List.getElem?_set_ne c]; exact e), fun _ _ _ _ l => l, fun _ _ _ _ l => l⟩
theorem Sto.kill {K : Gm} {A : As} {H : Hp} {μ : Mu} (s : Sto K A H μ) (k : Nat) : Sto K (A.set k none) H (μ.set k none) := by
  have al : ∀ {j : Nat} {a : Addr}, (A.set k none)[j]? = some (some a) → A[j]? = some (some a) ∧ k ≠ j := fun {j a} q => by
    by_cases c : k = j
    · subst c
      have hk : k < A.length := by
        have := (List.getElem?_eq_some_iff.mp q).1
        rwa [List.length_set] at this
      rw [List.getElem?_set_self hk] at q; cases q
    · rw [List.getElem?_set_ne c] at q; exact ⟨q, c⟩
  refine ⟨by rw [List.length_set, List.length_set]; exact s.len, fun j q => ?_, fun j a q => ?_, fun i j a q1 q2 => s.inj i j a (al q1).1 (al q2).1, s.tabs⟩
  · by_cases c : k = j
    · subst c
      exact List.getElem?_set_self (by rw [← s.len]; have := (List.getElem?_eq_some_iff.mp q).1; rwa [List.length_set] at this)
    · rw [List.getElem?_set_ne c] at q
      rw [List.getElem?_set_ne c]; exact s.dead j q
  · obtain ⟨q1, c⟩ := al q
    exact (s.at_ j a q1).tr (fun b o h _ => hid_kill k b o h) (fun vs ds _ t => t.mono (ext_kill k)) rfl (List.getElem?_set_ne c)
end DL
namespace DL
open PySem L2
abbrev PD := Dat → Mu → Prop
/-- an expression's reading, by data -/
def EW (K : Gm) (te : TE) (ρ : Ro) (μ : Mu) (P : PD) : Prop := ∀ (A : As) (σ : St) (H : Hp), Sto K A H μ → DL.Env K A H σ ρ → ∀ Q : VK,
  (∀ A' H' v d μ', Ext A H A' H' → Sto K A' H' μ' → Dn K A' H' v d → P d μ' → Q v H') → te σ H Q
def TW (K : Gm) (tt : TT) (ρ : Ro) (μ : Mu) (P : Bool → Mu → Prop) : Prop := ∀ (A : As) (σ : St) (H : Hp), Sto K A H μ → DL.Env K A H σ ρ → ∀ Q : Bool → Hp → Prop,
  (∀ A' H' b μ', Ext A H A' H' → Sto K A' H' μ' → P b μ' → Q b H') → tt σ H Q
def AW (K : Gm) (ta : TA) (ρ : Ro) (μ : Mu) (P : List Dat → Mu → Prop) : Prop := ∀ (A : As) (σ : St) (H : Hp), Sto K A H μ → DL.Env K A H σ ρ → ∀ Q : List V → Hp → Prop,
  (∀ A' H' vs ds μ', Ext A H A' H' → Sto K A' H' μ' → Dns K A' H' vs ds → P ds μ' → Q vs H') → ta σ H Q
def OW (K : Gm) (to : TO) (ρ : Ro) (μ : Mu) (P : Option Int → Mu → Prop) : Prop := ∀ (A : As) (σ : St) (H : Hp), Sto K A H μ → DL.Env K A H σ ρ → ∀ Q : Option Int → Hp → Prop,
  (∀ A' H' o μ', Ext A H A' H' → Sto K A' H' μ' → P o μ' → Q o H') → to σ H Q
/-- two-place operations, calls, on data -/
def RW (K : Gm) (r : R2) (d e : Dat) (μ : Mu) (P : PD) : Prop := ∀ (A : As) (H : Hp) (x y : V), Sto K A H μ → Dn K A H x d → Dn K A H y e → ∀ Q : VK,
  (∀ A' H' v f μ', Ext A H A' H' → Sto K A' H' μ' → Dn K A' H' v f → P f μ' → Q v H') → r x y H Q
def UW (K : Gm) (r : V → Hp → VK → Prop) (d : Dat) (μ : Mu) (P : PD) : Prop := ∀ (A : As) (H : Hp) (x : V), Sto K A H μ → Dn K A H x d → ∀ Q : VK,
  (∀ A' H' v f μ', Ext A H A' H' → Sto K A' H' μ' → Dn K A' H' v f → P f μ' → Q v H') → r x H Q
def CW (K : Gm) (r : List V → Hp → VK → Prop) (ds : List Dat) (μ : Mu) (P : PD) : Prop := ∀ (A : As) (H : Hp) (xs : List V), Sto K A H μ → Dns K A H xs ds → ∀ Q : VK,
  (∀ A' H' v f μ', Ext A H A' H' → Sto K A' H' μ' → Dn K A' H' v f → P f μ' → Q v H') → r xs H Q
structure DE where
  nx : Ro → Mu → Prop
  rt : PD
  bk : Ro → Mu → Prop := fun _ _ => False
  ct : Ro → Mu → Prop := fun _ _ => False
/-- the ends as a body's reading has them -/
structure Ends (K : Gm) (A : As) (H : Hp) (D : L2.Ends) (E : DE) : Prop where
  nx : ∀ A' H' σ' ρ' μ', Ext A H A' H' → Sto K A' H' μ' → DL.Env K A' H' σ' ρ' → E.nx ρ' μ' → D.nx σ' H'
  rt : ∀ A' H' v d μ', Ext A H A' H' → Sto K A' H' μ' → Dn K A' H' v d → E.rt d μ' → D.rt v H'
  bk : ∀ A' H' σ' ρ' μ', Ext A H A' H' → Sto K A' H' μ' → DL.Env K A' H' σ' ρ' → E.bk ρ' μ' → D.bk σ' H'
  ct : ∀ A' H' σ' ρ' μ', Ext A H A' H' → Sto K A' H' μ' → DL.Env K A' H' σ' ρ' → E.ct ρ' μ' → D.ct σ' H'
def SW (K : Gm) (ts : TS) (ρ : Ro) (μ : Mu) (E : DE) : Prop := ∀ (A : As) (σ : St) (H : Hp) (D : L2.Ends), Sto K A H μ → DL.Env K A H σ ρ → Ends K A H D E → ts D σ H

section
variable {K : Gm} {ρ : Ro} {μ : Mu} {P : PD} {ta tb tc te : TE} {d e : Dat} {r : R2}
theorem ew_var {i : Nat} (h : ρ[i]? = some (some d)) (p : P d μ) : EW K (tVar i) ρ μ P := fun A σ H s v Q q =>
  let ⟨u, a, b⟩ := v.2 i d h; ⟨u, a, q A H u d μ (Ext.refl A H) s b p⟩
theorem ew_c {v : V} (h : ∀ A H, Dn K A H v d) (p : P d μ) : EW K (tC v) ρ μ P := fun A σ H s _ Q q => q A H v d μ (Ext.refl A H) s (h A H) p
theorem ew_int {i : Int} (p : P (.int i) μ) : EW K (tC (.int i)) ρ μ P := ew_c (fun _ _ => .int i) p
theorem ew_bl {b : Bool} (p : P (.bl b) μ) : EW K (tC (.bl b)) ρ μ P := ew_c (fun _ _ => .bl b) p
theorem ew_non (p : P .non μ) : EW K (tC .non) ρ μ P := ew_c (fun _ _ => .non) p
theorem ew_str {x : Str} (p : P (.str x) μ) : EW K (tC (.str x)) ρ μ P := ew_c (fun _ _ => .str x) p
theorem ew_op (h : EW K ta ρ μ fun d μ1 => EW K tb ρ μ1 fun e μ2 => RW K r d e μ2 P) : EW K (tOp r ta tb) ρ μ P := fun A σ H s v Q q =>
  h A σ H s v _ fun A1 H1 x d μ1 e1 s1 x1 p1 => p1 A1 σ H1 s1 (v.mono e1) _ fun A2 H2 y e μ2 e2 s2 y2 p2 => p2 A2 H2 x y s2 (x1.mono e2) y2 Q fun A3 H3 z f μ3 e3 s3 z3 p3 => q A3 H3 z f μ3 ((e1.trans e2).trans e3) s3 z3 p3
theorem ew_un {r : V → Hp → VK → Prop} (h : EW K ta ρ μ fun d μ1 => UW K r d μ1 P) : EW K (tUn r ta) ρ μ P := fun A σ H s v Q q =>
  h A σ H s v _ fun A1 H1 x d μ1 e1 s1 x1 p1 => p1 A1 H1 x s1 x1 Q fun A3 H3 z f μ3 e3 s3 z3 p3 => q A3 H3 z f μ3 (e1.trans e3) s3 z3 p3
theorem EW.imp {P' : PD} (h : EW K te ρ μ P) (g : ∀ d m, P d m → P' d m) : EW K te ρ μ P' := fun A σ H s v Q q => h A σ H s v Q fun A' H' u d m a b c p => q A' H' u d m a b c (g d m p)

theorem rw_I0 {g : Int → Int → V} {f : Int → Int → Dat} {i j : Int} (hg : ∀ A H, Dn K A H (g i j) (f i j)) (p : P (f i j) μ) : RW K (rI0 g) (.int i) (.int j) μ P := fun A H x y s a b Q q => by
  cases a; cases b
  exact ⟨i, j, rfl, rfl, q A H _ _ μ (Ext.refl A H) s (hg A H) p⟩
theorem rw_I {C : Int → Int → Prop} {g : Int → Int → V} {f : Int → Int → Dat} {i j : Int} (hc : C i j) (hg : ∀ A H, Dn K A H (g i j) (f i j)) (p : P (f i j) μ) : RW K (rI C g) (.int i) (.int j) μ P := fun A H x y s a b Q q => by
  cases a; cases b
  exact ⟨i, j, rfl, rfl, hc, q A H _ _ μ (Ext.refl A H) s (hg A H) p⟩
theorem rw_add {i j : Int} (p : P (.int (i + j)) μ) : RW K (rI0 fun i j => .int (i + j)) (.int i) (.int j) μ P := rw_I0 (f := fun i j => .int (i + j)) (fun _ _ => .int _) p
theorem rw_sub {i j : Int} (p : P (.int (i - j)) μ) : RW K (rI0 fun i j => .int (i - j)) (.int i) (.int j) μ P := rw_I0 (f := fun i j => .int (i - j)) (fun _ _ => .int _) p
theorem rw_mul {i j : Int} (hc : CMul i j) (p : P (.int (i * j)) μ) : RW K (rI CMul fun i j => .int (i * j)) (.int i) (.int j) μ P := rw_I (f := fun i j => .int (i * j)) hc (fun _ _ => .int _) p
theorem rw_mod {i j : Int} (hc : 0 < j) (p : P (.int (i % j)) μ) : RW K (rI (fun _ j => 0 < j) fun i j => .int (i % j)) (.int i) (.int j) μ P := rw_I (f := fun i j => .int (i % j)) hc (fun _ _ => .int _) p
theorem rw_fdiv {i j : Int} (hc : CDiv i j) (p : P (.int (i / j)) μ) : RW K (rI CDiv fun i j => .int (i / j)) (.int i) (.int j) μ P := rw_I (f := fun i j => .int (i / j)) hc (fun _ _ => .int _) p
theorem rw_pow {i j : Int} (hc : CPow i j) (p : P (.int (i ^ j.toNat)) μ) : RW K (rI CPow fun i j => .int (i ^ j.toNat)) (.int i) (.int j) μ P := rw_I (f := fun i j => .int (i ^ j.toNat)) hc (fun _ _ => .int _) p
theorem rw_lt {i j : Int} (p : P (.bl (decide (i < j))) μ) : RW K (rI0 fun i j => .bl (decide (i < j))) (.int i) (.int j) μ P := rw_I0 (f := fun i j => .bl (decide (i < j))) (fun _ _ => .bl _) p
theorem rw_le {i j : Int} (p : P (.bl (decide (i ≤ j))) μ) : RW K (rI0 fun i j => .bl (decide (i ≤ j))) (.int i) (.int j) μ P := rw_I0 (f := fun i j => .bl (decide (i ≤ j))) (fun _ _ => .bl _) p
theorem rw_gt {i j : Int} (p : P (.bl (decide (j < i))) μ) : RW K (rI0 fun i j => .bl (decide (j < i))) (.int i) (.int j) μ P := rw_I0 (f := fun i j => .bl (decide (j < i))) (fun _ _ => .bl _) p
theorem rw_ge {i j : Int} (p : P (.bl (decide (j ≤ i))) μ) : RW K (rI0 fun i j => .bl (decide (j ≤ i))) (.int i) (.int j) μ P := rw_I0 (f := fun i j => .bl (decide (j ≤ i))) (fun _ _ => .bl _) p
/-- == and != of flat things (None, ints, truths, texts) -/
def fl : Dat → V
  | .non => .non | .bl b => .bl b | .int i => .int i | .str x => .str x | _ => .flt 0
theorem Dn.flat {A : As} {H : Hp} {v : V} (h : Dn K A H v d) (n : (fl d) ≠ .flt 0) : v = fl d := by
  cases h <;> first | rfl | exact absurd rfl n
theorem rw_eq (hs : scal (fl d) (fl e) = true) (p : P (.bl (decide (fl d = fl e))) μ) : RW K rEq d e μ P := fun A H x y s a b Q q => by
  have n1 : fl d ≠ .flt 0 := fun z => by rw [z] at hs; cases e <;> simp [fl, scal] at hs
  have n2 : fl e ≠ .flt 0 := fun z => by rw [z] at hs; cases d <;> simp [fl, scal] at hs
  rw [a.flat n1, b.flat n2]
  exact ⟨hs, q A H _ _ μ (Ext.refl A H) s (.bl _) p⟩
theorem rw_ne (hs : scal (fl d) (fl e) = true) (p : P (.bl (!decide (fl d = fl e))) μ) : RW K rNe d e μ P := fun A H x y s a b Q q => by
  have n1 : fl d ≠ .flt 0 := fun z => by rw [z] at hs; cases e <;> simp [fl, scal] at hs
  have n2 : fl e ≠ .flt 0 := fun z => by rw [z] at hs; cases d <;> simp [fl, scal] at hs
  rw [a.flat n1, b.flat n2]
  exact ⟨hs, q A H _ _ μ (Ext.refl A H) s (.bl _) p⟩
/-- is None, is not None -/
theorem nonV {A : As} {H : Hp} {v : V} (h : Dn K A H v d) : decide (v = .non) = (match d with | .non => true | _ => false) := by
  cases h <;> simp
def rIsN : R2 := fun x y H Q => y = .non ∧ Q (.bl (decide (x = .non))) H
def rNotN : R2 := fun x y H Q => y = .non ∧ Q (.bl (!decide (x = .non))) H
theorem op_isN' {X : Cx} : OpR X (compareOp .Is) rIsN := op_isN
theorem op_notN' {X : Cx} : OpR X (compareOp .IsNot) rNotN := op_notN
def isNon : Dat → Bool | .non => true | _ => false
theorem rw_isN (p : P (.bl (isNon d)) μ) : RW K rIsN d .non μ P := fun A H x y s a b Q q => by
  cases b
  refine ⟨rfl, ?_⟩
  have : decide (x = V.non) = isNon d := by cases a <;> simp [isNon]
  rw [this]
  exact q A H _ _ μ (Ext.refl A H) s (.bl _) p
theorem rw_notN (p : P (.bl (!isNon d)) μ) : RW K rNotN d .non μ P := fun A H x y s a b Q q => by
  cases b
  refine ⟨rfl, ?_⟩
  have : decide (x = V.non) = isNon d := by cases a <;> simp [isNon]
  rw [this]
  exact q A H _ _ μ (Ext.refl A H) s (.bl _) p
def rIsB : R2 := fun x y H Q => ∃ a b, x = .bl a ∧ y = .bl b ∧ Q (.bl (decide (a = b))) H
def rNotB : R2 := fun x y H Q => ∃ a b, x = .bl a ∧ y = .bl b ∧ Q (.bl (!decide (a = b))) H
theorem op_isB {X : Cx} : OpR X (compareOp .Is) rIsB := op_is_bl
theorem op_notB {X : Cx} : OpR X (compareOp .IsNot) rNotB := op_isnot_bl
theorem rw_isB {a b : Bool} (p : P (.bl (decide (a = b))) μ) : RW K rIsB (.bl a) (.bl b) μ P := fun A H x y s u v Q q => by
  cases u; cases v
  exact ⟨a, b, rfl, rfl, q A H _ _ μ (Ext.refl A H) s (.bl _) p⟩
theorem rw_notB {a b : Bool} (p : P (.bl (!decide (a = b))) μ) : RW K rNotB (.bl a) (.bl b) μ P := fun A H x y s u v Q q => by
  cases u; cases v
  exact ⟨a, b, rfl, rfl, q A H _ _ μ (Ext.refl A H) s (.bl _) p⟩
/-- tuple + tuple -/
theorem rw_cat {xs ys : List Dat} (hz : xs.length + ys.length ≤ sizeLine) (p : P (.tup (xs ++ ys)) μ) : RW K (rCatA K) (.tup xs) (.tup ys) μ P := fun A H x y s u v Q q => by
  cases u with
  | @tup a vs _ h1 t1 =>
    cases v with
    | @tup b ws _ h2 t2 =>
      have l1 := t1.length
      have l2 := t2.length
      refine ⟨a, b, vs, ws, rfl, rfl, sqT_hid h1, sqT_hid h2, by omega, fun z => ?_, fun _ z => ?_, fun _ _ c hc => ?_⟩
      · subst z
        have : xs = [] := List.eq_nil_of_length_eq_zero (by simpa using l1.symm)
        subst this
        exact q A H _ _ μ (Ext.refl A H) s (.tup h2 t2) p
      · subst z
        have : ys = [] := List.eq_nil_of_length_eq_zero (by simpa using l2.symm)
        subst this
        rw [List.append_nil] at p
        exact q A H _ _ μ (Ext.refl A H) s (.tup h1 t1) p
      · exact q A _ _ _ μ (ext_new hc) (s.new hc) (Dn.newT s hc (t1.append t2)) p
/-- list + list (both tracked ones) is not carried here -/
theorem rw_ixT {xs : List Dat} {i : Int} {f : Dat} (h : atI xs i = some f) (p : P f μ) : RW K (rIxT K) (.tup xs) (.int i) μ P := fun A H x y s u v Q q => by
  cases v
  cases u with
  | @tup a vs _ h1 t1 =>
    have hl := t1.length
    have h' := h
    unfold atI at h'
    cases hn : ixN xs.length i with
    | none => rw [hn] at h'; cases h'
    | some j =>
      rw [hn] at h'
      obtain ⟨w, e1, e2⟩ := t1.get (i := j) (d := f) h'
      refine ⟨a, vs, i, w, rfl, rfl, sqT_hid h1, ?_, q A H _ _ μ (Ext.refl A H) s e2 p⟩
      unfold atI
      rw [hl, hn]
      exact e1
theorem rw_ixL {xs : List Dat} {i : Int} {f : Dat} (h : atI xs i = some f) (p : P f μ) : RW K (rIxL K) (.lst xs) (.int i) μ P := fun A H x y s u v Q q => by
  cases v
  cases u with
  | @lst a vs _ h1 t1 =>
    have hl := t1.length
    have h' := h
    unfold atI at h'
    cases hn : ixN xs.length i with
    | none => rw [hn] at h'; cases h'
    | some j =>
      rw [hn] at h'
      obtain ⟨w, e1, e2⟩ := t1.get (i := j) (d := f) h'
      refine ⟨a, vs, i, w, rfl, rfl, sqL_hid h1, ?_, q A H _ _ μ (Ext.refl A H) s e2 p⟩
      unfold atI
      rw [hl, hn]
      exact e1
theorem Sto.cell {A : As} {H : Hp} {v : V} {k : Nat} {xs : List Dat} (s : Sto K A H μ) (h : Dn K A H v (.cell k)) (hm : μ[k]? = some (some xs)) : ∃ a vs, v = .ref a ∧ A[k]? = some (some a) ∧ H a = some (.lst vs) ∧ Dns K A H vs xs := by
  cases h with
  | dead z => rw [s.dead k z] at hm; cases hm
  | @cell a _ hk hl =>
    rcases s.at_ k a hk with ⟨ys, es, q1, q2, q3⟩ | ⟨ys, es, q1, _⟩
    · rw [hm] at q2
      cases q2
      exact ⟨a, ys, rfl, hk, q1, q3⟩
    · obtain ⟨zs, q⟩ := hl
      rw [q1] at q
      cases q
theorem Sto.dcell {A : As} {H : Hp} {v : V} {k : Nat} {ks : List (List L2.Key)} {xs : List Dat} (s : Sto K A H μ) (h : Dn K A H v (.dcell k)) (hm : μ[k]? = some (some [.dst ks xs])) : ∃ a kvs, v = .ref a ∧ A[k]? = some (some a) ∧ H a = some (.dT kvs) ∧ ks = kvs.map (·.1) ∧ Dns K A H (kvs.map (·.2)) xs := by
  cases h with
  | deadD z => rw [s.dead k z] at hm; cases hm
  | @dcell a _ hk hl =>
    rcases s.at_ k a hk with ⟨ys, es, q1, _⟩ | ⟨ys, es, q1, q2, q3⟩
    · obtain ⟨zs, q⟩ := hl
      rw [q1] at q
      cases q
    · rw [hm] at q2
      injection q2 with q2
      injection q2 with q2
      injection q2 with q2 _
      injection q2 with e1 e2
      subst e1 e2
      exact ⟨a, ys, rfl, hk, q1, rfl, q3⟩
theorem rw_ixC {k : Nat} {xs : List Dat} {i : Int} {f : Dat} (hm : μ[k]? = some (some xs)) (h : atI xs i = some f) (p : P f μ) : RW K (rIxL K) (.cell k) (.int i) μ P := fun A H x y s u v Q q => by
  cases v
  obtain ⟨a, vs, rfl, hk, ho, t1⟩ := s.cell u hm
  have hl := t1.length
  have h' := h
  unfold atI at h'
  cases hn : ixN xs.length i with
  | none => rw [hn] at h'; cases h'
  | some j =>
    rw [hn] at h'
    obtain ⟨w, e1, e2⟩ := t1.get (i := j) (d := f) h'
    refine ⟨a, vs, i, w, rfl, rfl, .inl (.inl ho), ?_, q A H _ _ μ (Ext.refl A H) s e2 p⟩
    unfold atI
    rw [hl, hn]
    exact e1
theorem flat_rep {α : Type} (l : List α) : ∀ n : Nat, (List.replicate n l).flatten.length = n * l.length
  | 0 => by simp
  | n + 1 => by rw [List.replicate_succ, List.flatten_cons, List.length_append, flat_rep l n, Nat.succ_mul, Nat.add_comm]
end
end DL
namespace DL
open PySem PySem.Spec PyProof.Rows L2
theorem tuple_mulW1 (l : Addr) (items : Array Value) (n : Nat) (dd : Option Addr) (sl : Array (Option Value)) (x : Int) (u : Tok) (c0 : (decide (x < -(2 ^ 63)) || decide (x ≥ 2 ^ 63)) = false) (c1 : (items.isEmpty || x == 1) = true) :
    Meets (Builtin.«tuple.__mul__» ⟨[.ref l, .int x u], []⟩) (fun _ R s => s.heap.get? l = some { cls := .type "tuple", dict := dd, data := .seq items n, slots := sl } ∧
      R (.ok (.ret (Value.ref l))) s) :=
  .of_wp fun prog w A R s h => by
    obtain ⟨hp, g, d, tk, os⟩ := s
    obtain ⟨hl, h⟩ := h
    have f1 := AutoSeq1.idx_int
    wp_walk using wpAny_loadPart' hl
    repeat (first
      | (refine wpAny_ite_false (decide_eq_false (by rw [c0]; exact Bool.false_ne_true)) ?_; wp_walk using wpAny_loadPart' hl)
      | (refine wpAny_ite_true (decide_eq_true (by rw [c1])) ?_; wp_walk using wpAny_loadPart' hl))
    exact ⟨_, rfl, h⟩
/-- t * 1 is t; t * k else a new one -/
def rRepA (K : PySem.W.Frag) : R2 := fun x y H Q => ∃ l k xs, x = .ref l ∧ y = .int k ∧ SqT K H l xs ∧ xs ≠ [] ∧ 1 ≤ k ∧ k ≤ 1000 ∧ xs.length ≤ 1000 ∧ (k = 1 → Q (.ref l) H) ∧ (2 ≤ k → ∀ p, H p = none → Q (.ref p) (upd H p (.tup (List.replicate k.toNat xs).flatten)))
section
variable {X : Cx}
theorem op_repA : OpR X (binaryOp .Mult) (rRepA X.K) := by
  intro pins s σ H x y v u Q I rx ry h
  obtain ⟨l, k, xs, rfl, rfl, hT, hne, h1, h2, hz, q1, q2⟩ := h
  by_cases hk : k = 1
  · subst hk
    cases rx
    obtain ⟨t, rfl⟩ := ry
    obtain ⟨its, r, ⟨⟨cls, dd, data, sl⟩, ho, hc, n, hd⟩, hs⟩ := I.tuple hT
    simp only at hc hd
    subst hc hd
    refine wpAny_binaryOp_repeat_ref (T := "tuple") (U := "int") (by decide) ⟨_, ho, rfl⟩ (fun s' => typeIs_int s' 1 t) noFill_tuple_mul F.fills_int_mul F.slot_int_rmul repeat_tuple F.slot_int_index.lookup
      (call_meets F.slot_int_rmul (typeIs_int s 1 t) F.entry_int_rmul (F.args_int_rmul_2 _ _) (int_rmul_tuple 1 t l its.toArray n dd sl)
        ⟨ho, rfl, ⟨_, ho, rfl⟩, call_meets F.slot_tuple_mul ⟨_, ho, rfl⟩ F.entry_tuple_mul (F.args_tuple_mul_2 _ _) (tuple_mulW1 l its.toArray n dd sl 1 t (by decide) (by simp)) ⟨ho, ?_⟩⟩)
    exact ⟨.ref l, _, I, rfl, q1 rfl⟩
  · exact op_repT pins s σ H _ _ v u Q I rx ry ⟨l, k, xs, rfl, rfl, hT, hne, by omega, h2, hz, q2 (by omega)⟩
end
section
variable {K : Gm} {μ : Mu} {P : PD}
theorem rw_rep {xs : List Dat} {k : Int} (hne : xs ≠ []) (h1 : 1 ≤ k) (h2 : k ≤ 1000) (hz : xs.length ≤ 1000) (p : P (.tup (List.replicate k.toNat xs).flatten) μ) : RW K (rRepA K) (.tup xs) (.int k) μ P := fun A H x y s u v Q q => by
  cases v
  cases u with
  | @tup a vs _ h1' t1 =>
    have l1 := t1.length
    refine ⟨a, k, vs, rfl, rfl, sqT_hid h1', fun z => hne ?_, h1, h2, by omega, fun z => ?_, fun _ c hc => ?_⟩
    · subst z; exact List.eq_nil_of_length_eq_zero (by simpa using l1.symm)
    · subst z
      have e : (List.replicate (Int.toNat 1) xs).flatten = xs := by simp
      rw [e] at p
      exact q A H _ _ μ (Ext.refl A H) s (.tup h1' t1) p
    · exact q A _ _ _ μ (ext_new hc) (s.new hc) (Dn.newT s hc (t1.rep _)) p
end
end DL
namespace DL
open PySem PySem.Spec PyProof.Rows L2
section
variable {K : Gm} {ρ : Ro} {μ : Mu} {P : PD} {ta tb tc te : TE} {d e : Dat} {r : R2}
/-! ### arguments, displays, slices -/
theorem aw_nil {P : List Dat → Mu → Prop} (p : P [] μ) : AW K tNil ρ μ P := fun A σ H s _ Q q => q A H [] [] μ (Ext.refl A H) s .nil p
theorem aw_cons {tr : TA} {P : List Dat → Mu → Prop} (h : EW K ta ρ μ fun d m => AW K tr ρ m fun ds m2 => P (d :: ds) m2) : AW K (tCons ta tr) ρ μ P := fun A σ H s v Q q =>
  h A σ H s v _ fun A1 H1 x d m1 e1 s1 x1 p1 => p1 A1 σ H1 s1 (v.mono e1) _ fun A2 H2 xs ds m2 e2 s2 x2 p2 => q A2 H2 (x :: xs) (d :: ds) m2 (e1.trans e2) s2 (.cons (x1.mono e2) x2) p2
theorem ew_tup {t : TA} (h : AW K t ρ μ fun ds m => ds.length ≤ sizeLine ∧ P (.tup ds) m) : EW K (tTup t) ρ μ P := fun A σ H s v Q q =>
  h A σ H s v _ fun A1 H1 xs ds m1 e1 s1 x1 ⟨hl, p⟩ => ⟨by rw [x1.length]; exact hl, fun a ha => q A1 _ _ _ m1 (e1.trans (ext_new ha)) (s1.new ha) (Dn.newT s1 ha x1) p⟩
theorem ew_lst {t : TA} (h : AW K t ρ μ fun ds m => ds.length ≤ sizeLine ∧ P (.lst ds) m) : EW K (tLst t) ρ μ P := fun A σ H s v Q q =>
  h A σ H s v _ fun A1 H1 xs ds m1 e1 s1 x1 ⟨hl, p⟩ => ⟨by rw [x1.length]; exact hl, fun a ha => q A1 _ _ _ m1 (e1.trans (ext_new ha)) (s1.new ha) (Dn.newL s1 ha x1) p⟩
/-- a new list that will be changed -/
theorem ew_lstC {t : TA} (h : AW K t ρ μ fun ds m => ds.length ≤ sizeLine ∧ noCells ds = true ∧ P (.cell m.length) (m ++ [some ds])) : EW K (tLst t) ρ μ P := fun A σ H s v Q q =>
  h A σ H s v _ fun A1 H1 xs ds m1 e1 s1 x1 ⟨hl, n, p⟩ => ⟨by rw [x1.length]; exact hl, fun a ha => q (A1 ++ [some a]) _ _ _ (m1 ++ [some ds]) (e1.trans (ext_open ha)) (s1.open ha x1) (.cell (by rw [← s1.len]; simp) ⟨_, upd_same⟩) p⟩
theorem ow_none {P : Option Int → Mu → Prop} (p : P none μ) : OW K tNoPart ρ μ P := fun A σ H s _ Q q => q A H none μ (Ext.refl A H) s p
theorem ow_some {P : Option Int → Mu → Prop} (h : EW K te ρ μ fun d m => ∃ i, d = .int i ∧ P (some i) m) : OW K (tPart te) ρ μ P := fun A σ H s v Q q =>
  h A σ H s v _ fun A1 H1 x d m1 e1 s1 x1 ⟨i, hd, p⟩ => by
    subst hd
    cases x1
    exact ⟨i, rfl, q A1 H1 (some i) m1 e1 s1 p⟩
def cut {α : Type} (xs : List α) (lo hi : Option Int) : List α := (xs.drop (HT.sIx xs.length 0 lo)).take (HT.sIx xs.length xs.length hi - HT.sIx xs.length 0 lo)
theorem Dns.cut {A : As} {H : Hp} {vs : List V} {ds : List Dat} (h : Dns K A H vs ds) (lo hi : Option Int) : Dns K A H (cutV vs lo hi) (cut ds lo hi) := by
  unfold cutV DL.cut
  rw [h.length]
  exact (h.drop _).take _
theorem ew_slT {tl th : TO} (h : EW K te ρ μ fun d m1 => OW K tl ρ m1 fun lo m2 => OW K th ρ m2 fun hi m3 => ∃ xs, d = .tup xs ∧ P (.tup (cut xs lo hi)) m3) : EW K (tSl (rSlA K) te tl th) ρ μ P := fun A σ H s v Q q =>
  h A σ H s v _ fun A1 H1 x d m1 e1 s1 x1 p1 => p1 A1 σ H1 s1 (v.mono e1) _ fun A2 H2 lo m2 e2 s2 p2 => p2 A2 σ H2 s2 (v.mono (e1.trans e2)) _ fun A3 H3 hi m3 e3 s3 ⟨xs, hd, p⟩ => by
    subst hd
    cases x1.mono (e2.trans e3) with
    | @tup a vs _ h1 t1 =>
      have l1 := t1.length
      refine ⟨a, vs, rfl, sqT_hid h1, fun w => ?_, fun _ b hb => ?_⟩
      · have e : DL.cut xs lo hi = xs := by
          unfold DL.cut
          rw [← l1, w.1, w.2, List.drop_zero, Nat.sub_zero, l1, List.take_length]
        rw [e] at p
        exact q A3 H3 _ _ m3 ((e1.trans e2).trans e3) s3 (.tup h1 t1) p
      · exact q A3 _ _ _ m3 (((e1.trans e2).trans e3).trans (ext_new hb)) (s3.new hb) (Dn.newT s3 hb (t1.cut lo hi)) p
theorem ew_slL {tl th : TO} (h : EW K te ρ μ fun d m1 => OW K tl ρ m1 fun lo m2 => OW K th ρ m2 fun hi m3 => ∃ xs, d = .lst xs ∧ P (.lst (cut xs lo hi)) m3) : EW K (tSl (rSlL K) te tl th) ρ μ P := fun A σ H s v Q q =>
  h A σ H s v _ fun A1 H1 x d m1 e1 s1 x1 p1 => p1 A1 σ H1 s1 (v.mono e1) _ fun A2 H2 lo m2 e2 s2 p2 => p2 A2 σ H2 s2 (v.mono (e1.trans e2)) _ fun A3 H3 hi m3 e3 s3 ⟨xs, hd, p⟩ => by
    subst hd
    cases x1.mono (e2.trans e3) with
    | @lst a vs _ h1 t1 =>
      exact ⟨a, vs, rfl, sqL_hid h1, fun b hb => q A3 _ _ _ m3 (((e1.trans e2).trans e3).trans (ext_new hb)) (s3.new hb) (Dn.newL s3 hb (t1.cut lo hi)) p⟩

/-! ### calls of built-ins -/
theorem ew_cb {r : List V → Hp → VK → Prop} {t : TA} (h : AW K t ρ μ fun ds m => CW K r ds m P) : EW K (tCB r t) ρ μ P := fun A σ H s v Q q =>
  h A σ H s v _ fun A1 H1 xs ds m1 e1 s1 x1 p => p A1 H1 xs s1 x1 Q fun A2 H2 u f m2 e2 s2 y pf => q A2 H2 u f m2 (e1.trans e2) s2 y pf
def rLen (K : PySem.W.Frag) : List V → Hp → VK → Prop := fun xs H Q => ∃ p ys, xs = [.ref p] ∧ (SqL K H p ys ∨ SqT K H p ys) ∧ Q (.int ys.length) H
theorem call_lenS {X : Cx} : CallR X (.builtin "len") (rLen X.K) := call_len_seq
theorem cw_lenT {xs : List Dat} (p : P (.int (xs.length : Int)) μ) : CW K (rLen K) [.tup xs] μ P := fun A H us s x Q q => by
  cases x with
  | cons a t => cases t; cases a with
    | @tup b vs _ h1 t1 => exact ⟨b, vs, rfl, .inr (sqT_hid h1), q A H _ (.int (xs.length : Int)) μ (Ext.refl A H) s (by rw [t1.length]; exact .int _) p⟩
theorem cw_lenL {xs : List Dat} (p : P (.int (xs.length : Int)) μ) : CW K (rLen K) [.lst xs] μ P := fun A H us s x Q q => by
  cases x with
  | cons a t => cases t; cases a with
    | @lst b vs _ h1 t1 => exact ⟨b, vs, rfl, .inl (sqL_hid h1), q A H _ (.int (xs.length : Int)) μ (Ext.refl A H) s (by rw [t1.length]; exact .int _) p⟩
theorem cw_lenC {k : Nat} {xs : List Dat} (hm : μ[k]? = some (some xs)) (p : P (.int (xs.length : Int)) μ) : CW K (rLen K) [.cell k] μ P := fun A H us s x Q q => by
  cases x with
  | cons a t =>
    cases t
    obtain ⟨b, vs, rfl, hk, ho, t1⟩ := s.cell a hm
    exact ⟨b, vs, rfl, .inl (.inl (.inl ho)), q A H _ (.int (xs.length : Int)) μ (Ext.refl A H) s (by rw [t1.length]; exact .int _) p⟩
def rMax2 : List V → Hp → VK → Prop := fun xs H Q => ∃ i j, xs = [.int i, .int j] ∧ Q (.int (if j > i then j else i)) H
theorem call_max2' {X : Cx} (hc : X.calm = true) : CallR X (.builtin "max") rMax2 := call_max2 hc
theorem cw_max2 {i j : Int} (p : P (.int (if j > i then j else i)) μ) : CW K rMax2 [.int i, .int j] μ P := fun A H us s x Q q => by
  cases x with
  | cons a t => cases t with
    | cons b t => cases t; cases a; cases b; exact ⟨i, j, rfl, q A H _ _ μ (Ext.refl A H) s (.int _) p⟩
def rAbs : List V → Hp → VK → Prop := fun xs H Q => ∃ i, xs = [.int i] ∧ Q (.int (if i < 0 then -i else i)) H
theorem call_abs' {X : Cx} : CallR X (.builtin "abs") rAbs := call_abs
theorem cw_abs {i : Int} (p : P (.int (if i < 0 then -i else i)) μ) : CW K rAbs [.int i] μ P := fun A H us s x Q q => by
  cases x with
  | cons a t => cases t; cases a; exact ⟨i, rfl, q A H _ _ μ (Ext.refl A H) s (.int _) p⟩
def rInt1 : List V → Hp → VK → Prop := fun xs H Q => (∃ i, xs = [.int i] ∧ Q (.int i) H) ∨ ∃ k, xs = [.bl k] ∧ Q (.int (if k then 1 else 0)) H
theorem call_int1' {X : Cx} : CallR X (.type "int") rInt1 := call_int1
theorem cw_int1 {i : Int} (p : P (.int i) μ) : CW K rInt1 [.int i] μ P := fun A H us s x Q q => by
  cases x with
  | cons a t => cases t; cases a; exact .inl ⟨i, rfl, q A H _ _ μ (Ext.refl A H) s (.int _) p⟩
def rDm : List V → Hp → VK → Prop := fun xs H Q => ∃ i j, xs = [.int i, .int j] ∧ CDiv i j ∧ ∀ p, H p = none → Q (.ref p) (upd H p (.tup [.int (i / j), .int (i % j)]))
theorem call_dm {X : Cx} : CallR X (.builtin "divmod") rDm := call_divmod
theorem cw_dm {i j : Int} (hc : CDiv i j) (p : P (.tup [.int (i / j), .int (i % j)]) μ) : CW K rDm [.int i, .int j] μ P := fun A H us s x Q q => by
  cases x with
  | cons a t => cases t with
    | cons b t =>
      cases t; cases a; cases b
      exact ⟨i, j, rfl, hc, fun c hc => q A _ _ _ μ (ext_new hc) (s.new hc) (Dn.newT s hc (.cons (.int _) (.cons (.int _) .nil))) p⟩
def rTupOf (K : PySem.W.Frag) : List V → Hp → VK → Prop := fun xs H Q => ∃ p ys, xs = [.ref p] ∧ ((SqL K H p ys ∧ ∀ l, H l = none → Q (.ref l) (upd H l (.tup ys))) ∨ (SqT K H p ys ∧ Q (.ref p) H))
theorem call_tupOf {X : Cx} : CallR X (.type "tuple") (rTupOf X.K) := call_tuple_of
theorem cw_tupL {xs : List Dat} (p : P (.tup xs) μ) : CW K (rTupOf K) [.lst xs] μ P := fun A H us s x Q q => by
  cases x with
  | cons a t => cases t; cases a with
    | @lst b vs _ h1 t1 => exact ⟨b, vs, rfl, .inl ⟨sqL_hid h1, fun c hc => q A _ _ _ μ (ext_new hc) (s.new hc) (Dn.newT s hc t1) p⟩⟩
theorem cw_tupT {xs : List Dat} (p : P (.tup xs) μ) : CW K (rTupOf K) [.tup xs] μ P := fun A H us s x Q q => by
  cases x with
  | cons a t => cases t; cases a with
    | @tup b vs _ h1 t1 => exact ⟨b, vs, rfl, .inr ⟨sqT_hid h1, q A H _ _ μ (Ext.refl A H) s (.tup h1 t1) p⟩⟩
def unB : Dat → Bool | .bl b => b | _ => false
theorem dns_bl {A : As} {H : Hp} : ∀ {vs : List V} {bs : List Bool}, Dns K A H vs (bs.map Dat.bl) → vs = bs.map V.bl
  | _, [], .nil => rfl
  | _, b :: bs, .cons h t => by cases h; rw [dns_bl t]; rfl
theorem cw_all {bs : List Bool} (p : P (.bl (bs.all id)) μ) : CW K (rAll K) [.lst (bs.map Dat.bl)] μ P := fun A H us s x Q q => by
  cases x with
  | cons a t =>
    cases t
    generalize hd : List.map Dat.bl bs = ds at a
    cases a with
    | @lst b vs _ h1 t1 =>
      subst hd
      have := dns_bl t1
      subst this
      exact ⟨b, bs, rfl, sqL_hid h1, q A H _ _ μ (Ext.refl A H) s (.bl _) p⟩

/-! ### isinstance -/
theorem TyX.hid {A : As} {H : Hp} {v : V} {t : Value} (h : Dn K A H v d) (ht : match d with | .non => t = .type "NoneType" | .bl _ => t = .type "bool" | .int _ => t = .type "int" | .str _ => t = .type "str" | _ => False) : TyX K H v t := by
  cases h <;> first | (cases ht; exact .base (by constructor)) | exact ht.elim
end
end DL
namespace DL
open PySem PySem.Spec PyProof.Rows L2
section
variable {K : Gm} {ρ : Ro} {μ : Mu} {P : PD} {ta tb tc te : TE} {d e : Dat} {r : R2}
def tyN : Dat → String
  | .non => "NoneType" | .bl _ => "bool" | .int _ => "int" | .str _ => "str" | .tup _ => "tuple" | .lst _ => "list" | .cell _ => "list" | .dct _ _ => "dict" | .obj _ _ => "object" | .dcell _ => "dict" | .dst _ _ => "dict" | .key _ => "tuple" | .clo _ _ => "function" | .fn _ => "function" | .tb _ => "function"
def tyV (K : Gm) : Dat → Value
  | .obj C _ => .ref (K.cls C)
  | d => .type (tyN d)
/-- what isinstance may be asked of -/
def tyd (m : Mu) : Dat → Bool | .clo _ _ => false | .fn _ => false | .tb _ => false | .cell k => (match m[k]? with | some (some _) => true | _ => false) | .dcell k => (match m[k]? with | some (some _) => true | _ => false) | _ => true
theorem not_dead {m : Mu} {k : Nat} (h : (match m[k]? with | some (some _) => true | _ => false) = true) : m[k]? ≠ some none := fun z => by rw [z] at h; cases h
theorem ty_of {A : As} {H : Hp} {v : V} (s : Sto K A H μ) (h : Dn K A H v d) (ht : tyd μ d = true) : TyX K H v (tyV K d) := by
  cases h with
  | clo _ _ _ _ => cases ht
  | fn _ => cases ht
  | dead z => exact absurd (s.dead _ z) (not_dead ht)
  | deadD z => exact absurd (s.dead _ z) (not_dead ht)
  | non => exact .base .non
  | bl b => exact .base (.bl b)
  | int i => exact .base (.int i)
  | str x => exact .base (.str x)
  | tup h t =>
    rcases sqT_hid h with (h | ⟨o, h⟩) | ⟨o, _, _, h, c, _⟩
    · exact .base (.tup h)
    · exact .fTuple h
    · exact .kTuple h c
  | lst h t =>
    rcases sqL_hid h with (h | ⟨o, h⟩) | ⟨o, _, _, h, c, _⟩
    · exact .base (.lst h)
    · exact .base (.frz h)
    · exact .kList h c
  | cell h l =>
    obtain ⟨xs, e⟩ := l
    exact .base (.lst e)
  | dcell h l =>
    obtain ⟨xs, e⟩ := l
    exact .base (.dT e)
  | key h => exact .base (.tup (hid_of h).1)
  | dct h t => exact .base (.dT (hid_of h).1)
  | obj c f h t => exact .base (.ins (hid_of h).1 c.cls c.ha c.hn c.htk c.hm)
def kitD : Dat → String → Option Bool
  | .clo _ _, _ => none
  | .fn _, _ => none
  | .tb _, _ => none
  | .obj _ _, T => if T ∈ ["int", "bool", "list", "tuple", "str", "dict"] then some false else none
  | d, T => kitB (tyN d) T
theorem kit_of' {A : As} {H : Hp} {v : V} {T : String} {b : Bool} (h : Dn K A H v d) (e : kitD d T = some b) : PySem.W.kitOne K (tyV K d) (.type T) = some b := by
  cases h with
  | clo _ _ _ _ => cases e
  | fn _ => cases e
  | obj c f h t =>
    simp only [kitD] at e
    split at e
    · cases e
      exact c.kit _ (by assumption)
    · cases e
  | _ => exact kit_ty e
theorem Dn.up {A : As} {H : Hp} {v : V} {p : Addr} {o : HO} (h : H p = none) (x : Dn K A H v d) : Dn K A (upd H p o) v d := x.mono (ext_new h)
/-- truth -/
def tru (μ : Mu) : Dat → Option Bool
  | .non => some false | .bl b => some b | .int i => some (i != 0) | .str x => (if x.length ≤ sizeLine then some ((x.length : Int) != 0) else none) | .tup xs => some (!xs.isEmpty) | .lst xs => some (!xs.isEmpty) | .cell k => (match μ[k]? with | some (some xs) => some (!xs.isEmpty) | _ => none)
  | _ => none
theorem isEmpty_dns {A : As} {H : Hp} {vs : List V} {ds : List Dat} (h : Dns K A H vs ds) : vs.isEmpty = ds.isEmpty := by
  cases h <;> rfl
theorem tru_of {A : As} {H : Hp} {x : V} {b : Bool} (s : Sto K A H μ) (x1 : Dn K A H x d) (hb : tru μ d = some b) : TruV K x H b := by
  cases x1 with
  | non => cases hb; exact rfl
  | bl c => cases hb; exact rfl
  | int i => cases hb; exact rfl
  | str x =>
    simp only [tru] at hb
    split at hb
    · cases hb
      exact ⟨by assumption, rfl⟩
    · cases hb
  | tup h t => cases hb; exact .inr (.inl ⟨_, sqT_hid h, by rw [isEmpty_dns t]⟩)
  | lst h t => cases hb; exact .inl ⟨_, sqL_hid h, by rw [isEmpty_dns t]⟩
  | @cell a k h l =>
    rcases s.at_ _ _ h with ⟨xs, ds, e, em, t⟩ | ⟨xs, ds, e, _⟩
    · simp only [tru, em] at hb
      cases hb
      exact .inl ⟨xs, .inl (.inl e), by rw [isEmpty_dns t]⟩
    · obtain ⟨z, l⟩ := l
      rw [e] at l
      cases l
  | dcell h l => cases hb
  | dead z => simp only [tru, s.dead _ z] at hb; cases hb
  | deadD z => cases hb
  | key h => cases hb
  | dct h t => cases hb
  | obj c f h t => cases hb
  | clo _ _ _ _ => cases hb
  | fn _ => cases hb
end
end DL
namespace VM
open PySem PySem.Spec PyProof.Rows L2 DL LamX
/-! ### results -/
structure Ex where
  C : Nat
  ds : List Dat
inductive R (α : Type) where
  | ok (a : α) (m : Mu) | exc (x : Ex) (m : Mu) | no
@[inline] def R.bind {α β : Type} (r : R α) (k : α → Mu → R β) : R β := match r with
  | .ok a m => k a m
  | .exc x m => .exc x m
  | .no => .no
def R.of {α : Type} (m : Mu) : Option α → R α
  | some a => .ok a m
  | none => .no
abbrev Kp := List (List (Option Dat))
/-- what the outer frames' captured cells hold; a tracked cell stands as a known object -/
def Kap (K : Gm) (A : As) (H : Hp) (κ : Kp) : Prop := ∀ (l j : Nat) (o : Option Dat), (κ[l]?.bind fun r => r[j]?) = some o →
  ∃ c ob w, (K.C[l]?.bind fun r => r[j]?) = some c ∧ hid A H c = some (.frz ob (.own c)) ∧ ob.data = .cell w ∧ ∀ d, o = some d → ∃ v u, w = some u ∧ RelV v u ∧ Dn K A H v d
theorem Kap.mono {K : Gm} {A A' : As} {H H' : Hp} {κ : Kp} (e : Ext A H A' H') (h : Kap K A H κ) : Kap K A' H' κ := fun l j o q => by
  obtain ⟨c, ob, w, h1, h2, h3, h4⟩ := h l j o q
  refine ⟨c, ob, w, h1, e.keep _ _ h2 (fun _ z => nomatch z), h3, fun d hd => ?_⟩
  obtain ⟨v, u, g1, g2, g3⟩ := h4 d hd
  exact ⟨v, u, g1, g2, g3.mono e⟩
/-- an exception's class, dict -/
def Xn (K : Gm) (A : As) (H : Hp) (cls : Value) (dd : Option Addr) (x : Ex) : Prop := cls = .ref (K.cls x.C) ∧ ∃ a fs, dd = some a ∧ hid A H a = some (.xd fs) ∧ fs.map (·.1) = K.xfl x.C ∧ Dns K A H (fs.map (·.2)) x.ds
theorem Xn.mono {K : Gm} {A A' : As} {H H' : Hp} {cls : Value} {dd : Option Addr} {x : Ex} (e : Ext A H A' H') (h : Xn K A H cls dd x) : Xn K A' H' cls dd x := by
  obtain ⟨h1, a, fs, h2, h3, h4, h5⟩ := h
  exact ⟨h1, a, fs, h2, e.keep _ _ h3 (fun _ z => nomatch z), h4, h5.mono e⟩
/-- a slot that is bound to stay: a caught exception, a function that was handed over -/
inductive Pin where
  | no | ex (i : Nat) (a : Addr) (cls : Value) (d : Option Addr) (x : Ex)
def PinOk (K : Gm) : Pin → As → L2.St → Hp → Prop
  | .no, _, _, _ => True
  | .ex i a cls d x, A, σ, H => σ[i]? = some (some (.ref a)) ∧ Xn K A H cls d x
theorem PinOk.mono {K : Gm} {p : Pin} {A A' : As} {σ : L2.St} {H H' : Hp} (e : Ext A H A' H') (h : PinOk K p A σ H) : PinOk K p A' σ H' := by
  cases p with
  | no => trivial
  | ex i a cls d x => exact ⟨h.1, h.2.mono e⟩
structure Cc where
  K : Gm
  W : WX
  κ : Kp
  pn : Pin := .no
/-- no slot is bound to stay -/
class NoPin (c : Cc) : Prop where
  all : c.pn = .no
instance {K : Gm} {W : WX} {κ : Kp} : NoPin ⟨K, W, κ, .no⟩ := ⟨rfl⟩
structure At (c : Cc) (A : As) (σ : L2.St) (H : Hp) (ρ : Ro) (μ : Mu) : Prop where
  sto : Sto c.K A H μ
  env : DL.Env c.K A H σ ρ
  kap : Kap c.K A H c.κ
  pin : PinOk c.K c.pn A σ H
theorem At.next {c : Cc} {A A' : As} {σ : L2.St} {H H' : Hp} {ρ : Ro} {μ μ' : Mu} (t : At c A σ H ρ μ) (e : Ext A H A' H') (s : Sto c.K A' H' μ') : At c A' σ H' ρ μ' := ⟨s, t.env.mono e, t.kap.mono e, t.pin.mono e⟩
abbrev Rel (α β : Type) := As → Hp → β → α → Prop
def Fin {α β : Type} (c : Cc) (σ : L2.St) (A : As) (H : Hp) (r : R α) (rel : Rel α β) (Q : β → Hp → Prop) : Prop := match r with
  | .ok d m => ∀ A' H' v, Ext A H A' H' → Sto c.K A' H' m → rel A' H' v d → Q v H'
  | .exc x m => ∀ A' H' cls dd, Ext A H A' H' → Sto c.K A' H' m → Xn c.K A' H' cls dd x → c.W cls dd σ H'
  | .no => False
theorem Fin.mono {α β : Type} {c : Cc} {σ : L2.St} {A A' : As} {H H' : Hp} {r : R α} {rel : Rel α β} {Q : β → Hp → Prop} (e : Ext A H A' H') (h : Fin c σ A H r rel Q) : Fin c σ A' H' r rel Q := by
  cases r with
  | ok d m => exact fun A2 H2 v e2 => h A2 H2 v (e.trans e2)
  | exc x m => exact fun A2 H2 cls dd e2 => h A2 H2 cls dd (e.trans e2)
  | no => exact h
theorem Fin.imp {α β : Type} {c : Cc} {σ : L2.St} {A : As} {H : Hp} {r : R α} {rel : Rel α β} {Q Q' : β → Hp → Prop} (h : Fin c σ A H r rel Q) (g : ∀ v H', Q v H' → Q' v H') : Fin c σ A H r rel Q' := by
  cases r with
  | ok d m => exact fun A2 H2 v e2 s x => g _ _ (h A2 H2 v e2 s x)
  | exc x m => exact h
  | no => exact h
theorem fin_bind {α β γ δ : Type} {c : Cc} {σ : L2.St} {A : As} {H : Hp} {r : R α} {k : α → Mu → R γ} {rel : Rel α β} {rel2 : Rel γ δ} {Q : δ → Hp → Prop} (h : Fin c σ A H (r.bind k) rel2 Q) :
    Fin c σ A H r rel fun v H1 => ∃ A1 d m, r = .ok d m ∧ Ext A H A1 H1 ∧ Sto c.K A1 H1 m ∧ rel A1 H1 v d ∧ Fin c σ A1 H1 (k d m) rel2 Q := by
  cases r with
  | ok d m => exact fun A2 H2 v e2 s x => ⟨A2, d, m, rfl, e2, s, x, Fin.mono e2 h⟩
  | exc x m => exact h
  | no => exact h
/-- a result at once -/
theorem fin_ok {α β : Type} {c : Cc} {σ : L2.St} {A : As} {H : Hp} {d : α} {m : Mu} {rel : Rel α β} {Q : β → Hp → Prop} {A' : As} {H' : Hp} {v : β} (h : Fin c σ A H (.ok d m) rel Q) (e : Ext A H A' H') (s : Sto c.K A' H' m) (x : rel A' H' v d) : Q v H' := h A' H' v e s x
abbrev rD (c : Cc) : Rel Dat V := fun A H v d => Dn c.K A H v d
abbrev rDs (c : Cc) : Rel (List Dat) (List V) := fun A H v d => Dns c.K A H v d
abbrev rB : Rel Bool Bool := fun _ _ v d => v = d
abbrev rO : Rel (Option Int) (Option Int) := fun _ _ v d => v = d
abbrev Sm (α : Type) := Ro → Mu → R α
def RdE (c : Cc) (f : Sm Dat) : TE := fun σ H Q => ∃ A ρ μ, At c A σ H ρ μ ∧ Fin c σ A H (f ρ μ) (rD c) Q
def RdT (c : Cc) (f : Sm Bool) : TT := fun σ H Q => ∃ A ρ μ, At c A σ H ρ μ ∧ Fin c σ A H (f ρ μ) rB Q
def RdA (c : Cc) (f : Sm (List Dat)) : TA := fun σ H Q => ∃ A ρ μ, At c A σ H ρ μ ∧ Fin c σ A H (f ρ μ) (rDs c) Q
def RdO (c : Cc) (f : Sm (Option Int)) : TO := fun σ H Q => ∃ A ρ μ, At c A σ H ρ μ ∧ Fin c σ A H (f ρ μ) rO Q
theorem PE.weak {X : Cx} {e : Expr} {t t' : TE} (h : PE X e t) (w : ∀ σ H Q, t' σ H Q → t σ H Q) : PE X e t' := ⟨fun pins s σ H Q I q => h.run pins s σ H Q I (w σ H Q q)⟩
theorem PT.weak {X : Cx} {e : Expr} {t t' : TT} (h : PT X e t) (w : ∀ σ H Q, t' σ H Q → t σ H Q) : PT X e t' := ⟨fun pins s σ H Q I q => h.run pins s σ H Q I (w σ H Q q)⟩
theorem PW.weak {X : Cx} {e : Expr} {t t' : TT} (h : PW X e t) (w : ∀ σ H Q, t' σ H Q → t σ H Q) : PW X e t' := ⟨fun wh pins s σ H Q I q => h.run wh pins s σ H Q I (w σ H Q q)⟩
theorem PA.weak {X : Cx} {e : List Expr} {t t' : TA} (h : PA X e t) (w : ∀ σ H Q, t' σ H Q → t σ H Q) : PA X e t' := ⟨fun pos pins s σ H Q I q => h.run pos pins s σ H Q I (w σ H Q q)⟩
section
variable {X : Cx} {c : Cc} {a b e : Expr} {es : List Expr} {pos : Pos} {fa fb fc : Sm Dat} {fs : Sm (List Dat)} {ft fu : Sm Bool}
/-! ### names, constants -/
def sVar (i : Nat) : Sm Dat := fun ρ m => match ρ[i]? with | some (some d) => .ok d m | _ => .no
def sLit (d : Dat) : Sm Dat := fun _ m => .ok d m
theorem v_var {i : Nat} {x : Str} (hN : X.N[i]? = some x) (hv : Vis X.env.scope x) (hd : (x == ("__debug__" : Str)) = false) (hcd : (x == ("__classdict__" : Str)) = false) : PE X (.Name x pos) (RdE c (sVar i)) :=
  PE.weak (pe_var hN hv hd hcd) fun σ H Q ⟨A, ρ, μ, t, h⟩ => by
    unfold sVar at h
    split at h
    · rename_i d hq
      obtain ⟨v, e1, e2⟩ := t.env.2 i d hq
      exact ⟨v, e1, fin_ok h (Ext.refl A H) t.sto e2⟩
    · exact h.elim
theorem v_c {v : V} {d : Dat} {e : Expr} (p : PE X e (tC v)) (hd : ∀ A H, Dn c.K A H v d) : PE X e (RdE c (sLit d)) :=
  PE.weak p fun σ H Q ⟨A, ρ, μ, t, h⟩ => fin_ok h (Ext.refl A H) t.sto (hd A H)
/-! ### operations -/
abbrev F2 := Dat → Dat → Mu → Option (Dat × Mu)
def R.of2 : Option (Dat × Mu) → R Dat
  | some (d, m) => .ok d m
  | none => .no
def Is2 (K : Gm) (r : R2) (f : F2) : Prop := ∀ d e m z m', f d e m = some (z, m') → RW K r d e m fun z1 m1 => z1 = z ∧ m1 = m'
def sOp (f : F2) (fa fb : Sm Dat) : Sm Dat := fun ρ m => (fa ρ m).bind fun d m1 => (fb ρ m1).bind fun e m2 => R.of2 (f d e m2)
theorem fin_of2 {σ : L2.St} {A : As} {H : Hp} {o : Option (Dat × Mu)} {Q : VK} (h : Fin c σ A H (R.of2 o) (rD c) Q) : ∃ z m, o = some (z, m) ∧ ∀ A' H' v, Ext A H A' H' → Sto c.K A' H' m → Dn c.K A' H' v z → Q v H' := by
  cases o with
  | none => exact h.elim
  | some p => exact ⟨p.1, p.2, rfl, h⟩
theorem is2_run {r : R2} {f : F2} (hr : Is2 c.K r f) {σ : L2.St} {A : As} {H : Hp} {x y : V} {d e : Dat} {m : Mu} {Q : VK} (s : Sto c.K A H m) (hx : Dn c.K A H x d) (hy : Dn c.K A H y e) (h : Fin c σ A H (R.of2 (f d e m)) (rD c) Q) : r x y H Q := by
  obtain ⟨z, m', hz, q⟩ := fin_of2 h
  exact hr d e m z m' hz A H x y s hx hy Q fun A3 H3 v z1 m1 e3 s3 v3 ⟨h1, h2⟩ => by subst h1 h2; exact q A3 H3 v e3 s3 v3
theorem v_op {op : Operator} {r : R2} {f : F2} (ho : OpR X (binaryOp op) r) (hr : Is2 c.K r f) (ha : PE X a (RdE c fa)) (hb : PE X b (RdE c fb)) : PE X (.BinOp a op b pos) (RdE c (sOp f fa fb)) :=
  PE.weak (pe_op ho ha hb) fun σ H Q ⟨A, ρ, μ, t, h⟩ =>
    ⟨A, ρ, μ, t, (fin_bind (rel := rD c) h).imp fun x H1 ⟨A1, d, m1, _, e1, s1, x1, h1⟩ =>
      ⟨A1, ρ, m1, t.next e1 s1, (fin_bind (rel := rD c) h1).imp fun y H2 ⟨A2, e, m2, _, e2, s2, y2, h2⟩ => is2_run hr s2 (x1.mono e2) y2 h2⟩⟩
end
end VM
namespace VM
open PySem PySem.Spec PyProof.Rows L2 DL LamX
section
variable {X : Cx} {c : Cc} {a b e : Expr} {es : List Expr} {pos : Pos} {fa fb fc : Sm Dat} {fs : Sm (List Dat)} {ft fu : Sm Bool}
/-! ### one or the other rule -/
def rEither (r r' : R2) : R2 := fun x y H Q => r x y H Q ∨ r' x y H Q
theorem op_either {f : Value → Value → Sem Value} {r r' : R2} (h : OpR X f r) (h' : OpR X f r') : OpR X f (rEither r r') := by
  intro pins s σ H x y v u Q I rx ry q
  rcases q with q | q
  · exact h pins s σ H x y v u Q I rx ry q
  · exact h' pins s σ H x y v u Q I rx ry q
theorem is2_either {K : Gm} {r r' : R2} {f g : F2} (h : Is2 K r f) (h' : Is2 K r' g) : Is2 K (rEither r r') (fun d e m => (f d e m).orElse fun _ => g d e m) := fun d e m z m' q => by
  have q : (f d e m).orElse (fun _ => g d e m) = some (z, m') := q
  cases q1 : f d e m with
  | some p =>
    rw [q1] at q
    have : p = (z, m') := Option.some.inj q
    subst this
    exact fun A H x y s a b Q k => .inl (h d e m z m' q1 A H x y s a b Q k)
  | none =>
    rw [q1] at q
    exact fun A H x y s a b Q k => .inr (h' d e m z m' q A H x y s a b Q k)
theorem is2_weak {K : Gm} {r : R2} {f g : F2} (h : Is2 K r f) (w : ∀ d e m z m', g d e m = some (z, m') → f d e m = some (z, m')) : Is2 K r g := fun d e m z m' q => h d e m z m' (w d e m z m' q)
def rEitherC (r r' : List V → Hp → VK → Prop) : List V → Hp → VK → Prop := fun xs H Q => r xs H Q ∨ r' xs H Q
theorem call_either {f : Value} {r r' : List V → Hp → VK → Prop} (h : CallR X f r) (h' : CallR X f r') : CallR X f (rEitherC r r') := by
  intro pins s σ H vs us Q I rx q
  rcases q with q | q
  · exact h pins s σ H vs us Q I rx q
  · exact h' pins s σ H vs us Q I rx q
/-! ### tests -/
def asB (d : Dat) (m : Mu) : R Bool := match d with | .bl b => .ok b m | _ => .no
def sTest (f : Sm Dat) : Sm Bool := fun ρ m => (f ρ m).bind asB
def sTru (f : Sm Dat) : Sm Bool := fun ρ m => (f ρ m).bind fun d m1 => R.of m1 (tru m1 d)
def sAndT (f g : Sm Bool) : Sm Bool := fun ρ m => (f ρ m).bind fun b m1 => match b with | true => g ρ m1 | false => .ok false m1
def sOrT (f g : Sm Bool) : Sm Bool := fun ρ m => (f ρ m).bind fun b m1 => match b with | true => .ok true m1 | false => g ρ m1
def sNotT (f : Sm Bool) : Sm Bool := fun ρ m => (f ρ m).bind fun b m1 => .ok (!b) m1
theorem fin_of {α β : Type} {σ : L2.St} {A : As} {H : Hp} {o : Option α} {m : Mu} {rel : Rel α β} {Q : β → Hp → Prop} (h : Fin c σ A H (R.of m o) rel Q) : ∃ z, o = some z ∧ Fin c σ A H (.ok z m) rel Q := by
  cases o with
  | none => exact h.elim
  | some p => exact ⟨p, rfl, h⟩
theorem test_end {σ : L2.St} {A : As} {H : Hp} {d : Dat} {m : Mu} {v : V} {Q : Bool → Hp → Prop} (s : Sto c.K A H m) (x : Dn c.K A H v d) (h : Fin c σ A H (asB d m) rB Q) : ∃ k, v = .bl k ∧ Q k H := by
  cases d with
  | bl b => cases x; exact ⟨b, rfl, fin_ok h (Ext.refl A H) s rfl⟩
  | _ => exact h.elim
theorem v_testV (hK : X.K = c.K.K) (ha : PE X a (RdE c fa)) (he : ∀ whole, isTrue a X.env whole = (do let v ← whole; standAt a.pos; holding [v] (truthy v))) : PT X a (RdT c (sTru fa)) :=
  PT.weak (pt_truth ha he) fun σ H Q ⟨A, ρ, μ, t, h⟩ => ⟨A, ρ, μ, t, (fin_bind (rel := rD c) h).imp fun x H1 ⟨A1, d, m1, _, e1, s1, x1, h1⟩ => by
    obtain ⟨b, hb, h2⟩ := fin_of h1
    exact ⟨b, by rw [hK]; exact tru_of s1 x1 hb, fin_ok h2 (Ext.refl A1 H1) s1 rfl⟩⟩
theorem v_testC {op : CmpOp} {r : R2} {f : F2} (ho : OpR X (compareOp op) r) (hr : Is2 c.K r f) (ha : PE X a (RdE c fa)) (hb : PE X b (RdE c fb)) (hm : behindInMarks op b = false) : PT X (.Compare a [op] [b] pos) (RdT c (sTest (sOp f fa fb))) :=
  PT.weak (pt_cmpR ho ha hb hm) fun σ H Q ⟨A, ρ, μ, t, h⟩ => by
    unfold sTest sOp at h
    have h' := fin_bind (rel := rD c) h
    show RdE c fa σ H _
    refine ⟨A, ρ, μ, t, (fin_bind (rel := rD c) h').imp fun x H1 ⟨A1, d, m1, _, e1, s1, x1, h1⟩ => ?_⟩
    refine ⟨A1, ρ, m1, t.next e1 s1, (fin_bind (rel := rD c) h1).imp fun y H2 ⟨A2, e, m2, _, e2, s2, y2, h2⟩ => ?_⟩
    refine is2_run hr s2 (x1.mono e2) y2 (h2.imp fun z H3 ⟨A3, d3, m3, _, e3, s3, z3, h3⟩ => ?_)
    exact test_end s3 z3 h3
theorem v_cmp {op : CmpOp} {r : R2} {f : F2} (ho : OpR X (compareOp op) r) (hr : Is2 c.K r f) (ha : PE X a (RdE c fa)) (hb : PE X b (RdE c fb)) (hm : behindInMarks op b = false) : PE X (.Compare a [op] [b] pos) (RdE c (sOp f fa fb)) :=
  PE.weak (pe_cmpR ho ha hb hm) fun σ H Q ⟨A, ρ, μ, t, h⟩ =>
    ⟨A, ρ, μ, t, (fin_bind (rel := rD c) h).imp fun x H1 ⟨A1, d, m1, _, e1, s1, x1, h1⟩ =>
      ⟨A1, ρ, m1, t.next e1 s1, (fin_bind (rel := rD c) h1).imp fun y H2 ⟨A2, e, m2, _, e2, s2, y2, h2⟩ => is2_run hr s2 (x1.mono e2) y2 h2⟩⟩
def sChain (f g : F2) (fa fb fc : Sm Dat) : Sm Dat := fun ρ m => (fa ρ m).bind fun d m1 => (fb ρ m1).bind fun e m2 => (R.of2 (f d e m2)).bind fun z m3 => match z with
  | .bl true => (fc ρ m3).bind fun k m4 => R.of2 (g e k m4)
  | .bl false => .ok (.bl false) m3
  | _ => .no
theorem chain_run {op op' : CmpOp} {r r' : R2} {f g : F2} {e' : Expr} (hr : Is2 c.K r f) (hr' : Is2 c.K r' g) {σ : L2.St} {H : Hp} {Q : VK} (q : RdE c (sChain f g fa fb fc) σ H Q) : tChain r r' (RdE c fa) (RdE c fb) (RdE c fc) σ H Q := by
  obtain ⟨A, ρ, μ, t, h⟩ := q
  refine ⟨A, ρ, μ, t, (fin_bind (rel := rD c) h).imp fun x H1 ⟨A1, d, m1, _, e1, s1, x1, h1⟩ => ?_⟩
  refine ⟨A1, ρ, m1, t.next e1 s1, (fin_bind (rel := rD c) h1).imp fun y H2 ⟨A2, e, m2, _, e2, s2, y2, h2⟩ => ?_⟩
  refine is2_run hr s2 (x1.mono e2) y2 ((fin_bind (rel := rD c) h2).imp fun z H3 ⟨A3, d3, m3, _, e3, s3, z3, h3⟩ => ?_)
  cases d3 with
  | bl k =>
    cases z3
    refine ⟨k, rfl, ?_⟩
    cases k with
    | true =>
      rw [if_pos rfl]
      refine ⟨A3, ρ, m3, ((t.next e1 s1).next e2 s2).next e3 s3, (fin_bind (rel := rD c) h3).imp fun w H4 ⟨A4, d4, m4, _, e4, s4, w4, h4⟩ => ?_⟩
      exact is2_run hr' s4 (y2.mono (e3.trans e4)) w4 h4
    | false =>
      rw [if_neg Bool.false_ne_true]
      exact fin_ok h3 (Ext.refl A3 H3) s3 (.bl false)
  | _ => exact h3.elim
theorem v_chain {op op' : CmpOp} {r r' : R2} {f g : F2} {d : Expr} (ho : OpR X (compareOp op) r) (hr : Is2 c.K r f) (ho' : OpR X (compareOp op') r') (hr' : Is2 c.K r' g) (ha : PE X a (RdE c fa)) (hb : PE X b (RdE c fb)) (hc : PE X d (RdE c fc)) (hm : lastMarks [op, op'] [b, d] = false) :
    PE X (.Compare a [op, op'] [b, d] pos) (RdE c (sChain f g fa fb fc)) := PE.weak (pe_chain ho ho' ha hb hc hm) fun σ H Q q => chain_run (op := op) (op' := op') (e' := d) hr hr' q
theorem v_testCh {op op' : CmpOp} {r r' : R2} {f g : F2} {d : Expr} (ho : OpR X (compareOp op) r) (hr : Is2 c.K r f) (ho' : OpR X (compareOp op') r') (hr' : Is2 c.K r' g) (ha : PE X a (RdE c fa)) (hb : PE X b (RdE c fb)) (hc : PE X d (RdE c fc)) (hm : lastMarks [op, op'] [b, d] = false) :
    PT X (.Compare a [op, op'] [b, d] pos) (RdT c (sTest (sChain f g fa fb fc))) := PT.weak (pt_chain ho ho' ha hb hc hm) fun σ H Q ⟨A, ρ, μ, t, h⟩ =>
  chain_run (op := op) (op' := op') (e' := d) hr hr' ⟨A, ρ, μ, t, (fin_bind (rel := rD c) h).imp fun x H1 ⟨A1, d1, m1, _, e1, s1, x1, h1⟩ => test_end s1 x1 h1⟩
theorem v_pt {t : Sm Bool} (h : PW X a (RdT c t)) : PT X a (RdT c t) := h.pt
theorem v_and1 (ha : PT X a (RdT c ft)) : PW X (.BoolOp .And [a] pos) (RdT c ft) := pw_and1 ha
theorem v_or1 (ha : PT X a (RdT c ft)) : PW X (.BoolOp .Or [a] pos) (RdT c ft) := pw_or1 ha
theorem bool_next {σ : L2.St} {A : As} {H : Hp} {ρ : Ro} {μ : Mu} {f : Sm Bool} {k : Bool → Mu → R Bool} {Q Q' : Bool → Hp → Prop} (t : At c A σ H ρ μ) (h : Fin c σ A H ((f ρ μ).bind k) rB Q) (g : ∀ b A1 H1 m1, At c A1 σ H1 ρ m1 → Fin c σ A1 H1 (k b m1) rB Q → Q' b H1) : RdT c f σ H Q' :=
  ⟨A, ρ, μ, t, (fin_bind (rel := rB) h).imp fun b H1 ⟨A1, d, m1, _, e1, s1, x1, h1⟩ => by
    have x1 : b = d := x1
    subst x1
    exact g b A1 H1 m1 (t.next e1 s1) h1⟩
theorem v_andT {rest : List Expr} (ha : PT X a (RdT c ft)) (hb : PW X (.BoolOp .And (b :: rest) pos) (RdT c fu)) : PW X (.BoolOp .And (a :: b :: rest) pos) (RdT c (sAndT ft fu)) :=
  PW.weak (pw_and ha hb) fun σ H Q ⟨A, ρ, μ, t, h⟩ => bool_next t h fun b A1 H1 m1 t1 h1 => by
    cases b with
    | true => rw [if_pos rfl]; exact ⟨A1, ρ, m1, t1, h1⟩
    | false => rw [if_neg Bool.false_ne_true]; exact fin_ok h1 (Ext.refl A1 H1) t1.sto rfl
theorem v_orT {rest : List Expr} (ha : PT X a (RdT c ft)) (hb : PW X (.BoolOp .Or (b :: rest) pos) (RdT c fu)) : PW X (.BoolOp .Or (a :: b :: rest) pos) (RdT c (sOrT ft fu)) :=
  PW.weak (pw_or ha hb) fun σ H Q ⟨A, ρ, μ, t, h⟩ => bool_next t h fun b A1 H1 m1 t1 h1 => by
    cases b with
    | true => rw [if_pos rfl]; exact fin_ok h1 (Ext.refl A1 H1) t1.sto rfl
    | false => rw [if_neg Bool.false_ne_true]; exact ⟨A1, ρ, m1, t1, h1⟩
theorem v_notT (ha : PT X a (RdT c ft)) : PT X (.UnaryOp .Not a pos) (RdT c (sNotT ft)) :=
  PT.weak (pt_not ha) fun σ H Q ⟨A, ρ, μ, t, h⟩ => bool_next t h fun b A1 H1 m1 t1 h1 => fin_ok h1 (Ext.refl A1 H1) t1.sto rfl
/-! ### the same as values -/
def sAnd (f g : Sm Dat) : Sm Dat := fun ρ m => (f ρ m).bind fun d m1 => match d with | .bl true => g ρ m1 | .bl false => .ok (.bl false) m1 | _ => .no
def sOr (f g : Sm Dat) : Sm Dat := fun ρ m => (f ρ m).bind fun d m1 => match d with | .bl true => .ok (.bl true) m1 | .bl false => g ρ m1 | _ => .no
def sNot (f : Sm Bool) : Sm Dat := fun ρ m => (f ρ m).bind fun b m1 => .ok (.bl (!b)) m1
def sIf (t : Sm Bool) (f g : Sm Dat) : Sm Dat := fun ρ m => (t ρ m).bind fun b m1 => match b with | true => f ρ m1 | false => g ρ m1
theorem val_next {α : Type} {β : Type} {σ : L2.St} {A : As} {H : Hp} {ρ : Ro} {μ : Mu} {f : Sm Dat} {rel : Rel α β} {k : Dat → Mu → R α} {Q : β → Hp → Prop} {Q' : VK} (t : At c A σ H ρ μ) (h : Fin c σ A H ((f ρ μ).bind k) rel Q) (g : ∀ v d A1 H1 m1, At c A1 σ H1 ρ m1 → Ext A H A1 H1 → Dn c.K A1 H1 v d → Fin c σ A1 H1 (k d m1) rel Q → Q' v H1) : RdE c f σ H Q' :=
  ⟨A, ρ, μ, t, (fin_bind (rel := rD c) h).imp fun v H1 ⟨A1, d, m1, _, e1, s1, x1, h1⟩ => g v d A1 H1 m1 (t.next e1 s1) e1 x1 h1⟩
theorem v_one {op} (h : PE X a (RdE c fa)) : PE X (.BoolOp op [a] pos) (RdE c fa) := pe_one h
theorem v_and {rest : List Expr} (ha : PE X a (RdE c fa)) (hb : PE X (.BoolOp .And (b :: rest) pos) (RdE c fb)) : PE X (.BoolOp .And (a :: b :: rest) pos) (RdE c (sAnd fa fb)) :=
  PE.weak (pe_and ha hb) fun σ H Q ⟨A, ρ, μ, t, h⟩ => val_next t h fun v d A1 H1 m1 t1 e1 x1 h1 => by
    cases d with
    | bl k =>
      cases x1
      refine ⟨k, rfl, ?_⟩
      cases k with
      | true => rw [if_pos rfl]; exact ⟨A1, ρ, m1, t1, h1⟩
      | false => rw [if_neg Bool.false_ne_true]; exact fin_ok h1 (Ext.refl A1 H1) t1.sto (.bl false)
    | _ => exact h1.elim
theorem v_or {rest : List Expr} (ha : PE X a (RdE c fa)) (hb : PE X (.BoolOp .Or (b :: rest) pos) (RdE c fb)) : PE X (.BoolOp .Or (a :: b :: rest) pos) (RdE c (sOr fa fb)) :=
  PE.weak (pe_or ha hb) fun σ H Q ⟨A, ρ, μ, t, h⟩ => val_next t h fun v d A1 H1 m1 t1 e1 x1 h1 => by
    cases d with
    | bl k =>
      cases x1
      refine ⟨k, rfl, ?_⟩
      cases k with
      | true => rw [if_pos rfl]; exact fin_ok h1 (Ext.refl A1 H1) t1.sto (.bl true)
      | false => rw [if_neg Bool.false_ne_true]; exact ⟨A1, ρ, m1, t1, h1⟩
    | _ => exact h1.elim
theorem v_ifE {d : Expr} (hd : PT X d (RdT c ft)) (ha : PE X a (RdE c fa)) (hb : PE X b (RdE c fb)) : PE X (.IfExp d a b pos) (RdE c (sIf ft fa fb)) :=
  PE.weak (pe_ifExp hd ha hb) fun σ H Q ⟨A, ρ, μ, t, h⟩ => ⟨A, ρ, μ, t, (fin_bind (rel := rB) h).imp fun k H1 ⟨A1, d, m1, _, e1, s1, x1, h1⟩ => by
    have x1 : k = d := x1
    subst x1
    cases k with
    | true => rw [if_pos rfl]; exact ⟨A1, ρ, m1, t.next e1 s1, h1⟩
    | false => rw [if_neg Bool.false_ne_true]; exact ⟨A1, ρ, m1, t.next e1 s1, h1⟩⟩
/-! ### arguments, displays -/
def sNil : Sm (List Dat) := fun _ m => .ok [] m
def sCons (f : Sm Dat) (g : Sm (List Dat)) : Sm (List Dat) := fun ρ m => (f ρ m).bind fun d m1 => (g ρ m1).bind fun ds m2 => .ok (d :: ds) m2
theorem v_nil : PA X [] (RdA c sNil) := PA.weak pa_nil fun σ H Q ⟨A, ρ, μ, t, h⟩ => fin_ok h (Ext.refl A H) t.sto .nil
theorem v_cons (ha : PE X e (RdE c fa)) (hr : PA X es (RdA c fs)) (hs : starEach (e :: es) X.env = (false, eval e X.env) :: starEach es X.env) : PA X (e :: es) (RdA c (sCons fa fs)) :=
  PA.weak (pa_cons ha hr hs) fun σ H Q ⟨A, ρ, μ, t, h⟩ => val_next t h fun v d A1 H1 m1 t1 e1 x1 h1 =>
    ⟨A1, ρ, m1, t1, (fin_bind (rel := rDs c) h1).imp fun vs H2 ⟨A2, ds, m2, _, e2, s2, y2, h2⟩ => fin_ok h2 (Ext.refl A2 H2) s2 (.cons (x1.mono e2) y2)⟩
def sTup (g : Sm (List Dat)) : Sm Dat := fun ρ m => (g ρ m).bind fun ds m1 => if ds.length ≤ sizeLine then .ok (.tup ds) m1 else .no
def sLst (g : Sm (List Dat)) : Sm Dat := fun ρ m => (g ρ m).bind fun ds m1 => if ds.length ≤ sizeLine then .ok (.lst ds) m1 else .no
/-- a list that changes -/
def sLstC (g : Sm (List Dat)) : Sm Dat := fun ρ m => (g ρ m).bind fun ds m1 => if ds.length ≤ sizeLine then .ok (.cell m1.length) (m1 ++ [some ds]) else .no
theorem args_next {α β : Type} {σ : L2.St} {A : As} {H : Hp} {ρ : Ro} {μ : Mu} {f : Sm (List Dat)} {rel : Rel α β} {k : List Dat → Mu → R α} {Q : β → Hp → Prop} {Q' : List V → Hp → Prop} (t : At c A σ H ρ μ) (h : Fin c σ A H ((f ρ μ).bind k) rel Q) (g : ∀ v d A1 H1 m1, At c A1 σ H1 ρ m1 → Ext A H A1 H1 → Dns c.K A1 H1 v d → Fin c σ A1 H1 (k d m1) rel Q → Q' v H1) : RdA c f σ H Q' :=
  ⟨A, ρ, μ, t, (fin_bind (rel := rDs c) h).imp fun v H1 ⟨A1, d, m1, _, e1, s1, x1, h1⟩ => g v d A1 H1 m1 (t.next e1 s1) e1 x1 h1⟩
theorem fin_if {α β : Type} {σ : L2.St} {A : As} {H : Hp} {p : Prop} [Decidable p] {r : R α} {rel : Rel α β} {Q : β → Hp → Prop} (h : Fin c σ A H (if p then r else .no) rel Q) : p ∧ Fin c σ A H r rel Q := by
  by_cases q : p
  · rw [if_pos q] at h; exact ⟨q, h⟩
  · rw [if_neg q] at h; exact h.elim
theorem v_tup {x1} (h : PA X es (RdA c fs)) : PE X (.Tuple es x1 pos) (RdE c (sTup fs)) :=
  PE.weak (pe_tup h) fun σ H Q ⟨A, ρ, μ, t, h⟩ => args_next t h fun v d A1 H1 m1 t1 e1 x1 h1 => by
    obtain ⟨z, h2⟩ := fin_if h1
    exact ⟨by rw [x1.length]; exact z, fun p hp => fin_ok h2 (ext_new hp) (t1.sto.new hp) (Dn.newT t1.sto hp x1)⟩
theorem v_lst (h : PA X es (RdA c fs)) : PE X (.List es pos) (RdE c (sLst fs)) :=
  PE.weak (pe_lst h) fun σ H Q ⟨A, ρ, μ, t, h⟩ => args_next t h fun v d A1 H1 m1 t1 e1 x1 h1 => by
    obtain ⟨z, h2⟩ := fin_if h1
    exact ⟨by rw [x1.length]; exact z, fun p hp => fin_ok h2 (ext_new hp) (t1.sto.new hp) (Dn.newL t1.sto hp x1)⟩
theorem newC {A : As} {H : Hp} {μ : Mu} {p : Addr} {xs : List V} {ds : List Dat} (s : Sto c.K A H μ) (h : H p = none) (x : Dns c.K A H xs ds) : Ext A H (A ++ [some p]) (upd H p (.lst xs)) ∧ Sto c.K (A ++ [some p]) (upd H p (.lst xs)) (μ ++ [some ds]) ∧ Dn c.K (A ++ [some p]) (upd H p (.lst xs)) (.ref p) (.cell μ.length) :=
  ⟨ext_open h, s.open h x, .cell (by rw [← s.len]; simp) ⟨_, upd_same⟩⟩
theorem v_lstC (h : PA X es (RdA c fs)) : PE X (.List es pos) (RdE c (sLstC fs)) :=
  PE.weak (pe_lst h) fun σ H Q ⟨A, ρ, μ, t, h⟩ => args_next t h fun v d A1 H1 m1 t1 e1 x1 h1 => by
    obtain ⟨z, h2⟩ := fin_if h1
    refine ⟨by rw [x1.length]; exact z, fun p hp => ?_⟩
    obtain ⟨g1, g2, g3⟩ := newC (c := c) t1.sto hp x1
    exact fin_ok h2 g1 g2 g3
end
end VM
namespace DL
open PySem PySem.Spec PyProof.Rows L2 StX
/-! ### list + list, of lists of any standing -/
theorem list_addW (l : Addr) (items : Array Value) (n : Nat) (sl : Array (Option Value)) (b : Addr)
    (items2 : Array Value) (n2 : Nat) (sl2 : Array (Option Value)) (hc0 : items.size + items2.size ≤ sizeLine) :
    Meets (Builtin.«list.__add__» ⟨[.ref l, .ref b], []⟩) (fun _ R s =>
      (s.heap.get? l = some { cls := .type "list", data := .seq items n, slots := sl } ∧
        s.heap.get? b = some { cls := .type "list", data := .seq items2 n2, slots := sl2 }) ∧
      R (.ok (.ret (Value.ref s.heap.objs.size)))
        { s with heap := s.heap.push { cls := Value.type "list", data := Data.seq (items ++ items2) } }) :=
  .of_wp fun prog w A R s h => by
    obtain ⟨hp, g, d, tk, os⟩ := s
    obtain ⟨⟨hl, hb⟩, h⟩ := h
    have f1 := AutoSeq1.idx_int
    have f2 := AutoSeq1.sub_tuple_tuple
    have f3 := AutoSeq1.sub_list_list
    have f4 := AutoSeq1.sub_tuple_list
    have f5 := AutoSeq1.sub_list_tuple
    wp_walk using wpAny_loadPart' hl, wpAny_loadPart' hb
    exact ⟨_, rfl, h⟩
theorem list_extendW (l : Addr) (items : Array Value) (n : Nat) (b : Addr) (items2 : Array Value) (n2 : Nat)
    (sl2 : Array (Option Value)) (hs0 : ¬(!items.isEmpty && Builtin.List.listTooLong (items.size + items2.size)) = true)
    (hs1 : items.size ≤ sizeLine) (hs2 : items.size + items2.size ≤ sizeLine + 1) :
    Meets (Builtin.«list.extend» ⟨[.ref l, .ref b], []⟩) (fun _ R s =>
      (s.heap.get? l = some { cls := .type "list", data := .seq items n } ∧
        s.heap.get? b = some { cls := .type "list", data := .seq items2 n2, slots := sl2 }) ∧
      R (.ok (.ret Value.none)) { s with heap := s.heap.update l (Obj.mapSeq fun x => x ++ items2) }) :=
  .of_wp fun prog w A R s h => by
    obtain ⟨hp, g, d, tk, os⟩ := s
    obtain ⟨⟨hl, hb⟩, h⟩ := h
    have f1 := AutoSeq1.idx_int
    have f2 := AutoSeq1.sub_tuple_tuple
    have f3 := AutoSeq1.sub_list_list
    have f4 := AutoSeq1.sub_tuple_list
    have f5 := AutoSeq1.sub_list_tuple
    have hz2 : (items ++ items2).size ≤ sizeLine + 1 := by
      rw [Array.size_append]
      exact hs2
    wp_walk using (wpAny_updateSeq hl rfl (hz := hs1) (_hz' := hz2)), wpAny_loadPart' hl, wpAny_loadPart' hb
    exact ⟨_, rfl, h⟩
/-- a list's object as it stands -/
theorem list_at {X : Cx} {pins : List (Addr × Obj)} {σ : L2.St} {H : Hp} {s : Shared} {a : Addr} {xs : List V} (I : Inv X pins σ H s) (h : SqL X.K H a xs) :
    ∃ (its : List Value) (n : Nat) (sl : Array (Option Value)), Vals xs its ∧ s.heap.get? a = some { cls := .type "list", data := .seq its.toArray n, slots := sl } := by
  obtain ⟨its, r, ⟨⟨cls, dd, data, sl⟩, n, e, h1, h2, h3⟩, _⟩ := I.list h
  simp only at h1 h2 h3
  subst h1 h2 h3
  exact ⟨its, n, sl, r, e⟩
def rCatL (K : PySem.W.Frag) : R2 := fun x y H Q => ∃ l b xs zs, x = .ref l ∧ y = .ref b ∧ SqL K H l xs ∧ SqL K H b zs ∧ xs.length + zs.length ≤ sizeLine ∧
  ∀ p, H p = none → Q (.ref p) (upd H p (.lst (xs ++ zs)))
def rExtL (K : PySem.W.Frag) : V → List V → Hp → VK → Prop := fun x vs H Q => ∃ l b xs zs, x = .ref l ∧ vs = [.ref b] ∧ H l = some (.lst xs) ∧ SqL K H b zs ∧ xs.length + zs.length ≤ sizeLine ∧
  Q .non (upd H l (.lst (xs ++ zs)))
section
variable {X : Cx}
theorem op_catL : OpR X (binaryOp .Add) (rCatL X.K) := by
  intro pins s σ H x y v u Q I rx ry h
  obtain ⟨l, b, xs, zs, rfl, rfl, hL, hB, hz, q⟩ := h
  cases rx
  cases ry
  obtain ⟨its, n, sl, r, e⟩ := list_at I hL
  obtain ⟨its2, n2, sl2, r2, e2⟩ := list_at I hB
  have l1 := r.length
  have l2 := r2.length
  refine concat_meets ⟨_, e, rfl⟩ ⟨_, e2, rfl⟩ noFill_list_add seq_list_add F.slot_list_add F.entry_list_add (F.args_list_add_2 _ _)
    (list_addW l its.toArray n sl b its2.toArray n2 sl2 (by rw [List.size_toArray, List.size_toArray]; omega)) ⟨⟨e, e2⟩, ?_⟩
  have ea : its.toArray ++ its2.toArray = (its ++ its2).toArray := by simp
  rw [ea]
  exact ⟨.ref _, _, I.lnew (t' := s.toks) (r.append r2) (by rw [List.length_append]; omega), rfl, q _ I.fresh⟩
theorem mt_extL : MtM X "list.extend" (rExtL X.K) := by
  intro pins s σ H x vs v us Q I rx rv h
  obtain ⟨l, b, xs, zs, rfl, rfl, hH, hB, hz, q⟩ := h
  cases rx
  obtain ⟨u, rfl, ru⟩ := rv.one
  cases ru
  obtain ⟨z, its, n, r, hl, e⟩ := I.lstM hH
  obtain ⟨its2, n2, sl2, r2, e2⟩ := list_at I hB
  have l2 := r2.length
  have hsz : its.toArray.size + its2.toArray.size ≤ sizeLine := by
    rw [List.size_toArray, List.size_toArray]
    omega
  have hlong : ¬ (!its.toArray.isEmpty && Builtin.List.listTooLong (its.toArray.size + its2.toArray.size)) = true := by
    rw [notLongL hsz, Bool.and_false]
    decide
  refine call_meets F.slot_list_extend ⟨_, e, rfl⟩ F.entry_list_extend (F.args_list_extend_2 _ _)
    (list_extendW l its.toArray n b its2.toArray n2 sl2 hlong (by rw [List.size_toArray]; omega) (by omega)) ⟨⟨e, e2⟩, ?_⟩
  refine ⟨.non, _, I.lset (its' := its ++ its2) hH e (by simp) (r.append r2) ?_, rfl, q⟩
  rw [List.length_append]
  omega
end
section
variable {X : Cx} {k n : Nat} {f : Addr} {fd : FuncData} {ps : List Str} {sp : Sp} {x : Str} {p pos : Pos} {e : PySem.Expr} {es : List PySem.Expr} {t : TA}
/-! ### repr -/
def rRepr (K : PySem.W.Frag) : List V → Hp → VK → Prop := fun xs H Q => ∃ a d, xs = [.ref a] ∧ Dp K H (.ref a) d ∧ d.showable = true ∧ d.hasDict = false ∧ d.shown.length ≤ sizeLine ∧ d.depth ≤ 60 ∧ Q (.str d.shown) H
theorem call_repr (hG : X.A.guards = some []) (hu : X.A.units + 64 < cLine) : CallR X (.builtin "repr") (rRepr X.K) := by
  intro pins s σ H xs us Q I rv h
  obtain ⟨a, d, rfl, hd, hs, hn, hz, hdep, q⟩ := h
  obtain ⟨u, rfl, rx⟩ := vals1 rv
  obtain ⟨as, rd⟩ := hd.reads I d (.ref a) u rx
  cases rx
  refine repr_of_reads' rd hs (fun z => by rw [hn] at z; cases z) hG (by omega) (fun _ _ z => z) ?_ hz
  intro h' u tk hk
  exact ⟨.str d.shown, H, I.kept hk, ⟨u, rfl⟩, q⟩
/-- for x in (a tuple or a list) -/
def iSeq (K : PySem.W.Frag) (tl : TE) : TI := fun σ H R => iTup K tl σ H R ∨ iList K tl σ H R
theorem pi_seq {tg : PySem.Expr} {l : PySem.Expr} {tl : TE} (hl : PE X l tl) : PI X tg l (iSeq X.K tl) := ⟨fun pins s σ H R I h => by
  cases h with
  | inl h => exact (pi_tup hl).run pins s σ H R I h
  | inr h => exact (pi_list hl).run pins s σ H R I h⟩
end
def rListOf (K : PySem.W.Frag) : List V → Hp → VK → Prop := fun xs H Q => ∃ p ys, xs = [.ref p] ∧ (SqL K H p ys ∨ SqT K H p ys) ∧ ∀ l, H l = none → Q (.ref l) (upd H l (.lst ys))
theorem call_listOf {X : Cx} : CallR X (.type "list") (rListOf X.K) := call_list_of
def rReprX (K : PySem.W.Frag) : List V → Hp → VK → Prop := fun xs H Q => rRepr K xs H Q ∨ (∃ b : Bool, xs = [.bl b] ∧ Q (.str (if b then "True" else "False")) H) ∨ (xs = [.non] ∧ Q (.str ("None" : String)) H) ∨
  (∃ x : Str, xs = [.str x] ∧ (reprText x).length ≤ sizeLine ∧ Q (.str (reprText x)) H) ∨ ∃ a, xs = [.ref a] ∧ H a = some (.dT []) ∧ Q (.str (PyData.shown (.dict []))) H
theorem call_reprX {X : Cx} (hG : X.A.guards = some []) (hu : X.A.units + 64 < cLine) : CallR X (.builtin "repr") (rReprX X.K) := by
  intro pins s σ H xs us Q I rv h
  rcases h with h | ⟨b, rfl, q⟩ | ⟨rfl, q⟩ | ⟨x, rfl, hz, q⟩ | ⟨a, rfl, hH, q⟩
  · exact call_repr hG hu pins s σ H xs us Q I rv h
  · obtain ⟨u, rfl, ru⟩ := vals1 rv
    cases ru
    exact PySem.P.repr_of_bool ⟨.str _, H, I.tok _, ⟨_, rfl⟩, q⟩
  · obtain ⟨u, rfl, ru⟩ := vals1 rv
    cases ru
    exact PySem.P.repr_of_none ⟨.str _, H, I.tok _, ⟨_, rfl⟩, q⟩
  · obtain ⟨u, rfl, t, rfl⟩ := vals1 rv
    exact PySem.P.repr_of_str ⟨.str _, H, I.tok _, ⟨_, rfl⟩, q⟩ hz
  · obtain ⟨u, rfl, ru⟩ := vals1 rv
    cases ru
    obtain ⟨_, ns, ys, r, o, es, ep, e1, e2, e3, e4, _⟩ := (show ObjOk X.prog X.w H s.heap a (.dT []) from I.hok a _ hH)
    cases r
    have ee : es.toList = [] := by rw [e4]; rfl
    have rd : Reads s.heap (.ref a) (.dict []) (a :: [] ++ []) := Reads.dict e1 e2.1 e3 (by rw [ee]; exact .nil) (by rw [ee]; exact .nil)
    refine repr_of_reads' rd rfl (fun _ z => ?_) hG (by show X.A.units + (_ + 1) < cLine; simp [PyData.depth, PyData.depthKv]; omega) (fun _ _ z => z) ?_ (by decide)
    · have : sysModules = a := by simpa using z
      rw [← this] at ns
      simp at ns
    · intro h' u tk hk
      exact ⟨.str _, H, I.kept hk, ⟨u, rfl⟩, q⟩
def rReprY (K : PySem.W.Frag) : List V → Hp → VK → Prop := fun xs H Q => rReprX K xs H Q ∨ ∃ i : Int, xs = [.int i] ∧ i.natAbs.log2 < 1920 ∧ Q (.str (toString i)) H
theorem call_reprY {X : Cx} (hG : X.A.guards = some []) (hu : X.A.units + 64 < cLine) : CallR X (.builtin "repr") (rReprY X.K) := by
  intro pins s σ H xs us Q I rv h
  rcases h with h | h
  · exact call_reprX hG hu pins s σ H xs us Q I rv h
  · exact SkE.call_repr_int pins s σ H xs us Q I rv h
def rIxA (K : PySem.W.Frag) : R2 := fun x y H Q => rIxL K x y H Q ∨ rIxT K x y H Q
theorem ix_any {X : Cx} : IxR X (rIxA X.K) := by
  intro ev es pins s σ H x y v u Q I rx ry h hs
  rcases h with h | h
  · exact ix_list ev es pins s σ H x y v u Q I rx ry h hs
  · exact ix_tup ev es pins s σ H x y v u Q I rx ry h hs
end DL
namespace DL
open PySem PySem.Spec PyProof.Rows L2
open AutoSeq1 (wpAny_loadPart')
/-! ### enumerate(a tuple) -/
theorem enum_newT (a : Addr) (its : Array Value) (n : Nat) (dd : Option Addr) (sl : Array (Option Value)) : Meets (Builtin.«enumerate.__new__» ⟨[.type "enumerate", .ref a], []⟩) (fun _ R s => s.heap.get? a = some { cls := .type "tuple", dict := dd, data := .seq its n, slots := sl } ∧
      R (.ok (.ret (.ref (s.heap.push { cls := .type "tuple_iterator", data := .fields #[.ref a, .int 0 0] }).objs.size)))
        { s with heap := (s.heap.push { cls := .type "tuple_iterator", data := .fields #[.ref a, .int 0 0] }).push { cls := .type "enumerate", data := .fields #[.none, .bool false, .ref s.heap.objs.size, rawInt 0, .none, .none] } }) :=
  .of_wp fun prog w A R s h => by
    obtain ⟨hp, gg, dr, tk, os⟩ := s
    obtain ⟨hl, h⟩ := h
    have hs := sub_enumerate
    have hT : Heap.IsTuple (Shared.heap ⟨hp, gg, dr, tk, os⟩) a its := ⟨_, hl, rfl, n, rfl⟩
    wp_walk using wpAny_loadPart' hl
    refine wpAny_stack_any fun st => wpAny_pure ?_
    split
    · rename_i c _ _ _ _ _
      cases (c == Value.type "enumerate") <;> (wp_walk using wpAny_loadPart' hl, wpAny_pyIter_tuple hT) <;> exact ⟨_, rfl, h⟩
    · wp_walk using wpAny_loadPart' hl, wpAny_pyIter_tuple hT
      exact ⟨_, rfl, h⟩
theorem call_enumT {prog : Program} {w : World} {A : Around} {E : Value → Shared → Prop} {s : Shared} {a : Addr} {its : Array Value} {Q : Value → Shared → Prop} (hT : s.heap.IsTuple a its)
    (h : ∀ h2, IsEnum h2 (s.heap.objs.size + 1) s.heap.objs.size 0 .none → h2.IsTupleIter s.heap.objs.size a 0 → h2.objs.size = s.heap.objs.size + 2 → (∀ b o, s.heap.get? b = some o → h2.get? b = some o) → Q (.ref (s.heap.objs.size + 1)) { s with heap := h2 }) :
    wpAny (model prog w) A (call (.type "enumerate") [.ref a]) Q E s := by
  obtain ⟨⟨c, dd, dt, sl⟩, hl, hc, n, hd⟩ := hT
  simp only at hc hd
  subst hc hd
  refine callType_new F.called_enumerate (by decide) (F.typeCall_enumerate_1 _) (F.newCall_enumerate_1 _) (fun obj => F.args_object_init_2 obj _) F.entry_enumerate_new (enum_newT a its n dd sl) ⟨hl, ?_⟩
  have z : (s.heap.push { cls := .type "tuple_iterator", data := .fields #[.ref a, .int 0 0] }).objs.size = s.heap.objs.size + 1 := by rw [Heap.size_push]
  rw [z]
  have q := Heap.get?_push_size (s.heap.push { cls := .type "tuple_iterator", data := .fields #[.ref a, .int 0 0] }) (o := { cls := .type "enumerate", data := .fields #[.none, .bool false, .ref s.heap.objs.size, rawInt 0, .none, .none] }) rfl
  rw [z] at q
  exact ⟨⟨_, q, rfl⟩, h _ q ⟨_, Heap.get?_push_of_some _ (Heap.get?_push_size _ rfl), rfl, rfl⟩ (by rw [Heap.size_push, z]) fun b o e => Heap.get?_push_of_some _ (Heap.get?_push_of_some _ e)⟩
/-- the tuple at a, its items in new pairs with their places -/
def IteT (K : PySem.W.Frag) (a : Addr) : It where
  go i H := ∃ (us : List V) (x : V), SqT K H a us ∧ us[i]? = some x
  yld i H v H' := ∃ T x, v = .ref T ∧ H T = none ∧ H' = upd H T (.tup [.int (i : Nat), x]) ∧ ∀ us, SqT K H a us → us[i]? = some x
  stop i H := ∃ us : List V, SqT K H a us ∧ us.length = i
theorem two_of {b e it : Addr} (h : b ∈ [e, it]) : b = e ∨ b = it := by simpa using h
theorem turn_enumT {P : Program} {w : World} {K : PySem.W.Frag} {elts : List Expr} {kk : Nat} {tpos : Pos} (a e it : Addr) : Turn P w K (.Tuple elts kk tpos) (IteT K a) [e, it] e (fun i h => (∃ old, IsEnum h e it ((i : Nat) : Int) old) ∧ h.IsTupleIter it a i ∧ e ≠ it ∧ a ≠ it ∧ e ≠ a) where
  mem := List.mem_cons_self ..
  obj i h st b hb := by
    obtain ⟨⟨old, he⟩, ⟨o, ho, _, hd⟩, _⟩ := st
    rcases two_of hb with z | z <;> rw [z]
    · exact ⟨_, he, fun v q => nomatch q⟩
    · exact ⟨o, ho, fun v q => by rw [hd] at q; exact nomatch q⟩
  keep i h h' st k := by
    obtain ⟨⟨old, he⟩, hi, r⟩ := st
    exact ⟨⟨old, k e (by simp) _ he⟩, hi.at fun o q => k it (by simp) o q, r⟩
  item := by
    intro X hP hw hK hc i pins s σ H E I hf st hg
    subst hP hw hK
    obtain ⟨⟨old, he⟩, hit, hne, hai, hea⟩ := st
    obtain ⟨us, x, hq, hx⟩ := hg
    obtain ⟨its, rv, p, _⟩ := I.tuple hq
    obtain ⟨u, hu, ru⟩ := rv.get hx
    have hT : s.heap.IsTuple a its.toArray := p
    have hel : e < s.heap.objs.size := Heap.lt_size he
    have hil : it < s.heap.objs.size := by obtain ⟨_, q, _⟩ := hit; exact Heap.lt_size q
    have il : i < its.toArray.size := by
      have := (List.getElem?_eq_some_iff.mp hu).1
      simpa using this
    refine wpAny_pyNext_enum_itemD (Draws.tuple (A := X.A.in1) (I.ok.hd hc) it a hai its.toArray) he ⟨hit, hT⟩ il hne (by simp [hne, hea]) fun y h' tk hy ho st' hT' hsz hk => ?_
    obtain ⟨hit', _⟩ := st'
    have ey : y = u := by
      have hu' : its.toArray[i]? = some u := by simpa using hu
      rw [hu'] at hy
      exact (Option.some.inj hy).symm
    subst ey
    refine ⟨_, rfl, wpAny_letOwnedTupleGo_enum (s := { s with heap := h', toks := tk + 1 }) ho fun h2 he2 sb => ?_⟩
    have at2 : h2.get? s.heap.objs.size = some { cls := .type "tuple", data := .seq #[.int i tk, y] } := (sb.2 _ (Nat.ne_of_gt hel)).trans hT'
    have new : ObjOk X.prog X.w (upd H s.heap.objs.size (.tup [.int (i : Nat), x])) h2 s.heap.objs.size (.tup [.int (i : Nat), x]) :=
      ⟨by show 2 ≤ sizeLine; decide, [.int i tk, y], .cons ⟨_, rfl⟩ (.cons ru .nil), ⟨_, at2, rfl, _, rfl⟩⟩
    have I1 : Inv X pins σ (upd H s.heap.objs.size (.tup [.int (i : Nat), x])) { s with heap := h2, toks := tk + 1 } :=
      I.turnedNew (t' := tk + 1) (ch := [e, it]) (fun b ob hb q => (sb.2 b fun z => hb (by simp [z])).trans (hk b ob (fun z => hb (by simp [z])) (fun z => hb (by simp [z])) q)) hf (Nat.le_refl _) new
    refine ⟨.ref s.heap.objs.size, _, I1, rfl, ⟨_, x, rfl, I.hok.fresh (Nat.le_refl _), rfl, fun ys hy => by rw [I.tuple_inj hy hq]; exact hx⟩, ⟨⟨y, ?_⟩, hit'.at fun o q => (sb.2 it (Ne.symm hne)).trans q, hne, hai, hea⟩, fun b hb => ?_⟩
    · have e1 : ((i + 1 : Nat) : Int) = (i : Int) + 1 := by omega
      rw [e1]
      exact he2
    · have lt : b < s.heap.objs.size := by rcases two_of hb with z | z <;> rw [z] <;> assumption
      rw [upd_ne (Nat.ne_of_lt lt)]
      exact (hf b hb).1
  done := by
    intro X hP hw hK hc i pins s σ H E I hf st hg
    subst hP hw hK
    obtain ⟨⟨old, he⟩, hit, hne, hai, hea⟩ := st
    obtain ⟨us, hq, hx⟩ := hg
    obtain ⟨its, rv, p, _⟩ := I.tuple hq
    obtain ⟨f0, f1, f2, f3, f4, f5⟩ := hf it (by simp)
    have hl := rv.length
    have hT : s.heap.IsTuple a its.toArray := p
    have ei : i = its.toArray.size := by simp; omega
    refine wpAny_pyNext_enum_endD (Draws.tuple (A := X.A.in1) (I.ok.hd hc) it a hai its.toArray) he ⟨ei ▸ hit, hT⟩ fun h' eb => ⟨rfl, I.turned (t' := s.toks) (fun b o hb e => eb b o hb e) f0 f1 f3 f4 f5⟩
  self A i s Q E st h := wpAny_pyIter_enum st.1.choose_spec h
/-- enumerate of a list or of a tuple -/
def iEnumA (K : PySem.W.Frag) (ta : TA) : TI := fun σ H R => ta σ H fun vs H1 => ∃ a xs, vs = [.ref a] ∧ ((SqL K H1 a xs ∧ R (Ite K a) H1) ∨ (SqT K H1 a xs ∧ R (IteT K a) H1))
theorem pi_enumA {X : Cx} {e : PySem.Expr} {ta : TA} {p pos tpos : Pos} {elts : List PySem.Expr} {kk : Nat} (hg : Gl X "enumerate") (hm : X.mg "enumerate" = none) (ha : PA X [e] ta) (hs : starEach [e] X.env = [(false, eval e X.env)] := by rfl) :
    PI X (.Tuple elts kk tpos) (.Call (.Name "enumerate" p) [e] [] pos) (iEnumA X.K ta) := ⟨fun pins s σ H R I h => by
  refine Call_ (ld_blt I hg hm boot_enumerate (PyProof.Rows.callWith_type1 (thn (ha.run pos pins s σ H _ I h) fun us s1 ⟨vs, H1, I1, r1, a, xs, ex, q1⟩ => ?_) hs rfl))
  subst ex
  cases r1 with
  | cons r rr =>
    cases rr
    cases r
    have fp : ∀ b ∈ [s1.heap.objs.size + 1, s1.heap.objs.size], FpOk X pins H1 b := fun b hb => by
      have hle : s1.heap.objs.size ≤ b := by
        rcases two_of hb with z | z
        · rw [z]; exact Nat.le_add_right _ _
        · rw [z]; exact Nat.le_refl _
      exact I1.fpOk hle (I1.hok.fresh hle)
    rcases q1 with ⟨hq, q⟩ | ⟨hq, q⟩
    · obtain ⟨its, rv, pl, _⟩ := I1.list hq
      refine call_enumerate_list pl.isList fun h2 he hit _ hk => wpAny_pyIter_enum he ?_
      exact ⟨_, _, _, _, H1, rfl, I1.kept (t' := s1.toks) hk, turn_enum a (s1.heap.objs.size + 1) s1.heap.objs.size, ⟨⟨.none, he⟩, hit, Nat.succ_ne_self _⟩, fp, q⟩
    · obtain ⟨its, rv, pl, _⟩ := I1.tuple hq
      obtain ⟨o, ho, _⟩ := id pl
      have la : a < s1.heap.objs.size := Heap.lt_size ho
      refine call_enumT (show s1.heap.IsTuple a its.toArray from pl) fun h2 he hit _ hk => wpAny_pyIter_enum he ?_
      exact ⟨_, _, _, _, H1, rfl, I1.kept (t' := s1.toks) hk, turn_enumT a (s1.heap.objs.size + 1) s1.heap.objs.size, ⟨⟨.none, he⟩, hit, Nat.succ_ne_self _, Nat.ne_of_lt la, Nat.ne_of_gt (Nat.lt_succ_of_lt la)⟩, fp, q⟩⟩
end DL
namespace VM
open PySem PySem.Spec PyProof.Rows L2 DL LamX
/-! ### lists as they stand -/
def lv (m : Mu) : Dat → Option (List Dat)
  | .lst xs => some xs
  | .cell k => (match m[k]? with | some o => o | none => none)
  | _ => none
section
variable {K : Gm} {A : As} {H : Hp} {m : Mu} {d e : Dat} {v u : V}
theorem cell_eq {k : Nat} {xs : List Dat} (h : lv m (.cell k) = some xs) : m[k]? = some (some xs) := by
  cases q : m[k]? with
  | some o => simp only [lv, q] at h; rw [h]
  | none => simp only [lv, q] at h; cases h
theorem lv_at {xs : List Dat} (h : lv m d = some xs) (s : Sto K A H m) (x : Dn K A H v d) : ∃ a vs, v = .ref a ∧ SqL K H a vs ∧ Dns K A H vs xs := by
  cases d with
  | lst ys =>
    cases h
    cases x with
    | @lst a vs _ h1 t1 => exact ⟨a, vs, rfl, sqL_hid h1, t1⟩
  | cell k =>
    obtain ⟨a, vs, rfl, hk, ho, t1⟩ := s.cell x (cell_eq h)
    exact ⟨a, vs, rfl, .inl (.inl ho), t1⟩
  | _ => cases h
/-- tuples or lists -/
def sq (m : Mu) : Dat → Option (List Dat)
  | .tup xs => some xs
  | d => lv m d
theorem sq_at {xs : List Dat} (h : sq m d = some xs) (s : Sto K A H m) (x : Dn K A H v d) : ∃ a vs, v = .ref a ∧ (SqL K H a vs ∨ SqT K H a vs) ∧ Dns K A H vs xs := by
  have go : lv m d = some xs → ∃ a vs, v = .ref a ∧ (SqL K H a vs ∨ SqT K H a vs) ∧ Dns K A H vs xs := fun h => by
    obtain ⟨a, vs, e1, e2, e3⟩ := lv_at h s x
    exact ⟨a, vs, e1, .inl e2, e3⟩
  cases d with
  | tup ys =>
    cases h
    cases x with
    | @tup a vs _ h1 t1 => exact ⟨a, vs, rfl, .inr (sqT_hid h1), t1⟩
  | _ => exact go h
end
/-! ### data that is compared, shown -/
def optAll {α β : Type} (f : α → Option β) : List α → Option (List β)
  | [] => some []
  | x :: xs => match f x with
    | none => none
    | some y => match optAll f xs with
      | none => none
      | some ys => some (y :: ys)
def toP (m : Mu) : Nat → Dat → Option PyData
  | 0, _ => none
  | n + 1, d => match d with
    | .non => some .none
    | .bl b => some (.bool b)
    | .int i => some (.int i)
    | .str x => some (.str x)
    | .tup xs => (optAll (toP m n) xs).map .tuple
    | .lst xs => (optAll (toP m n) xs).map .list
    | .cell k => (match lv m (.cell k) with | some xs => (optAll (toP m n) xs).map .list | none => none)
    | _ => none
section
variable {K : Gm} {A : As} {H : Hp} {m : Mu}
theorem all_dp {n : Nat} (ih : ∀ {v : V} {d : Dat} {p : PyData}, toP m n d = some p → Dn K A H v d → Dp K H v p) : ∀ {vs : List V} {ds : List Dat} {ps : List PyData}, optAll (toP m n) ds = some ps → Dns K A H vs ds → DpAll K H vs ps
  | [], ds, ps, h, w => by cases w; cases h; exact .nil
  | v :: vs, ds, ps, h, w => by
    cases w with
    | @cons _ _ d ds x t =>
    unfold optAll at h
    split at h
    · cases h
    · rename_i y hy
      split at h
      · cases h
      · rename_i ys hys
        cases h
        exact .cons (ih hy x) (all_dp ih hys t)
theorem toP_dp (s : Sto K A H m) : ∀ {n : Nat} {v : V} {d : Dat} {p : PyData}, toP m n d = some p → Dn K A H v d → Dp K H v p
  | 0, _, _, _, h, _ => by cases h
  | n + 1, v, d, p, h, x => by
    unfold toP at h
    cases d with
    | non => cases h; cases x; exact .non
    | bl b => cases h; cases x; exact .bl b
    | int i => cases h; cases x; exact .int i
    | str z => cases h; cases x; exact .str z
    | tup xs =>
      simp only at h
      cases q : optAll (toP m n) xs with
      | none => rw [q] at h; cases h
      | some ps =>
        rw [q] at h; cases h
        cases x with
        | tup h1 t1 => exact .tup (sqT_hid h1) (all_dp (fun a b => toP_dp s a b) q t1)
    | lst xs =>
      simp only at h
      cases q : optAll (toP m n) xs with
      | none => rw [q] at h; cases h
      | some ps =>
        rw [q] at h; cases h
        cases x with
        | lst h1 t1 => exact .lst (sqL_hid h1) (all_dp (fun a b => toP_dp s a b) q t1)
    | cell k =>
      simp only at h
      cases q0 : lv m (.cell k) with
      | none => rw [q0] at h; cases h
      | some xs =>
        rw [q0] at h
        simp only at h
        cases q : optAll (toP m n) xs with
        | none => rw [q] at h; cases h
        | some ps =>
          rw [q] at h; cases h
          obtain ⟨a, vs, rfl, h1, t1⟩ := lv_at q0 s x
          exact .lst h1 (all_dp (fun a b => toP_dp s a b) q t1)
    | _ => cases h
end
def toS (m : Mu) (d : Dat) : Option PyData := match toP m 60 d with
  | some p => if SeqAt.shaped p = true then some p else none
  | none => none
theorem toS_of {m : Mu} {d : Dat} {p : PyData} (h : toS m d = some p) : toP m 60 d = some p ∧ SeqAt.shaped p = true := by
  unfold toS at h
  split at h
  · rename_i q hq
    split at h
    · rename_i hs
      cases h
      exact ⟨hq, hs⟩
    · cases h
  · cases h
def fEq : F2 := fun d e m => match toS m d, toS m e with | some p, some q => some (.bl (PyData.eqv p q), m) | _, _ => none
def fNe : F2 := fun d e m => match toS m d, toS m e with | some p, some q => some (.bl (!PyData.eqv p q), m) | _, _ => none
section
variable {K : Gm}
theorem is_eq : Is2 K (rEqD K) fEq := fun d e m z m' h A H x y s a b Q q => by
  unfold fEq at h
  split at h
  · rename_i p p2 h1 h2
    cases h
    obtain ⟨a1, a2⟩ := toS_of h1
    obtain ⟨b1, b2⟩ := toS_of h2
    exact ⟨p, p2, toP_dp s a1 a, toP_dp s b1 b, a2, b2, q A H _ _ _ (Ext.refl A H) s (.bl _) ⟨rfl, rfl⟩⟩
  · cases h
theorem is_ne : Is2 K (rNeD K) fNe := fun d e m z m' h A H x y s a b Q q => by
  unfold fNe at h
  split at h
  · rename_i p p2 h1 h2
    cases h
    obtain ⟨a1, a2⟩ := toS_of h1
    obtain ⟨b1, b2⟩ := toS_of h2
    exact ⟨p, p2, toP_dp s a1 a, toP_dp s b1 b, a2, b2, q A H _ _ _ (Ext.refl A H) s (.bl _) ⟨rfl, rfl⟩⟩
  · cases h
def fIn (neg : Bool) : F2 := fun d e m => match toS m d, lv m e with
  | some p, some xs => (match optAll (toP m 59) xs with
    | some ps => if SeqAt.shaped (.list ps) = true then some (.bl (if neg then !ps.any fun z => PyData.eqv z p else ps.any fun z => PyData.eqv z p), m) else none
    | none => none)
  | _, _ => none
theorem in_ok {d e z : Dat} {m m' : Mu} {neg : Bool} (h : fIn neg d e m = some (z, m')) {A : As} {H : Hp} {x y : V} (s : Sto K A H m) (a : Dn K A H x d) (b : Dn K A H y e) : ∃ p ps, Dp K H x p ∧ Dp K H y (.list ps) ∧ SeqAt.shaped p = true ∧ SeqAt.shaped (.list ps) = true ∧ z = .bl (if neg then !ps.any fun z => PyData.eqv z p else ps.any fun z => PyData.eqv z p) ∧ m' = m := by
  unfold fIn at h
  split at h
  · rename_i p xs h1 h2
    split at h
    · rename_i ps h3
      split at h
      · rename_i h4
        cases h
        obtain ⟨a1, a2⟩ := toS_of h1
        obtain ⟨l, vs, rfl, hl, t⟩ := lv_at h2 s b
        exact ⟨p, ps, toP_dp s a1 a, .lst hl (all_dp (fun a b => toP_dp s a b) h3 t), a2, h4, rfl, rfl⟩
      · cases h
    · cases h
  · cases h
theorem is_in : Is2 K (rInD K) (fIn false) := fun d e m z m' h A H x y s a b Q q => by
  obtain ⟨p, ps, h1, h2, h3, h4, rfl, rfl⟩ := in_ok h s a b
  exact ⟨p, ps, h1, h2, h3, h4, q A H _ _ _ (Ext.refl A H) s (.bl _) ⟨rfl, rfl⟩⟩
theorem is_notIn : Is2 K (rNotInD K) (fIn true) := fun d e m z m' h A H x y s a b Q q => by
  obtain ⟨p, ps, h1, h2, h3, h4, rfl, rfl⟩ := in_ok h s a b
  exact ⟨p, ps, h1, h2, h3, h4, q A H _ _ _ (Ext.refl A H) s (.bl _) ⟨rfl, rfl⟩⟩
/-! ### whole numbers -/
def fI (C : Int → Int → Bool) (g : Int → Int → Dat) : F2 := fun d e m => match d, e with
  | .int i, .int j => if C i j then some (g i j, m) else none
  | _, _ => none
theorem fI_of {C : Int → Int → Bool} {g : Int → Int → Dat} {d e z : Dat} {m m' : Mu} (h : fI C g d e m = some (z, m')) : ∃ i j, d = .int i ∧ e = .int j ∧ C i j = true ∧ z = g i j ∧ m' = m := by
  unfold fI at h
  split at h
  · split at h
    · rename_i i j hc
      cases h
      exact ⟨i, j, rfl, rfl, hc, rfl, rfl⟩
    · cases h
  · cases h
theorem is_I0 {g : Int → Int → V} {f : Int → Int → Dat} (hg : ∀ i j A H, Dn K A H (g i j) (f i j)) : Is2 K (rI0 g) (fI (fun _ _ => true) f) := fun d e m z m' h A H x y s a b Q q => by
  obtain ⟨i, j, rfl, rfl, _, rfl, rfl⟩ := fI_of h
  cases a; cases b
  exact ⟨i, j, rfl, rfl, q A H _ _ _ (Ext.refl A H) s (hg i j A H) ⟨rfl, rfl⟩⟩
theorem is_I {P : Int → Int → Prop} {C : Int → Int → Bool} {g : Int → Int → V} {f : Int → Int → Dat} (hc : ∀ i j, C i j = true → P i j) (hg : ∀ i j A H, Dn K A H (g i j) (f i j)) : Is2 K (rI P g) (fI C f) := fun d e m z m' h A H x y s a b Q q => by
  obtain ⟨i, j, rfl, rfl, c, rfl, rfl⟩ := fI_of h
  cases a; cases b
  exact ⟨i, j, rfl, rfl, hc i j c, q A H _ _ _ (Ext.refl A H) s (hg i j A H) ⟨rfl, rfl⟩⟩
def cMul (i j : Int) : Bool := (decide (-(2 ^ 64) < i) && decide (i < 2 ^ 64)) || (decide (-(2 ^ 64) < j) && decide (j < 2 ^ 64))
theorem cMul_of {i j : Int} (h : cMul i j = true) : CMul i j := by
  unfold cMul at h
  simp only [Bool.or_eq_true, Bool.and_eq_true, decide_eq_true_eq] at h
  exact h
def cDiv (i j : Int) : Bool := decide (0 < j) && decide (j < 1073741824)
theorem cDiv_of {i j : Int} (h : cDiv i j = true) : CDiv i j := by
  unfold cDiv at h
  simp only [Bool.and_eq_true, decide_eq_true_eq] at h
  exact h
def cMod (_ j : Int) : Bool := decide (0 < j)
def cPow (i j : Int) : Bool := decide (0 ≤ j) && (decide (j ≤ 1000000) && decide (i.natAbs < 2 ^ 64))
theorem cPow_of {i j : Int} (h : cPow i j = true) : CPow i j := by
  unfold cPow at h
  simp only [Bool.and_eq_true, decide_eq_true_eq] at h
  exact h
abbrev dI (f : Int → Int → Int) : Int → Int → Dat := fun i j => .int (f i j)
abbrev dB (f : Int → Int → Bool) : Int → Int → Dat := fun i j => .bl (f i j)
/-! ### + and * -/
def fCat : F2 := fun d e m => match d, e with
  | .tup xs, .tup ys => if xs.length + ys.length ≤ sizeLine then some (.tup (xs ++ ys), m) else none
  | _, _ => none
theorem is_cat : Is2 K (rCatA K) fCat := fun d e m z m' h => by
  unfold fCat at h
  split at h
  · split at h
    · cases h
      exact rw_cat (by assumption) ⟨rfl, rfl⟩
    · cases h
  · cases h
def fCatL : F2 := fun d e m => match lv m d, lv m e with
  | some xs, some ys => if xs.length + ys.length ≤ sizeLine then some (.lst (xs ++ ys), m) else none
  | _, _ => none
theorem is_catL : Is2 K (rCatL K) fCatL := fun d e m z m' h A H x y s a b Q q => by
  unfold fCatL at h
  split at h
  · split at h
    · rename_i xs ys h1 h2 hz
      cases h
      obtain ⟨l, vs, rfl, e1, t1⟩ := lv_at h1 s a
      obtain ⟨k, ws, rfl, e2, t2⟩ := lv_at h2 s b
      exact ⟨l, k, vs, ws, rfl, rfl, e1, e2, by rw [t1.length, t2.length]; exact hz, fun c hc => q A _ _ _ _ (ext_new hc) (s.new hc) (Dn.newL s hc (t1.append t2)) ⟨rfl, rfl⟩⟩
    · cases h
  · cases h
def rStrCat : R2 := fun x y H Q => ∃ i j, x = .str i ∧ y = .str j ∧ i.length + j.length ≤ sizeLine ∧ Q (.str (i ++ j)) H
theorem op_strCat {X : Cx} : OpR X (binaryOp .Add) rStrCat := op_add_str
def fStrCat : F2 := fun d e m => match d, e with
  | .str i, .str j => if i.length + j.length ≤ sizeLine then some (.str (i ++ j), m) else none
  | _, _ => none
theorem is_strCat : Is2 K rStrCat fStrCat := fun d e m z m' h A H x y s a b Q q => by
  unfold fStrCat at h
  split at h
  · split at h
    · rename_i i j hz
      cases h
      cases a; cases b
      exact ⟨i, j, rfl, rfl, hz, q A H _ _ _ (Ext.refl A H) s (.str _) ⟨rfl, rfl⟩⟩
    · cases h
  · cases h
def rPlus (K : PySem.W.Frag) : R2 := rEither (rI0 fun i j => .int (i + j)) (rEither (rCatA K) (rEither (rCatL K) rStrCat))
theorem op_plus {X : Cx} : OpR X (binaryOp .Add) (rPlus X.K) := op_either op_add (op_either op_catA (op_either op_catL op_strCat))
def fAdd : F2 := fun d e m => match d, e with
  | .int i, .int j => some (.int (i + j), m)
  | .tup _, .tup _ => fCat d e m
  | .str _, .str _ => fStrCat d e m
  | _, _ => fCatL d e m
theorem is_plus : Is2 K (rPlus K) fAdd := is2_weak (is2_either (is_I0 (f := dI (· + ·)) fun _ _ _ _ => .int _) (is2_either is_cat (is2_either is_catL is_strCat))) fun d e m z m' h => by
  unfold fAdd at h
  split at h
  · cases h; rfl
  · rename_i xs ys
    show (fCat (.tup xs) (.tup ys) m).orElse _ = _
    rw [h]; rfl
  · rename_i xs ys
    show fStrCat (.str xs) (.str ys) m = _
    exact h
  · rename_i g1 g2 g3
    have h0 : fI (fun _ _ => true) (dI (· + ·)) d e m = none := by
      cases d with
      | int i => cases e with
        | int j => exact (g1 i j rfl rfl).elim
        | _ => rfl
      | _ => rfl
    have h1 : fCat d e m = none := by
      cases d with
      | tup i => cases e with
        | tup j => exact (g2 i j rfl rfl).elim
        | _ => rfl
      | _ => rfl
    show (fI (fun _ _ => true) (dI (· + ·)) d e m).orElse (fun _ => (fCat d e m).orElse fun _ => (fCatL d e m).orElse fun _ => fStrCat d e m) = _
    rw [h0, h1]
    show (fCatL d e m).orElse _ = _
    rw [h]; rfl
def fRepT : F2 := fun d e m => match d, e with
  | .tup xs, .int k => if xs.isEmpty = false ∧ 1 ≤ k ∧ k ≤ 1000 ∧ xs.length ≤ 1000 then some (.tup (List.replicate k.toNat xs).flatten, m) else none
  | _, _ => none
theorem is_repT : Is2 K (rRepA K) fRepT := fun d e m z m' h => by
  unfold fRepT at h
  split at h
  · split at h
    · rename_i xs k hz
      cases h
      exact rw_rep (fun z => by rw [z] at hz; exact absurd hz.1 (by decide)) hz.2.1 hz.2.2.1 hz.2.2.2 ⟨rfl, rfl⟩
    · cases h
  · cases h
def fRepC : F2 := fun d e m => match d, e with
  | .cell k, .int n => (match lv m (.cell k) with
    | some xs => if 0 ≤ n ∧ n ≤ 1000 ∧ xs.length ≤ 1000 then some (.lst (List.replicate n.toNat xs).flatten, m) else none
    | none => none)
  | _, _ => none
theorem is_repC : Is2 K rRep fRepC := fun d e m z m' h A H x y s a b Q q => by
  unfold fRepC at h
  split at h
  · rename_i k n
    split at h
    · rename_i xs h1
      split at h
      · rename_i hz
        cases h
        cases b
        obtain ⟨l, vs, rfl, hk, ho, t1⟩ := s.cell a (cell_eq h1)
        have hl := t1.length
        have hb : vs.length * n.toNat ≤ 1000 * 1000 := Nat.mul_le_mul (by omega) (by omega)
        exact ⟨l, n, vs, rfl, rfl, ho, by omega, by omega, by rw [sizeLine_eq]; omega, fun b hb => q A _ _ _ _ (ext_new hb) (s.new hb) (Dn.newL s hb (t1.rep _)) ⟨rfl, rfl⟩⟩
      · cases h
    · cases h
  · cases h
def rTimes (K : PySem.W.Frag) : R2 := rEither (rI CMul fun i j => .int (i * j)) (rEither (rRepA K) rRep)
theorem op_times {X : Cx} : OpR X (binaryOp .Mult) (rTimes X.K) := op_either op_mul (op_either op_repA op_rep)
def fMul : F2 := fun d e m => match d with
  | .int _ => fI cMul (dI (· * ·)) d e m
  | .tup _ => fRepT d e m
  | _ => fRepC d e m
theorem is_times : Is2 K (rTimes K) fMul := is2_weak (is2_either (is_I (f := dI (· * ·)) (fun _ _ => cMul_of) fun _ _ _ _ => .int _) (is2_either is_repT is_repC)) fun d e m z m' h => by
  show (fI cMul (dI (· * ·)) d e m).orElse (fun _ => (fRepT d e m).orElse fun _ => fRepC d e m) = _
  cases d with
  | int i =>
    have h : fI cMul (dI (· * ·)) (.int i) e m = _ := h
    rw [h]; rfl
  | tup xs =>
    have h : fRepT (.tup xs) e m = _ := h
    show (fRepT (.tup xs) e m).orElse _ = _
    rw [h]; rfl
  | _ => exact h
/-! ### is -/
def fIsN : F2 := fun d e m => match e with | .non => some (.bl (isNon d), m) | _ => none
def fNotN : F2 := fun d e m => match e with | .non => some (.bl (!isNon d), m) | _ => none
theorem is_isN : Is2 K rIsN fIsN := fun d e m z m' h => by
  unfold fIsN at h
  split at h
  · cases h; exact rw_isN ⟨rfl, rfl⟩
  · cases h
theorem is_notN : Is2 K rNotN fNotN := fun d e m z m' h => by
  unfold fNotN at h
  split at h
  · cases h; exact rw_notN ⟨rfl, rfl⟩
  · cases h
def fIsB : F2 := fun d e m => match d, e with | .bl a, .bl b => some (.bl (decide (a = b)), m) | _, _ => none
def fNotB : F2 := fun d e m => match d, e with | .bl a, .bl b => some (.bl (!decide (a = b)), m) | _, _ => none
theorem is_isB : Is2 K rIsB fIsB := fun d e m z m' h => by
  unfold fIsB at h
  split at h
  · cases h; exact rw_isB ⟨rfl, rfl⟩
  · cases h
theorem is_notB : Is2 K rNotB fNotB := fun d e m z m' h => by
  unfold fNotB at h
  split at h
  · cases h; exact rw_notB ⟨rfl, rfl⟩
  · cases h
/-! ### d[i] -/
def fIx : F2 := fun d e m => match e with
  | .int i => (match d with
    | .str z => if z.length ≤ sizeLine then (atI z.cps.toList i).map fun c => (.str ⟨#[c]⟩, m) else none
    | d => (match sq m d with | some xs => (atI xs i).map fun f => (f, m) | none => none))
  | _ => none
theorem atI_get {xs : List Dat} {vs : List V} {A : As} {H : Hp} {i : Int} {f : Dat} (t : Dns K A H vs xs) (h : atI xs i = some f) : ∃ v, atI vs i = some v ∧ Dn K A H v f := by
  unfold atI at h ⊢
  rw [t.length]
  cases q : ixN xs.length i with
  | none => rw [q] at h; cases h
  | some j =>
    rw [q] at h
    obtain ⟨v, h1, h2⟩ := t.get (i := j) h
    exact ⟨v, h1, h2⟩
theorem is_ix : Is2 K (rIx K) fIx := fun d e m z m' h A H x y s a b Q q => by
  unfold fIx at h
  split at h
  · rename_i i
    cases b
    split at h
    · rename_i w
      split at h
      · rename_i hz
        cases q1 : atI w.cps.toList i with
        | none => rw [q1] at h; cases h
        | some c =>
          rw [q1] at h; cases h
          cases a
          exact .inr (.inr ⟨w, i, c, rfl, rfl, hz, q1, q A H _ _ _ (Ext.refl A H) s (.str _) ⟨rfl, rfl⟩⟩)
      · cases h
    · split at h
      · rename_i xs hs
        cases q1 : atI xs i with
        | none => rw [q1] at h; cases h
        | some f =>
          rw [q1] at h; cases h
          obtain ⟨p, vs, rfl, hq, t⟩ := sq_at hs s a
          obtain ⟨v, h1, h2⟩ := atI_get t q1
          rcases hq with hq | hq
          · exact .inl ⟨p, vs, i, v, rfl, rfl, hq, h1, q A H _ _ _ (Ext.refl A H) s h2 ⟨rfl, rfl⟩⟩
          · exact .inr (.inl ⟨p, vs, i, v, rfl, rfl, hq, h1, q A H _ _ _ (Ext.refl A H) s h2 ⟨rfl, rfl⟩⟩)
      · cases h
  · cases h
end
end VM
namespace VM
open PySem PySem.Spec PyProof.Rows L2 DL LamX C8
section
variable {X : Cx} {c : Cc} {a b e : Expr} {es : List Expr} {pos p2 : Pos} {fa fb fc : Sm Dat} {fs : Sm (List Dat)} {ft fu : Sm Bool}
/-! ### -x -/
def sNeg (f : Sm Dat) : Sm Dat := fun ρ m => (f ρ m).bind fun d m1 => match d with | .int i => .ok (.int (-i)) m1 | _ => .no
theorem v_neg (ha : PE X a (RdE c fa)) : PE X (.UnaryOp .USub a pos) (RdE c (sNeg fa)) :=
  PE.weak (pe_un un_neg ha) fun σ H Q ⟨A, ρ, μ, t, h⟩ => val_next t h fun v d A1 H1 m1 t1 e1 x1 h1 => by
    cases d with
    | int i => cases x1; exact ⟨i, rfl, fin_ok h1 (Ext.refl A1 H1) t1.sto (.int _)⟩
    | _ => exact h1.elim
theorem v_notV (ha : PT X a (RdT c ft)) (hn : PE X (.UnaryOp .Not a pos) (RdE c fb) → True) : True := trivial
/-! ### slices -/
def sNoPart : Sm (Option Int) := fun _ m => .ok none m
def sPart (f : Sm Dat) : Sm (Option Int) := fun ρ m => (f ρ m).bind fun d m1 => match d with | .int i => .ok (some i) m1 | _ => .no
theorem v_noPart : PO X none (RdO c sNoPart) := ⟨fun pins s σ H Q I ⟨A, ρ, μ, t, h⟩ => po_none.run pins s σ H Q I (fin_ok h (Ext.refl A H) t.sto rfl)⟩
theorem v_part (ha : PE X a (RdE c fa)) : PO X (some a) (RdO c (sPart fa)) := ⟨fun pins s σ H Q I ⟨A, ρ, μ, t, h⟩ => (po_some ha).run pins s σ H Q I (val_next t h fun v d A1 H1 m1 t1 e1 x1 h1 => by
    cases d with
    | int i => cases x1; exact ⟨i, rfl, fin_ok h1 (Ext.refl A1 H1) t1.sto rfl⟩
    | _ => exact h1.elim)⟩
def rSl (K : PySem.W.Frag) : V → Option Int → Option Int → Hp → VK → Prop := fun x lo hi H Q => rSlA K x lo hi H Q ∨ (rSlL K x lo hi H Q ∨ rSlX x lo hi H Q)
theorem sl_any : SlR X (rSl X.K) := SlR.or sl_tupA (SlR.or sl_list sl_txt)
def fSl (d : Dat) (lo hi : Option Int) (m : Mu) : Option (Dat × Mu) := match d with
  | .tup xs => some (.tup (cut xs lo hi), m)
  | .str z => if z.length ≤ sizeLine then some (.str (Txt.slice z lo hi), m) else none
  | d => (match lv m d with | some xs => some (.lst (cut xs lo hi), m) | none => none)
theorem sl_run {K : Gm} {d : Dat} {lo hi : Option Int} {m m' : Mu} {z : Dat} (h : fSl d lo hi m = some (z, m')) {A : As} {H : Hp} {x : V} (s : Sto K A H m) (xd : Dn K A H x d) {Q : VK} (q : ∀ A' H' v, Ext A H A' H' → Sto K A' H' m' → Dn K A' H' v z → Q v H') : rSl K x lo hi H Q := by
  have go : ∀ xs, lv m d = some xs → z = .lst (cut xs lo hi) → m' = m → rSl K x lo hi H Q := fun xs hl hz hm => by
    subst hz hm
    obtain ⟨p, vs, rfl, hs, t⟩ := lv_at hl s xd
    exact .inr (.inl ⟨p, vs, rfl, hs, fun b hb => q A _ _ (ext_new hb) (s.new hb) (Dn.newL s hb (t.cut lo hi))⟩)
  unfold fSl at h
  split at h
  · rename_i xs
    cases h
    cases xd with
    | @tup p vs _ h1 t1 =>
      have l1 := t1.length
      refine .inl ⟨p, vs, rfl, sqT_hid h1, fun w => ?_, fun _ b hb => ?_⟩
      · have e : cut xs lo hi = xs := by
          unfold cut
          rw [← l1, w.1, w.2, List.drop_zero, Nat.sub_zero, l1, List.take_length]
        rw [e] at q
        exact q A H _ (Ext.refl A H) s (.tup h1 t1)
      · exact q A _ _ (ext_new hb) (s.new hb) (Dn.newT s hb (t1.cut lo hi))
  · rename_i w
    split at h
    · cases h
      cases xd
      exact .inr (.inr ⟨w, rfl, by assumption, q A H _ (Ext.refl A H) s (.str _)⟩)
    · cases h
  · split at h
    · rename_i xs hx
      cases h
      exact go xs hx rfl rfl
    · cases h
def sSl (f : Sm Dat) (lo hi : Sm (Option Int)) : Sm Dat := fun ρ m => (f ρ m).bind fun d m1 => (lo ρ m1).bind fun l m2 => (hi ρ m2).bind fun u m3 => R.of2 (fSl d l u m3)
theorem v_sl {lo hi : Option Expr} {fl fh : Sm (Option Int)} (hK : X.K = c.K.K) (ha : PE X a (RdE c fa)) (hl : PO X lo (RdO c fl)) (hh : PO X hi (RdO c fh)) : PE X (.Subscript a (.Slice lo hi none p2) pos) (RdE c (sSl fa fl fh)) :=
  PE.weak (pe_slice (show SlR X (rSl c.K.K) from hK ▸ sl_any) ha hl hh) fun σ H Q ⟨A, ρ, μ, t, h⟩ => val_next t h fun v d A1 H1 m1 t1 e1 x1 h1 =>
    ⟨A1, ρ, m1, t1, (fin_bind (rel := rO) h1).imp fun l H2 ⟨A2, l', m2, _, e2, s2, hl2, h2⟩ => ⟨A2, ρ, m2, t1.next e2 s2, (fin_bind (rel := rO) h2).imp fun u H3 ⟨A3, u', m3, _, e3, s3, hu3, h3⟩ => by
      have hl2 : l = l' := hl2
      have hu3 : u = u' := hu3
      subst hl2 hu3
      obtain ⟨z, m', hz, q⟩ := fin_of2 h3
      exact sl_run hz s3 (x1.mono (e2.trans e3)) q⟩⟩
theorem v_ix (hK : X.K = c.K.K) (ha : PE X a (RdE c fa)) (hb : PE X b (RdE c fb)) (hs : PlainIx b) : PE X (.Subscript a b pos) (RdE c (sOp fIx fa fb)) :=
  PE.weak (pe_ix (show IxR X (rIx c.K.K) from hK ▸ ix_seq) ha hb hs) fun σ H Q ⟨A, ρ, μ, t, h⟩ =>
    ⟨A, ρ, μ, t, (fin_bind (rel := rD c) h).imp fun x H1 ⟨A1, d, m1, _, e1, s1, x1, h1⟩ =>
      ⟨A1, ρ, m1, t.next e1 s1, (fin_bind (rel := rD c) h1).imp fun y H2 ⟨A2, e, m2, _, e2, s2, y2, h2⟩ => is2_run is_ix s2 (x1.mono e2) y2 h2⟩⟩
/-! ### built-ins -/
abbrev FC := List Dat → Mu → Option (Dat × Mu)
def IsC (K : Gm) (r : List V → Hp → VK → Prop) (f : FC) : Prop := ∀ ds m z m', f ds m = some (z, m') → CW K r ds m fun z1 m1 => z1 = z ∧ m1 = m'
theorem isC_run {r : List V → Hp → VK → Prop} {f : FC} (hr : IsC c.K r f) {σ : L2.St} {A : As} {H : Hp} {vs : List V} {ds : List Dat} {m : Mu} {Q : VK} (s : Sto c.K A H m) (hx : Dns c.K A H vs ds) (h : Fin c σ A H (R.of2 (f ds m)) (rD c) Q) : r vs H Q := by
  obtain ⟨z, m', hz, q⟩ := fin_of2 h
  exact hr ds m z m' hz A H vs s hx Q fun A3 H3 v z1 m1 e3 s3 v3 ⟨h1, h2⟩ => by subst h1 h2; exact q A3 H3 v e3 s3 v3
theorem isC_either {K : Gm} {r r' : List V → Hp → VK → Prop} {f g : FC} (h : IsC K r f) (h' : IsC K r' g) : IsC K (rEitherC r r') (fun ds m => (f ds m).orElse fun _ => g ds m) := fun ds m z m' q => by
  have q : (f ds m).orElse (fun _ => g ds m) = some (z, m') := q
  cases q1 : f ds m with
  | some p =>
    rw [q1] at q
    have : p = (z, m') := Option.some.inj q
    subst this
    exact fun A H x s a Q k => .inl (h ds m z m' q1 A H x s a Q k)
  | none =>
    rw [q1] at q
    exact fun A H x s a Q k => .inr (h' ds m z m' q A H x s a Q k)
theorem isC_weak {K : Gm} {r : List V → Hp → VK → Prop} {f g : FC} (h : IsC K r f) (w : ∀ ds m z m', g ds m = some (z, m') → f ds m = some (z, m')) : IsC K r g := fun ds m z m' q => h ds m z m' (w ds m z m' q)
def sCB (f : FC) (g : Sm (List Dat)) : Sm Dat := fun ρ m => (g ρ m).bind fun ds m1 => R.of2 (f ds m1)
theorem cb_run {r : List V → Hp → VK → Prop} {f : FC} (hr : IsC c.K r f) {σ : L2.St} {H : Hp} {Q : VK} (q : RdE c (sCB f fs) σ H Q) : tCB r (RdA c fs) σ H Q := by
  obtain ⟨A, ρ, μ, t, h⟩ := q
  exact args_next t h fun v d A1 H1 m1 t1 e1 x1 h1 => isC_run hr t1.sto x1 h1
theorem v_callB {id : String} {r : List V → Hp → VK → Prop} {f : FC} {x : Str} {p : Pos} (hc : CallR X (.builtin id) r) (hr : IsC c.K r f) (hg : Gl X x) (hm : X.mg x = none) (hv : bootBuiltins x = some (.builtin id)) (ha : PA X (e :: es) (RdA c fs)) (hn : x ≠ "__name__") (hdb : (x == ("__debug__" : Str)) = false)
    (he : starEach (e :: es) X.env = (false, eval e X.env) :: starEach es X.env) (hpl : (backTo pos (starEach es X.env)).any (·.1) = false) : PE X (.Call (.Name x p) (e :: es) [] pos) (RdE c (sCB f fs)) :=
  PE.weak (pe_callB hc hg hm hv ha hn hdb he hpl) fun σ H Q q => cb_run hr q
theorem v_callT {T : String} {r : List V → Hp → VK → Prop} {f : FC} {x : Str} {p : Pos} (hc : CallR X (.type T) r) (hr : IsC c.K r f) (hg : Gl X x) (hm : X.mg x = none) (hv : bootBuiltins x = some (.type T)) (ha : PA X (e :: es) (RdA c fs)) (hn : x ≠ "__name__") (hdb : (x == ("__debug__" : Str)) = false)
    (he : starEach (e :: es) X.env = (false, eval e X.env) :: starEach es X.env) (hpl : (backTo pos (starEach es X.env)).any (·.1) = false) : PE X (.Call (.Name x p) (e :: es) [] pos) (RdE c (sCB f fs)) :=
  PE.weak (pe_callTy hc hg hm hv ha hn hdb he hpl) fun σ H Q q => cb_run hr q
end
section
variable {K : Gm}
def fLen : FC := fun ds m => match ds with
  | [.str z] => if z.length ≤ sizeLine then some (.int z.length, m) else none
  | [d] => (match sq m d with | some xs => some (.int (xs.length : Int), m) | none => none)
  | _ => none
def rLenS : List V → Hp → VK → Prop := fun xs H Q => ∃ z, xs = [.str z] ∧ z.length ≤ sizeLine ∧ Q (.int z.length) H
theorem call_lenX {X : Cx} : CallR X (.builtin "len") (rEitherC (DL.rLen X.K) rLenS) := call_either call_lenS call_len_str
theorem is_len : IsC K (rEitherC (DL.rLen K) rLenS) fLen := fun ds m z m' h A H vs s w Q q => by
  unfold fLen at h
  split at h
  · split at h
    · rename_i z0 hz
      cases h
      cases w with
      | cons x t => cases t; cases x; exact .inr ⟨z0, rfl, hz, q A H _ _ _ (Ext.refl A H) s (.int _) ⟨rfl, rfl⟩⟩
    · cases h
  · split at h
    · rename_i d _ _ xs hs
      cases h
      cases w with
      | cons x t =>
        cases t
        obtain ⟨p, ws, rfl, hq, t1⟩ := sq_at hs s x
        exact .inl ⟨p, ws, rfl, hq, by rw [t1.length]; exact q A H _ _ _ (Ext.refl A H) s (.int _) ⟨rfl, rfl⟩⟩
    · cases h
  · cases h
def fAbs : FC := fun ds m => match ds with | [.int i] => some (.int (if i < 0 then -i else i), m) | _ => none
theorem is_abs : IsC K rAbs fAbs := fun ds m z m' h => by
  unfold fAbs at h; split at h
  · cases h; exact cw_abs ⟨rfl, rfl⟩
  · cases h
def fMax2 : FC := fun ds m => match ds with | [.int i, .int j] => some (.int (if j > i then j else i), m) | _ => none
theorem is_max2 : IsC K rMax2 fMax2 := fun ds m z m' h => by
  unfold fMax2 at h; split at h
  · cases h; exact cw_max2 ⟨rfl, rfl⟩
  · cases h
def fInt1 : FC := fun ds m => match ds with | [.int i] => some (.int i, m) | _ => none
theorem is_int1 : IsC K rInt1 fInt1 := fun ds m z m' h => by
  unfold fInt1 at h; split at h
  · cases h; exact cw_int1 ⟨rfl, rfl⟩
  · cases h
def fDm : FC := fun ds m => match ds with | [.int i, .int j] => if cDiv i j then some (.tup [.int (i / j), .int (i % j)], m) else none | _ => none
theorem is_dm : IsC K rDm fDm := fun ds m z m' h => by
  unfold fDm at h; split at h
  · split at h
    · rename_i hc; cases h; exact cw_dm (cDiv_of hc) ⟨rfl, rfl⟩
    · cases h
  · cases h
def fTuple : FC := fun ds m => match ds with | [d] => (match sq m d with | some xs => some (.tup xs, m) | none => none) | _ => none
theorem is_tuple : IsC K (rTupOf K) fTuple := fun ds m z m' h A H vs s w Q q => by
  unfold fTuple at h; split at h
  · rename_i d
    split at h
    · rename_i xs hs
      cases h
      cases w with
      | cons x t =>
        cases t
        have go : lv m d = some xs → ∃ p ys, [‹V›] = [V.ref p] ∧ ((SqL K H p ys ∧ ∀ l, H l = none → Q (.ref l) (upd H l (.tup ys))) ∨ (SqT K H p ys ∧ Q (.ref p) H)) := fun hl => by
          obtain ⟨p, ws, rfl, hq, t1⟩ := lv_at hl s x
          exact ⟨p, ws, rfl, .inl ⟨hq, fun l hl2 => q A _ _ _ _ (ext_new hl2) (s.new hl2) (Dn.newT s hl2 t1) ⟨rfl, rfl⟩⟩⟩
        cases d with
        | tup ys =>
          cases hs
          cases x with
          | @tup p ws _ h1 t1 => exact ⟨p, ws, rfl, .inr ⟨sqT_hid h1, q A H _ _ _ (Ext.refl A H) s (.tup h1 t1) ⟨rfl, rfl⟩⟩⟩
        | _ => exact go hs
    · cases h
  · cases h
def fList : FC := fun ds m => match ds with | [d] => (match sq m d with | some xs => some (.lst xs, m) | none => none) | _ => none
theorem is_list : IsC K (rListOf K) fList := fun ds m z m' h A H vs s w Q q => by
  unfold fList at h; split at h
  · rename_i d
    split at h
    · rename_i xs hs
      cases h
      cases w with
      | cons x t =>
        cases t
        obtain ⟨p, ws, rfl, hq, t1⟩ := sq_at hs s x
        exact ⟨p, ws, rfl, hq, fun l hl2 => q A _ _ _ _ (ext_new hl2) (s.new hl2) (Dn.newL s hl2 t1) ⟨rfl, rfl⟩⟩
    · cases h
  · cases h
def fListC : FC := fun ds m => match ds with | [d] => (match sq m d with | some xs => some (.cell m.length, m ++ [some xs]) | none => none) | _ => none
theorem is_listC : IsC K (rListOf K) fListC := fun ds m z m' h A H vs s w Q q => by
  unfold fListC at h; split at h
  · rename_i d
    split at h
    · rename_i xs hs
      cases h
      cases w with
      | cons x t =>
        cases t
        obtain ⟨p, ws, rfl, hq, t1⟩ := sq_at hs s x
        refine ⟨p, ws, rfl, hq, fun l hl2 => ?_⟩
        obtain ⟨g1, g2, g3⟩ := newC (c := ⟨K, fun _ _ _ _ => False, [], .no⟩) s hl2 t1
        exact q _ _ _ _ _ g1 g2 g3 ⟨rfl, rfl⟩
    · cases h
  · cases h
/-- all truths -/
def bls : List Dat → Option (List Bool)
  | [] => some []
  | .bl b :: ds => (bls ds).map (b :: ·)
  | _ => none
theorem bls_of : ∀ {ds : List Dat} {bs : List Bool}, bls ds = some bs → ds = bs.map Dat.bl
  | [], bs, h => by cases h; rfl
  | .bl b :: ds, bs, h => by
    simp only [bls] at h
    cases q : bls ds with
    | none => rw [q] at h; cases h
    | some cs => rw [q] at h; cases h; rw [bls_of q]; rfl
  | .non :: _, _, h => by cases h
  | .int _ :: _, _, h => by cases h
  | .str _ :: _, _, h => by cases h
  | .tup _ :: _, _, h => by cases h
  | .lst _ :: _, _, h => by cases h
  | .cell _ :: _, _, h => by cases h
  | .dct _ _ :: _, _, h => by cases h
  | .obj _ _ :: _, _, h => by cases h
  | .dcell _ :: _, _, h => by cases h
  | .dst _ _ :: _, _, h => by cases h
  | .key _ :: _, _, h => by cases h
  | .clo _ _ :: _, _, h => by cases h
  | .fn _ :: _, _, h => by cases h
  | .tb _ :: _, _, h => by cases h
def fAll : FC := fun ds m => match ds with | [d] => (match lv m d with | some xs => (bls xs).map fun bs => (.bl (bs.all id), m) | none => none) | _ => none
def fAny : FC := fun ds m => match ds with | [d] => (match lv m d with | some xs => (bls xs).map fun bs => (.bl (bs.any id), m) | none => none) | _ => none
theorem bools_at {d : Dat} {m : Mu} {xs : List Dat} {bs : List Bool} {A : As} {H : Hp} {v : V} (hs : lv m d = some xs) (hb : bls xs = some bs) (s : Sto K A H m) (x : Dn K A H v d) : ∃ a, v = .ref a ∧ SqL K H a (bs.map V.bl) := by
  obtain ⟨p, ws, rfl, hq, t1⟩ := lv_at hs s x
  rw [bls_of hb] at t1
  exact ⟨p, rfl, by rw [← dns_bl t1]; exact hq⟩
theorem is_all : IsC K (rAll K) fAll := fun ds m z m' h A H vs s w Q q => by
  unfold fAll at h; split at h
  · split at h
    · rename_i d _ xs hs
      cases qb : bls xs with
      | none => rw [qb] at h; cases h
      | some bs =>
        rw [qb] at h; cases h
        cases w with
        | cons x t =>
          cases t
          obtain ⟨a, rfl, h1⟩ := bools_at hs qb s x
          exact ⟨a, bs, rfl, h1, q A H _ _ _ (Ext.refl A H) s (.bl _) ⟨rfl, rfl⟩⟩
    · cases h
  · cases h
theorem is_any : IsC K (rAny K) fAny := fun ds m z m' h A H vs s w Q q => by
  unfold fAny at h; split at h
  · split at h
    · rename_i d _ xs hs
      cases qb : bls xs with
      | none => rw [qb] at h; cases h
      | some bs =>
        rw [qb] at h; cases h
        cases w with
        | cons x t =>
          cases t
          obtain ⟨a, rfl, h1⟩ := bools_at hs qb s x
          exact ⟨a, bs, rfl, h1, q A H _ _ _ (Ext.refl A H) s (.bl _) ⟨rfl, rfl⟩⟩
    · cases h
  · cases h
end
end VM
namespace VM
open PySem PySem.Spec PyProof.Rows L2 DL LamX C8
/-! ### statements -/
inductive Out where
  | nx (ρ : Ro) (m : Mu) | rt (d : Dat) (m : Mu) | bk (ρ : Ro) (m : Mu) | ct (ρ : Ro) (m : Mu) | exc (x : Ex) (ρ : Ro) (m : Mu) | no
@[inline] def R.out {α : Type} (r : R α) (ρ : Ro) (k : α → Mu → Out) : Out := match r with
  | .ok a m => k a m
  | .exc x m => .exc x ρ m
  | .no => .no
abbrev SS := Ro → Mu → Out
def FinS (c : Cc) (A : As) (H : Hp) (o : Out) (D : L2.Ends) : Prop := match o with
  | .nx ρ m => ∀ A' H' σ', Ext A H A' H' → Sto c.K A' H' m → DL.Env c.K A' H' σ' ρ → D.nx σ' H'
  | .bk ρ m => ∀ A' H' σ', Ext A H A' H' → Sto c.K A' H' m → DL.Env c.K A' H' σ' ρ → D.bk σ' H'
  | .ct ρ m => ∀ A' H' σ', Ext A H A' H' → Sto c.K A' H' m → DL.Env c.K A' H' σ' ρ → D.ct σ' H'
  | .rt d m => ∀ A' H' v, Ext A H A' H' → Sto c.K A' H' m → Dn c.K A' H' v d → D.rt v H'
  | .exc x ρ m => ∀ A' H' σ' cls dd, Ext A H A' H' → Sto c.K A' H' m → DL.Env c.K A' H' σ' ρ → Xn c.K A' H' cls dd x → c.W cls dd σ' H'
  | .no => False
theorem FinS.mono {c : Cc} {A A' : As} {H H' : Hp} {o : Out} {D : L2.Ends} (e : Ext A H A' H') (h : FinS c A H o D) : FinS c A' H' o D := by
  cases o with
  | nx ρ m => exact fun A2 H2 σ e2 => h A2 H2 σ (e.trans e2)
  | bk ρ m => exact fun A2 H2 σ e2 => h A2 H2 σ (e.trans e2)
  | ct ρ m => exact fun A2 H2 σ e2 => h A2 H2 σ (e.trans e2)
  | rt d m => exact fun A2 H2 σ e2 => h A2 H2 σ (e.trans e2)
  | exc x ρ m => exact fun A2 H2 σ cls dd e2 => h A2 H2 σ cls dd (e.trans e2)
  | no => exact h
def RdS (c : Cc) (f : SS) : TS := fun D σ H => ∃ A ρ μ, At c A σ H ρ μ ∧ FinS c A H (f ρ μ) D
theorem PS.weak {X : Cx} {e : Stmt} {t t' : TS} (h : PS X e t) (w : ∀ D σ H, t' D σ H → t D σ H) : PS X e t' := ⟨fun pins s σ H D I q => h.run pins s σ H D I (w D σ H q)⟩
theorem PSs.weak {X : Cx} {e : List Stmt} {t t' : TS} (h : PSs X e t) (w : ∀ D σ H, t' D σ H → t D σ H) : PSs X e t' := ⟨fun pins s σ H D I q => h.run pins s σ H D I (w D σ H q)⟩
theorem At.to {c : Cc} [n : NoPin c] {A A' : As} {σ σ' : L2.St} {H H' : Hp} {ρ ρ' : Ro} {μ μ' : Mu} (t : At c A σ H ρ μ) (e : Ext A H A' H') (s : Sto c.K A' H' μ') (v : DL.Env c.K A' H' σ' ρ') : At c A' σ' H' ρ' μ' := ⟨s, v, t.kap.mono e, by rw [n.all]; trivial⟩
theorem fin_out {α β : Type} {c : Cc} {σ : L2.St} {A : As} {H : Hp} {ρ : Ro} {μ : Mu} {r : R α} {k : α → Mu → Out} {rel : Rel α β} {D : L2.Ends} (t : At c A σ H ρ μ) (h : FinS c A H (r.out ρ k) D) :
    Fin c σ A H r rel fun v H1 => ∃ A1 d m, r = .ok d m ∧ Ext A H A1 H1 ∧ Sto c.K A1 H1 m ∧ rel A1 H1 v d ∧ FinS c A1 H1 (k d m) D := by
  cases r with
  | ok d m => exact fun A2 H2 v e2 s x => ⟨A2, d, m, rfl, e2, s, x, FinS.mono e2 h⟩
  | exc x m => exact fun A2 H2 cls dd e2 s x => h A2 H2 σ cls dd e2 s (t.env.mono e2) x
  | no => exact h
section
variable {X : Cx} {c : Cc} {a b e : Expr} {st : Stmt} {rest body orelse : List Stmt} {pos : Pos} {fa fb : Sm Dat} {fs : Sm (List Dat)} {ft : Sm Bool} {f g : SS}
def sNext : SS := fun ρ m => .nx ρ m
def sSeq (f g : SS) : SS := fun ρ m => match f ρ m with
  | .nx ρ1 m1 => g ρ1 m1
  | o => o
theorem v_end : PSs X [] (RdS c sNext) := PSs.weak pss_nil fun D σ H ⟨A, ρ, μ, t, h⟩ => h A H σ (Ext.refl A H) t.sto t.env
theorem v_pass : PS X (.Pass pos) (RdS c sNext) := PS.weak ps_pass fun D σ H ⟨A, ρ, μ, t, h⟩ => h A H σ (Ext.refl A H) t.sto t.env
theorem v_seq [NoPin c] (h1 : PS X st (RdS c f)) (h2 : PSs X rest (RdS c g)) : PSs X (st :: rest) (RdS c (sSeq f g)) :=
  PSs.weak (pss_cons h1 h2) fun D σ H ⟨A, ρ, μ, t, h⟩ => ⟨A, ρ, μ, t, by
    unfold sSeq at h
    cases q : f ρ μ with
    | nx ρ1 m1 =>
      rw [q] at h
      exact fun A1 H1 σ1 e1 s1 v1 => ⟨A1, ρ1, m1, t.to e1 s1 v1, FinS.mono e1 h⟩
    | rt d m => rw [q] at h; exact h
    | bk ρ m => rw [q] at h; exact h
    | ct ρ m => rw [q] at h; exact h
    | exc x ρ m => rw [q] at h; exact h
    | no => rw [q] at h; exact h⟩
theorem v_last (h1 : PS X st (RdS c f)) : PSs X [st] (RdS c f) := pss_one h1
def sRet (f : Sm Dat) : SS := fun ρ m => (f ρ m).out ρ fun d m1 => .rt d m1
def sRetN : SS := fun _ m => .rt .non m
def sDrop (f : Sm Dat) : SS := fun ρ m => (f ρ m).out ρ fun _ m1 => .nx ρ m1
theorem v_ret (ha : PE X a (RdE c fa)) : PS X (.Return (some a) pos) (RdS c (sRet fa)) :=
  PS.weak (ps_ret ha) fun D σ H ⟨A, ρ, μ, t, h⟩ => ⟨A, ρ, μ, t, (fin_out (rel := rD c) t h).imp fun v H1 ⟨A1, d, m1, _, e1, s1, x1, h1⟩ => h1 A1 H1 v (Ext.refl A1 H1) s1 x1⟩
theorem v_retN : PS X (.Return none pos) (RdS c sRetN) := PS.weak ps_retN fun D σ H ⟨A, ρ, μ, t, h⟩ => h A H .non (Ext.refl A H) t.sto .non
theorem v_drop (ha : PE X a (RdE c fa)) (hs : swapsWith a none pos.line X.env = pure false) : PS X (.Expr a pos) (RdS c (sDrop fa)) :=
  PS.weak (ps_expr ha hs) fun D σ H ⟨A, ρ, μ, t, h⟩ => ⟨A, ρ, μ, t, (fin_out (rel := rD c) t h).imp fun v H1 ⟨A1, d, m1, _, e1, s1, x1, h1⟩ => h1 A1 H1 σ (Ext.refl A1 H1) s1 (t.env.mono e1)⟩
def sBreak : SS := fun ρ m => .bk ρ m
def sCont : SS := fun ρ m => .ct ρ m
theorem v_break : PS X (.Break pos) (RdS c sBreak) := PS.weak ps_break fun D σ H ⟨A, ρ, μ, t, h⟩ => h A H σ (Ext.refl A H) t.sto t.env
theorem v_cont : PS X (.Continue pos) (RdS c sCont) := PS.weak ps_continue fun D σ H ⟨A, ρ, μ, t, h⟩ => h A H σ (Ext.refl A H) t.sto t.env
def sIfS (t : Sm Bool) (f g : SS) : SS := fun ρ m => (t ρ m).out ρ fun b m1 => match b with | true => f ρ m1 | false => g ρ m1
theorem v_if (hc : PT X a (RdT c ft)) (ha : PSs X body (RdS c f)) (hb : PSs X orelse (RdS c g)) : PS X (.If a body orelse pos) (RdS c (sIfS ft f g)) :=
  PS.weak (ps_if hc ha hb) fun D σ H ⟨A, ρ, μ, t, h⟩ => ⟨A, ρ, μ, t, (fin_out (rel := rB) t h).imp fun v H1 ⟨A1, d, m1, _, e1, s1, x1, h1⟩ => by
    have x1 : v = d := x1
    subst x1
    cases v with
    | true => rw [if_pos rfl]; exact ⟨A1, ρ, m1, t.next e1 s1, h1⟩
    | false => rw [if_neg Bool.false_ne_true]; exact ⟨A1, ρ, m1, t.next e1 s1, h1⟩⟩
/-! ### targets -/
abbrev SG := Dat → Ro → Mu → R Ro
def rR (c : Cc) : Rel Ro L2.St := fun A H σ ρ => DL.Env c.K A H σ ρ
def RdG (c : Cc) (g : SG) : TG := fun v σ H Q => ∃ A d ρ μ, At c A σ H ρ μ ∧ Dn c.K A H v d ∧ Fin c σ A H (g d ρ μ) (rR c) Q
theorem PG.weak {X : Cx} {e : Expr} {t t' : TG} (h : PG X e t) (w : ∀ v σ H Q, t' v σ H Q → t v σ H Q) : PG X e t' := ⟨fun pins s σ H v u Q I r q => h.run pins s σ H v u Q I r (w v σ H Q q)⟩
def tgName (i : Nat) : SG := fun d ρ m => .ok (ρ.set i (some d)) m
theorem v_tgName {i : Nat} {x : Str} (hN : X.N.Nodup) (hi : X.N[i]? = some x) (hx : Loc X.env.scope x) (hf : X.fn x = true ∨ X.env.scope.names.lookup x = some .local) : PG X (.Name x pos) (RdG c (tgName i)) :=
  PG.weak (pg_name hN hi hx hf) fun v σ H Q ⟨A, d, ρ, μ, t, x, h⟩ => fin_ok h (Ext.refl A H) t.sto (t.env.set i x)
def tgs : List SG → List Dat → Ro → Mu → R Ro
  | [], [], ρ, m => .ok ρ m
  | g :: gs, d :: ds, ρ, m => (g d ρ m).bind fun ρ1 m1 => tgs gs ds ρ1 m1
  | _, _, _, _ => .no
def RdGs (c : Cc) (gs : List SG) : TGs := fun vs σ H Q => ∃ A ds ρ μ, At c A σ H ρ μ ∧ Dns c.K A H vs ds ∧ (∀ g ∈ gs, ∀ d ρ m x m', g d ρ m ≠ .exc x m') ∧ Fin c σ A H (tgs gs ds ρ μ) (rR c) Q
theorem PGs.weak {X : Cx} {e : List Expr} {t t' : TGs} (h : PGs X e t) (w : ∀ v σ H Q, t' v σ H Q → t v σ H Q) : PGs X e t' := ⟨fun pins s σ H v u Q I r q => h.run pins s σ H v u Q I r (w v σ H Q q)⟩
theorem v_tgNil : PGs X [] (RdGs c []) := PGs.weak pgs_nil fun v σ H Q ⟨A, ds, ρ, μ, t, x, _, h⟩ => by
  cases x with
  | nil => exact ⟨rfl, fin_ok h (Ext.refl A H) t.sto t.env⟩
  | cons _ _ => exact h.elim
theorem tgs_exc : ∀ {gs : List SG} {ds : List Dat} {ρ : Ro} {m m' : Mu} {x : Ex}, (∀ g ∈ gs, ∀ d ρ m x m', g d ρ m ≠ .exc x m') → tgs gs ds ρ m ≠ .exc x m'
  | [], [], _, _, _, _, _ => fun h => nomatch h
  | [], _ :: _, _, _, _, _, _ => fun h => nomatch h
  | _ :: _, [], _, _, _, _, _ => fun h => nomatch h
  | g :: gs, d :: ds, ρ, m, m', x, hn => fun h => by
    unfold tgs at h
    cases q : g d ρ m with
    | ok ρ1 m1 => rw [q] at h; exact tgs_exc (fun g hg => hn g (List.mem_cons_of_mem _ hg)) h
    | exc y m1 => exact hn g List.mem_cons_self d ρ m y m1 q
    | no => rw [q] at h; cases h
theorem fin_slots {α β : Type} {σ σ' : L2.St} {A : As} {H : Hp} {r : R α} {rel : Rel α β} {Q : β → Hp → Prop} (hn : ∀ x m, r ≠ .exc x m) (h : Fin c σ A H r rel Q) : Fin c σ' A H r rel Q := by
  cases r with
  | ok d m => exact h
  | exc x m => exact absurd rfl (hn x m)
  | no => exact h
theorem v_tgCons [NoPin c] {es : List Expr} {g : SG} {gs : List SG} (h1 : PG X e (RdG c g)) (h2 : PGs X es (RdGs c gs)) (ha : (assignEach (e :: es) X.env).map (·.2) = assign e X.env :: (assignEach es X.env).map (·.2)) : PGs X (e :: es) (RdGs c (g :: gs)) :=
  PGs.weak (pgs_cons h1 h2 ha) fun v σ H Q ⟨A, ds, ρ, μ, t, x, hn, h⟩ => by
    cases x with
    | nil => exact h.elim
    | @cons v0 vr d ds xd xr =>
      refine ⟨v0, vr, rfl, A, d, ρ, μ, t, xd, (fin_bind (rel := rR c) h).imp fun σ1 H1 ⟨A1, ρ1, m1, q, e1, s1, v1, h1⟩ => ?_⟩
      have hn' : ∀ g ∈ gs, ∀ d ρ m x m', g d ρ m ≠ .exc x m' := fun g hg => hn g (List.mem_cons_of_mem _ hg)
      exact ⟨A1, ds, ρ1, m1, t.to e1 s1 v1, xr.mono e1, hn', fin_slots (fun x m => tgs_exc hn') h1⟩
def tgTup (gs : List SG) : SG := fun d ρ m => match d with
  | .tup ds => if ds.length = gs.length then tgs gs ds ρ m else .no
  | _ => .no
theorem v_tgTup {es : List Expr} {k : Nat} {gs : List SG} (hK : X.K = c.K.K) (hc : X.calm = true) (h : PGs X es (RdGs c gs)) (hx : ∀ g ∈ gs, ∀ d ρ m x m', g d ρ m ≠ .exc x m') (hn : (assignEach es X.env).length = gs.length) (hst : (assignEach es X.env).findIdx? (·.1) = none) : PG X (.Tuple es k pos) (RdG c (tgTup gs)) :=
  PG.weak (pg_tup hc h hn hst) fun v σ H Q ⟨A, d, ρ, μ, t, x, h⟩ => by
    cases d with
    | tup ds =>
      obtain ⟨hl, h2⟩ := fin_if h
      cases x with
      | @tup a vs _ h1 t1 => exact ⟨a, vs, rfl, by rw [hK]; exact sqT_hid h1, by rw [t1.length]; exact hl, A, ds, ρ, μ, t, t1, hx, h2⟩
    | _ => exact h.elim
theorem name_exc {i : Nat} {d : Dat} {ρ : Ro} {m : Mu} {x : Ex} {m' : Mu} : tgName i d ρ m ≠ .exc x m' := fun h => nomatch h
/-- o[i] = .. -/
def tgSub (fo fi : Sm Dat) : SG := fun d ρ m => (fo ρ m).bind fun o m1 => (fi ρ m1).bind fun ix m2 => match o, ix with
  | .cell k, .int i => (match lv m2 (.cell k) with
    | some xs => (match ixN xs.length i with | some j => .ok ρ (m2.set k (some (xs.set j d))) | none => .no)
    | none => .no)
  | _, _ => .no
theorem v_tgSub {o i : Expr} {fo fi : Sm Dat} (ho : PE X o (RdE c fo)) (hi : PE X i (RdE c fi)) (ha : ∀ v, assign (.Subscript o i pos) X.env v = (do { let y ← holding [v] (eval o X.env); let z ← holding [v, y] (eval i X.env); standAt pos; holding [v, y, z] (setItem y z v); release [v, y, z] [] })) : PG X (.Subscript o i pos) (RdG c (tgSub fo fi)) :=
  PG.weak (pg_sub ho hi set_list ha) fun v σ H Q ⟨A, d, ρ, μ, t, x, h⟩ => val_next t h fun ov od A1 H1 m1 t1 e1 x1 h1 => ⟨A1, ρ, m1, t1, (fin_bind (rel := rD c) h1).imp fun iv H2 ⟨A2, ix, m2, _, e2, s2, x2, h2⟩ => by
    cases od with
    | cell k =>
      cases ix with
      | int j =>
        simp only at h2
        cases q : lv m2 (.cell k) with
        | none => rw [q] at h2; exact h2.elim
        | some xs =>
          rw [q] at h2
          simp only at h2
          cases q2 : ixN xs.length j with
          | none => rw [q2] at h2; exact h2.elim
          | some jj =>
            rw [q2] at h2
            cases x2
            obtain ⟨p, vs, rfl, hk, hH, t3⟩ := s2.cell (x1.mono e2) (cell_eq q)
            refine ⟨p, vs, j, jj, rfl, rfl, hH, by rw [t3.length]; exact q2, ?_⟩
            have xd := x.mono (e1.trans e2)
            have t4 := Dns.set xd jj t3
            exact fin_ok h2 (ext_cell hk hH) (s2.write hk hH t4) ((t.env.mono (e1.trans e2)).mono (ext_cell hk hH))
      | _ => exact h2.elim
    | _ => exact h2.elim⟩
def sAsg (f : Sm Dat) (g : SG) : SS := fun ρ m => (f ρ m).out ρ fun d m1 => (g d ρ m1).out ρ fun ρ1 m2 => .nx ρ1 m2
theorem asg_run {g : SG} {D : L2.Ends} {σ : L2.St} {H : Hp} (q : RdS c (sAsg fa g) D σ H) : tAsg (RdE c fa) (RdG c g) D σ H := by
  obtain ⟨A, ρ, μ, t, h⟩ := q
  exact ⟨A, ρ, μ, t, (fin_out (rel := rD c) t h).imp fun v H1 ⟨A1, d, m1, _, e1, s1, x1, h1⟩ => ⟨A1, d, ρ, m1, t.next e1 s1, x1, (fin_out (rel := rR c) (t.next e1 s1) h1).imp fun σ2 H2 ⟨A2, ρ2, m2, _, e2, s2, v2, h2⟩ => h2 A2 H2 σ2 (Ext.refl A2 H2) s2 v2⟩⟩
theorem v_asg {tg : Expr} {g : SG} (he : PE X e (RdE c fa)) (hg : PG X tg (RdG c g)) (hs : swapsWithSole [tg] e pos.line X.env = pure false) (hw : swappedStores [tg] e X.env = pure none) (h1 : (assignEach [tg] X.env).map (·.2) = [assign tg X.env]) : PS X (.Assign [tg] e pos) (RdS c (sAsg fa g)) :=
  PS.weak (ps_asg he hg hs hw h1) fun D σ H q => asg_run q
def sSet (i : Nat) (f : Sm Dat) : SS := fun ρ m => (f ρ m).out ρ fun d m1 => .nx (ρ.set i (some d)) m1
theorem v_set {i : Nat} {x : Str} {pos' : Pos} (hN : X.N.Nodup) (hi : X.N[i]? = some x) (hx : Loc X.env.scope x) (he : PE X e (RdE c fa)) (hs : swapsWith e (some (.Name x pos')) pos.line X.env = pure false) (hf : X.fn x = true ∨ X.env.scope.names.lookup x = some .local) : PS X (.Assign [.Name x pos'] e pos) (RdS c (sSet i fa)) :=
  PS.weak (ps_set hN hi hx he hs hf) fun D σ H ⟨A, ρ, μ, t, h⟩ => ⟨A, ρ, μ, t, (fin_out (rel := rD c) t h).imp fun v H1 ⟨A1, d, m1, _, e1, s1, x1, h1⟩ => h1 A1 H1 _ (Ext.refl A1 H1) s1 ((t.env.mono e1).set i x1)⟩
def sPar (i j : Nat) (fs : Sm (List Dat)) : SS := fun ρ m => (fs ρ m).out ρ fun ds m1 => match ds with | [a, b] => .nx ((ρ.set i (some a)).set j (some b)) m1 | _ => .no
theorem v_par {i j : Nat} {x y : Str} {px py pt : Pos} {kt k2 pt2} (hc : X.calm = true) (hN : X.N.Nodup) (hi : X.N[i]? = some x) (hj : X.N[j]? = some y) (hij : i ≠ j) (hx : X.env.scope.names.lookup x = some .local) (hy : X.env.scope.names.lookup y = some .local) (ha : PA X [a, b] (RdA c fs))
    (hw : swappedStores [.Tuple [.Name x px, .Name y py] kt pt] (.Tuple [a, b] k2 pt2) X.env = pure (some [x, y])) (hs : swapsWithSole [.Tuple [.Name x px, .Name y py] kt pt] (.Tuple [a, b] k2 pt2) pos.line X.env = pure false) :
    PS X (.Assign [.Tuple [.Name x px, .Name y py] kt pt] (.Tuple [a, b] k2 pt2) pos) (RdS c (sPar i j fs)) :=
  PS.weak (ps_par hc hN hi hj hij hx hy ha hw hs) fun D σ H ⟨A, ρ, μ, t, h⟩ => ⟨A, ρ, μ, t, (fin_out (rel := rDs c) t h).imp fun vs H1 ⟨A1, ds, m1, _, e1, s1, x1, h1⟩ => by
    cases x1 with
    | nil => exact h1.elim
    | cons xa x1 => cases x1 with
      | nil => exact h1.elim
      | cons xb x1 => cases x1 with
        | nil => exact ⟨_, _, rfl, h1 A1 H1 _ (Ext.refl A1 H1) s1 (((t.env.mono e1).set i xa).set j xb)⟩
        | cons _ _ => exact h1.elim⟩
def sAug (i : Nat) (f : Int → Int → Int) (g : Sm Dat) : SS := fun ρ m => match ρ[i]? with
  | some (some (.int a)) => (g ρ m).out ρ fun d m1 => match d with | .int b => .nx (ρ.set i (some (.int (f a b)))) m1 | _ => .no
  | _ => .no
theorem v_aug {i : Nat} {x : Str} {op : Operator} {f : Int → Int → Int} {pos' : Pos} (hN : X.N.Nodup) (hi : X.N[i]? = some x) (hx : Loc X.env.scope x) (he : PE X e (RdE c fa)) (ho : PIp X op (ipI f)) (hf : X.fn x = true ∨ X.env.scope.names.lookup x = some .local) : PS X (.AugAssign (.Name x pos') op e pos) (RdS c (sAug i f fa)) :=
  PS.weak (ps_aug hN hi hx he ho hf) fun D σ H ⟨A, ρ, μ, t, h⟩ => by
    unfold sAug at h
    split at h
    · rename_i n hq
      obtain ⟨v, e1, e2⟩ := t.env.2 i _ hq
      cases e2
      refine ⟨_, e1, A, ρ, μ, t, (fin_out (rel := rD c) t h).imp fun v H1 ⟨A1, d, m1, _, e1, s1, x1, h1⟩ => ?_⟩
      cases d with
      | int b => cases x1; exact ⟨n, b, rfl, rfl, h1 A1 H1 _ (Ext.refl A1 H1) s1 ((t.env.mono e1).set i (.int _))⟩
      | _ => exact h1.elim
    · exact h.elim
end
end VM
namespace VM
open PySem PySem.Spec PyProof.Rows L2 DL LamX C8
/-! ### what is walked -/
inductive Wk where
  | sq (d : Dat) | rng (lo : Int) (n : Nat) | en (d : Dat) | zp (d e : Dat) | st (z : Str)
def at_ (xs : List Dat) (i : Nat) (f : Dat → Dat) : Option Dat := (xs[i]?).map f
def wkAt : Wk → Nat → Mu → Option (Option Dat)
  | .sq d, i, m => (sq m d).map fun xs => xs[i]?
  | .rng lo n, i, _ => some (if i < n then some (.int (lo + i)) else none)
  | .en d, i, m => (sq m d).bind fun xs => if xs.length = i then some none else (at_ xs i fun x => .tup [.int (i : Nat), x]).map some
  | .zp d e, i, m => (lv m d).bind fun xs => (lv m e).map fun ys => match xs[i]?, ys[i]? with | some x, some y => some (.tup [x, y]) | _, _ => none
  | .st z, i, _ => some ((z.cps[i]?).map fun k => .str ⟨#[k]⟩)
/-- the walk's own words: G holds on, it goes, it stops, it gives -/
def WkRel (K : Gm) (A : As) (H : Hp) : Wk → It → Prop
  | .sq d, J => ∃ a, Dn K A H (.ref a) d ∧ ((J = Itl K a ∧ ∀ xs, d ≠ .tup xs) ∨ (J = Itt K a ∧ ∃ xs, d = .tup xs))
  | .rng lo n, J => J = Itr lo n
  | .en d, J => ∃ a, Dn K A H (.ref a) d ∧ ((J = Ite K a ∧ ∀ xs, d ≠ .tup xs) ∨ (J = IteT K a ∧ ∃ xs, d = .tup xs))
  | .zp d e, J => ∃ a b, Dn K A H (.ref a) d ∧ Dn K A H (.ref b) e ∧ J = Itz K a b
  | .st z, J => J = Its z
theorem WkRel.mono {K : Gm} {A A' : As} {H H' : Hp} (e : Ext A H A' H') : ∀ {w : Wk} {J : It}, WkRel K A H w J → WkRel K A' H' w J
  | .sq _, _, ⟨a, x, r⟩ => ⟨a, x.mono e, r⟩
  | .rng _ _, _, r => r
  | .en _, _, ⟨a, x, r⟩ => ⟨a, x.mono e, r⟩
  | .zp _ _, _, ⟨a, b, x, y, r⟩ => ⟨a, b, x.mono e, y.mono e, r⟩
  | .st _, _, r => r
section
variable {K : Gm} {A : As} {H : Hp} {m : Mu}
theorem sq_lv {d : Dat} (hd : ∀ xs, d ≠ .tup xs) : sq m d = lv m d := by
  cases d with
  | tup xs => exact absurd rfl (hd xs)
  | _ => rfl
theorem ref_lv {d : Dat} {a : Addr} {xs : List Dat} (h : lv m d = some xs) (s : Sto K A H m) (x : Dn K A H (.ref a) d) : ∃ vs, SqL K H a vs ∧ Dns K A H vs xs := by
  obtain ⟨b, vs, e, h1, h2⟩ := lv_at h s x
  cases e
  exact ⟨vs, h1, h2⟩
theorem ref_tup {a : Addr} {xs : List Dat} (x : Dn K A H (.ref a) (.tup xs)) : ∃ vs, SqT K H a vs ∧ Dns K A H vs xs := by
  cases x with
  | tup h t => exact ⟨_, sqT_hid h, t⟩
theorem dns_at {vs : List V} {ds : List Dat} (t : Dns K A H vs ds) (i : Nat) : (ds[i]? = none ∧ vs[i]? = none) ∨ ∃ v d, ds[i]? = some d ∧ vs[i]? = some v ∧ Dn K A H v d := by
  cases q : ds[i]? with
  | some d =>
    obtain ⟨v, h1, h2⟩ := t.get q
    exact .inr ⟨v, d, rfl, h1, h2⟩
  | none => exact .inl ⟨rfl, List.getElem?_eq_none (by rw [t.length]; exact List.getElem?_eq_none_iff.mp q)⟩
/-- SqL is of one list alone -/
theorem pair_new (s : Sto K A H m) {T : Addr} {x y : V} {d e : Dat} (hT : H T = none) (hx : Dn K A H x d) (hy : Dn K A H y e) : Ext A H A (upd H T (.tup [x, y])) ∧ Sto K A (upd H T (.tup [x, y])) m ∧ Dn K A (upd H T (.tup [x, y])) (.ref T) (.tup [d, e]) :=
  ⟨ext_new hT, s.new hT, Dn.newT s hT (.cons hx (.cons hy .nil))⟩
theorem wk_stop (s : Sto K A H m) : ∀ {w : Wk} {J : It} {i : Nat}, WkRel K A H w J → wkAt w i m = some none → J.stop i H
  | .sq d, J, i, ⟨a, x, r⟩, h => by
    rcases r with ⟨rfl, hd⟩ | ⟨rfl, xs, rfl⟩
    · simp only [wkAt, sq_lv hd] at h
      cases q : lv m d with
      | none => rw [q] at h; cases h
      | some xs =>
        rw [q] at h
        have h : xs[i]? = none := Option.some.inj h
        obtain ⟨vs, h1, t⟩ := ref_lv q s x
        exact ⟨vs, h1, by rw [t.length]; exact List.getElem?_eq_none_iff.mp h⟩
    · have h : xs[i]? = none := Option.some.inj h
      obtain ⟨vs, h1, t⟩ := ref_tup x
      exact ⟨vs, h1, by rw [t.length]; exact List.getElem?_eq_none_iff.mp h⟩
  | .rng lo n, J, i, r, h => by
    cases r
    have h : (if i < n then some (Dat.int (lo + i)) else none) = none := Option.some.inj h
    by_cases c : i < n
    · rw [if_pos c] at h; cases h
    · exact Nat.le_of_not_lt c
  | .en d, J, i, ⟨a, x, r⟩, h => by
    have go : ∀ {xs : List Dat}, (if xs.length = i then some none else (at_ xs i fun x => .tup [.int (i : Nat), x]).map some) = some (none : Option Dat) → xs.length = i := fun {xs} q => by
      by_cases c : xs.length = i
      · exact c
      · rw [if_neg c] at q
        cases z : at_ xs i fun x => .tup [.int (i : Nat), x] with
        | none => rw [z] at q; cases q
        | some w => rw [z] at q; cases q
    rcases r with ⟨rfl, hd⟩ | ⟨rfl, xs, rfl⟩
    · simp only [wkAt, sq_lv hd] at h
      cases q : lv m d with
      | none => rw [q] at h; cases h
      | some xs =>
        rw [q] at h
        have h := go h
        obtain ⟨vs, h1, t⟩ := ref_lv q s x
        exact ⟨vs, h1, by rw [t.length]; omega⟩
    · have h := go h
      obtain ⟨vs, h1, t⟩ := ref_tup x
      exact ⟨vs, h1, by rw [t.length]; exact h⟩
  | .zp d e, J, i, ⟨a, b, x, y, r⟩, h => by
    cases r
    simp only [wkAt] at h
    cases q1 : lv m d with
    | none => rw [q1] at h; cases h
    | some xs =>
      cases q2 : lv m e with
      | none => rw [q1, q2] at h; cases h
      | some ys =>
        rw [q1, q2] at h
        obtain ⟨vs, h1, t⟩ := ref_lv q1 s x
        obtain ⟨ws, h2, t2⟩ := ref_lv q2 s y
        refine ⟨vs, ws, h1, h2, ?_⟩
        rw [t.length, t2.length]
        have h : (match xs[i]?, ys[i]? with | some x, some y => some (Dat.tup [x, y]) | _, _ => none) = none := Option.some.inj h
        by_cases c : xs.length ≤ i
        · exact .inl c
        · by_cases c2 : ys.length ≤ i
          · exact .inr c2
          · rw [List.getElem?_eq_getElem (by omega), List.getElem?_eq_getElem (by omega)] at h; cases h
  | .st z, J, i, r, h => by
    cases r
    have h : (z.cps[i]?).map (fun k => Dat.str ⟨#[k]⟩) = none := Option.some.inj h
    cases q : z.cps[i]? with
    | none => exact Nat.le_of_not_lt fun c => by rw [Array.getElem?_eq_getElem c] at q; cases q
    | some k => rw [q] at h; cases h
theorem wk_go (s : Sto K A H m) : ∀ {w : Wk} {J : It} {i : Nat} {d : Dat}, WkRel K A H w J → wkAt w i m = some (some d) → J.go i H ∧ ∀ x H', J.yld i H x H' → ∃ A', Ext A H A' H' ∧ Sto K A' H' m ∧ Dn K A' H' x d
  | .sq d, J, i, f, ⟨a, x, r⟩, h => by
    rcases r with ⟨rfl, hd⟩ | ⟨rfl, xs, rfl⟩
    · simp only [wkAt, sq_lv hd] at h
      cases q : lv m d with
      | none => rw [q] at h; cases h
      | some xs =>
        rw [q] at h
        have h : xs[i]? = some f := Option.some.inj h
        obtain ⟨vs, h1, t⟩ := ref_lv q s x
        obtain ⟨v, h2, h3⟩ := t.get h
        refine ⟨⟨vs, v, h1, h2⟩, fun y H' ⟨e, g⟩ => ?_⟩
        subst e
        have := g vs h1
        rw [h2] at this; cases this
        exact ⟨A, Ext.refl _ _, s, h3⟩
    · have h : xs[i]? = some f := Option.some.inj h
      obtain ⟨vs, h1, t⟩ := ref_tup x
      obtain ⟨v, h2, h3⟩ := t.get h
      refine ⟨⟨vs, v, h1, h2⟩, fun y H' ⟨e, g⟩ => ?_⟩
      subst e
      have := g vs h1
      rw [h2] at this; cases this
      exact ⟨A, Ext.refl _ _, s, h3⟩
  | .rng lo n, J, i, f, r, h => by
    cases r
    have h : (if i < n then some (Dat.int (lo + i)) else none) = some f := Option.some.inj h
    by_cases c : i < n
    · rw [if_pos c] at h
      cases h
      refine ⟨c, fun y H' ⟨e, g⟩ => ?_⟩
      subst e g
      exact ⟨A, Ext.refl _ _, s, .int _⟩
    · rw [if_neg c] at h; cases h
  | .en d, J, i, f, ⟨a, x, r⟩, h => by
    have go : ∀ {xs : List Dat}, (if xs.length = i then some none else (at_ xs i fun x => .tup [.int (i : Nat), x]).map some) = some (some f) → ∃ y, xs[i]? = some y ∧ f = .tup [.int (i : Nat), y] := fun {xs} q => by
      by_cases c : xs.length = i
      · rw [if_pos c] at q; cases q
      · rw [if_neg c] at q
        unfold at_ at q
        cases z : xs[i]? with
        | none => rw [z] at q; cases q
        | some w => rw [z] at q; cases q; exact ⟨w, rfl, rfl⟩
    rcases r with ⟨rfl, hd⟩ | ⟨rfl, xs, rfl⟩
    · simp only [wkAt, sq_lv hd] at h
      cases q : lv m d with
      | none => rw [q] at h; cases h
      | some xs =>
        rw [q] at h
        obtain ⟨y0, hy, rfl⟩ := go h
        obtain ⟨vs, h1, t⟩ := ref_lv q s x
        obtain ⟨v, h2, h3⟩ := t.get hy
        refine ⟨⟨vs, v, h1, h2⟩, fun y H' ⟨T, w, e1, e2, e3, g⟩ => ?_⟩
        subst e1 e3
        have := g vs h1
        rw [h2] at this; cases this
        exact ⟨A, pair_new s e2 (.int _) h3⟩
    · obtain ⟨y0, hy, rfl⟩ := go h
      obtain ⟨vs, h1, t⟩ := ref_tup x
      obtain ⟨v, h2, h3⟩ := t.get hy
      refine ⟨⟨vs, v, h1, h2⟩, fun y H' ⟨T, w, e1, e2, e3, g⟩ => ?_⟩
      subst e1 e3
      have := g vs h1
      rw [h2] at this; cases this
      exact ⟨A, pair_new s e2 (.int _) h3⟩
  | .zp d e, J, i, f, ⟨a, b, x, y, r⟩, h => by
    cases r
    simp only [wkAt] at h
    cases q1 : lv m d with
    | none => rw [q1] at h; cases h
    | some xs =>
      cases q2 : lv m e with
      | none => rw [q1, q2] at h; cases h
      | some ys =>
        rw [q1, q2] at h
        obtain ⟨vs, h1, t⟩ := ref_lv q1 s x
        obtain ⟨ws, h2, t2⟩ := ref_lv q2 s y
        have h : (match xs[i]?, ys[i]? with | some x, some y => some (Dat.tup [x, y]) | _, _ => none) = some f := Option.some.inj h
        cases z1 : xs[i]? with
        | none => rw [z1] at h; cases h
        | some u =>
          cases z2 : ys[i]? with
          | none => rw [z1, z2] at h; cases h
          | some w =>
            rw [z1, z2] at h
            cases h
            obtain ⟨v, g1, g2⟩ := t.get z1
            obtain ⟨v2, g3, g4⟩ := t2.get z2
            refine ⟨⟨vs, ws, v, v2, h1, h2, g1, g3⟩, fun y H' ⟨T, w, w2, e1, e2, e3, g, g'⟩ => ?_⟩
            subst e1 e3
            have a1 := g vs h1
            have a2 := g' ws h2
            rw [g1] at a1; cases a1
            rw [g3] at a2; cases a2
            exact ⟨A, pair_new s e2 g2 g4⟩
  | .st z, J, i, f, r, h => by
    cases r
    have h : (z.cps[i]?).map (fun k => Dat.str ⟨#[k]⟩) = some f := Option.some.inj h
    cases q : z.cps[i]? with
    | none => rw [q] at h; cases h
    | some k =>
      rw [q] at h; cases h
      have hi : i < z.cps.size := (Array.getElem?_eq_some_iff.mp q).1
      refine ⟨hi, fun y H' ⟨e, c, g1, g2⟩ => ?_⟩
      subst e
      rw [q] at g1; cases g1
      subst g2
      exact ⟨A, Ext.refl _ _, s, .str _⟩
end
/-! ### for -/
def FinI (c : Cc) (σ : L2.St) (A : As) (H : Hp) (r : R Wk) (Q : It → Hp → Prop) : Prop := Fin c σ A H r (fun A' H' J w => WkRel c.K A' H' w J) Q
def RdI (c : Cc) (f : Sm Wk) : TI := fun σ H Q => ∃ A ρ μ, At c A σ H ρ μ ∧ FinI c σ A H (f ρ μ) Q
theorem PI.weak {X : Cx} {tg e : Expr} {t t' : TI} (h : PI X tg e t) (w : ∀ σ H Q, t' σ H Q → t σ H Q) : PI X tg e t' := ⟨fun pins s σ H Q I q => h.run pins s σ H Q I (w σ H Q q)⟩
def forL (w : Wk) (g : SG) (b : SS) : Nat → Nat → Ro → Mu → Out
  | 0, _, _, _ => .no
  | n + 1, i, ρ, m => match wkAt w i m with
    | none => .no
    | some none => .nx ρ m
    | some (some d) => match g d ρ m with
      | .ok ρ1 m1 => (match b ρ1 m1 with
        | .nx ρ2 m2 => forL w g b n (i + 1) ρ2 m2
        | .ct ρ2 m2 => forL w g b n (i + 1) ρ2 m2
        | .bk ρ2 m2 => .nx ρ2 m2
        | o => o)
      | .exc x m1 => .exc x ρ m1
      | .no => .no
abbrev FUEL : Nat := 1000000
def sFor (it : Sm Wk) (g : SG) (b : SS) : SS := fun ρ m => (it ρ m).out ρ fun w m1 => forL w g b FUEL 0 ρ m1
section
variable {X : Cx} {c : Cc} {a b e tg : Expr} {body : List Stmt} {pos : Pos} {fa fb : Sm Dat} {fs : Sm (List Dat)} {ft : Sm Bool} {f : SS} {it : Sm Wk} {g : SG}
theorem for_run [NoPin c] {D : L2.Ends} {σ : L2.St} {H : Hp} (q : RdS c (sFor it g f) D σ H) : tFor (RdI c it) (RdG c g) (RdS c f) D σ H := by
  obtain ⟨A, ρ, μ, t, h⟩ := q
  refine ⟨A, ρ, μ, t, (fin_out (rel := fun A' H' J w => WkRel c.K A' H' w J) t h).imp fun J H1 ⟨A1, w, m1, _, e1, s1, x1, h1⟩ => ?_⟩
  refine ⟨fun i n σ' H' => ∃ A' ρ' m', At c A' σ' H' ρ' m' ∧ WkRel c.K A' H' w J ∧ FinS c A' H' (forL w g f n i ρ' m') D, ⟨_, A1, ρ, m1, t.next e1 s1, x1, h1⟩, ?_⟩
  rintro i n σ2 H2 ⟨A2, ρ2, m2, t2, x2, h2⟩
  cases n with
  | zero => exact h2.elim
  | succ n =>
    unfold forL at h2
    cases q : wkAt w i m2 with
    | none => rw [q] at h2; exact h2.elim
    | some o =>
      rw [q] at h2
      cases o with
      | none => exact .inl ⟨wk_stop t2.sto x2 q, h2 A2 H2 σ2 (Ext.refl _ _) t2.sto t2.env⟩
      | some d =>
        obtain ⟨go, yl⟩ := wk_go t2.sto x2 q
        refine .inr ⟨go, fun σ' H' => ∃ A' ρ' m', At c A' σ' H' ρ' m' ∧ WkRel c.K A' H' w J ∧ FinS c A' H' (forL w g f n (i + 1) ρ' m') D, fun σ' H' z => ⟨n, Nat.lt_succ_self n, z⟩, fun y H3 hy => ?_⟩
        obtain ⟨A3, e3, s3, x3⟩ := yl y H3 hy
        have t3 := t2.next e3 s3
        refine ⟨A3, d, ρ2, m2, t3, x3, ?_⟩
        have h3 := FinS.mono e3 h2
        simp only at h3
        cases qg : g d ρ2 m2 with
        | no => rw [qg] at h3; exact h3.elim
        | exc x m4 => rw [qg] at h3; exact fun A' H' cls dd e s xx => h3 A' H' σ2 cls dd e s (t3.env.mono e) xx
        | ok ρ4 m4 =>
          rw [qg] at h3
          refine fun A4 H4 σ4 e4 s4 v4 => ?_
          have t4 := t3.to e4 s4 v4
          refine ⟨A4, ρ4, m4, t4, ?_⟩
          have h4 := FinS.mono e4 h3
          have w4 := (x2.mono e3).mono e4
          simp only at h4
          cases qb : f ρ4 m4 with
          | nx ρ5 m5 => rw [qb] at h4; exact fun A5 H5 σ5 e5 s5 v5 => ⟨A5, ρ5, m5, t4.to e5 s5 v5, w4.mono e5, FinS.mono e5 h4⟩
          | ct ρ5 m5 => rw [qb] at h4; exact fun A5 H5 σ5 e5 s5 v5 => ⟨A5, ρ5, m5, t4.to e5 s5 v5, w4.mono e5, FinS.mono e5 h4⟩
          | bk ρ5 m5 => rw [qb] at h4; exact h4
          | rt d m => rw [qb] at h4; exact h4
          | exc x ρ m => rw [qb] at h4; exact h4
          | no => rw [qb] at h4; exact h4
theorem v_for [NoPin c] (hp : PassesOwn (model X.prog X.w) X.A X.env X.xe) (hc : X.calm = true) (hi : PI X tg e (RdI c it)) (hg : PG X tg (RdG c g)) (hb : PSs X body (RdS c f)) (hs : ∀ x, foldedSetIterable e X.env x = pure x) : PS X (.For tg e body [] pos) (RdS c (sFor it g f)) :=
  PS.weak (ps_for hp hc hi hg hb hs) fun D σ H q => for_run q
def whileL (t : Sm Bool) (b : SS) : Nat → Ro → Mu → Out
  | 0, _, _ => .no
  | n + 1, ρ, m => (t ρ m).out ρ fun k m1 => match k with
    | false => .nx ρ m1
    | true => match b ρ m1 with
      | .nx ρ2 m2 => whileL t b n ρ2 m2
      | .ct ρ2 m2 => whileL t b n ρ2 m2
      | .bk ρ2 m2 => .nx ρ2 m2
      | o => o
def sWhile (t : Sm Bool) (b : SS) : SS := whileL t b FUEL
theorem v_while [NoPin c] (hp : PassesOwn (model X.prog X.w) X.A X.env X.xe) (hc : PT X a (RdT c ft)) (hb : PSs X body (RdS c f)) : PS X (.While a body [] pos) (RdS c (sWhile ft f)) :=
  PS.weak (ps_while hp hc hb) fun D σ H ⟨A, ρ, μ, t, h⟩ => by
    refine ⟨fun n σ' H' => ∃ A' ρ' m', At c A' σ' H' ρ' m' ∧ FinS c A' H' (whileL ft f n ρ' m') D, ⟨_, A, ρ, μ, t, h⟩, ?_⟩
    rintro n σ2 H2 ⟨A2, ρ2, m2, t2, h2⟩
    cases n with
    | zero => exact h2.elim
    | succ n =>
      unfold whileL at h2
      refine ⟨A2, ρ2, m2, t2, (fin_out (rel := rB) t2 h2).imp fun k H3 ⟨A3, k', m3, _, e3, s3, x3, h3⟩ => ?_⟩
      have x3 : k = k' := x3
      subst x3
      have t3 := t2.next e3 s3
      cases k with
      | false => rw [if_neg Bool.false_ne_true]; exact h3 A3 H3 σ2 (Ext.refl _ _) s3 t3.env
      | true =>
        rw [if_pos rfl]
        refine ⟨fun σ' H' => ∃ A' ρ' m', At c A' σ' H' ρ' m' ∧ FinS c A' H' (whileL ft f n ρ' m') D, fun σ' H' z => ⟨n, Nat.lt_succ_self n, z⟩, A3, ρ2, m3, t3, ?_⟩
        simp only at h3
        cases qb : f ρ2 m3 with
        | nx ρ5 m5 => rw [qb] at h3; exact fun A5 H5 σ5 e5 s5 v5 => ⟨A5, ρ5, m5, t3.to e5 s5 v5, FinS.mono e5 h3⟩
        | ct ρ5 m5 => rw [qb] at h3; exact fun A5 H5 σ5 e5 s5 v5 => ⟨A5, ρ5, m5, t3.to e5 s5 v5, FinS.mono e5 h3⟩
        | bk ρ5 m5 => rw [qb] at h3; exact h3
        | rt d m => rw [qb] at h3; exact h3
        | exc x ρ m => rw [qb] at h3; exact h3
        | no => rw [qb] at h3; exact h3
/-! ### kinds of walks -/
def wkSeq (f : Sm Dat) : Sm Wk := fun ρ m => (f ρ m).bind fun d m1 => match d with
  | .str z => .ok (.st z) m1
  | d => if (sq m1 d).isSome then .ok (.sq d) m1 else .no
theorem v_wkSeq (hK : X.K = c.K.K) (ha : PE X a (RdE c fa)) : PI X tg a (RdI c (wkSeq fa)) := ⟨fun pins s σ H Q I ⟨A, ρ, μ, t, h⟩ => by
  have hh : Fin c σ A H ((fa ρ μ).bind fun d m1 => match d with | .str z => .ok (.st z) m1 | d => if (sq m1 d).isSome then .ok (.sq d) m1 else .no) (fun A' H' J w => WkRel c.K A' H' w J) Q := h
  cases qa : fa ρ μ with
  | no => rw [qa] at hh; exact hh.elim
  | exc x m1 =>
    rw [qa] at hh
    exact (pi_list ha).run pins s σ H Q I ⟨A, ρ, μ, t, by rw [qa]; exact hh⟩
  | ok d m1 =>
    have go : ∀ (R : V → Hp → Prop), (∀ A1 H1 v, Ext A H A1 H1 → Sto c.K A1 H1 m1 → Dn c.K A1 H1 v d → Fin c σ A1 H1 (match d with | .str z => .ok (.st z) m1 | d => if (sq m1 d).isSome then .ok (.sq d) m1 else .no) (fun A' H' J w => WkRel c.K A' H' w J) Q → R v H1) → RdE c fa σ H R := fun R g => by
      rw [qa] at hh
      exact ⟨A, ρ, μ, t, by rw [qa]; exact fun A1 H1 v e1 s1 x1 => g A1 H1 v e1 s1 x1 (Fin.mono e1 hh)⟩
    have lst : (∀ xs, d ≠ .tup xs) → (∀ z, d ≠ .str z) → wpAny (model X.prog X.w) X.A (eval a X.env) (fun v s1 => wpAny (model X.prog X.w) X.A (pyIter v) (PIE X pins σ tg Q) X.xe s1) X.xe s := fun nt ns => by
      refine (pi_list ha).run pins s σ H Q I (go _ fun A1 H1 v e1 s1 x1 f1 => ?_)
      have f1 : Fin c σ A1 H1 (if (sq m1 d).isSome then .ok (.sq d) m1 else .no) (fun A' H' J w => WkRel c.K A' H' w J) Q := by
        cases d with
        | str z => exact absurd rfl (ns z)
        | _ => exact f1
      obtain ⟨z, f2⟩ := fin_if f1
      obtain ⟨xs, hx⟩ := Option.isSome_iff_exists.mp z
      have hl : lv m1 d = some xs := by rw [← sq_lv nt]; exact hx
      obtain ⟨p, vs, rfl, h1, t1⟩ := lv_at hl s1 x1
      exact ⟨p, rfl, ⟨vs, by rw [hK]; exact h1⟩, fin_ok f2 (Ext.refl _ _) s1 ⟨p, x1, .inl ⟨by rw [hK], nt⟩⟩⟩
    cases d with
    | str z =>
      refine (pi_str ha).run pins s σ H Q I (go _ fun A1 H1 v e1 s1 x1 f1 => ?_)
      cases x1
      exact ⟨z, rfl, fin_ok f1 (Ext.refl _ _) s1 rfl⟩
    | tup xs =>
      refine (pi_tup ha).run pins s σ H Q I (go _ fun A1 H1 v e1 s1 x1 f1 => ?_)
      obtain ⟨z, f2⟩ := fin_if (show Fin c σ A1 H1 (if (sq m1 (.tup xs)).isSome then R.ok (Wk.sq (.tup xs)) m1 else R.no) _ Q from f1)
      cases x1 with
      | @tup p vs _ h1 t1 => exact ⟨p, rfl, ⟨vs, by rw [hK]; exact sqT_hid h1⟩, fin_ok f2 (Ext.refl _ _) s1 ⟨p, .tup h1 t1, .inr ⟨by rw [hK], xs, rfl⟩⟩⟩
    | lst xs => exact lst (fun _ h => nomatch h) (fun _ h => nomatch h)
    | cell xs => exact lst (fun _ h => nomatch h) (fun _ h => nomatch h)
    | _ => exact lst (fun _ h => nomatch h) (fun _ h => nomatch h)⟩
def wkRng1 (f : Sm Dat) : Sm Wk := fun ρ m => (f ρ m).bind fun d m1 => match d with
  | .int j => if -(2 ^ 62) ≤ j ∧ j < 2 ^ 62 then .ok (.rng 0 j.toNat) m1 else .no
  | _ => .no
def wkRng2 (f g : Sm Dat) : Sm Wk := fun ρ m => (f ρ m).bind fun d m1 => (g ρ m1).bind fun e m2 => match d, e with
  | .int i, .int j => if -(2 ^ 62) ≤ i ∧ i < 2 ^ 62 ∧ -(2 ^ 62) ≤ j ∧ j < 2 ^ 62 then .ok (.rng i (j - i).toNat) m2 else .no
  | _, _ => .no
theorem args1 {σ : L2.St} {A : As} {H : Hp} {ρ : Ro} {μ : Mu} {α β : Type} {rel : Rel α β} {k : Dat → Mu → R α} {Q : β → Hp → Prop} {Q' : List V → Hp → Prop} (t : At c A σ H ρ μ) (h : Fin c σ A H ((fa ρ μ).bind k) rel Q) (g : ∀ v d A1 H1 m1, At c A1 σ H1 ρ m1 → Dn c.K A1 H1 v d → Fin c σ A1 H1 (k d m1) rel Q → Q' [v] H1) : RdA c (sCons fa sNil) σ H Q' := by
  refine ⟨A, ρ, μ, t, ?_⟩
  unfold sCons
  cases q : fa ρ μ with
  | no => rw [q] at h; exact h.elim
  | exc x m => rw [q] at h; exact h
  | ok d m =>
    rw [q] at h
    refine fun A1 H1 vs e1 s1 x1 => ?_
    cases x1 with
    | cons x x2 => cases x2; exact g _ _ _ _ _ (t.next e1 s1) x (Fin.mono e1 h)
theorem args2 {σ : L2.St} {A : As} {H : Hp} {ρ : Ro} {μ : Mu} {α β : Type} {rel : Rel α β} {k : Dat → Dat → Mu → R α} {Q : β → Hp → Prop} {Q' : List V → Hp → Prop} (t : At c A σ H ρ μ) (h : Fin c σ A H ((fa ρ μ).bind fun d m1 => (fb ρ m1).bind fun e m2 => k d e m2) rel Q) (g : ∀ v w d e A1 H1 m1, At c A1 σ H1 ρ m1 → Dn c.K A1 H1 v d → Dn c.K A1 H1 w e → Fin c σ A1 H1 (k d e m1) rel Q → Q' [v, w] H1) : RdA c (sCons fa (sCons fb sNil)) σ H Q' := by
  refine ⟨A, ρ, μ, t, ?_⟩
  unfold sCons
  cases q : fa ρ μ with
  | no => rw [q] at h; exact h.elim
  | exc x m => rw [q] at h; exact h
  | ok d m =>
    rw [q] at h
    simp only [R.bind] at h ⊢
    cases q2 : fb ρ m with
    | no => rw [q2] at h; exact h.elim
    | exc x m => rw [q2] at h; exact h
    | ok e m =>
      rw [q2] at h
      refine fun A1 H1 vs e1 s1 x1 => ?_
      cases x1 with
      | cons x x2 => cases x2 with
        | cons y x3 => cases x3; exact g _ _ _ _ _ _ _ (t.next e1 s1) x y (Fin.mono e1 h)
theorem v_wkRng1 {p : Pos} (hg : Gl X "range") (hm : X.mg "range" = none) (ha : PA X [a] (RdA c (sCons fa sNil))) (hs : starEach [a] X.env = [(false, eval a X.env)]) : PI X tg (.Call (.Name "range" p) [a] [] pos) (RdI c (wkRng1 fa)) :=
  PI.weak (pi_range1 hg hm ha hs) fun σ H Q ⟨A, ρ, μ, t, h⟩ => args1 (rel := fun A' H' J w => WkRel c.K A' H' w J) t h fun v d A1 H1 m1 t1 x1 h1 => by
    cases d with
    | int j =>
      cases x1
      obtain ⟨z, h2⟩ := fin_if h1
      exact ⟨j, rfl, z.1, z.2, fin_ok h2 (Ext.refl _ _) t1.sto rfl⟩
    | _ => exact h1.elim
theorem v_wkRng2 {p : Pos} (hg : Gl X "range") (hm : X.mg "range" = none) (ha : PA X [a, b] (RdA c (sCons fa (sCons fb sNil)))) (hs : starEach [a, b] X.env = [(false, eval a X.env), (false, eval b X.env)]) (hs2 : starEach [b] X.env = [(false, eval b X.env)]) : PI X tg (.Call (.Name "range" p) [a, b] [] pos) (RdI c (wkRng2 fa fb)) :=
  PI.weak (pi_range2 hg hm ha hs (hs2 := hs2)) fun σ H Q ⟨A, ρ, μ, t, h⟩ => args2 (rel := fun A' H' J w => WkRel c.K A' H' w J) t h fun v w d e A1 H1 m1 t1 x1 y1 h1 => by
    cases d with
    | int i => cases e with
      | int j =>
        cases x1
        cases y1
        obtain ⟨z1, h2⟩ := fin_if h1
        exact ⟨i, j, rfl, z1, fin_ok h2 (Ext.refl _ _) t1.sto rfl⟩
      | _ => exact h1.elim
    | _ => exact h1.elim
end
end VM
namespace VM
open PySem PySem.Spec PyProof.Rows L2 DL LamX C8
/-! ### comprehensions -/
def wipeR (ρ : Ro) : List Nat → Ro
  | [] => ρ
  | v :: vs => (wipeR ρ vs).set v none
theorem env_none {K : Gm} {A : As} {H : Hp} {σ : L2.St} {ρ : Ro} (i : Nat) (h : DL.Env K A H σ ρ) : DL.Env K A H (σ.set i none) (ρ.set i none) := by
  refine ⟨by rw [List.length_set, List.length_set, h.1], fun j d q => ?_⟩
  by_cases c : i = j
  · subst c
    have hi : i < ρ.length := by
      have := (List.getElem?_eq_some_iff.mp q).1
      rwa [List.length_set] at this
    rw [List.getElem?_set_self hi] at q; cases q
  · rw [List.getElem?_set_ne c] at q
    obtain ⟨v, a, b⟩ := h.2 j d q
    exact ⟨v, by rw [List.getElem?_set_ne c]; exact a, b⟩
theorem env_wipe {K : Gm} {A : As} {H : Hp} {σ : L2.St} {ρ : Ro} (h : DL.Env K A H σ ρ) : ∀ vs : List Nat, DL.Env K A H (wipe σ vs) (wipeR ρ vs)
  | [] => h
  | v :: vs => env_none v (env_wipe h vs)
theorem wipe_set' (σ : L2.St) (i : Nat) (x : Option V) : ∀ vs : List Nat, wipe (σ.set i x) vs = if i ∈ vs then wipe σ vs else (wipe σ vs).set i x
  | [] => by simp [wipe]
  | v :: vs => by
    unfold wipe
    rw [wipe_set' σ i x vs]
    by_cases c : i ∈ vs
    · rw [if_pos c, if_pos (List.mem_cons_of_mem _ c)]
    · rw [if_neg c]
      by_cases d : i = v
      · subst d; rw [if_pos List.mem_cons_self, List.set_set]
      · rw [if_neg (fun m => (List.mem_cons.mp m).elim d c), List.set_comm _ _ d]
theorem wipe_wipe (σ : L2.St) (vs : List Nat) : ∀ ws : List Nat, (∀ i ∈ ws, i ∈ vs) → wipe (wipe σ ws) vs = wipe σ vs
  | [], _ => rfl
  | w :: ws, h => by
    show wipe ((wipe σ ws).set w none) vs = _
    rw [wipe_set', if_pos (h w List.mem_cons_self), wipe_wipe σ vs ws fun i hi => h i (List.mem_cons_of_mem _ hi)]
abbrev Cc.nox (c : Cc) : Cc := ⟨c.K, fun _ _ _ _ => False, c.κ, .no⟩
theorem At.nox {c : Cc} {A : As} {σ : L2.St} {H : Hp} {ρ : Ro} {μ : Mu} (t : At c A σ H ρ μ) : At c.nox A σ H ρ μ := ⟨t.sto, t.env, t.kap, trivial⟩
theorem At.wipe {c : Cc} [n : NoPin c] {A : As} {σ : L2.St} {H : Hp} {ρ : Ro} {μ : Mu} (t : At c A σ H ρ μ) (vs : List Nat) : At c A (L2.wipe σ vs) H (wipeR ρ vs) μ := ⟨t.sto, env_wipe t.env vs, t.kap, by rw [n.all]; trivial⟩
def rP (c : Cc) (σ0 : L2.St) (vs : List Nat) : Rel Ro L2.St := fun A H σ ρ => DL.Env c.K A H σ ρ ∧ wipe σ vs = wipe σ0 vs
def RdP (c : Cc) (vs : List Nat) (g : SG) : TG := fun v σ H Q => ∃ A d ρ μ, At c A σ H ρ μ ∧ Dn c.K A H v d ∧ Fin c σ A H (g d ρ μ) (rP c σ vs) Q
def RdPs (c : Cc) (vs : List Nat) (gs : List SG) : TGs := fun ws σ H Q => ∃ A ds ρ μ, At c A σ H ρ μ ∧ Dns c.K A H ws ds ∧ (∀ g ∈ gs, ∀ d ρ m x m', g d ρ m ≠ .exc x m') ∧ Fin c σ A H (tgs gs ds ρ μ) (rP c σ vs) Q
theorem PTs.weak {X : Cx} {e : List Expr} {t t' : TT} (h : PTs X e t) (w : ∀ σ H Q, t' σ H Q → t σ H Q) : PTs X e t' := ⟨fun pins s σ H Q I q => h.run pins s σ H Q I (w σ H Q q)⟩
theorem Fin.rel {α β : Type} {c : Cc} {σ : L2.St} {A : As} {H : Hp} {r : R α} {rel rel' : Rel α β} {Q : β → Hp → Prop} (h : Fin c σ A H r rel Q) (g : ∀ A H v d, rel' A H v d → rel A H v d) : Fin c σ A H r rel' Q := by
  cases r with
  | ok d m => exact fun A2 H2 v e2 s x => h A2 H2 v e2 s (g _ _ _ _ x)
  | exc x m => exact h
  | no => exact h
def sYes : Sm Bool := fun _ m => .ok true m
def walkL (w : Wk) (g : SG) (t : Sm Bool) (turn : Ro → Mu → Option Mu) (ρ0 : Ro) : Nat → Nat → Mu → Option Mu
  | 0, _, _ => none
  | n + 1, i, m => match wkAt w i m with
    | none => none
    | some none => some m
    | some (some d) => match g d ρ0 m with
      | .ok ρ1 m1 => (match t ρ1 m1 with
        | .ok true m2 => (match turn ρ1 m2 with
          | some m3 => walkL w g t turn ρ0 n (i + 1) m3
          | none => none)
        | .ok false m2 => walkL w g t turn ρ0 n (i + 1) m2
        | _ => none)
      | _ => none
def grow (k : Nat) (e : Sm Dat) : Ro → Mu → Option Mu := fun ρ m => match e ρ m with
  | .ok y m1 => (match lv m1 (.cell k) with
    | some acc => if acc.length < sizeLine then some (m1.set k (some (acc ++ [y]))) else none
    | none => none)
  | _ => none
def lcEnd (k : Nat) : Option Mu → R Dat
  | some m2 => (match lv m2 (.cell k) with
    | some acc => .ok (.lst acc) (m2.set k none)
    | none => .no)
  | none => .no
def lcEndC (k : Nat) : Option Mu → R Dat
  | some m2 => .ok (.cell k) m2
  | none => .no
def sLc (it : Sm Wk) (vs : List Nat) (g : SG) (t : Sm Bool) (e : Sm Dat) : Sm Dat := fun ρ m => (it ρ m).bind fun w m1 => lcEnd m1.length (walkL w g t (grow m1.length e) (wipeR ρ vs) FUEL 0 (m1 ++ [some []]))
def sLcC (it : Sm Wk) (vs : List Nat) (g : SG) (t : Sm Bool) (e : Sm Dat) : Sm Dat := fun ρ m => (it ρ m).bind fun w m1 => lcEndC m1.length (walkL w g t (grow m1.length e) (wipeR ρ vs) FUEL 0 (m1 ++ [some []]))
def sLc2 (it : Sm Wk) (vs : List Nat) (g : SG) (t : Sm Bool) (it1 : Sm Wk) (vs1 : List Nat) (g1 : SG) (t1 : Sm Bool) (e : Sm Dat) : Sm Dat := fun ρ m => (it ρ m).bind fun w m1 => lcEnd m1.length (walkL w g t (fun ρ1 m2 => match it1 ρ1 m2 with
  | .ok w1 m3 => walkL w1 g1 t1 (grow m1.length e) (wipeR ρ1 vs1) FUEL 0 m3
  | _ => none) (wipeR ρ vs) FUEL 0 (m1 ++ [some []]))
def sLc2C (it : Sm Wk) (vs : List Nat) (g : SG) (t : Sm Bool) (it1 : Sm Wk) (vs1 : List Nat) (g1 : SG) (t1 : Sm Bool) (e : Sm Dat) : Sm Dat := fun ρ m => (it ρ m).bind fun w m1 => lcEndC m1.length (walkL w g t (fun ρ1 m2 => match it1 ρ1 m2 with
  | .ok w1 m3 => walkL w1 g1 t1 (grow m1.length e) (wipeR ρ1 vs1) FUEL 0 m3
  | _ => none) (wipeR ρ vs) FUEL 0 (m1 ++ [some []]))
section
variable {X : Cx} {c : Cc} {a b e tg iter elt : Expr} {es ifs : List Expr} {pos : Pos} {fa fb fe : Sm Dat} {fs : Sm (List Dat)} {ft : Sm Bool} {it : Sm Wk} {g : SG} {vs : List Nat}
theorem v_pName {i : Nat} {x : Str} (hm : i ∈ vs) (hN : X.N.Nodup) (hi : X.N[i]? = some x) (hx : Loc X.env.scope x) (hf : X.fn x = true ∨ X.env.scope.names.lookup x = some .local) : PG X (.Name x pos) (RdP c vs (tgName i)) :=
  PG.weak (pg_name hN hi hx hf) fun v σ H Q ⟨A, d, ρ, μ, t, x, h⟩ => fin_ok h (Ext.refl A H) t.sto ⟨t.env.set i x, by rw [wipe_set', if_pos hm]⟩
theorem v_pNil : PGs X [] (RdPs c vs []) := PGs.weak pgs_nil fun v σ H Q ⟨A, ds, ρ, μ, t, x, _, h⟩ => by
  cases x with
  | nil => exact ⟨rfl, fin_ok h (Ext.refl A H) t.sto ⟨t.env, rfl⟩⟩
  | cons _ _ => exact h.elim
theorem v_pCons [NoPin c] {es : List Expr} {g : SG} {gs : List SG} (h1 : PG X e (RdP c vs g)) (h2 : PGs X es (RdPs c vs gs)) (ha : (assignEach (e :: es) X.env).map (·.2) = assign e X.env :: (assignEach es X.env).map (·.2)) : PGs X (e :: es) (RdPs c vs (g :: gs)) :=
  PGs.weak (pgs_cons h1 h2 ha) fun v σ H Q ⟨A, ds, ρ, μ, t, x, hn, h⟩ => by
    cases x with
    | nil => exact h.elim
    | @cons v0 vr d ds xd xr =>
      have hn' : ∀ g ∈ gs, ∀ d ρ m x m', g d ρ m ≠ .exc x m' := fun g hg => hn g (List.mem_cons_of_mem _ hg)
      refine ⟨v0, vr, rfl, A, d, ρ, μ, t, xd, ?_⟩
      have h : Fin c σ A H ((g d ρ μ).bind fun ρ1 m1 => tgs gs ds ρ1 m1) (rP c σ vs) Q := h
      cases q : g d ρ μ with
      | no => rw [q] at h; exact h.elim
      | exc x m => exact absurd q (hn g List.mem_cons_self _ _ _ _ _)
      | ok ρ1 m1 =>
        rw [q] at h
        exact fun A1 H1 σ1 e1 s1 ⟨v1, w1⟩ => ⟨A1, ds, ρ1, m1, t.to e1 s1 v1, xr.mono e1, hn', (fin_slots (fun x m => tgs_exc hn') (Fin.mono e1 (show Fin c σ A H (tgs gs ds ρ1 m1) (rP c σ vs) Q from h))).rel fun A2 H2 σ2 ρ2 ⟨v2, w2⟩ => ⟨v2, w2.trans w1⟩⟩
theorem v_pTup {es : List Expr} {k : Nat} {gs : List SG} (hK : X.K = c.K.K) (hc : X.calm = true) (h : PGs X es (RdPs c vs gs)) (hx : ∀ g ∈ gs, ∀ d ρ m x m', g d ρ m ≠ .exc x m') (hn : (assignEach es X.env).length = gs.length) (hst : (assignEach es X.env).findIdx? (·.1) = none) : PG X (.Tuple es k pos) (RdP c vs (tgTup gs)) :=
  PG.weak (pg_tup hc h hn hst) fun v σ H Q ⟨A, d, ρ, μ, t, x, h⟩ => by
    cases d with
    | tup ds =>
      obtain ⟨hl, h2⟩ := fin_if h
      cases x with
      | @tup a vs _ h1 t1 => exact ⟨a, vs, rfl, by rw [hK]; exact sqT_hid h1, by rw [t1.length]; exact hl, A, ds, ρ, μ, t, t1, hx, h2⟩
    | _ => exact h.elim
theorem v_tNil : PTs X [] (RdT c sYes) := PTs.weak pts_nil fun σ H Q ⟨A, ρ, μ, t, h⟩ => fin_ok h (Ext.refl A H) t.sto rfl
theorem v_tOne (h : PT X a (RdT c ft)) : PTs X [a] (RdT c ft) := pts_one h
/-! one turn -/
/-- what a walk's loop keeps: the list at D stands at k -/
structure Wst (c : Cc) (A1 : As) (H1 : Hp) (D : Addr) (k : Nat) (w : Wk) (J : It) (A : As) (H : Hp) (m : Mu) : Prop where
  ext : Ext A1 H1 A H
  sto : Sto c.K A H m
  dn : Dn c.K A H (.ref D) (.cell k)
  wk : WkRel c.K A H w J
theorem grow_run {σ : L2.St} {A : As} {H : Hp} {ρ : Ro} {μ m2 : Mu} {D : Addr} {k : Nat} {Nx : Hp → Prop} (t : At c.nox A σ H ρ μ) (x : Dn c.K A H (.ref D) (.cell k)) (q : grow k fe ρ μ = some m2) (h : ∀ A' H', Ext A H A' H' → Sto c.K A' H' m2 → Nx H') :
    RdE c.nox fe σ H fun y H4 => ∃ acc, H4 D = some (.lst acc) ∧ acc.length < sizeLine ∧ Nx (upd H4 D (.lst (acc ++ [y]))) := by
  unfold grow at q
  refine ⟨A, ρ, μ, t, ?_⟩
  cases q1 : fe ρ μ with
  | no => rw [q1] at q; cases q
  | exc y m => rw [q1] at q; cases q
  | ok y m1 =>
    rw [q1] at q
    simp only at q
    refine fun A1 H1 v e1 s1 x1 => ?_
    cases q3 : lv m1 (.cell k) with
    | none => rw [q3] at q; cases q
    | some acc =>
      rw [q3] at q
      simp only at q
      by_cases z : acc.length < sizeLine
      · rw [if_pos z] at q
        cases q
        obtain ⟨p, vs, e, hk, hH, t3⟩ := s1.cell (x.mono e1) (cell_eq q3)
        cases e
        refine ⟨vs, hH, by rw [t3.length]; exact z, ?_⟩
        exact h A1 _ (e1.trans (ext_cell hk hH)) (s1.write hk hH (t3.append (.cons x1 .nil)))
      · rw [if_neg z] at q; cases q
theorem cell_end {A : As} {H : Hp} {D : Addr} {k : Nat} {m : Mu} {acc : List Dat} {K : Gm} (s : Sto K A H m) (x : Dn K A H (.ref D) (.cell k)) (q : lv m (.cell k) = some acc) : Ext A H (A.set k none) H ∧ Sto K (A.set k none) H (m.set k none) ∧ Dn K (A.set k none) H (.ref D) (.lst acc) := by
  obtain ⟨p, vs, e, hk, hH, t3⟩ := s.cell x (cell_eq q)
  cases e
  refine ⟨ext_kill k, s.kill k, .lst (.inl (.inl (hid_to hH fun hm => ?_))) (t3.mono (ext_kill k))⟩
  obtain ⟨j, hj⟩ := List.mem_iff_getElem?.mp hm
  by_cases cc : k = j
  · subst cc
    rw [List.getElem?_set_self (List.getElem?_eq_some_iff.mp hk).1] at hj; cases hj
  · rw [List.getElem?_set_ne cc] at hj
    exact cc (s.inj _ _ _ hk hj)
/-- the loop of a walk: its turn told by what it hands on -/
theorem walk_run {w : Wk} {J : It} {turn : Ro → Mu → Option Mu} {tt : TT} {te : (L2.St → Hp → (Hp → Prop) → Prop)} {σ : L2.St} {ρ : Ro} {A1 : As} {H1 : Hp} {D : Addr} {k : Nat} {m2 : Mu} {Stop : Hp → Prop}
    (ht : ∀ σ H Q, RdT c.nox ft σ H Q → tt σ H Q)
    (hturn : ∀ {A H σ2 ρ2 μ m3 Nx}, At c.nox A σ2 H ρ2 μ → Dn c.K A H (.ref D) (.cell k) → turn ρ2 μ = some m3 → (∀ A' H', Ext A H A' H' → Sto c.K A' H' m3 → Nx H') → te σ2 H Nx)
    (env : DL.Env c.K A1 H1 σ ρ) (kap : Kap c.K A1 H1 c.κ)
    (hstop : ∀ A H, Wst c A1 H1 D k w J A H m2 → Stop H) {i n : Nat} {H : Hp}
    (h : ∃ A m, Wst c A1 H1 D k w J A H m ∧ walkL w g ft turn (wipeR ρ vs) n i m = some m2) :
    (J.stop i H ∧ Stop H) ∨ (J.go i H ∧ ∃ Nx : Hp → Prop, (∀ H', Nx H' → ∃ m', m' < n ∧ ∃ A m, Wst c A1 H1 D k w J A H' m ∧ walkL w g ft turn (wipeR ρ vs) m' (i + 1) m = some m2) ∧ ∀ x H', J.yld i H x H' →
      RdP c.nox vs g x (wipe σ vs) H' fun σ2 H2 => wipe σ2 vs = wipe σ vs ∧ tt σ2 H2 fun b H3 => if b = true then te σ2 H3 Nx else Nx H3) := by
  obtain ⟨A, m, W, q⟩ := h
  cases n with
  | zero => cases q
  | succ n =>
    unfold walkL at q
    cases q1 : wkAt w i m with
    | none => rw [q1] at q; cases q
    | some o =>
      rw [q1] at q
      cases o with
      | none => cases q; exact .inl ⟨wk_stop W.sto W.wk q1, hstop A H W⟩
      | some d =>
        obtain ⟨go, yl⟩ := wk_go W.sto W.wk q1
        simp only at q
        refine .inr ⟨go, fun H' => ∃ A m, Wst c A1 H1 D k w J A H' m ∧ walkL w g ft turn (wipeR ρ vs) n (i + 1) m = some m2, fun H' z => ⟨n, Nat.lt_succ_self n, z⟩, fun y H3 hy => ?_⟩
        obtain ⟨A3, e3, s3, x3⟩ := yl y H3 hy
        have E3 := W.ext.trans e3
        have t3 : At c.nox A3 (wipe σ vs) H3 (wipeR ρ vs) m := ⟨s3, env_wipe (env.mono E3) vs, kap.mono E3, trivial⟩
        refine ⟨A3, d, wipeR ρ vs, m, t3, x3, ?_⟩
        cases qg : g d (wipeR ρ vs) m with
        | no => rw [qg] at q; cases q
        | exc x m4 => rw [qg] at q; cases q
        | ok ρ4 m4 =>
          rw [qg] at q
          simp only at q
          refine fun A4 H4 σ4 e4 s4 ⟨v4, w4⟩ => ?_
          have E4 := E3.trans e4
          have ww : ∀ σ : L2.St, wipe (wipe σ vs) vs = wipe σ vs := fun σ => wipe_wipe σ vs vs fun _ h => h
          refine ⟨by rw [w4, ww], ht _ _ _ ?_⟩
          refine ⟨A4, ρ4, m4, ⟨s4, v4, kap.mono E4, trivial⟩, ?_⟩
          cases qt : ft ρ4 m4 with
          | no => rw [qt] at q; cases q
          | exc x m5 => rw [qt] at q; cases q
          | ok bb m5 =>
            rw [qt] at q
            refine fun A5 H5 b e5 s5 hb => ?_
            have hb : b = bb := hb
            subst hb
            have E5 := E4.trans e5
            cases b with
            | false => show ite (false = true) _ _; rw [if_neg Bool.false_ne_true]; exact ⟨A5, m5, ⟨E5, s5, W.dn.mono ((e3.trans e4).trans e5), W.wk.mono ((e3.trans e4).trans e5)⟩, q⟩
            | true =>
              show ite (true = true) _ _; rw [if_pos rfl]
              simp only at q
              cases qr : turn ρ4 m5 with
              | none => rw [qr] at q; cases q
              | some m6 =>
                rw [qr] at q
                exact hturn ⟨s5, v4.mono e5, kap.mono E5, trivial⟩ (W.dn.mono ((e3.trans e4).trans e5)) qr fun A6 H6 e6 s6 => ⟨A6, m6, ⟨E5.trans e6, s6, W.dn.mono (((e3.trans e4).trans e5).trans e6), W.wk.mono (((e3.trans e4).trans e5).trans e6)⟩, q⟩

theorem lc_core {σ : L2.St} {H : Hp} {Q : VK} {ef : Option Mu → R Dat} {k0 : Nat → Option Mu → R Dat} {turn : Nat → Ro → Mu → Option Mu} {tt : TT} {te : Addr → L2.St → Hp → (Hp → Prop) → Prop}
    (hk : k0 = lcEnd ∨ k0 = lcEndC)
    (ht : ∀ σ H Q, RdT c.nox ft σ H Q → tt σ H Q)
    (hturn : ∀ {A H σ2 ρ2 μ m3 Nx D k}, At c.nox A σ2 H ρ2 μ → Dn c.K A H (.ref D) (.cell k) → turn k ρ2 μ = some m3 → (∀ A' H', Ext A H A' H' → Sto c.K A' H' m3 → Nx H') → te D σ2 H Nx)
    (q : RdE c (fun ρ m => (it ρ m).bind fun w m1 => k0 m1.length (walkL w g ft (turn m1.length) (wipeR ρ vs) FUEL 0 (m1 ++ [some []]))) σ H Q) :
    RdI c it σ H fun J H1 => ∀ D, H1 D = none → ∃ W : Nat → Nat → Hp → Prop, (∃ m, W 0 m (upd H1 D (.lst []))) ∧ ∀ i m H, W i m H → (J.stop i H ∧ Q (.ref D) H) ∨ (J.go i H ∧ ∃ Nx : Hp → Prop, (∀ H', Nx H' → ∃ m', m' < m ∧ W (i + 1) m' H') ∧ ∀ x H', J.yld i H x H' → RdP c.nox vs g x (wipe σ vs) H' fun σ2 H2 => wipe σ2 vs = wipe σ vs ∧ tt σ2 H2 fun b H3 => if b = true then te D σ2 H3 Nx else Nx H3) := by
  obtain ⟨A, ρ, μ, t, h⟩ := q
  refine ⟨A, ρ, μ, t, (fin_bind (rel := fun A' H' J w => WkRel c.K A' H' w J) h).imp fun J H1 ⟨A1, w, m1, _, e1, s1, x1, h1⟩ => fun D hD => ?_⟩
  have t1 := t.next e1 s1
  have e2 := ext_open (A := A1) (o := .lst []) hD
  have s2 := s1.open hD (.nil (K := c.K))
  have dn : Dn c.K (A1 ++ [some D]) (upd H1 D (.lst [])) (.ref D) (.cell m1.length) := .cell (by rw [← s1.len]; simp) ⟨_, upd_same⟩
  have start : ∀ m2, walkL w g ft (turn m1.length) (wipeR ρ vs) FUEL 0 (m1 ++ [some []]) = some m2 → (∀ A H, Wst c (A1 ++ [some D]) (upd H1 D (.lst [])) D m1.length w J A H m2 → Q (.ref D) H) →
      ∃ W : Nat → Nat → Hp → Prop, (∃ m, W 0 m (upd H1 D (.lst []))) ∧ ∀ i m H, W i m H → (J.stop i H ∧ Q (.ref D) H) ∨ (J.go i H ∧ ∃ Nx : Hp → Prop, (∀ H', Nx H' → ∃ m', m' < m ∧ W (i + 1) m' H') ∧ ∀ x H', J.yld i H x H' → RdP c.nox vs g x (wipe σ vs) H' fun σ2 H2 => wipe σ2 vs = wipe σ vs ∧ tt σ2 H2 fun b H3 => if b = true then te D σ2 H3 Nx else Nx H3) := fun m2 q2 hs =>
    ⟨fun i n H' => ∃ A m, Wst c (A1 ++ [some D]) (upd H1 D (.lst [])) D m1.length w J A H' m ∧ walkL w g ft (turn m1.length) (wipeR ρ vs) n i m = some m2, ⟨FUEL, _, _, ⟨Ext.refl _ _, s2, dn, x1.mono e2⟩, q2⟩, fun i n H' z =>
      walk_run (c := c) (te := te D) ht (fun t x q h => hturn t x q h) (t1.env.mono e2) (t1.kap.mono e2) hs z⟩
  cases q2 : walkL w g ft (turn m1.length) (wipeR ρ vs) FUEL 0 (m1 ++ [some []]) with
  | none => rw [q2] at h1; rcases hk with rfl | rfl <;> exact h1.elim
  | some m2 =>
    rw [q2] at h1
    refine start m2 q2 fun A2 H2 W => ?_
    rcases hk with rfl | rfl
    · unfold lcEnd at h1
      simp only at h1
      cases q3 : lv m2 (.cell m1.length) with
      | none => rw [q3] at h1; exact h1.elim
      | some acc =>
        rw [q3] at h1
        obtain ⟨g1, g2, g3⟩ := cell_end W.sto W.dn q3
        exact fin_ok h1 ((e2.trans W.ext).trans g1) g2 g3
    · exact fin_ok (show Fin c σ A1 H1 (.ok (.cell m1.length) m2) (rD c) Q from h1) (e2.trans W.ext) W.sto W.dn
theorem lc_run {σ : L2.St} {H : Hp} {Q : VK} (q : RdE c (sLc it vs g ft fe) σ H Q) : tLc (RdI c it) (RdP c.nox vs g) (RdT c.nox ft) (RdE c.nox fe) vs σ H Q :=
  lc_core (ef := lcEnd 0) (k0 := lcEnd) (turn := fun k => grow k fe) (tt := RdT c.nox ft) (te := fun D σ H Nx => RdE c.nox fe σ H fun y H4 => ∃ acc, H4 D = some (.lst acc) ∧ acc.length < sizeLine ∧ Nx (upd H4 D (.lst (acc ++ [y])))) (.inl rfl) (fun _ _ _ h => h) (fun t x q h => grow_run t x q h) q
theorem lc_runC {σ : L2.St} {H : Hp} {Q : VK} (q : RdE c (sLcC it vs g ft fe) σ H Q) : tLc (RdI c it) (RdP c.nox vs g) (RdT c.nox ft) (RdE c.nox fe) vs σ H Q :=
  lc_core (ef := lcEnd 0) (k0 := lcEndC) (turn := fun k => grow k fe) (tt := RdT c.nox ft) (te := fun D σ H Nx => RdE c.nox fe σ H fun y H4 => ∃ acc, H4 D = some (.lst acc) ∧ acc.length < sizeLine ∧ Nx (upd H4 D (.lst (acc ++ [y])))) (.inr rfl) (fun _ _ _ h => h) (fun t x q h => grow_run t x q h) q
variable {it1 : Sm Wk} {g1 : SG} {ft1 : Sm Bool} {vs1 : List Nat} {tg1 iter1 : Expr} {ifs1 : List Expr}
theorem turn2_run {σ : L2.St} {A : As} {H : Hp} {ρ : Ro} {μ m3 : Mu} {D : Addr} {k : Nat} {Nx : Hp → Prop} (t : At c.nox A σ H ρ μ) (x : Dn c.K A H (.ref D) (.cell k)) (q : (match it1 ρ μ with | .ok w1 m4 => walkL w1 g1 ft1 (grow k fe) (wipeR ρ vs1) FUEL 0 m4 | _ => none) = some m3) (h : ∀ A' H', Ext A H A' H' → Sto c.K A' H' m3 → Nx H') :
    RdI c.nox it1 σ H fun J1 H4 => ∃ W1 : Nat → Nat → Hp → Prop, (∃ m, W1 0 m H4) ∧ ∀ j k H, W1 j k H → (J1.stop j H ∧ Nx H) ∨ (J1.go j H ∧ ∃ Nx1 : Hp → Prop, (∀ H', Nx1 H' → ∃ k', k' < k ∧ W1 (j + 1) k' H') ∧ ∀ x H', J1.yld j H x H' → RdP c.nox vs1 g1 x (wipe σ vs1) H' fun σ3 H5 => wipe σ3 vs1 = wipe σ vs1 ∧ RdT c.nox ft1 σ3 H5 fun b H6 => if b = true then RdE c.nox fe σ3 H6 fun y H7 => ∃ acc, H7 D = some (.lst acc) ∧ acc.length < sizeLine ∧ Nx1 (upd H7 D (.lst (acc ++ [y]))) else Nx1 H6) := by
  refine ⟨A, ρ, μ, t, ?_⟩
  cases q1 : it1 ρ μ with
  | no => rw [q1] at q; cases q
  | exc y m => rw [q1] at q; cases q
  | ok w1 m4 =>
    rw [q1] at q
    refine fun A1 H1 J e1 s1 x1 => ?_
    exact ⟨fun i n H' => ∃ A m, Wst c A1 H1 D k w1 J A H' m ∧ walkL w1 g1 ft1 (grow k fe) (wipeR ρ vs1) n i m = some m3, ⟨FUEL, _, _, ⟨Ext.refl _ _, s1, x.mono e1, x1⟩, q⟩, fun i n H' z =>
      walk_run (c := c) (tt := RdT c.nox ft1) (te := fun σ H Nx => RdE c.nox fe σ H fun y H4 => ∃ acc, H4 D = some (.lst acc) ∧ acc.length < sizeLine ∧ Nx (upd H4 D (.lst (acc ++ [y])))) (fun _ _ _ h => h) (fun t x q h => grow_run t x q h) (t.env.mono e1) (t.kap.mono e1) (fun A2 H2 W => h A2 H2 (e1.trans W.ext) W.sto) z⟩
theorem lc2_run {σ : L2.St} {H : Hp} {Q : VK} (q : RdE c (sLc2 it vs g ft it1 vs1 g1 ft1 fe) σ H Q) : tLc2 (RdI c it) (RdP c.nox vs g) (RdT c.nox ft) (RdI c.nox it1) (RdP c.nox vs1 g1) (RdT c.nox ft1) (RdE c.nox fe) vs vs1 σ H Q :=
  lc_core (ef := lcEnd 0) (k0 := lcEnd) (tt := RdT c.nox ft) (te := fun D σ H Nx => RdI c.nox it1 σ H fun J1 H4 => ∃ W1 : Nat → Nat → Hp → Prop, (∃ m, W1 0 m H4) ∧ ∀ j k H, W1 j k H → (J1.stop j H ∧ Nx H) ∨ (J1.go j H ∧ ∃ Nx1 : Hp → Prop, (∀ H', Nx1 H' → ∃ k', k' < k ∧ W1 (j + 1) k' H') ∧ ∀ x H', J1.yld j H x H' → RdP c.nox vs1 g1 x (wipe σ vs1) H' fun σ3 H5 => wipe σ3 vs1 = wipe σ vs1 ∧ RdT c.nox ft1 σ3 H5 fun b H6 => if b = true then RdE c.nox fe σ3 H6 fun y H7 => ∃ acc, H7 D = some (.lst acc) ∧ acc.length < sizeLine ∧ Nx1 (upd H7 D (.lst (acc ++ [y]))) else Nx1 H6)) (.inl rfl) (fun _ _ _ h => h) (fun t x q h => turn2_run t x q h) q
theorem lc2_runC {σ : L2.St} {H : Hp} {Q : VK} (q : RdE c (sLc2C it vs g ft it1 vs1 g1 ft1 fe) σ H Q) : tLc2 (RdI c it) (RdP c.nox vs g) (RdT c.nox ft) (RdI c.nox it1) (RdP c.nox vs1 g1) (RdT c.nox ft1) (RdE c.nox fe) vs vs1 σ H Q :=
  lc_core (ef := lcEnd 0) (k0 := lcEndC) (tt := RdT c.nox ft) (te := fun D σ H Nx => RdI c.nox it1 σ H fun J1 H4 => ∃ W1 : Nat → Nat → Hp → Prop, (∃ m, W1 0 m H4) ∧ ∀ j k H, W1 j k H → (J1.stop j H ∧ Nx H) ∨ (J1.go j H ∧ ∃ Nx1 : Hp → Prop, (∀ H', Nx1 H' → ∃ k', k' < k ∧ W1 (j + 1) k' H') ∧ ∀ x H', J1.yld j H x H' → RdP c.nox vs1 g1 x (wipe σ vs1) H' fun σ3 H5 => wipe σ3 vs1 = wipe σ vs1 ∧ RdT c.nox ft1 σ3 H5 fun b H6 => if b = true then RdE c.nox fe σ3 H6 fun y H7 => ∃ acc, H7 D = some (.lst acc) ∧ acc.length < sizeLine ∧ Nx1 (upd H7 D (.lst (acc ++ [y]))) else Nx1 H6)) (.inr rfl) (fun _ _ _ h => h) (fun t x q h => turn2_run t x q h) q

abbrev Blk (X : Cx) (scope : Scope) (P : Cx → Prop) : Prop := ∀ (s : Shared) (H : Hp) (C : Addr) (cl : List (Str × Addr)) (fp : List Addr), P (X.blk s H scope (compEnvC scope cl C X.env) fp)
variable {scope : Scope} {own : List (Str × Nat)}
theorem v_lc (hc : X.calm = true) (hN : X.N.Nodup) (hi : PI X tg iter (RdI c it)) (ok : BlkOk X.N X.env.scope scope own) (hg : Blk X scope fun Y => PG Y tg (RdP c.nox (own.map (·.2)) g)) (ht : Blk X scope fun Y => PTs Y ifs (RdT c.nox ft)) (he : Blk X scope fun Y => PE Y elt (RdE c.nox fe)) (hs : ∀ x, foldedSetIterable iter X.env x = pure x) :
    PE X (.ListComp elt [⟨tg, iter, ifs, 0⟩] scope pos) (RdE c (sLc it (own.map (·.2)) g ft fe)) := PE.weak (pe_lc hc hN hi ok hg ht he hs) fun σ H Q q => lc_run q
theorem v_lcC (hc : X.calm = true) (hN : X.N.Nodup) (hi : PI X tg iter (RdI c it)) (ok : BlkOk X.N X.env.scope scope own) (hg : Blk X scope fun Y => PG Y tg (RdP c.nox (own.map (·.2)) g)) (ht : Blk X scope fun Y => PTs Y ifs (RdT c.nox ft)) (he : Blk X scope fun Y => PE Y elt (RdE c.nox fe)) (hs : ∀ x, foldedSetIterable iter X.env x = pure x) :
    PE X (.ListComp elt [⟨tg, iter, ifs, 0⟩] scope pos) (RdE c (sLcC it (own.map (·.2)) g ft fe)) := PE.weak (pe_lc hc hN hi ok hg ht he hs) fun σ H Q q => lc_runC q
theorem v_lc2 (hc : X.calm = true) (hN : X.N.Nodup) (hi : PI X tg iter (RdI c it)) (ok : BlkOk X.N X.env.scope scope own) (hv : ∀ i ∈ vs1, i ∈ own.map (·.2)) (hg : Blk X scope fun Y => PG Y tg (RdP c.nox (own.map (·.2)) g)) (ht : Blk X scope fun Y => PTs Y ifs (RdT c.nox ft)) (hi1 : Blk X scope fun Y => PI Y tg1 iter1 (RdI c.nox it1)) (hg1 : Blk X scope fun Y => PG Y tg1 (RdP c.nox vs1 g1)) (ht1 : Blk X scope fun Y => PTs Y ifs1 (RdT c.nox ft1)) (he : Blk X scope fun Y => PE Y elt (RdE c.nox fe)) (hs : ∀ x, foldedSetIterable iter X.env x = pure x) (hs1 : ∀ (env : PySem.Env) x, foldedSetIterable iter1 env x = pure x) :
    PE X (.ListComp elt [⟨tg, iter, ifs, 0⟩, ⟨tg1, iter1, ifs1, 0⟩] scope pos) (RdE c (sLc2 it (own.map (·.2)) g ft it1 vs1 g1 ft1 fe)) := PE.weak (pe_lc2 hc hN hi ok hv hg ht hi1 hg1 ht1 he hs hs1) fun σ H Q q => lc2_run q
theorem v_lc2C (hc : X.calm = true) (hN : X.N.Nodup) (hi : PI X tg iter (RdI c it)) (ok : BlkOk X.N X.env.scope scope own) (hv : ∀ i ∈ vs1, i ∈ own.map (·.2)) (hg : Blk X scope fun Y => PG Y tg (RdP c.nox (own.map (·.2)) g)) (ht : Blk X scope fun Y => PTs Y ifs (RdT c.nox ft)) (hi1 : Blk X scope fun Y => PI Y tg1 iter1 (RdI c.nox it1)) (hg1 : Blk X scope fun Y => PG Y tg1 (RdP c.nox vs1 g1)) (ht1 : Blk X scope fun Y => PTs Y ifs1 (RdT c.nox ft1)) (he : Blk X scope fun Y => PE Y elt (RdE c.nox fe)) (hs : ∀ x, foldedSetIterable iter X.env x = pure x) (hs1 : ∀ (env : PySem.Env) x, foldedSetIterable iter1 env x = pure x) :
    PE X (.ListComp elt [⟨tg, iter, ifs, 0⟩, ⟨tg1, iter1, ifs1, 0⟩] scope pos) (RdE c (sLc2C it (own.map (·.2)) g ft it1 vs1 g1 ft1 fe)) := PE.weak (pe_lc2 hc hN hi ok hv hg ht hi1 hg1 ht1 he hs hs1) fun σ H Q q => lc2_runC q
theorem set_next {f : Sm Dat} {i : Nat} {D : L2.Ends} {σ : L2.St} {H : Hp} (q : RdS c (sSet i f) D σ H) : RdE c f σ H fun x H1 => D.nx (σ.set i (some x)) H1 := by
  obtain ⟨A, ρ, μ, t, h⟩ := q
  exact ⟨A, ρ, μ, t, (fin_out (rel := rD c) t h).imp fun v H1 ⟨A1, d, m1, _, e1, s1, x1, h1⟩ => h1 A1 H1 _ (Ext.refl A1 H1) s1 ((t.env.mono e1).set i x1)⟩
theorem v_setLc {i : Nat} {y : Str} {py spos : Pos} (hc : X.calm = true) (hN : X.N.Nodup) (hy : X.N[i]? = some y) (hyl : X.env.scope.names.lookup y = some .local) (hsw : swapsWith (.ListComp elt [⟨tg, iter, ifs, 0⟩] scope pos) (some (.Name y py)) spos.line X.env = pure true) (hi : PI X tg iter (RdI c it)) (ok : BlkOk X.N X.env.scope scope own) (hg : Blk X scope fun Y => PG Y tg (RdP c.nox (own.map (·.2)) g)) (ht : Blk X scope fun Y => PTs Y ifs (RdT c.nox ft)) (he : Blk X scope fun Y => PE Y elt (RdE c.nox fe)) (hs : ∀ x, foldedSetIterable iter X.env x = pure x) :
    PS X (.Assign [.Name y py] (.ListComp elt [⟨tg, iter, ifs, 0⟩] scope pos) spos) (RdS c (sSet i (sLc it (own.map (·.2)) g ft fe))) := PS.weak (ps_setLc hc hN hy hyl hsw hi ok hg ht he hs) fun D σ H q => lc_run (set_next q)
theorem v_setLcC {i : Nat} {y : Str} {py spos : Pos} (hc : X.calm = true) (hN : X.N.Nodup) (hy : X.N[i]? = some y) (hyl : X.env.scope.names.lookup y = some .local) (hsw : swapsWith (.ListComp elt [⟨tg, iter, ifs, 0⟩] scope pos) (some (.Name y py)) spos.line X.env = pure true) (hi : PI X tg iter (RdI c it)) (ok : BlkOk X.N X.env.scope scope own) (hg : Blk X scope fun Y => PG Y tg (RdP c.nox (own.map (·.2)) g)) (ht : Blk X scope fun Y => PTs Y ifs (RdT c.nox ft)) (he : Blk X scope fun Y => PE Y elt (RdE c.nox fe)) (hs : ∀ x, foldedSetIterable iter X.env x = pure x) :
    PS X (.Assign [.Name y py] (.ListComp elt [⟨tg, iter, ifs, 0⟩] scope pos) spos) (RdS c (sSet i (sLcC it (own.map (·.2)) g ft fe))) := PS.weak (ps_setLc hc hN hy hyl hsw hi ok hg ht he hs) fun D σ H q => lc_runC (set_next q)
theorem v_setLc2 {i : Nat} {y : Str} {py spos : Pos} (hc : X.calm = true) (hN : X.N.Nodup) (hy : X.N[i]? = some y) (hyl : X.env.scope.names.lookup y = some .local) (hsw : swapsWith (.ListComp elt [⟨tg, iter, ifs, 0⟩, ⟨tg1, iter1, ifs1, 0⟩] scope pos) (some (.Name y py)) spos.line X.env = pure true) (hi : PI X tg iter (RdI c it)) (ok : BlkOk X.N X.env.scope scope own) (hv : ∀ i ∈ vs1, i ∈ own.map (·.2)) (hg : Blk X scope fun Y => PG Y tg (RdP c.nox (own.map (·.2)) g)) (ht : Blk X scope fun Y => PTs Y ifs (RdT c.nox ft)) (hi1 : Blk X scope fun Y => PI Y tg1 iter1 (RdI c.nox it1)) (hg1 : Blk X scope fun Y => PG Y tg1 (RdP c.nox vs1 g1)) (ht1 : Blk X scope fun Y => PTs Y ifs1 (RdT c.nox ft1)) (he : Blk X scope fun Y => PE Y elt (RdE c.nox fe)) (hs : ∀ x, foldedSetIterable iter X.env x = pure x) (hs1 : ∀ (env : PySem.Env) x, foldedSetIterable iter1 env x = pure x) :
    PS X (.Assign [.Name y py] (.ListComp elt [⟨tg, iter, ifs, 0⟩, ⟨tg1, iter1, ifs1, 0⟩] scope pos) spos) (RdS c (sSet i (sLc2 it (own.map (·.2)) g ft it1 vs1 g1 ft1 fe))) := PS.weak (ps_setLc2 hc hN hy hyl hsw hi ok hv hg ht hi1 hg1 ht1 he hs hs1) fun D σ H q => lc2_run (set_next q)
end
end VM
namespace VM
open PySem PySem.Spec PyProof.Rows L2 DL LamX
/-! ### defs -/
abbrev Fv := Kp → List Dat → Mu → R Dat
abbrev gmC (G : Gm) (C : List (List Addr)) : Gm := { G with C := C }
abbrev eC (K : Gm) (E : XK) (κ : Kp) : Cc := ⟨K, fun cls dd _ H => E cls dd H, κ, .no⟩
/-- what a def promises: its function of data -/
def spV (G : Gm) (φ : Fv) (n : Nat) : Sp := fun vs H Q E => ∃ (C : List (List Addr)) (A : As) (μ : Mu) (ds : List Dat) (κ : Kp), ds.length = n ∧ Sto (gmC G C) A H μ ∧ Kap (gmC G C) A H κ ∧ Dns (gmC G C) A H vs ds ∧ Fin (eC (gmC G C) E κ) [] A H (φ κ ds μ) (rD (eC (gmC G C) E κ)) Q
structure FnV (P : Program) (w : World) (K : PySem.W.Frag) (mg : Str → Option Value) (base : Heap) (gd : Bool) (k : Nat) (f : Addr) (fd : FuncData) (ps : List Str) (sp : Sp) : Prop where
  len : ∀ vs H Q E, sp vs H Q E → vs.length = ps.length
  go : ∀ (A : Around) (outer : List PySem.Env) (s : Shared) (H : Hp) (args : Args) (us : List Value) (vs : List V) (Q : VK) (E : XK), (gd = true → A.guards = some []) → Room k A → Env0 P w K mg base A outer s H →
    BindsTo s fd args (ps.zip us) → Vals vs us → sp vs H Q E → codeAny (model P w) A (.call (.ref f) args) (CR (L2N.CX P w) outer P w H s Q E) s
theorem FnV.imp {P : Program} {w : World} {K : PySem.W.Frag} {mg : Str → Option Value} {base : Heap} {gd : Bool} {k : Nat} {f : Addr} {fd : FuncData} {ps : List Str} {sp sp' : Sp} (F : FnV P w K mg base gd k f fd ps sp) (h : ∀ vs H Q E, sp' vs H Q E → sp vs H Q E) : FnV P w K mg base gd k f fd ps sp' :=
  ⟨fun vs H Q E q => F.len vs H Q E (h _ _ _ _ q), fun A outer s H args us vs Q E g r e b v q => F.go A outer s H args us vs Q E g r e b v (h _ _ _ _ q)⟩
theorem FnV.mono {P : Program} {w : World} {K : PySem.W.Frag} {mg : Str → Option Value} {base : Heap} {gd : Bool} {j k : Nat} {f : Addr} {fd : FuncData} {ps : List Str} {sp : Sp} (F : FnV P w K mg base gd j f fd ps sp) (h : j ≤ k) : FnV P w K mg base gd k f fd ps sp :=
  ⟨F.len, fun A outer s H args us vs Q E g r => F.go A outer s H args us vs Q E g (r.mono h)⟩
def startR (n : Nat) (ds : List Dat) : Ro := ds.map some ++ List.replicate (n - ds.length) none
def endO : Out → R Dat
  | .nx _ m => .ok .non m
  | .rt d m => .ok d m
  | .exc x _ m => .exc x m
  | _ => .no
def bodyV (n : Nat) (ss : Kp → SS) : Fv := fun κ ds m => endO (ss κ (startR n ds) m)
theorem env_start {K : Gm} {A : As} {H : Hp} {N : List Str} {vs : List V} {ds : List Dat} (x : Dns K A H vs ds) : DL.Env K A H (L2.start N vs) (startR N.length ds) := by
  have hl := x.length
  refine ⟨by simp [L2.start, startR, hl], fun i d q => ?_⟩
  unfold startR at q
  by_cases c : i < ds.length
  · rw [List.getElem?_append_left (by simpa using c), List.getElem?_map] at q
    cases z : ds[i]? with
    | none => rw [z] at q; cases q
    | some e =>
      rw [z] at q
      cases q
      obtain ⟨v, h1, h2⟩ := x.get z
      refine ⟨v, ?_, h2⟩
      unfold L2.start
      rw [List.getElem?_append_left (by rw [List.length_map, hl]; exact c), List.getElem?_map, h1]; rfl
  · rw [List.getElem?_append_right (by simpa using c), List.getElem?_replicate] at q
    split at q <;> cases q
section
variable {P : Program} {w : World} {mg : Str → Option Value} {base : Heap}
theorem okV {G : Gm} {x qual : Str} {st : Stmt} {f : Addr} {fd : FuncData} {N ps : List Str} {gd : Bool} {k : Nat} {ss : Kp → SS} (F : Fun G.K x qual st f fd) (S : FnScope N ps (defScope st))
    (body : ∀ (C : List (List Addr)) (κ : Kp) (cdv : Value) (A : Around) (outer : List PySem.Env) (s : Shared) (H : Hp) (E : XK), (gd = true → A.guards = some []) → Room k (A.deeper (envOfC qual (defScope st) s.heap.objs.size f cdv)) →
      PSs (cxOf (L2N.CX P w) P w G.K mg base N qual (defScope st) f cdv A outer s H E) (defBody st) (RdS (eC (gmC G C) E κ) (ss κ))) : FnV P w G.K mg base gd (k + 1) f fd ps (spV G (bodyV N.length ss) ps.length) := by
  obtain ⟨oc, od, kV, doc, pm, an, cdv, ct, osl, rfl, lk, hcd⟩ := F.ex
  have len : ∀ vs H Q E, spV G (bodyV N.length ss) ps.length vs H Q E → vs.length = ps.length := fun vs H Q E ⟨C, A, μ, ds, κ, hl, _, _, x, _⟩ => by rw [x.length, hl]
  refine ⟨len, fun A outer s H args us vs Q E hG hr e0 hb rv hsp => ?_⟩
  refine run_ofS (N := N) (ps := ps) lk hcd S hr e0 hb rv (len _ _ _ _ hsp) fun hr' => ?_
  obtain ⟨C, A1, μ, ds, κ, hl, s1, kp, x1, h⟩ := hsp
  refine ⟨_, body C κ cdv A outer s H E hG hr', A1, startR N.length ds, μ, ⟨s1, env_start x1, kp, trivial⟩, ?_⟩
  unfold bodyV at h
  cases q : ss κ (startR N.length ds) μ with
  | nx ρ m => rw [q] at h; exact fun A' H' σ' e s' _ => h A' H' .non e s' .non
  | rt d m => rw [q] at h; exact fun A' H' v e s' y => h A' H' v e s' y
  | exc y ρ m => rw [q] at h; exact fun A' H' σ' cls dd e s' _ xn => h A' H' cls dd e s' xn
  | bk ρ m => rw [q] at h; exact h.elim
  | ct ρ m => rw [q] at h; exact h.elim
  | no => rw [q] at h; exact h.elim
end
section
variable {X : Cx} {c : Cc} {gd : Bool} {k : Nat} {f : Addr} {fd : FuncData} {ps ks : List Str} {x : Str} {p pos : Pos} {e : Expr} {es : List Expr} {fs : Sm (List Dat)} {φ : Fv} {G : Gm} {n : Nat}
def sCall (φ : Fv) (κ : Kp) (fs : Sm (List Dat)) : Sm Dat := fun ρ m => (fs ρ m).bind fun ds m1 => φ κ ds m1
theorem run_fnV {pins : List (Addr × Obj)} {σ : L2.St} {H : Hp} {s : Shared} {Q : VK} {us : List Value} {vs : List V} {args : Args} {sp : Sp} {E : XK} (F : FnV X.prog X.w X.K X.mg X.base gd k f fd ps sp) (hG : gd = true → X.A.guards = some []) (hr : Room k X.A) (hx : PassesAt (L2N.CX X.prog X.w) X σ E)
    (I : Inv X pins σ H s) (bd : BindsTo s fd args (ps.zip us)) (r : Vals vs us) (h : sp vs H Q E) : codeAny (model X.prog X.w) X.A (.call (.ref f) args) (fun r s' => match r with | .ok (.ret u) => EP X pins σ Q u s' | .ok _ => False | .error x => X.xe x s') s := by
  refine codeAny_mono (F.go X.A X.stack s H args us vs Q E hG hr I.env0 bd r h) fun r s' z => ?_
  cases r with
  | error er => exact hx pins H s er s' I z
  | ok fl =>
    cases fl with
    | ret u => exact I.after z
    | next => exact z.elim
    | brk => exact z.elim
    | cont => exact z.elim
theorem fin_wish {σ : L2.St} {A : As} {H : Hp} {r : R Dat} {Q : VK} {K : Gm} {W : WX} {κ : Kp} {pn : Pin} (h : Fin ⟨K, W, κ, pn⟩ σ A H r (rD ⟨K, W, κ, pn⟩) Q) : Fin (eC K (WE W σ) κ) [] A H r (rD (eC K (WE W σ) κ)) Q := by
  cases r with
  | ok d m => exact h
  | exc x m => exact h
  | no => exact h
/-- f(e, ..) -/
theorem v_call (F : FnV X.prog X.w X.K X.mg X.base gd k f fd ps (spV G φ n)) (hGm : c.K = gmC G c.K.C) (hG : gd = true → X.A.guards = some []) (hr : Room k X.A) (tk : L2N.Takes X c.W) (hg : Gl X x) (hm : X.mg x = some (.ref f)) (hk : PySem.W.keepIn X.K (.ref f) = true) (hb : Binds X.K fd ps []) (hn : es.length + 1 = n)
    (ha : PA X (e :: es) (RdA c fs)) (hdb : (x == ("__debug__" : Str)) = false) (he : starEach (e :: es) X.env = (false, eval e X.env) :: starEach es X.env) (hpl : (backTo pos (starEach es X.env)).any (·.1) = false) (hls : ∀ ρ m ds m', fs ρ m = .ok ds m' → ds.length = n) :
    PE X (.Call (.Name x p) (e :: es) [] pos) (RdE c (sCall φ c.κ fs)) := by
  constructor
  intro pins s σ H Q I ⟨A, ρ, μ, t, h⟩
  refine wpAny_Call_Name_kw (ld_glob I hg hm ?_ hdb)
  refine PySem.W.callWith_K (h₀ := X.base) I.ok.mod.kin hk ?_ he hpl
  refine thn (ha.run pos pins s σ H _ I ⟨A, ρ, μ, t, fin_bind (rel := rDs c) h⟩) ?_
  rintro us s1 ⟨vs, H1, I1, rv, A1, ds, m1, q1, e1, s1', x1, h1⟩
  have q0 : spV G φ n vs H1 Q (WE c.W σ) := by
    refine ⟨c.K.C, A1, m1, ds, c.κ, hls _ _ _ _ q1, ?_⟩
    rw [← hGm]
    exact ⟨s1', t.kap.mono e1, x1, fin_wish h1⟩
  have bd : BindsTo s1 fd ⟨us, []⟩ (ps.zip us) := by
    have := hb s1 us I1.kIn (by rw [List.append_nil, ← rv.length]; exact F.len _ _ _ _ q0)
    rwa [List.append_nil] at this
  refine ⟨I1.kIn, wpAny_call (codeAny_mono (run_fnV F hG hr (L2N.passAt tk σ) I1 bd rv q0) fun r s' z => ?_)⟩
  cases r with
  | error er => exact z
  | ok fl => cases fl <;> exact z
theorem ls_nil : ∀ ρ m ds m', sNil ρ m = .ok ds m' → ds.length = 0 := fun ρ m ds m' h => by cases h; rfl
theorem ls_cons {f : Sm Dat} {g : Sm (List Dat)} {n : Nat} (hg : ∀ ρ m ds m', g ρ m = .ok ds m' → ds.length = n) : ∀ ρ m ds m', sCons f g ρ m = .ok ds m' → ds.length = n + 1 := fun ρ m ds m' h => by
  unfold sCons at h
  cases q : f ρ m with
  | no => rw [q] at h; cases h
  | exc x m1 => rw [q] at h; cases h
  | ok d m1 =>
    rw [q] at h
    simp only [R.bind] at h
    cases q2 : g ρ m1 with
    | no => rw [q2] at h; cases h
    | exc x m1 => rw [q2] at h; cases h
    | ok es m2 => rw [q2] at h; cases h; rw [List.length_cons, hg _ _ _ _ q2]
/-! keyword calls -/
def pm {α : Type} (is : List Nat) (xs : List α) : List α := is.filterMap (xs[·]?)
theorem pm_vals {zs : List V} {ws : List Value} (h : Vals zs ws) : ∀ is : List Nat, Vals (pm is zs) (pm is ws)
  | [] => .nil
  | i :: is => by
    unfold pm
    rw [List.filterMap_cons, List.filterMap_cons]
    cases q : zs[i]? with
    | none =>
      have : ws[i]? = none := by
        rw [List.getElem?_eq_none_iff] at q ⊢
        rw [← h.length]; exact q
      rw [this]; exact pm_vals h is
    | some v =>
      obtain ⟨u, hu, r⟩ := h.get q
      rw [hu]; exact .cons r (pm_vals h is)
theorem pm_dns {K : Gm} {A : As} {H : Hp} {zs : List V} {ds : List Dat} (h : Dns K A H zs ds) : ∀ is : List Nat, Dns K A H (pm is zs) (pm is ds)
  | [] => .nil
  | i :: is => by
    unfold pm
    rw [List.filterMap_cons, List.filterMap_cons]
    cases q : ds[i]? with
    | none =>
      have : zs[i]? = none := by
        rw [List.getElem?_eq_none_iff] at q ⊢
        rw [h.length]; exact q
      rw [this]; exact pm_dns h is
    | some v =>
      obtain ⟨u, hu, r⟩ := h.get q
      rw [hu]; exact .cons r (pm_dns h is)
theorem PK.weak {kws : List Keyword} {t t' : TA} (h : PK X kws t) (w : ∀ σ H Q, t' σ H Q → t σ H Q) : PK X kws t' := ⟨fun pos pins s σ H Q I q => h.run pos pins s σ H Q I (w σ H Q q)⟩
theorem v_knil : PK X [] (RdA c sNil) := PK.weak pk_nil fun σ H Q ⟨A, ρ, μ, t, h⟩ => fin_ok h (Ext.refl A H) t.sto .nil
end
end VM
namespace VM
open PySem PySem.Spec PyProof.Rows L2 DL LamX
open Builtin Builtin.ObjectAttr
/-! ### own exceptions over any base -/
section
variable {prog : Program} {w : World} {A : Around} {R : Result → Shared → Prop} {hp : Heap} {g : Array GenState} {d : Drawn} {t : Nat} {os : OsState}
variable {B : String} {bmB : List Value} {K : PySem.W.Frag} {nm : Str} {tk : Tok} {v : Value} {x C dx : Addr} {fv : Array Value}
theorem newG (SF : StoreFacts B bmB "object.__setattr__" "object") (X : K.In hp) (hx : hp.get? x = some { cls := .ref C, data := .fields fv }) (q : PySem.W.excOver K C bmB = true) (hh : PySem.W.hasDictIn K C = true) (ha : PySem.W.findIn K (.ref C) nm = some none)
    (hq : ∀ h2 t2 dx, (∀ b o, b ≠ x → hp.get? b = some o → h2.get? b = some o) → hp.objs.size ≤ dx → dx ≠ x → h2.get? x = some { cls := .ref C, dict := some dx, data := .fields fv } →
      h2.Ns1 dx (fun y => if y = nm then some v else none) → R (.ok (.ret .none)) ⟨h2, g, d, t2, os⟩) :
    codeAny (model prog w) A (.call (.builtin "object.__setattr__") ⟨[.ref x, .str nm tk, v], []⟩) R ⟨hp, g, d, t, os⟩ := by
  have tkr : PySem.W.takerIn K C nm = some none := by unfold PySem.W.takerIn; rw [ha]; rfl
  refine PySem.W.osa_openX (od := none) (s := ⟨hp, g, d, t, os⟩) SF X ⟨hx, rfl, rfl, trivial⟩ q tkr fun b => ?_
  obtain ⟨cd, hcd, hd⟩ := PySem.W.any_some hh
  have LC : PySem.W.Looks (model prog w) hp (classData C) cd := PySem.W.looks_clsIn X hcd
  have ne : x ≠ hp.objs.size := Nat.ne_of_lt (Heap.lt_size hx)
  obtain ⟨c1, c2, c3, c4, c5, c6, c7, c8, c9, c10, c11⟩ := cd
  have e6 : c6 = true := hd
  subst e6
  unfold storeInOwnDict ownDictForStores
  repeat (first | with_reducible refine PySem.HandSPX.store_in_new ?_ ?_ | with_reducible refine wpAny_loadPart_at hx ?_ | with_reducible refine LC.at ?_ | wp_step)
  · exact ⟨_, #[], _, (Heap.get?_update_ne _ _ _ _ ne.symm).trans (Heap.get?_push_at rfl rfl), rfl, fun e z => absurd z (by simp), fun _ => rfl⟩
  · intro h2 t2 n2 sb
    have hx1 := Heap.get?_push_of_some ({ cls := .type "dict", data := .dict #[] } : Obj) hx
    refine hq h2 t2 hp.objs.size (fun b o hb z => ?_) (Nat.le_refl _) ne.symm ?_ n2
    · exact (sb.2 b (Nat.ne_of_lt (Heap.lt_size z))).trans ((Heap.get?_update_ne _ _ _ _ hb).trans (Heap.get?_push_of_some _ z))
    · exact (sb.2 x ne).trans (Heap.get?_update_self _ hx1 rfl)
theorem oldG {m0 : Str → Option Value} {nl : List Str} (SF : StoreFacts B bmB "object.__setattr__" "object") (X : K.In hp) (hx : hp.get? x = some { cls := .ref C, dict := some dx, data := .fields fv }) (hns : hp.Ns1 dx m0) (hw : Within m0 nl) (hz : nl.length ≤ 1000)
    (q : PySem.W.excOver K C bmB = true) (hh : PySem.W.hasDictIn K C = true) (ha : PySem.W.findIn K (.ref C) nm = some none)
    (hq : ∀ h2 t2, (∀ b o, b ≠ dx → hp.get? b = some o → h2.get? b = some o) → h2.Ns1 dx (fun y => if y = nm then some v else m0 y) → R (.ok (.ret .none)) ⟨h2, g, d, t2, os⟩) :
    codeAny (model prog w) A (.call (.builtin "object.__setattr__") ⟨[.ref x, .str nm tk, v], []⟩) R ⟨hp, g, d, t, os⟩ := by
  obtain ⟨oD, _, _, hoD, _, _⟩ := hns.count hw
  have tkr : PySem.W.takerIn K C nm = some none := by unfold PySem.W.takerIn; rw [ha]; rfl
  refine PySem.W.osa_openX (od := some oD) (s := ⟨hp, g, d, t, os⟩) SF X ⟨hx, rfl, rfl, hoD⟩ q tkr fun b => ?_
  obtain ⟨cd, hcd, hd⟩ := PySem.W.any_some hh
  have LC : PySem.W.Looks (model prog w) hp (classData C) cd := PySem.W.looks_clsIn X hcd
  obtain ⟨c1, c2, c3, c4, c5, c6, c7, c8, c9, c10, c11⟩ := cd
  have e6 : c6 = true := hd
  subst e6
  unfold storeInOwnDict ownDictForStores
  repeat (first | with_reducible refine PySem.OEX.store_in_old hns hw hz ?_ | with_reducible refine wpAny_loadPart_at hx ?_ | with_reducible refine LC.at ?_ | wp_step)
  intro h2 t2 n2 sb
  exact hq h2 t2 (fun b o hb z => (sb.2 b hb).trans z) n2
end
structure OexG (K : PySem.W.Frag) (C : Addr) : Prop where
  base : ∃ (B ni ii : String) (bmB : List Value), ExcBaseFacts B ni ii bmB ∧ StoreFacts B bmB "object.__setattr__" "object" ∧ PySem.W.excInitIn K C bmB ni = true ∧ PySem.W.excOver K C bmB = true
  hd : PySem.W.hasDictIn K C = true
  sa : PySem.W.findIn K (.ref C) "__setattr__" = some (some (.builtin "object.__setattr__"))
  rs : PySem.W.subIn K (.ref C) (.type "BaseException") = some true ∧ PySem.W.typeIn K (.ref C) = some (.type "type") ∧ PySem.W.keepIn K (.ref C) = true
section
variable {X : Cx} {pins : List (Addr × Obj)} {σ : L2.St} {H : Hp} {s : Shared} {a C dx : Addr} {f : Str} {y : V} {u : Value} {fs : List (Str × V)} {Q : Unit → Shared → Prop} {E : Value → Shared → Prop} {A : Around}
theorem exo_putG (T : OexG X.K C) (I : Inv X pins σ H s) (e : H a = some (exo a C none)) (hno : PySem.W.findIn X.K (.ref C) f = some none) (ry : RelV y u)
    (h : ∀ d s2, H d = none → d ≠ a → Inv X pins σ (upd (upd H d (exd d [(f, y)])) a (exo a C (some d))) s2 → Q () s2) : wpAny (model X.prog X.w) A (setAttr (.ref a) f u) Q E s := by
  obtain ⟨B, ni, ii, bmB, FB, SF, q1, q2⟩ := T.base
  obtain ⟨t1, ho⟩ := exo_at I.hok e
  obtain ⟨hp, g, dr, t, os⟩ := s
  refine PySem.W.set_plain (od := none) (ox := { cls := .ref C, dict := none, data := .fields #[.ref t1, .none, .none, .none, .bool false, .none] }) I.kIn
    ⟨ho, rfl, rfl, trivial⟩ T.sa ?_
  refine newG SF I.kIn ho q2 T.hd hno fun h2 t2 d k dn dne hx hn => ?_
  have nd : H d = none := I.hok.fresh dn
  have old : ∀ {b : Addr} {o : Obj}, hp.get? b = some o → b ≠ d := fun {b o} z => Nat.ne_of_lt (Nat.lt_of_lt_of_le (Heap.lt_size z) dn)
  have free : ∀ {b : Addr}, H b = none → b ≠ a := fun {b} n z => by
    subst z
    rw [e] at n; cases n
  have tra : ∀ {b : Addr} {o : HO}, H b = some o → exo a C none ≠ o → upd (upd H d (exd d [(f, y)])) a (exo a C (some d)) b = some o := fun {b o} z n => by rw [upd_ne (at_ne e z n), upd_ne (ne_of_none z nd)]; exact z
  refine h d _ nd dne (I.un (t' := t2) (H' := upd (upd H d (exd d [(f, y)])) a (exo a C (some d))) (h' := h2) ⟨fun b o z n _ _ => k b o (free n) z, fun b o z n _ _ => ⟨o.slots, k b o (free n) z⟩, fun b o z n _ => ?_, fun b o z _ => ?_, fun b xs z => tra z exo_tup, fun b o v z => tra z exo_frz, fun b ps z => ⟨#[], ?_⟩⟩ fun b o z => ?_)
  · rw [upd_ne (free n), upd_ne (old z)]; exact n
  · by_cases hb : b = a
    · subst hb; exact ⟨_, hx⟩
    · exact ⟨o, k b o hb z⟩
  · rw [tra z exo_tbl]; simp
  · by_cases hb : b = a
    · subst hb
      rw [upd_same] at z; cases z
      exact exo_ok hx
    · rw [upd_ne hb] at z
      by_cases hb2 : b = d
      · subst hb2
        rw [upd_same] at z; cases z
        exact exd_ok hn (relO_put (fs := []) ry fun _ => True.intro)
      · rw [upd_ne hb2] at z
        refine (I.hok b o z).stay (fun c v hc w => k c v ?_ w) (fun c hc => tra hc exo_own) (fun c xs hc => tra hc exo_tup)
        rcases hc with rfl | hc
        · exact hb
        · exact at_ne e hc exo_own
theorem exo_addG (T : OexG X.K C) (I : Inv X pins σ H s) (e : H a = some (exo a C (some dx))) (ed : H dx = some (exd dx fs)) (hl : fs.length ≤ 900) (hno : PySem.W.findIn X.K (.ref C) f = some none) (ry : RelV y u)
    (h : ∀ s2, Inv X pins σ (upd H dx (exd dx ((f, y) :: fs))) s2 → Q () s2) : wpAny (model X.prog X.w) A (setAttr (.ref a) f u) Q E s := by
  obtain ⟨B, ni, ii, bmB, FB, SF, q1, q2⟩ := T.base
  obtain ⟨t1, ho⟩ := exo_at I.hok e
  obtain ⟨mA, hns, rel⟩ := exd_at I.hok ed
  have hw := within_of rel
  obtain ⟨hp, g, dr, t, os⟩ := s
  obtain ⟨oD, _, _, hoD, _, _⟩ := hns.count hw
  refine PySem.W.set_plain (od := some oD) (ox := { cls := .ref C, dict := some dx, data := .fields #[.ref t1, .none, .none, .none, .bool false, .none] }) I.kIn
    ⟨ho, rfl, rfl, hoD⟩ T.sa ?_
  refine oldG SF I.kIn ho hns hw (by rw [List.length_map]; omega) q2 T.hd hno fun h2 t2 k hn => ?_
  have there : ∃ o, h2.get? dx = some o := by
    obtain ⟨o, _, _, z, _⟩ := hn
    exact ⟨o, z⟩
  exact h _ (I.write (t' := t2) (x := dx) (e := dx) (o := exd dx ((f, y) :: fs)) (by rw [ed]; exact True.intro) (.inl rfl) k there (exd_ok hn (relO_put ry rel)))
end
/-- self.f = .., of an exception that is being made -/
def tOstG (K : PySem.W.Frag) (f : Str) (to te : TE) : TS := fun D σ H => te σ H fun y H1 => to σ H1 fun x H2 => ∃ a C : Addr, x = .ref a ∧ OexG K C ∧ PySem.W.findIn K (.ref C) f = some none ∧
  ((H2 a = some (exo a C none) ∧ ∀ d, H2 d = none → d ≠ a → D.nx σ (upd (upd H2 d (exd d [(f, y)])) a (exo a C (some d)))) ∨
    ∃ (d : Addr) (fs : List (Str × V)), H2 a = some (exo a C (some d)) ∧ H2 d = some (exd d fs) ∧ fs.length ≤ 900 ∧ D.nx σ (upd H2 d (exd d ((f, y) :: fs))))
section
variable {X : Cx} {o e : Expr} {es : List Expr} {to te : TE} {ta : TA} {f : Str} {p p' p1 p2 pos : Pos}
theorem ps_ostG (ho : PE X o to) (he : PE X e te) (hs : swapsWith e (some (.Attribute o f p')) pos.line X.env = pure false) : PS X (.Assign [.Attribute o f p'] e pos) (tOstG X.K f to te) := by
  constructor
  intro pins s σ H D I h
  apply plainObj_wpAny_Assign_Attribute _ hs
  refine thn (he.run pins s σ H _ I h) ?_
  rintro v s1 ⟨y, H1, I1, r1, q1⟩
  refine thn (ho.run pins s1 σ H1 _ I1 q1) ?_
  rintro w s2 ⟨x, H2, I2, r2, a, C, rfl, T, hno, q⟩
  cases (show w = Value.ref a from r2)
  cases q with
  | inl q => exact exo_putG T I2 q.1 hno r1 fun d s' n ne J => ⟨σ, _, J, q.2 d n ne⟩
  | inr q =>
    obtain ⟨d, fs, ea, ed, hl, q⟩ := q
    exact exo_addG T I2 ea ed hl hno r1 fun s' J => ⟨σ, _, J, q⟩
/-- what __init__ does: the parameters' values are stored under their names -/
def spX (C : Addr) (ns : List Str) : Sp := fun vs H Q _ => ∃ a ws, vs = .ref a :: ws ∧ ws.length = ns.length ∧ H a = some (exo a C none) ∧
  ∀ H' d, H d = none → d ≠ a → H' a = some (exo a C (some d)) → H' d = some (exd d (ns.zip ws).reverse) → (∀ b, b ≠ a → b ≠ d → H' b = H b) → Q .non H'
theorem initX1 {f : Str} {C : Addr} {N : List Str} {x1 x2 : Str} {q1 q2 : Pos} (T : OexG X.K C) (hno : PySem.W.findIn X.K (.ref C) f = some none) (hN0 : X.N[0]? = some x1) (hN1 : X.N[1]? = some x2) (v1 : Vis X.env.scope x1) (v2 : Vis X.env.scope x2) (d1 : (x1 == ("__debug__" : Str)) = false) (d2 : (x1 == ("__classdict__" : Str)) = false) (d3 : (x2 == ("__debug__" : Str)) = false) (d4 : (x2 == ("__classdict__" : Str)) = false)
    (hs : swapsWith (.Name x2 q2) (some (.Attribute (.Name x1 q1) f p')) pos.line X.env = pure false) :
    PSs X [.Assign [.Attribute (.Name x1 q1) f p'] (.Name x2 q2) pos] (fun D σ H => ∃ a y Q, D.nx = (fun _ H => Q .non H) ∧ σ[0]? = some (some (.ref a)) ∧ σ[1]? = some (some y) ∧ spX C [f] [.ref a, y] H Q (fun _ _ _ => False)) :=
  PSs.weak (pss_one (ps_ostG (pe_var hN0 v1 d1 d2) (pe_var hN1 v2 d3 d4) hs)) fun D σ H ⟨a, y, Q, eD, e0, e1, a', ws, ev, hl, ea, h⟩ => by
    cases ev
    refine ⟨y, e1, .ref a, e0, a, C, rfl, T, hno, .inl ⟨ea, fun d n ne => ?_⟩⟩
    rw [eD]
    exact h _ d n ne upd_same (by rw [upd_ne ne, upd_same]; rfl) fun b h1 h2 => by rw [upd_ne h1, upd_ne h2]
theorem initX2 {f g : Str} {C : Addr} {x1 x2 x3 : Str} {q1 q2 q3 q4 p3 pos' : Pos} (T : OexG X.K C) (hno : PySem.W.findIn X.K (.ref C) f = some none) (hno2 : PySem.W.findIn X.K (.ref C) g = some none) (hN0 : X.N[0]? = some x1) (hN1 : X.N[1]? = some x2) (hN2 : X.N[2]? = some x3) (v1 : Vis X.env.scope x1) (v2 : Vis X.env.scope x2) (v3 : Vis X.env.scope x3) (d1 : (x1 == ("__debug__" : Str)) = false) (d2 : (x1 == ("__classdict__" : Str)) = false) (d3 : (x2 == ("__debug__" : Str)) = false) (d4 : (x2 == ("__classdict__" : Str)) = false) (d5 : (x3 == ("__debug__" : Str)) = false) (d6 : (x3 == ("__classdict__" : Str)) = false)
    (hs : swapsWith (.Name x2 q2) (some (.Attribute (.Name x1 q1) f p')) pos.line X.env = pure false) (hs2 : swapsWith (.Name x3 q4) (some (.Attribute (.Name x1 q3) g p3)) pos'.line X.env = pure false) :
    PSs X [.Assign [.Attribute (.Name x1 q1) f p'] (.Name x2 q2) pos, .Assign [.Attribute (.Name x1 q3) g p3] (.Name x3 q4) pos'] (fun D σ H => ∃ a y z Q, D.nx = (fun _ H => Q .non H) ∧ σ[0]? = some (some (.ref a)) ∧ σ[1]? = some (some y) ∧ σ[2]? = some (some z) ∧ spX C [f, g] [.ref a, y, z] H Q (fun _ _ _ => False)) :=
  PSs.weak (pss_cons (ps_ostG (pe_var hN0 v1 d1 d2) (pe_var hN1 v2 d3 d4) hs) (pss_one (ps_ostG (pe_var hN0 v1 d1 d2) (pe_var hN2 v3 d5 d6) hs2))) fun D σ H ⟨a, y, z, Q, eD, e0, e1, e2, a', ws, ev, hl, ea, h⟩ => by
    cases ev
    refine ⟨y, e1, .ref a, e0, a, C, rfl, T, hno, .inl ⟨ea, fun d n ne => ?_⟩⟩
    refine ⟨z, e2, .ref a, e0, a, C, rfl, T, hno2, .inr ⟨d, [(f, y)], upd_same, by rw [upd_ne ne, upd_same], by simp, ?_⟩⟩
    rw [eD]
    refine h _ d n ne (by rw [upd_ne ne.symm, upd_same]) (by rw [upd_same]; rfl) fun b h1 h2 => by rw [upd_ne h2, upd_ne h1, upd_ne h2]
theorem mk_endN {pins : List (Addr × Obj)} {σ : L2.St} {H1 H2 : Hp} {Q : XK} {hp hp2 h2 : Heap} {g1 g2 : Array GenState} {d1 d2 : Drawn} {t1 t2 : Nat} {os1 os2 : OsState} {a C d : Addr} {fs : List (Str × V)} (T : Raises X (.ref C)) (I1 : Inv X pins σ H1 ⟨hp, g1, d1, t1, os1⟩)
    (ha : hp.objs.size ≤ a) (k : ∀ b o, hp.get? b = some o → hp2.get? b = some o) (un : Un (frs X.stack) [] (upd H1 a (exo a C none)) H2 hp2 h2) (hok : HOk X.prog X.w H2 h2) (ho : os2 = os1) (hb : AllBare g2)
    (ea : H2 a = some (exo a C (some d))) (ed : H2 d = some (exd d fs)) (hd1 : H1 d = none) (q : Q (.ref C) (some d) (upd (del H2 a) d (.xd fs))) : L2N.MkP X pins σ Q (.ref a) ⟨h2, g2, d2, t2, os2⟩ := by
  obtain ⟨t0, G, J, kG, fresh, obj, out⟩ := mk_end0 (d2 := d2) (t2 := t2) I1 ha k un hok ho hb ea ed hd1
  refine ⟨a, _, _, ⟨G, g2, d2, t2, os2⟩, _, .ref C, some d, rfl, J, kG, fresh, obj, ⟨rfl, rfl, ?_⟩, rfl, rfl, out, rfl, hb, T, q⟩
  rintro vs e
  cases e
  rfl
theorem passLN {X : Cx} : Passes (L2N.CX X.prog X.w) X E0 := fun _ _ _ _ _ _ _ h => by
  obtain ⟨_, _, _, _, _, _, _, _, _, _, _, _, z⟩ := h
  exact z.elim
/-- C(e, ..) -/
def tMkG (C : Addr) (ns : List Str) (ta : TA) : L2.St → Hp → XK → Prop := fun σ H Q => ta σ H fun vs H1 => vs.length = ns.length ∧ ns.length ≤ 900 ∧ ∀ d H', H1 d = none → H' d = some (.xd (ns.zip vs).reverse) → (∀ b, b ≠ d → H' b = H1 b) → Q (.ref C) (some d) H'
theorem pmk_oexG {x : Str} {C fI : Addr} {k : Nat} {fd : FuncData} {ps ns : List Str} (T : OexG X.K C) (iC : PySem.W.findIn X.K (.ref C) "__init__" = some (some (.ref fI))) (tI : PySem.W.typeIn X.K (.ref fI) = some (.type "function"))
    (F1 : FnOk X.prog X.w X.K X.mg X.base (L2N.CX X.prog X.w) k fI fd ps (spX C ns)) (hr : Room (k + 1) X.A) (hb : Binds X.K fd ps []) (hg : Gl X x) (hm : X.mg x = some (.ref C)) (ha : PA X (e :: es) ta)
    (hdb : (x == ("__debug__" : Str)) = false) (he : starEach (e :: es) X.env = (false, eval e X.env) :: starEach es X.env) (hpl : (backTo pos (starEach es X.env)).any (·.1) = false) :
    L2N.PMk X (.Call (.Name x p) (e :: es) [] pos) (tMkG C ns ta) := by
  intro pins s σ H Q I h
  obtain ⟨B, ni, ii, bmB, FB, SF, g1, g2⟩ := T.base
  refine wpAny_Call_Name_kw (ld_glob I hg hm ?_ hdb)
  refine PySem.W.callWith_K (h₀ := X.base) I.ok.mod.kin T.rs.2.2 (thn (ha.run pos pins s σ H _ I h) ?_) he hpl
  rintro us s1 ⟨vs, H1, I1, r1, hl, hz, q1⟩
  refine ⟨I1.kIn, ?_⟩
  show wpAny _ _ (call (.ref C) us) _ _ _
  obtain ⟨c1, c2, c3, c4, c5, c6, c7, c8, c9, c10, c11, k0, k1, k2, k3, k5, hC, hT⟩ := PySem.W.excInit_of I1.kIn g1
  obtain ⟨hp, g, dr, tk, os⟩ := s1
  generalize hA : hp.objs.size + 1 = a0
  have le : hp.objs.size ≤ a0 := by omega
  have n0 : H1 a0 = none := I1.hok.fresh le
  have grow : ∀ b o, hp.get? b = some o → ((hp.push (PySem.W.kdv_tup us)).push (PySem.HandSPX.excO C hp.objs.size)).get? b = some o := fun b o z => Heap.get?_push_of_some _ (Heap.get?_push_of_some _ z)
  have at0 : ((hp.push (PySem.W.kdv_tup us)).push (PySem.HandSPX.excO C hp.objs.size)).get? a0 = some (PySem.HandSPX.excO C hp.objs.size) := by subst hA; heap_get
  have I2 := I1.laid (t' := tk) (a := a0) (o := exo a0 C none) (h' := (hp.push (PySem.W.kdv_tup us)).push (PySem.HandSPX.excO C hp.objs.size)) grow le (exo_ok at0)
  have r2 : Vals (V.ref a0 :: vs) (Value.ref a0 :: us) := .cons rfl r1
  have hsp : spX C ns (V.ref a0 :: vs) (upd H1 a0 (exo a0 C none)) (fun v H2 => v = .non ∧ ∃ (d : Addr) (fs : List (Str × V)), H2 a0 = some (exo a0 C (some d)) ∧ H2 d = some (exd d fs) ∧ H1 d = none ∧ Q (.ref C) (some d) (upd (del H2 a0) d (.xd fs))) (fun _ _ _ => False) := by
    refine ⟨a0, vs, rfl, hl, upd_same, fun H' d nd ne e1 e2 e3 => ⟨rfl, d, _, e1, e2, by rwa [upd_ne ne] at nd, q1 d _ (by rwa [upd_ne ne] at nd) upd_same fun b hb => ?_⟩⟩
    rw [upd_ne hb]
    by_cases c : b = a0
    · subst c; rw [del_same, n0]
    · rw [del_ne c, e3 b c hb, upd_ne c]
  have bd : BindsTo ⟨(hp.push (PySem.W.kdv_tup us)).push (PySem.HandSPX.excO C hp.objs.size), g, dr, tk, os⟩ fd ⟨Value.ref a0 :: us, []⟩ (ps.zip (Value.ref a0 :: us)) := by
    have z := hb ⟨(hp.push (PySem.W.kdv_tup us)).push (PySem.HandSPX.excO C hp.objs.size), g, dr, tk, os⟩ (Value.ref a0 :: us) I2.kIn (by
      rw [List.append_nil, ← r2.length]
      exact F1.len _ _ _ _ hsp)
    rwa [List.append_nil] at z
  have small : us.length ≤ sizeLine := by rw [← r1.length, hl, sizeLine_eq]; omega
  have run := F1.run _ X.stack _ _ ⟨Value.ref a0 :: us, []⟩ (Value.ref a0 :: us) _ _ (fun _ _ _ => False) (hr.make C us []) (I2.env0.make C us []) bd r2 hsp
  refine wpAny_call (PySem.HandSPX.call_own FB hT hC (PySem.W.looks_findIn I1.kIn iC) (fun self => PySem.W.bind_fn I1.kIn self tI) small ?_)
  subst hA
  refine codeAny_mono run fun r s2 z => ?_
  cases r with
  | error er => exact passLN pins σ _ _ er s2 I2 z
  | ok fl =>
    cases fl with
    | ret u =>
      obtain ⟨v, H2, os2, bare2, un2, hok2, rv, ev, d, fs, ea, ed, hd1, q2⟩ := z
      subst ev
      obtain ⟨h2, gg2, d2, t2, os'⟩ := s2
      exact ⟨rv, mk_endN (raises_own T.rs.1 T.rs.2.1) I1 le grow un2 hok2 os2 bare2 ea ed hd1 q2⟩
    | next => exact z.elim
    | brk => exact z.elim
    | cont => exact z.elim
end
end VM
namespace VM
open PySem PySem.Spec PyProof.Rows L2 DL LamX
section
variable {K : Gm} {A : As} {H : Hp}
theorem dns_reverse {vs : List V} {ds : List Dat} (h : Dns K A H vs ds) : Dns K A H vs.reverse ds.reverse := by
  induction vs generalizing ds with
  | nil => cases h; exact .nil
  | cons v vs ih =>
    cases h with
    | cons a t => rw [List.reverse_cons, List.reverse_cons]; exact (ih t).snoc a
theorem zip_fst {α : Type} : ∀ {ns : List Str} {vs : List α}, vs.length = ns.length → (ns.zip vs).map (·.1) = ns
  | [], [], _ => rfl
  | [], _ :: _, h => by simp at h
  | _ :: _, [], h => by simp at h
  | n :: ns, v :: vs, h => by
    rw [List.zip_cons_cons, List.map_cons, zip_fst (by simpa using h)]
theorem zip_snd {α : Type} : ∀ {ns : List Str} {vs : List α}, vs.length = ns.length → (ns.zip vs).map (·.2) = vs
  | [], [], _ => rfl
  | [], _ :: _, h => by simp at h
  | _ :: _, [], h => by simp at h
  | n :: ns, v :: vs, h => by
    rw [List.zip_cons_cons, List.map_cons, zip_snd (by simpa using h)]
theorem xn_new {C : Nat} {C' d : Addr} {ns : List Str} {vs : List V} {ds : List Dat} (hC : K.cls C = C') (hN : K.xfl C = ns.reverse) (hd : hid A H d = some (.xd (ns.zip vs).reverse)) (hl : ds.length = ns.length) (x : Dns K A H vs ds) : Xn K A H (.ref C') (some d) ⟨C, ds.reverse⟩ := by
  have hv : vs.length = ns.length := by rw [x.length, hl]
  refine ⟨by rw [hC], d, _, rfl, hd, ?_, ?_⟩
  · rw [List.map_reverse, zip_fst hv, hN]
  · show Dns K A H (((ns.zip vs).reverse).map (·.2)) ds.reverse
    rw [List.map_reverse, zip_snd hv]
    exact dns_reverse x
end
section
variable {X : Cx} {c : Cc} {a b e : Expr} {es : List Expr} {st : Stmt} {rest body orelse : List Stmt} {pos : Pos} {fa fb : Sm Dat} {fs : Sm (List Dat)} {ft : Sm Bool} {f g : SS}
/-! ### raise -/
def sRaise (C n : Nat) (fs : Sm (List Dat)) : SS := fun ρ m => (fs ρ m).out ρ fun ds m1 => if ds.length = n ∧ n ≤ 900 then .exc ⟨C, ds.reverse⟩ ρ m1 else .no
theorem v_raise {C n : Nat} {C' : Addr} {ns : List Str} (hC : c.K.cls C = C') (hN : c.K.xfl C = ns.reverse) (hn : ns.length = n) (hc : X.calm = true) (tk : L2N.Takes X c.W) (mk : L2N.PMk X e (tMkG C' ns (RdA c fs))) : PS X (.Raise (some e) none pos) (RdS c (sRaise C n fs)) :=
  PS.weak (L2N.ps_raise hc tk mk) fun D σ H ⟨A, ρ, μ, t, h⟩ => ⟨A, ρ, μ, t, (fin_out (rel := rDs c) t h).imp fun vs H1 ⟨A1, ds, m1, _, e1, s1, x1, h1⟩ => by
    subst hn
    by_cases z : ds.length = ns.length ∧ ns.length ≤ 900
    · rw [if_pos z] at h1
      refine ⟨by rw [x1.length, z.1], z.2, fun d H' hd hx ho => ?_⟩
      have eH : H' = upd H1 d (.xd (ns.zip vs).reverse) := by
        funext b
        by_cases q : b = d
        · subst q; rw [upd_same, hx]
        · rw [upd_ne q, ho b q]
      subst eH
      have e2 := ext_new (A := A1) (o := .xd (ns.zip vs).reverse) hd
      exact h1 A1 _ σ _ _ e2 (s1.new hd) (t.env.mono (e1.trans e2)) (xn_new hC hN (hid_to upd_same (s1.fresh hd)) z.1 (x1.mono e2))
    · rw [if_neg z] at h1; exact h1.elim⟩
/-! ### try .. except X as e -/
theorem env_drop {K : Gm} {A : As} {H : Hp} {σ : L2.St} {ρ : Ro} (i : Nat) (x : Option V) (h : DL.Env K A H σ ρ) : DL.Env K A H (σ.set i x) (ρ.set i none) := by
  refine ⟨by rw [List.length_set, List.length_set, h.1], fun j d q => ?_⟩
  by_cases c : i = j
  · subst c
    by_cases hi : i < ρ.length
    · rw [List.getElem?_set_self hi] at q; cases q
    · rw [List.getElem?_eq_none (by rw [List.length_set]; omega)] at q; cases q
  · rw [List.getElem?_set_ne c] at q
    obtain ⟨v, a, b⟩ := h.2 j d q
    exact ⟨v, by rw [List.getElem?_set_ne c]; exact a, b⟩
def unset (i : Nat) : Out → Out
  | .nx ρ m => .nx (ρ.set i none) m
  | .bk ρ m => .bk (ρ.set i none) m
  | .ct ρ m => .ct (ρ.set i none) m
  | .rt d m => .rt d m
  | _ => .no
def sTryAs (mt : Nat → Option Bool) (i : Nat) (f : SS) (su : Ex → SS) : SS := fun ρ m => match f ρ m with
  | .exc x ρ1 m1 => (match mt x.C with
    | some true => if i < ρ1.length then unset i (su x (ρ1.set i none) m1) else .no
    | some false => .exc x ρ1 m1
    | none => .no)
  | o => o
theorem v_tryAs {x n : Str} {cV : Value} {i : Nat} {suite : List Stmt} {b₀ : Stmt} {np pos' : Pos} {mt : Nat → Option Bool} {su : Ex → SS} (hs : X.stack = X.env :: X.outer) (hf : X.env.frame = some X.env.locals) (hN : X.N.Nodup) (hi : X.N[i]? = some n) (hln : X.env.kindOf n = some .local) (hcn : Names X x cV) (tk : L2N.Takes X c.W)
    (hmt : ∀ C b, mt C = some b → PySem.W.exmOne X.K (.ref (c.K.cls C)) cV = some b)
    (hb : ∀ (W : WX) (pn : List (Addr × Obj)) (xe : Value → Shared → Prop), L2N.Takes (X.tr pn xe) W → PassesOwn (model X.prog X.w) X.A X.env xe → PSs (X.tr pn xe) body (RdS ⟨c.K, W, c.κ, c.pn⟩ f))
    (hsu : ∀ (a : Addr) (oe : Obj) (cls : Value) (d : Option Addr) (pn : List (Addr × Obj)) (x : Ex), mt x.C = some true → cls = .ref (c.K.cls x.C) → L2N.Zn cls d oe → (∃ vs, oe.data = .fields vs) → PSs (X.suite a ((a, oe) :: pn)) (b₀ :: suite) (RdS ⟨c.K, fun _ _ _ _ => False, c.κ, .ex i a cls d x⟩ (su x))) :
    PS X (.Try body [.ExceptHandler (some (.Name x np)) (some n) (b₀ :: suite) pos'] [] [] pos) (RdS c (sTryAs mt i f su)) :=
  PS.weak (L2N.ps_try_as (ts := fun a cls d D σ H => ∃ x, mt x.C = some true ∧ cls = .ref (c.K.cls x.C) ∧ RdS ⟨c.K, fun _ _ _ _ => False, c.κ, .ex i a cls d x⟩ (su x) D σ H) hs hf hN hi hln hcn tk hb fun a oe cls d pn hz hd => ⟨fun pins s σ H D I ⟨x, h1, h2, q⟩ => (hsu a oe cls d pn x h1 h2 hz hd).run pins s σ H D I q⟩) fun D σ H ⟨A, ρ, μ, t, h⟩ => by
    refine ⟨A, ρ, μ, ⟨t.sto, t.env, t.kap, t.pin⟩, ?_⟩
    unfold sTryAs at h
    cases q : f ρ μ with
    | nx ρ1 m1 => rw [q] at h; exact h
    | rt d m => rw [q] at h; exact h
    | bk ρ m => rw [q] at h; exact h
    | ct ρ m => rw [q] at h; exact h
    | no => rw [q] at h; exact h.elim
    | exc x ρ1 m1 =>
      rw [q] at h
      simp only at h
      refine fun A' H' σ' cls dd e1 s1 v1 xn => ?_
      cases qm : mt x.C with
      | none => rw [qm] at h; exact h.elim
      | some b =>
        rw [qm] at h
        refine ⟨b, by rw [xn.1]; exact hmt _ _ qm, fun hb => ?_, fun hb => ?_⟩
        · subst hb
          have h2 : FinS c A' H' (if i < ρ1.length then unset i (su x (ρ1.set i none) m1) else .no) D := FinS.mono e1 h
          by_cases z : i < ρ1.length
          · rw [if_pos z] at h2
            refine fun a na => ⟨x, qm, xn.1, A', ρ1.set i none, m1, ⟨s1, env_drop i _ v1, t.kap.mono e1, by rw [List.getElem?_set_self (by rw [v1.1]; exact z)], xn⟩, ?_⟩
            cases qs : su x (ρ1.set i none) m1 with
            | nx ρ2 m2 => rw [qs] at h2; exact fun A2 H2 σ2 e2 s2 v2 => h2 A2 H2 _ e2 s2 (env_none i v2)
            | bk ρ2 m2 => rw [qs] at h2; exact fun A2 H2 σ2 e2 s2 v2 => h2 A2 H2 _ e2 s2 (env_none i v2)
            | ct ρ2 m2 => rw [qs] at h2; exact fun A2 H2 σ2 e2 s2 v2 => h2 A2 H2 _ e2 s2 (env_none i v2)
            | rt d m2 => rw [qs] at h2; exact h2
            | exc x ρ m => rw [qs] at h2; exact h2.elim
            | no => rw [qs] at h2; exact h2.elim
          · rw [if_neg z] at h2; exact h2.elim
        · subst hb
          exact h A' H' σ' cls dd e1 s1 v1 xn
/-- e.f of the caught exception -/
def sXf (x : Ex) (i : Nat) : Sm Dat := fun _ m => match x.ds[i]? with | some d => .ok d m | none => .no
/-- the place of a name -/
def posN (f : Str) : List Str → Option Nat
  | [] => none
  | n :: ns => if f = n then some 0 else (posN f ns).map (· + 1)
theorem pos_look {K : Gm} {A : As} {H : Hp} {f : Str} {d : Dat} : ∀ {fs : List (Str × V)} {ds : List Dat} {i : Nat}, posN f (fs.map (·.1)) = some i → Dns K A H (fs.map (·.2)) ds → ds[i]? = some d → ∃ v, fs.lookup f = some v ∧ Dn K A H v d
  | [], _, _, h, _, _ => by cases h
  | (n, v) :: fs, _, i, h, .cons (d := d0) (ds := ds0) y t, e => by
    have h : (if f = n then some 0 else (posN f (fs.map (·.1))).map (· + 1)) = some i := h
    by_cases q : f = n
    · subst q
      rw [if_pos rfl] at h
      cases h
      simp at e
      subst e
      exact ⟨v, by simp [List.lookup], y⟩
    · rw [if_neg q] at h
      have ne : (f == n) = false := by simpa using q
      cases z : posN f (fs.map (·.1)) with
      | none => rw [z] at h; cases h
      | some j =>
        rw [z] at h
        cases h
        obtain ⟨u, g1, g2⟩ := pos_look z t (by simpa using e)
        exact ⟨u, by rw [List.lookup, ne]; exact g1, g2⟩
theorem v_xf {i j : Nat} {n f : Str} {x : Ex} {ad : Addr} {oe : Obj} {cls : Value} {d : Option Addr} {pn : List (Addr × Obj)} {C' : Addr} {p : Pos} (hC : c.K.cls x.C = C') (hj : posN f (c.K.xfl x.C) = some j) (hp : c.pn = .ex i ad cls d x) (T : XfC X.K C') (hno : PySem.W.findIn X.K (.ref C') f = some none) (hz : L2N.Zn cls d oe) (hf : ∃ vs, oe.data = .fields vs)
    (hN : (X.suite ad ((ad, oe) :: pn)).N[i]? = some n) (hv : Vis X.env.scope n) (hd : (n == ("__debug__" : Str)) = false) (hcd : (n == ("__classdict__" : Str)) = false) (hb : attributeBase (.Name n p) f X.env (eval (.Name n p) X.env) = eval (.Name n p) X.env) :
    PE (X.suite ad ((ad, oe) :: pn)) (.Attribute (.Name n p) f pos) (RdE c (sXf x j)) :=
  PE.weak (pe_xf T hno hz.zc hf (pe_var (i := i) hN hv hd hcd) hb) fun σ H Q ⟨A, ρ, μ, t, h⟩ => by
    have hpin := t.pin
    rw [hp] at hpin
    obtain ⟨h1, xn⟩ := hpin
    obtain ⟨e1, da, fs, e2, e3, e4, e5⟩ := xn
    refine ⟨.ref ad, h1, rfl, by rw [e1, hC], da, fs, ?_⟩
    unfold sXf at h
    split at h
    · rename_i dd q
      obtain ⟨v, g1, g2⟩ := pos_look (by rw [e4]; exact hj) e5 q
      exact ⟨v, e2, (hid_of e3).1, g1, fin_ok h (Ext.refl A H) t.sto g2⟩
    · exact h.elim
/-- the first row of a suite, one slot bound; what follows is free -/
theorem v_seqX {p : Pin} {K : Gm} {W : WX} {κ : Kp} (h1 : PS X st (RdS ⟨K, W, κ, p⟩ f)) (h2 : PSs X rest (RdS ⟨K, W, κ, .no⟩ g)) : PSs X (st :: rest) (RdS ⟨K, W, κ, p⟩ (sSeq f g)) :=
  PSs.weak (pss_cons h1 h2) fun D σ H ⟨A, ρ, μ, t, h⟩ => ⟨A, ρ, μ, t, by
    unfold sSeq at h
    cases q : f ρ μ with
    | nx ρ1 m1 =>
      rw [q] at h
      exact fun A1 H1 σ1 e1 s1 v1 => ⟨A1, ρ1, m1, ⟨s1, v1, t.kap.mono e1, trivial⟩, FinS.mono e1 h⟩
    | rt d m => rw [q] at h; exact h
    | bk ρ m => rw [q] at h; exact h
    | ct ρ m => rw [q] at h; exact h
    | exc x ρ m => rw [q] at h; exact h
    | no => rw [q] at h; exact h⟩
/-! ### f-strings of texts and ints -/
def toTxt (d : Dat) (m : Mu) : R Dat := match d with
  | .str y => if y.length ≤ sizeLine then .ok (.str y) m else .no
  | .int i => if i.natAbs.log2 < 1920 then .ok (.str (toString i)) m else .no
  | _ => .no
def sFmt (f : Sm Dat) : Sm Dat := fun ρ m => (f ρ m).bind toTxt
theorem v_fmt (h : PE X e (RdE c fa)) : PE X (.FormattedValue e (-1) none pos) (RdE c (sFmt fa)) :=
  PE.weak (pe_fmt h) fun σ H Q ⟨A, ρ, μ, t, h⟩ => val_next t h fun v d A1 H1 m1 t1 e1 x1 h1 => by
    cases d with
    | str y =>
      cases x1
      obtain ⟨z, h2⟩ := fin_if (show Fin c σ A1 H1 (if y.length ≤ sizeLine then .ok (.str y) m1 else .no) (rD c) Q from h1)
      exact .inl ⟨y, rfl, z, fin_ok h2 (Ext.refl _ _) t1.sto (.str _)⟩
    | int i =>
      cases x1
      obtain ⟨z, h2⟩ := fin_if (show Fin c σ A1 H1 (if i.natAbs.log2 < 1920 then .ok (.str (toString i)) m1 else .no) (rD c) Q from h1)
      exact .inr ⟨i, rfl, z, fin_ok h2 (Ext.refl _ _) t1.sto (.str _)⟩
    | _ => exact h1.elim
def sJs : List (Sm Dat) → Str → Ro → Mu → R Dat
  | [], acc, _, m => .ok (.str acc) m
  | f :: fs, acc, ρ, m => (f ρ m).bind fun d m1 => match d with
    | .str y => if (acc ++ y).length ≤ sizeLine then sJs fs (acc ++ y) ρ m1 else .no
    | _ => .no
theorem js_run : ∀ {fs : List (Sm Dat)} {acc : Str} {σ : L2.St} {A : As} {H : Hp} {ρ : Ro} {μ : Mu} {Q : VK}, At c A σ H ρ μ → Fin c σ A H (sJs fs acc ρ μ) (rD c) Q → tJs (fs.map (RdE c)) acc σ H fun out H1 => Q (.str out) H1
  | [], acc, σ, A, H, ρ, μ, Q, t, h => fin_ok h (Ext.refl _ _) t.sto (.str _)
  | f :: fs, acc, σ, A, H, ρ, μ, Q, t, h => val_next t h fun v d A1 H1 m1 t1 e1 x1 h1 => by
    cases d with
    | str y =>
      cases x1
      obtain ⟨z, h2⟩ := fin_if (show Fin c σ A1 H1 (if (acc ++ y).length ≤ sizeLine then sJs fs (acc ++ y) ρ m1 else .no) (rD c) Q from h1)
      exact ⟨y, rfl, z, js_run t1 h2⟩
    | _ => exact h1.elim
def sJoin (fs : List (Sm Dat)) : Sm Dat := fun ρ m => sJs fs Str.empty ρ m
theorem v_joined {v1 v2 : Expr} {rest : List Expr} {fs : List (Sm Dat)} (h : PJ X (v1 :: v2 :: rest) (fs.map (RdE c))) : PE X (.JoinedStr (v1 :: v2 :: rest) pos) (RdE c (sJoin fs)) :=
  PE.weak (pe_joined h) fun σ H Q ⟨A, ρ, μ, t, h⟩ => js_run t h
theorem v_jnil : PJ X [] (([] : List (Sm Dat)).map (RdE c)) := .nil
theorem v_jcons {f : Sm Dat} {fs : List (Sm Dat)} (h : PE X e (RdE c f)) (r : PJ X es (fs.map (RdE c))) : PJ X (e :: es) ((f :: fs).map (RdE c)) := .cons h r
end
end VM
namespace VM
open PySem PySem.Spec PyProof.Rows L2 DL LamX
/-! ### functions that are made while a def runs, as data -/
theorem plain_ne {A : As} {H : Hp} {K : Gm} {μ : Mu} (s : Sto K A H μ) {b : Addr} {o : HO} (e : H b = some o) (n1 : ∀ xs, o ≠ .lst xs) (n2 : ∀ kvs, o ≠ .dT kvs) : some b ∉ A := fun m => by
  obtain ⟨k, hk⟩ := List.mem_iff_getElem?.mp m
  rcases (s.at_ k b hk).plain with ⟨xs, q⟩ | ⟨kvs, q⟩
  · rw [e] at q; exact n1 xs (Option.some.inj q)
  · rw [e] at q; exact n2 kvs (Option.some.inj q)
theorem ext_N {A : As} {H H1 : Hp} (e : ExtN H H1) : Ext A H A H1 := ⟨fun a o h n => by
  obtain ⟨h1, c⟩ := hid_of h
  exact hid_to (e _ _ h1 n) c, fun _ _ h => .inl h, fun _ _ _ _ ⟨xs, h⟩ => ⟨xs, e _ _ h fun _ z => nomatch z⟩, fun _ _ _ _ ⟨xs, h⟩ => ⟨xs, e _ _ h fun _ z => nomatch z⟩⟩
theorem sto_N {K : Gm} {A : As} {H H1 : Hp} {μ : Mu} (s : Sto K A H μ) (e : ExtN H H1) (T : Tabs K.T H1) : Sto K A H1 μ :=
  ⟨s.len, s.dead, fun k a h => by
    have q : H1 a = H a := by
      rcases (s.at_ k a h).plain with ⟨xs, q⟩ | ⟨kvs, q⟩
      · rw [q]; exact e _ _ q fun _ z => nomatch z
      · rw [q]; exact e _ _ q fun _ z => nomatch z
    exact (s.at_ k a h).tr (fun b o q ⟨φ, z⟩ => (ext_N e).keep b o q (by subst z; exact fun _ z => nomatch z)) (fun vs ds _ t => t.mono (ext_N e)) q rfl, s.inj, T⟩
theorem codeO_not1 {c : Addr} {q : Str} (xs : List V) : CodeO c q ≠ .lst xs := fun z => by
  unfold CodeO at z
  cases z
theorem codeO_not2 {c : Addr} {q : Str} (xs : List (List L2.Key × V)) : CodeO c q ≠ .dT xs := fun z => by
  unfold CodeO at z
  cases z
theorem codeO_frz {c : Addr} {q : Str} (ob : Obj) (u : HO) : CodeO c q ≠ .frz ob u := fun z => by
  unfold CodeO at z
  cases z
theorem fkO_frz {f c : Addr} {L : LamT} {cl : List (Str × Addr)} (ob : Obj) (u : HO) : FkO f L cl c ≠ .frz ob u := fun z => by
  unfold FkO at z
  cases z
/-! the tracked cells: taken away, added -/
def cutH (cs : List Addr) (H : Hp) : Hp := fun b => if b ∈ cs then none else H b
def addH (ps : List (Addr × Obj)) (H : Hp) : Hp := fun b => match ps.lookup b with | some o => some (.frz o (.own b)) | none => H b
theorem cut_in {cs : List Addr} {H : Hp} {b : Addr} (h : b ∈ cs) : cutH cs H b = none := if_pos h
theorem cut_out {cs : List Addr} {H : Hp} {b : Addr} (h : b ∉ cs) : cutH cs H b = H b := if_neg h
theorem look_none {ps : List (Addr × Obj)} {b : Addr} (h : b ∉ ps.map (·.1)) : ps.lookup b = none := by
  induction ps with
  | nil => rfl
  | cons p ps ih =>
    have n1 : b ≠ p.1 := fun z => h (by rw [z]; exact List.mem_cons_self)
    have n2 : (b == p.1) = false := by simpa using n1
    rw [List.lookup, n2]
    exact ih fun z => h (List.mem_cons_of_mem _ z)
theorem look_some {ps : List (Addr × Obj)} {b : Addr} (h : b ∈ ps.map (·.1)) : ∃ o, ps.lookup b = some o ∧ (b, o) ∈ ps := by
  induction ps with
  | nil => cases h
  | cons p ps ih =>
    by_cases e : b = p.1
    · have n2 : (b == p.1) = true := by simpa using e
      exact ⟨p.2, by rw [List.lookup, n2], by rw [e]; exact List.mem_cons_self⟩
    · have n2 : (b == p.1) = false := by simpa using e
      obtain ⟨o, q1, q2⟩ := ih (by
        rw [List.map_cons] at h
        rcases List.mem_cons.mp h with z | z
        · exact absurd z e
        · exact z)
      exact ⟨o, by rw [List.lookup, n2]; exact q1, List.mem_cons_of_mem _ q2⟩
theorem add_out {ps : List (Addr × Obj)} {H : Hp} {b : Addr} (h : b ∉ ps.map (·.1)) : addH ps H b = H b := by
  unfold addH
  rw [look_none h]
theorem add_in {ps : List (Addr × Obj)} {H : Hp} {b : Addr} (h : b ∈ ps.map (·.1)) : ∃ o, addH ps H b = some (.frz o (.own b)) ∧ (b, o) ∈ ps := by
  obtain ⟨o, q1, q2⟩ := look_some h
  exact ⟨o, by unfold addH; rw [q1], q2⟩
/-- what is no known cell is alike in both heaps -/
structure Alike (A : As) (H H' : Hp) : Prop where
  e : ∀ a o, hid A H a = some o → (∀ ob x, o ≠ .frz ob (.own x)) → hid A H' a = some o
  g : ∀ (k : Nat) (a : Addr), A[k]? = some (some a) → H' a = H a
section
variable {K : Gm} {A : As} {H H' : Hp} {μ : Mu}
theorem sqT_alike (l : Alike A H H') {a : Addr} {xs : List V} (h : SqT K (hid A H) a xs) : SqT K (hid A H') a xs := by
  rcases h with (h | ⟨o, h⟩) | h
  · exact .inl (.inl (l.e _ _ h fun _ _ z => nomatch z))
  · exact .inl (.inr ⟨o, l.e _ _ h fun _ _ z => nomatch z⟩)
  · exact .inr h
theorem sqL_alike (l : Alike A H H') {a : Addr} {xs : List V} (h : SqL K (hid A H) a xs) : SqL K (hid A H') a xs := by
  rcases h with (h | ⟨o, h⟩) | h
  · exact .inl (.inl (l.e _ _ h fun _ _ z => nomatch z))
  · exact .inl (.inr ⟨o, l.e _ _ h fun _ _ z => nomatch z⟩)
  · exact .inr h
mutual
theorem Dn.alike (l : Alike A H H') : ∀ {v : V} {d : Dat}, Dn K A H v d → Dn K A H' v d
  | _, _, .non => .non
  | _, _, .bl b => .bl b
  | _, _, .int i => .int i
  | _, _, .str x => .str x
  | _, _, .tup h t => .tup (sqT_alike (K := K) l h) (Dns.alike l t)
  | _, _, .lst h t => .lst (sqL_alike (K := K) l h) (Dns.alike l t)
  | _, _, .cell h ⟨xs, q⟩ => .cell h ⟨xs, by rw [l.g _ _ h]; exact q⟩
  | _, _, .dcell h ⟨xs, q⟩ => .dcell h ⟨xs, by rw [l.g _ _ h]; exact q⟩
  | _, _, .dead h => .dead h
  | _, _, .deadD h => .deadD h
  | _, _, .key h => .key (l.e _ _ h fun _ _ z => nomatch z)
  | _, _, .dct h t => .dct (l.e _ _ h fun _ _ z => nomatch z) (Dns.alike l t)
  | _, _, .obj c f h t => .obj c f (l.e _ _ h fun _ _ z => nomatch z) (Dns.alike l t)
  | _, _, .clo q k h g => .clo q k (l.e _ _ h fun _ _ => fkO_frz _ _) (l.e _ _ g fun _ _ => codeO_frz _ _)
  | _, _, .fn i => .fn i
theorem Dns.alike (l : Alike A H H') : ∀ {vs : List V} {ds : List Dat}, Dns K A H vs ds → Dns K A H' vs ds
  | _, _, .nil => .nil
  | _, _, .cons h t => .cons (Dn.alike l h) (Dns.alike l t)
end
theorem Sto.alike (s : Sto K A H μ) (l : Alike A H H') (T : Tabs K.T H') : Sto K A H' μ :=
  ⟨s.len, s.dead, fun k a q => by
    rcases s.at_ k a q with ⟨xs, ds, h1, h2, h3⟩ | ⟨kvs, ds, h1, h2, h3⟩
    · exact .inl ⟨xs, ds, by rw [l.g _ _ q]; exact h1, h2, Dns.alike l h3⟩
    · exact .inr ⟨kvs, ds, by rw [l.g _ _ q]; exact h1, h2, Dns.alike l h3⟩, s.inj, T⟩
theorem Xn.alike {cls : Value} {dd : Option Addr} {x : Ex} (h : Xn K A H cls dd x) (l : Alike A H H') : Xn K A H' cls dd x := by
  obtain ⟨h1, a, fs, h2, h3, h4, h5⟩ := h
  exact ⟨h1, a, fs, h2, l.e _ _ h3 (fun _ _ z => nomatch z), h4, Dns.alike l h5⟩
/-- cells are taken away -/
theorem alike_cut {cs : List Addr} (s : Sto K A H μ) (hc : ∀ c ∈ cs, ∃ ob, H c = some (.frz ob (.own c))) : Alike A H (cutH cs H) := ⟨fun a o h n => by
  obtain ⟨h1, h2⟩ := hid_of h
  refine hid_to ?_ h2
  rw [cut_out]
  · exact h1
  · intro z
    obtain ⟨ob, q⟩ := hc a z
    rw [h1] at q
    exact n _ _ (Option.some.inj q), fun k a h => cut_out fun z => by
  obtain ⟨ob, q⟩ := hc a z
  rcases (s.at_ k a h).plain with ⟨xs, r⟩ | ⟨xs, r⟩ <;> (rw [q] at r; cases r)⟩
theorem tabs_cut {cs : List Addr} {T : List (Addr × Str)} (t : Tabs T H) (hc : ∀ c ∈ cs, ∃ ob, H c = some (.frz ob (.own c))) : Tabs T (cutH cs H) := fun p hp => by
  have k : ∀ b o, H b = some o → (∀ ob x, o ≠ .frz ob (.own x)) → cutH cs H b = some o := fun b o e n => by
    rw [cut_out]
    · exact e
    · intro z
      obtain ⟨ob, q⟩ := hc b z
      rw [e] at q
      exact n _ _ (Option.some.inj q)
  obtain ⟨qs, h1, h2, h3⟩ := t p hp
  refine ⟨qs, k _ _ h1 (fun _ _ z => nomatch z), h2, fun pos cv e => ?_⟩
  obtain ⟨c, e1, e2⟩ := h3 pos cv e
  exact ⟨c, e1, k _ _ e2 fun _ _ => codeO_frz _ _⟩
/-- cells are added -/
theorem add_old {ps : List (Addr × Obj)} (hn : ∀ p ∈ ps, H p.1 = none) {b : Addr} {o : HO} (e : H b = some o) : addH ps H b = some o := by
  rw [add_out]
  · exact e
  · intro z
    obtain ⟨p, hp, rfl⟩ := List.mem_map.mp z
    rw [hn p hp] at e
    cases e
theorem alike_add {ps : List (Addr × Obj)} (s : Sto K A H μ) (hn : ∀ p ∈ ps, H p.1 = none) : Alike A H (addH ps H) := ⟨fun a o h n => by
  obtain ⟨h1, h2⟩ := hid_of h
  exact hid_to (add_old hn h1) h2, fun k a h => by
  obtain ⟨o, q⟩ := (s.at_ k a h).has
  rw [q]
  exact add_old hn q⟩
theorem tabs_add {ps : List (Addr × Obj)} {T : List (Addr × Str)} (t : Tabs T H) (hn : ∀ p ∈ ps, H p.1 = none) : Tabs T (addH ps H) := t.ext fun b o e => add_old hn e
theorem ext_add {ps : List (Addr × Obj)} (hn : ∀ p ∈ ps, H p.1 = none) : Ext A H A (addH ps H) := ⟨fun a o h n => by
  obtain ⟨h1, h2⟩ := hid_of h
  exact hid_to (add_old hn h1) h2, fun k o h => .inl h, fun k a h _ ⟨xs, l⟩ => ⟨xs, add_old hn l⟩, fun k a h _ ⟨xs, l⟩ => ⟨xs, add_old hn l⟩⟩
end
section
variable {P : Program} {w : World} {H H' : Hp} {h h' B : Heap} {fs : List Addr}
theorem hok_cut {cs : List Addr} (x : HOk P w H h) (hc : ∀ c ∈ cs, ∃ ob, H c = some (.frz ob (.own c))) : HOk P w (cutH cs H) h := fun a o e => by
  have out : ∀ b u, H b = some u → (∀ ob x, u ≠ .frz ob (.own x)) → cutH cs H b = some u := fun b u q n => by
    rw [cut_out]
    · exact q
    · intro z
      obtain ⟨ob, r⟩ := hc b z
      rw [q] at r
      exact n _ _ (Option.some.inj r)
  by_cases z : a ∈ cs
  · rw [cut_in z] at e; cases e
  · rw [cut_out z] at e
    exact (x a o e).stay (fun _ _ _ q => q) (fun b q => out b _ q fun _ _ z => nomatch z) fun b xs q => out b _ q fun _ _ z => nomatch z
theorem hok_add {ps : List (Addr × Obj)} (x : HOk P w H h) (hn : ∀ p ∈ ps, H p.1 = none) (hp : ∀ p ∈ ps, h.get? p.1 = some p.2) : HOk P w (addH ps H) h := fun a o e => by
  by_cases z : a ∈ ps.map (·.1)
  · obtain ⟨ob, q1, q2⟩ := add_in (H := H) z
    rw [q1] at e
    cases e
    have g := hp _ q2
    exact ⟨g, ob, g⟩
  · rw [add_out z] at e
    exact (x a o e).stay (fun _ _ _ q => q) (fun b q => add_old hn q) fun b xs q => add_old hn q
/-- behind a call that saw the added cells -/
theorem un_cut {ps : List (Addr × Obj)} (u : Un fs [] (addH ps H) H' h h') (hn : ∀ p ∈ ps, H p.1 = none) (hp : ∀ p ∈ ps, h.get? p.1 = some p.2) (hc : ∀ p ∈ ps, H' p.1 = some (.frz p.2 (.own p.1))) (x : HOk P w H' h') : Un fs [] H (cutH (ps.map (·.1)) H') h h' := by
  have same : ∀ b o, h.get? b = some o → b ∈ ps.map (·.1) → h'.get? b = some o := fun b o e z => by
    obtain ⟨p, hm, rfl⟩ := List.mem_map.mp z
    have := hp p hm
    rw [e] at this
    rw [Option.some.inj this]
    exact (x _ _ (hc p hm)).1
  have nin : ∀ b u, H b = some u → b ∉ ps.map (·.1) := fun b u e z => by
    obtain ⟨p, hm, rfl⟩ := List.mem_map.mp z
    rw [hn p hm] at e
    cases e
  refine ⟨fun b o e n hf hx => ?_, fun b o e n hf hx => ?_, fun b o e n hx => ?_, u.there, fun b xs e => ?_, fun b o v e => ?_, fun b qs e => ?_⟩
  · by_cases z : b ∈ ps.map (·.1)
    · exact same b o e z
    · exact u.keep b o e (by rw [add_out z]; exact n) hf hx
  · by_cases z : b ∈ ps.map (·.1)
    · exact ⟨o.slots, same b o e z⟩
    · exact u.slot b o e (by rw [add_out z]; exact n) hf hx
  · by_cases z : b ∈ ps.map (·.1)
    · exact cut_in z
    · rw [cut_out z]; exact u.free b o e (by rw [add_out z]; exact n) hx
  · rw [cut_out (nin _ _ e)]; exact u.tups b xs (by rw [add_out (nin _ _ e)]; exact e)
  · rw [cut_out (nin _ _ e)]; exact u.frzs b o v (by rw [add_out (nin _ _ e)]; exact e)
  · rw [cut_out (nin _ _ e)]; exact u.tbls b qs (by rw [add_out (nin _ _ e)]; exact e)
theorem ub_cut {ps : List (Addr × Obj)} (u : UB fs (addH ps H) H' h B h') (hn : ∀ p ∈ ps, H p.1 = none) (hp : ∀ p ∈ ps, h.get? p.1 = some p.2) (hc : ∀ p ∈ ps, H' p.1 = some (.frz p.2 (.own p.1))) (x : HOk P w H' B) : UB fs H (cutH (ps.map (·.1)) H') h B h' := by
  have nin : ∀ b u, H b = some u → b ∉ ps.map (·.1) := fun b u e z => by
    obtain ⟨p, hm, rfl⟩ := List.mem_map.mp z
    rw [hn p hm] at e
    cases e
  refine ⟨fun b o e n hf => ?_, u.slot, fun b o e n => ?_, u.there, fun b xs e => ?_, fun b o v e => ?_, fun b qs e => ?_⟩
  · by_cases z : b ∈ ps.map (·.1)
    · obtain ⟨p, hm, rfl⟩ := List.mem_map.mp z
      have := hp p hm
      rw [e] at this
      rw [Option.some.inj this]
      exact (x _ _ (hc p hm)).1
    · exact u.keep b o e (by rw [add_out z]; exact n) hf
  · by_cases z : b ∈ ps.map (·.1)
    · exact cut_in z
    · rw [cut_out z]; exact u.free b o e (by rw [add_out z]; exact n)
  · rw [cut_out (nin _ _ e)]; exact u.tups b xs (by rw [add_out (nin _ _ e)]; exact e)
  · rw [cut_out (nin _ _ e)]; exact u.frzs b o v (by rw [add_out (nin _ _ e)]; exact e)
  · rw [cut_out (nin _ _ e)]; exact u.tbls b qs (by rw [add_out (nin _ _ e)]; exact e)
/-- behind a call that didn't see the known cells -/
theorem un_add {ps : List (Addr × Obj)} (u : Un fs [] (cutH (ps.map (·.1)) H) H' h h') (hc : ∀ p ∈ ps, H p.1 = some (.frz p.2 (.own p.1))) : Un fs [] H (addH ps H') h h' := by
  have nin : ∀ b u, H b = some u → (∀ ob x, u ≠ .frz ob (.own x)) → b ∉ ps.map (·.1) := fun b u e n z => by
    obtain ⟨p, hm, rfl⟩ := List.mem_map.mp z
    rw [hc p hm] at e
    exact n _ _ (Option.some.inj e).symm
  have cn : ∀ b, H b = none → b ∉ ps.map (·.1) := fun b e z => by
    obtain ⟨p, hm, rfl⟩ := List.mem_map.mp z
    rw [hc p hm] at e
    cases e
  refine ⟨fun b o e n hf hx => u.keep b o e (by rw [cut_out (cn b n)]; exact n) hf hx, fun b o e n hf hx => u.slot b o e (by rw [cut_out (cn b n)]; exact n) hf hx, fun b o e n hx => ?_, u.there, fun b xs e => ?_, fun b o v e => ?_, fun b qs e => ?_⟩
  · rw [add_out (cn b n)]; exact u.free b o e (by rw [cut_out (cn b n)]; exact n) hx
  · have z := nin _ _ e fun _ _ z => nomatch z
    rw [add_out z]; exact u.tups b xs (by rw [cut_out z]; exact e)
  · by_cases z : b ∈ ps.map (·.1)
    · obtain ⟨ob, q1, q2⟩ := add_in (H := H') z
      have := hc _ q2
      rw [e] at this
      rw [q1, ← Option.some.inj this]
    · rw [add_out z]; exact u.frzs b o v (by rw [cut_out z]; exact e)
  · have z := nin _ _ e fun _ _ z => nomatch z
    rw [add_out z]; exact u.tbls b qs (by rw [cut_out z]; exact e)
theorem ub_add {ps : List (Addr × Obj)} (u : UB fs (cutH (ps.map (·.1)) H) H' h B h') (hc : ∀ p ∈ ps, H p.1 = some (.frz p.2 (.own p.1))) : UB fs H (addH ps H') h B h' := by
  have nin : ∀ b u, H b = some u → (∀ ob x, u ≠ .frz ob (.own x)) → b ∉ ps.map (·.1) := fun b u e n z => by
    obtain ⟨p, hm, rfl⟩ := List.mem_map.mp z
    rw [hc p hm] at e
    exact n _ _ (Option.some.inj e).symm
  have cn : ∀ b, H b = none → b ∉ ps.map (·.1) := fun b e z => by
    obtain ⟨p, hm, rfl⟩ := List.mem_map.mp z
    rw [hc p hm] at e
    cases e
  refine ⟨fun b o e n hf => u.keep b o e (by rw [cut_out (cn b n)]; exact n) hf, u.slot, fun b o e n => ?_, u.there, fun b xs e => ?_, fun b o v e => ?_, fun b qs e => ?_⟩
  · rw [add_out (cn b n)]; exact u.free b o e (by rw [cut_out (cn b n)]; exact n)
  · have z := nin _ _ e fun _ _ z => nomatch z
    rw [add_out z]; exact u.tups b xs (by rw [cut_out z]; exact e)
  · by_cases z : b ∈ ps.map (·.1)
    · obtain ⟨ob, q1, q2⟩ := add_in (H := H') z
      have := hc _ q2
      rw [e] at this
      rw [q1, ← Option.some.inj this]
    · rw [add_out z]; exact u.frzs b o v (by rw [cut_out z]; exact e)
  · have z := nin _ _ e fun _ _ z => nomatch z
    rw [add_out z]; exact u.tbls b qs (by rw [cut_out z]; exact e)
end
end VM
namespace VM
open PySem PySem.Spec PyProof.Rows L2 DL LamX
section
variable {X : Cx} {c : Cc} {a b e o : Expr} {es : List Expr} {pos apos p p1 p2 : Pos} {fa fb fo : Sm Dat} {fs : Sm (List Dat)}
/-! ### isinstance -/
inductive Ty where
  | int | bool | list | tuple | str | dict
def Ty.nm : Ty → String
  | .int => "int" | .bool => "bool" | .list => "list" | .tuple => "tuple" | .str => "str" | .dict => "dict"
def kitT (m : Mu) (d : Dat) (t : Ty) : Option Bool := match d with
  | .non => some false
  | .bl _ => (match t with | .int => some true | .bool => some true | _ => some false)
  | .int _ => (match t with | .int => some true | _ => some false)
  | .str _ => (match t with | .str => some true | _ => some false)
  | .tup _ => (match t with | .tuple => some true | _ => some false)
  | .key _ => (match t with | .tuple => some true | _ => some false)
  | .lst _ => (match t with | .list => some true | _ => some false)
  | .cell k => (match m[k]? with | some (some _) => (match t with | .list => some true | _ => some false) | _ => none)
  | .dct _ _ => (match t with | .dict => some true | _ => some false)
  | .dcell k => (match m[k]? with | some (some _) => (match t with | .dict => some true | _ => some false) | _ => none)
  | .obj _ _ => some false
  | _ => none
theorem kitT_of {m : Mu} {d : Dat} {t : Ty} {b : Bool} (h : kitT m d t = some b) : tyd m d = true ∧ kitD d t.nm = some b := by
  cases d with
  | non => cases t <;> cases h <;> exact ⟨rfl, (by decide +kernel : kitB "NoneType" _ = some _)⟩
  | bl k => cases t <;> cases h <;> exact ⟨rfl, (by decide +kernel : kitB "bool" _ = some _)⟩
  | int k => cases t <;> cases h <;> exact ⟨rfl, (by decide +kernel : kitB "int" _ = some _)⟩
  | str k => cases t <;> cases h <;> exact ⟨rfl, (by decide +kernel : kitB "str" _ = some _)⟩
  | tup k => cases t <;> cases h <;> exact ⟨rfl, (by decide +kernel : kitB "tuple" _ = some _)⟩
  | key k => cases t <;> cases h <;> exact ⟨rfl, (by decide +kernel : kitB "tuple" _ = some _)⟩
  | lst k => cases t <;> cases h <;> exact ⟨rfl, (by decide +kernel : kitB "list" _ = some _)⟩
  | dct k l => cases t <;> cases h <;> exact ⟨rfl, (by decide +kernel : kitB "dict" _ = some _)⟩
  | cell k =>
    simp only [kitT] at h
    split at h
    · rename_i q
      refine ⟨by simp only [tyd, q], ?_⟩
      cases t <;> cases h <;> (simp only [kitD, tyN, Ty.nm]; decide +kernel)
    · cases h
  | dcell k =>
    simp only [kitT] at h
    split at h
    · rename_i q
      refine ⟨by simp only [tyd, q], ?_⟩
      cases t <;> cases h <;> (simp only [kitD, tyN, Ty.nm]; decide +kernel)
    · cases h
  | obj C xs => cases t <;> cases h <;> exact ⟨rfl, by simp [kitD, Ty.nm]⟩
  | dst _ _ => cases h
  | clo _ _ => cases h
  | fn _ => cases h
  | tb _ => cases h
def sIsi (t : Ty) (f : Sm Dat) : Sm Dat := fun ρ m => (f ρ m).bind fun d m1 => match kitT m1 d t with | some b => .ok (.bl b) m1 | none => .no
def sIsi2 (t u : Ty) (f : Sm Dat) : Sm Dat := fun ρ m => (f ρ m).bind fun d m1 => match kitT m1 d t with
  | some true => .ok (.bl true) m1
  | some false => (match kitT m1 d u with | some b => .ok (.bl b) m1 | none => .no)
  | none => .no
theorem isi_run {T : Ty} {σ : L2.St} {H : Hp} {Q : VK} (q : RdE c (sIsi T fa) σ H Q) : tCB (rIsi c.K.K) (tCons (RdE c fa) (tCons (tC (.ty T.nm)) tNil)) σ H Q := by
  obtain ⟨A, ρ, μ, t, h⟩ := q
  refine val_next t h fun v d A1 H1 m1 t1 e1 x1 h1 => ?_
  cases q0 : kitT m1 d T with
  | none => rw [q0] at h1; exact h1.elim
  | some b =>
    rw [q0] at h1
    obtain ⟨z, q⟩ := kitT_of q0
    exact ⟨v, .ty T.nm, tyV c.K d, .type T.nm, b, rfl, .ty T.nm, ty_of t1.sto x1 z, kit_of' x1 q, fin_ok h1 (Ext.refl _ _) t1.sto (.bl b)⟩
theorem isi2_run {T U : Ty} {σ : L2.St} {H : Hp} {Q : VK} (q : RdE c (sIsi2 T U fa) σ H Q) : tCB (rIsiT c.K.K) (tCons (RdE c fa) (tCons (tTup (tCons (tC (.ty T.nm)) (tCons (tC (.ty U.nm)) tNil))) tNil)) σ H Q := by
  obtain ⟨A, ρ, μ, t, h⟩ := q
  refine val_next t h fun v d A1 H1 m1 t1 e1 x1 h1 => ?_
  have done : ∀ r : Bool, tyd m1 d = true → PySem.W.kitAny c.K.K (tyV c.K d) [.type T.nm, .type U.nm] = some r → Fin c σ A1 H1 (.ok (.bl r) m1) (rD c) Q → tCons (tTup (tCons (tC (.ty T.nm)) (tCons (tC (.ty U.nm)) tNil))) tNil σ H1 fun xs H2 => rIsiT c.K.K (v :: xs) H2 Q := fun r z hk h2 =>
    ⟨by show 2 ≤ sizeLine; decide, fun l hl => ⟨v, l, _, tyV c.K d, [.type T.nm, .type U.nm], r, rfl, upd_same, .cons (.ty T.nm) (.cons (.ty U.nm) .nil), ty_of (t1.sto.new hl) (x1.up hl) z, hk, fin_ok h2 (ext_new hl) (t1.sto.new hl) (.bl _)⟩⟩
  cases q0 : kitT m1 d T with
  | none => rw [q0] at h1; exact h1.elim
  | some b =>
    rw [q0] at h1
    obtain ⟨z, q⟩ := kitT_of q0
    have k1 := kit_of' x1 q
    cases b with
    | true =>
      refine done true z ?_ h1
      unfold PySem.W.kitAny
      rw [k1]
    | false =>
      simp only at h1
      cases q2 : kitT m1 d U with
      | none => rw [q2] at h1; exact h1.elim
      | some b2 =>
        rw [q2] at h1
        obtain ⟨_, q3⟩ := kitT_of q2
        have k2 := kit_of' x1 q3
        refine done b2 z ?_ h1
        unfold PySem.W.kitAny
        rw [k1]
        simp only
        unfold PySem.W.kitAny
        rw [k2]
        cases b2 <;> rfl
/-! ### x.append(y), x.extend(ys) of a list that changes -/
def sApp (fo : Sm Dat) (fa : Sm Dat) : Sm Dat := fun ρ m => (fo ρ m).bind fun o m1 => match o with
  | .cell k => (match lv m1 (.cell k) with
    | some _ => (fa ρ m1).bind fun d m2 => (match lv m2 (.cell k) with
      | some xs => if xs.length < sizeLine then .ok .non (m2.set k (some (xs ++ [d]))) else .no
      | none => .no)
    | none => .no)
  | _ => .no
theorem app_run {σ : L2.St} {H : Hp} {Q : VK} (q : RdE c (sApp fo fa) σ H Q) : tBM c.K.K "list" rAppend (RdE c fo) (RdA c (sCons fa sNil)) σ H Q := by
  obtain ⟨A, ρ, μ, t, h⟩ := q
  refine val_next t h fun v d A1 H1 m1 t1 e1 x1 h1 => ?_
  cases d with
  | cell k =>
    simp only at h1
    cases q1 : lv m1 (.cell k) with
    | none => rw [q1] at h1; exact h1.elim
    | some xs0 =>
      rw [q1] at h1
      obtain ⟨l, vs, rfl, hk, hH, y1⟩ := t1.sto.cell x1 (cell_eq q1)
      refine ⟨.inl ⟨rfl, vs, .of hH⟩, ?_⟩
      refine ⟨A1, ρ, m1, t1, ?_⟩
      unfold sCons
      simp only at h1
      cases qa : fa ρ m1 with
      | no => rw [qa] at h1; exact h1.elim
      | exc x m => rw [qa] at h1; exact h1
      | ok d2 m2 =>
        rw [qa] at h1
        refine fun A2 H2 ws e2 s2 y2 => ?_
        have h2 := Fin.mono e2 h1
        simp only [R.bind] at h2
        cases q2 : lv m2 (.cell k) with
        | none => rw [q2] at h2; exact h2.elim
        | some xs =>
          rw [q2] at h2
          obtain ⟨z, h3⟩ := fin_if h2
          obtain ⟨l2, us, eb, hk2, hH2, t2⟩ := s2.cell (x1.mono e2) (cell_eq q2)
          cases eb
          cases y2 with
          | cons y y' =>
            cases y'
            exact ⟨l, us, _, rfl, rfl, hH2, by rw [t2.length]; exact z, fin_ok h3 (ext_cell hk2 hH2) (s2.write hk2 hH2 (t2.snoc y)) .non⟩
  | _ => exact h1.elim
def sExt (fo : Sm Dat) (fa : Sm Dat) : Sm Dat := fun ρ m => (fo ρ m).bind fun o m1 => match o with
  | .cell k => (match lv m1 (.cell k) with
    | some _ => (fa ρ m1).bind fun d m2 => (match lv m2 (.cell k), lv m2 d with
      | some xs, some ys => if xs.length + ys.length ≤ sizeLine then .ok .non (m2.set k (some (xs ++ ys))) else .no
      | _, _ => .no)
    | none => .no)
  | _ => .no
theorem ext_run {σ : L2.St} {H : Hp} {Q : VK} (q : RdE c (sExt fo fa) σ H Q) : tBM c.K.K "list" (rExtL c.K.K) (RdE c fo) (RdA c (sCons fa sNil)) σ H Q := by
  obtain ⟨A, ρ, μ, t, h⟩ := q
  refine val_next t h fun v d A1 H1 m1 t1 e1 x1 h1 => ?_
  cases d with
  | cell k =>
    simp only at h1
    cases q1 : lv m1 (.cell k) with
    | none => rw [q1] at h1; exact h1.elim
    | some xs0 =>
      rw [q1] at h1
      obtain ⟨l, vs, rfl, hk, hH, y1⟩ := t1.sto.cell x1 (cell_eq q1)
      refine ⟨.inl ⟨rfl, vs, .of hH⟩, ?_⟩
      refine ⟨A1, ρ, m1, t1, ?_⟩
      unfold sCons
      simp only at h1
      cases qa : fa ρ m1 with
      | no => rw [qa] at h1; exact h1.elim
      | exc x m => rw [qa] at h1; exact h1
      | ok d2 m2 =>
        rw [qa] at h1
        refine fun A2 H2 ws e2 s2 y2 => ?_
        have h2 := Fin.mono e2 h1
        simp only [R.bind] at h2
        cases q2 : lv m2 (.cell k) with
        | none => rw [q2] at h2; exact h2.elim
        | some xs => cases q3 : lv m2 d2 with
          | none => rw [q2, q3] at h2; exact h2.elim
          | some ys =>
            rw [q2, q3] at h2
            obtain ⟨z, h3⟩ := fin_if h2
            obtain ⟨l2, us, eb, hk2, hH2, t2⟩ := s2.cell (x1.mono e2) (cell_eq q2)
            cases eb
            cases y2 with
            | cons y y' =>
              cases y'
              obtain ⟨r, zs, rfl, hr, t3⟩ := lv_at q3 s2 y
              exact ⟨l, r, us, zs, rfl, rfl, hH2, hr, by rw [t2.length, t3.length]; exact z, fin_ok h3 (ext_cell hk2 hH2) (s2.write hk2 hH2 (t2.append t3)) .non⟩
  | _ => exact h1.elim
/-! ### f(k = v, ..) -/
variable {gd : Bool} {k : Nat} {f : Addr} {fd : FuncData} {ps ks : List Str} {x : Str} {φ : Fv} {G : Gm} {n : Nat} {is : List Nat} {kws : List Keyword}
def sPm (is : List Nat) (fs : Sm (List Dat)) : Sm (List Dat) := fun ρ m => (fs ρ m).bind fun ds m1 => .ok (pm is ds) m1
theorem v_callN0 (F : FnV X.prog X.w X.K X.mg X.base gd k f fd ps (spV G φ n)) (hGm : c.K = gmC G c.K.C) (hG : gd = true → X.A.guards = some []) (hr : Room k X.A) (tk : L2N.Takes X c.W) (hg : Gl X x) (hm : X.mg x = some (.ref f)) (hk : PySem.W.keepIn X.K (.ref f) = true) (hb : KBn X.K fd ps 0 ks (fun _ ws => pm is ws) (fun _ zs => pm is zs))
    (ha : PK X kws (RdA c fs)) (hn : is.length = n) (hln : ks.length = n) (hin : ∀ i ∈ is, i < n) (hls : ∀ ρ m ds m', fs ρ m = .ok ds m' → ds.length = n) (hdb : (x == ("__debug__" : Str)) = false)
    (hall : (backToKw pos (keywordEach kws X.env)).all (·.1.isSome) = true) (hks : (backToKw pos (keywordEach kws X.env)).filterMap (·.1) = ks)
    (hpl : ((backTo pos (starEach [] X.env)).any (·.1) || (backToKw pos (keywordEach kws X.env)).any (·.1.isNone)) = false) : PE X (.Call (.Name x p) [] kws pos) (RdE c (sCall φ c.κ (sPm is fs))) := by
  have pml : ∀ (ds : List Dat) (js : List Nat), (∀ i ∈ js, i < ds.length) → (pm js ds).length = js.length := fun ds js => by
    induction js with
    | nil => intro _; rfl
    | cons j js ih =>
      intro hj
      unfold pm
      rw [List.filterMap_cons, List.getElem?_eq_getElem (hj j List.mem_cons_self)]
      exact congrArg Nat.succ (ih fun i hi => hj i (List.mem_cons_of_mem _ hi))
  constructor
  intro pins s σ H Q I ⟨A, ρ, μ, t, h⟩
  refine wpAny_Call_Name_kw (ld_glob I hg hm ?_ hdb)
  refine PySem.W.callWith_KW0 (h₀ := X.base) I.ok.mod.kin hk hall ?_ hpl
  have h0 : Fin c σ A H ((fs ρ μ).bind fun ds m1 => φ c.κ (pm is ds) m1) (rD c) Q := by
    have h : Fin c σ A H (((fs ρ μ).bind fun ds m1 => R.ok (pm is ds) m1).bind fun ds m1 => φ c.κ ds m1) (rD c) Q := h
    cases q : fs ρ μ with
    | no => rw [q] at h; exact h
    | exc x m => rw [q] at h; exact h
    | ok ds m => rw [q] at h; exact h
  refine thn (ha.run pos pins s σ H _ I ⟨A, ρ, μ, t, fin_bind (rel := rDs c) h0⟩) ?_
  rintro us s1 ⟨vs, H1, I1, rv, A1, ds, m1, q1, e1, s1', x1, h1⟩
  have hl := hls _ _ _ _ q1
  have q0 : spV G φ n (pm is vs) H1 Q (WE c.W σ) := by
    refine ⟨c.K.C, A1, m1, pm is ds, c.κ, by rw [pml ds is (by rw [hl]; exact hin), hn], ?_⟩
    rw [← hGm]
    exact ⟨s1', t.kap.mono e1, pm_dns x1 is, fin_wish h1⟩
  have bd := hb.to s1 [] us I1.kIn rfl (by rw [← rv.length, x1.length, hl, hln])
  refine ⟨I1.kIn, ?_⟩
  rw [hks]
  refine wpAny_call (codeAny_mono (run_fnV F hG hr (L2N.passAt tk σ) I1 bd (pm_vals rv is) q0) fun r s' z => ?_)
  cases r with
  | error er => exact z
  | ok fl => cases fl <;> exact z
end
end VM
namespace VM
open PySem PySem.Spec PyProof.Rows L2 DL LamX
/-! ### trees of ints of one depth, in their order -/
inductive NT where
  | i (n : Int) | t (xs : List NT)
mutual
def code : NT → List Int
  | .i n => [n]
  | .t xs => codeL xs
def codeL : List NT → List Int
  | [] => [0]
  | x :: xs => 1 :: (code x ++ codeL xs)
end
mutual
def toN : Nat → Dat → Option NT
  | 0, .int n => some (.i n)
  | d + 1, .tup xs => (toNs d xs).map .t
  | _, _ => none
def toNs : Nat → List Dat → Option (List NT)
  | _, [] => some []
  | d, x :: xs => match toN d x with
    | some y => (toNs d xs).map (y :: ·)
    | none => none
end
abbrev KD := List Int × Dat
def mrg : Nat → List KD → List KD → List KD
  | 0, l, m => l ++ m
  | _ + 1, [], m => m
  | _ + 1, x :: l, [] => x :: l
  | n + 1, x :: l, y :: m => if HT.lexLt y.1 x.1 then y :: mrg n (x :: l) m else x :: mrg n l (y :: m)
def spl : List KD → List KD × List KD
  | [] => ([], [])
  | x :: l => (x :: (spl l).2, (spl l).1)
def msort : Nat → List KD → List KD
  | 0, l => l
  | _ + 1, [] => []
  | _ + 1, [x] => [x]
  | n + 1, x :: y :: l => mrg (l.length + 2) (msort n (spl (x :: y :: l)).1) (msort n (spl (x :: y :: l)).2)
def srtB : List KD → Bool
  | [] => true
  | [_] => true
  | x :: y :: l => (!HT.lexLt y.1 x.1) && srtB (y :: l)
def sortK (l : List KD) : Option (List KD) := if srtB (msort 40 l) then some (msort 40 l) else none
def keyed (d : Nat) : List Dat → Option (List (List Int × Dat))
  | [] => some []
  | x :: xs => match toN d x with
    | some (.t (y :: ys)) => (keyed d xs).map ((code (.t (y :: ys)), x) :: ·)
    | _ => none
def fSorted (dp : Nat) : FC := fun ds m => match ds with
  | [d] => (match lv m d with
    | some xs => ((keyed dp xs).bind sortK).map fun ks => (.lst (ks.map (·.2)), m)
    | none => none)
  | _ => none
def fSortedC (dp : Nat) : FC := fun ds m => match ds with
  | [d] => (match lv m d with
    | some xs => ((keyed dp xs).bind sortK).map fun ks => (.cell m.length, m ++ [some (ks.map (·.2))])
    | none => none)
  | _ => none

/-! ### the codes' order -/
def dpt : Nat → NT → Prop
  | 0, .i _ => True
  | d + 1, .t xs => ∀ x ∈ xs, dpt d x
  | _, _ => False
theorem code_lt : ∀ (d : Nat) (x y : NT) (r r' : List Int), dpt d x → dpt d y → (x = y → HT.lexLt (code x ++ r) (code y ++ r') = HT.lexLt r r') ∧ (x ≠ y → HT.lexLt (code x ++ r) (code y ++ r') = HT.lexLt (code x) (code y)) := by
  intro d
  induction d with
  | zero =>
    intro x y r r' hx hy
    cases x with
    | t _ => exact hx.elim
    | i a => cases y with
      | t _ => exact hy.elim
      | i b =>
        refine ⟨fun e => ?_, fun n => ?_⟩
        · cases e
          show HT.lexLt (a :: r) (a :: r') = _
          rw [HT.lexLt_cons, if_pos rfl]
        · have ne : a ≠ b := fun e => n (by rw [e])
          show HT.lexLt (a :: r) (b :: r') = HT.lexLt [a] [b]
          rw [HT.lexLt_cons, HT.lexLt_cons, if_neg ne, if_neg ne]
  | succ d ih =>
    have go : ∀ (xs ys : List NT) (r r' : List Int), (∀ x ∈ xs, dpt d x) → (∀ x ∈ ys, dpt d x) → (xs = ys → HT.lexLt (codeL xs ++ r) (codeL ys ++ r') = HT.lexLt r r') ∧ (xs ≠ ys → HT.lexLt (codeL xs ++ r) (codeL ys ++ r') = HT.lexLt (codeL xs) (codeL ys)) := by
      intro xs
      induction xs with
      | nil =>
        intro ys r r' _ _
        cases ys with
        | nil =>
          refine ⟨fun _ => ?_, fun n => absurd rfl n⟩
          show HT.lexLt (0 :: r) (0 :: r') = _
          rw [HT.lexLt_cons, if_pos rfl]
        | cons y ys =>
          refine ⟨fun e => (nomatch e), fun _ => ?_⟩
          show HT.lexLt (0 :: r) (1 :: (code y ++ codeL ys ++ r')) = HT.lexLt [0] (1 :: (code y ++ codeL ys))
          rw [HT.lexLt_cons, HT.lexLt_cons, if_neg (by decide), if_neg (by decide)]
      | cons x xs ihl =>
        intro ys r r' hx hy
        cases ys with
        | nil =>
          refine ⟨fun e => (nomatch e), fun _ => ?_⟩
          show HT.lexLt (1 :: (code x ++ codeL xs ++ r)) (0 :: r') = HT.lexLt (1 :: (code x ++ codeL xs)) [0]
          rw [HT.lexLt_cons, HT.lexLt_cons, if_neg (by decide), if_neg (by decide)]
        | cons y ys =>
          have hx0 := hx x List.mem_cons_self
          have hy0 := hy y List.mem_cons_self
          have rest := ihl ys r r' (fun z hz => hx z (List.mem_cons_of_mem _ hz)) (fun z hz => hy z (List.mem_cons_of_mem _ hz))
          have e1 : HT.lexLt (codeL (x :: xs) ++ r) (codeL (y :: ys) ++ r') = HT.lexLt (code x ++ (codeL xs ++ r)) (code y ++ (codeL ys ++ r')) := by
            show HT.lexLt (1 :: (code x ++ codeL xs ++ r)) (1 :: (code y ++ codeL ys ++ r')) = _
            rw [HT.lexLt_cons, if_pos rfl, List.append_assoc, List.append_assoc]
          have e2 : HT.lexLt (codeL (x :: xs)) (codeL (y :: ys)) = HT.lexLt (code x ++ codeL xs) (code y ++ codeL ys) := by
            show HT.lexLt (1 :: (code x ++ codeL xs)) (1 :: (code y ++ codeL ys)) = _
            rw [HT.lexLt_cons, if_pos rfl]
          rw [e1, e2]
          by_cases q : x = y
          · rw [(ih x y _ _ hx0 hy0).1 q, (ih x y _ _ hx0 hy0).1 q]
            subst q
            exact ⟨fun e => rest.1 (List.cons.inj e).2, fun n => rest.2 fun e => n (by rw [e])⟩
          · rw [(ih x y _ _ hx0 hy0).2 q, (ih x y _ _ hx0 hy0).2 q]
            exact ⟨fun e => absurd (List.cons.inj e).1 q, fun _ => rfl⟩
    intro x y r r' hx hy
    cases x with
    | i _ => exact hx.elim
    | t xs => cases y with
      | i _ => exact hy.elim
      | t ys =>
        have g := go xs ys r r' hx hy
        exact ⟨fun e => g.1 (by cases e; rfl), fun n => g.2 fun e => n (by rw [e])⟩
theorem codeL_cons {d : Nat} {x y : NT} {xs ys : List NT} (hx : dpt d x) (hy : dpt d y) : (x = y → HT.lexLt (codeL (x :: xs)) (codeL (y :: ys)) = HT.lexLt (codeL xs) (codeL ys)) ∧ (x ≠ y → HT.lexLt (codeL (x :: xs)) (codeL (y :: ys)) = HT.lexLt (code x) (code y)) := by
  have e2 : HT.lexLt (codeL (x :: xs)) (codeL (y :: ys)) = HT.lexLt (code x ++ codeL xs) (code y ++ codeL ys) := by
    show HT.lexLt (1 :: (code x ++ codeL xs)) (1 :: (code y ++ codeL ys)) = _
    rw [HT.lexLt_cons, if_pos rfl]
  rw [e2]
  exact code_lt d x y _ _ hx hy
/-! ### trees in a heap -/
mutual
inductive RN (h : Heap) : Value → NT → Prop
  | i (n : Int) (t : Tok) : RN h (.int n t) (.i n)
  | t {a : Addr} {items : Array Value} {xs : List NT} : h.IsTuple a items → RNs h items.toList xs → RN h (.ref a) (.t xs)
inductive RNs (h : Heap) : List Value → List NT → Prop
  | nil : RNs h [] []
  | cons {v : Value} {vs : List Value} {x : NT} {xs : List NT} : RN h v x → RNs h vs xs → RNs h (v :: vs) (x :: xs)
end
mutual
def toPD : NT → PyData
  | .i n => .int n
  | .t xs => .tuple (toPDs xs)
def toPDs : List NT → List PyData
  | [] => []
  | x :: xs => toPD x :: toPDs xs
end
mutual
theorem RN.keeps {h h' : Heap} (k : ∀ b o, h.get? b = some o → h'.get? b = some o) : ∀ {v : Value} {x : NT}, RN h v x → RN h' v x
  | _, _, .i n t => .i n t
  | _, _, .t ⟨o, h1, h2⟩ r => .t ⟨o, k _ _ h1, h2⟩ (RNs.keeps k r)
theorem RNs.keeps {h h' : Heap} (k : ∀ b o, h.get? b = some o → h'.get? b = some o) : ∀ {v : List Value} {x : List NT}, RNs h v x → RNs h' v x
  | _, _, .nil => .nil
  | _, _, .cons a r => .cons (RN.keeps k a) (RNs.keeps k r)
end
mutual
theorem RN.reads {h : Heap} : ∀ {v : Value} {x : NT}, RN h v x → ∃ as, Reads h v (toPD x) as
  | _, _, .i n t => ⟨_, Reads.int n t⟩
  | _, _, .t ⟨o, h1, h2, n, h3⟩ r => let ⟨as, q⟩ := RNs.reads r; ⟨_, Reads.tuple h1 h2 h3 q⟩
theorem RNs.reads {h : Heap} : ∀ {v : List Value} {x : List NT}, RNs h v x → ∃ as, ReadsAll h v (toPDs x) as
  | _, _, .nil => ⟨_, ReadsAll.nil⟩
  | _, _, .cons a r => let ⟨_, q⟩ := RN.reads a; let ⟨_, q2⟩ := RNs.reads r; ⟨_, ReadsAll.cons q q2⟩
end
mutual
theorem lay_toPD : ∀ x : NT, (toPD x).canLay0 = true
  | .i _ => rfl
  | .t xs => lay_toPDs xs
theorem lay_toPDs : ∀ xs : List NT, PyData.canLayAll0 (toPDs xs) = true
  | [] => rfl
  | x :: xs => by
    show ((toPD x).canLay0 && PyData.canLayAll0 (toPDs xs)) = true
    rw [lay_toPD x, lay_toPDs xs]; rfl
end
end VM
namespace VM
open PySem PySem.Spec PyProof.Rows L2 DL LamX
mutual
theorem depth_toPD : ∀ (d : Nat) (x : NT), dpt d x → (toPD x).depth ≤ d
  | 0, .i _, _ => Nat.le_refl _
  | 0, .t _, h => h.elim
  | _ + 1, .i _, h => h.elim
  | d + 1, .t xs, h => by
    show PyData.depthAll (toPDs xs) + 1 ≤ d + 1
    exact Nat.succ_le_succ (depth_toPDs d xs h)
theorem depth_toPDs : ∀ (d : Nat) (xs : List NT), (∀ x ∈ xs, dpt d x) → PyData.depthAll (toPDs xs) ≤ d
  | _, [], _ => Nat.zero_le _
  | d, x :: xs, h => by
    show max (toPD x).depth (PyData.depthAll (toPDs xs)) ≤ d
    exact Nat.max_le.mpr ⟨depth_toPD d x (h x List.mem_cons_self), depth_toPDs d xs fun y hy => h y (List.mem_cons_of_mem _ hy)⟩
end
mutual
theorem eqv_toPD : ∀ (x y : NT), PyData.eqv (toPD x) (toPD y) = true ↔ x = y
  | .i a, .i b => by
    show (a == b) = true ↔ _
    rw [beq_iff_eq]
    exact ⟨fun e => by rw [e], fun e => by cases e; rfl⟩
  | .i a, .t ys => ⟨fun h => (by cases h), fun h => nomatch h⟩
  | .t xs, .i b => ⟨fun h => (by cases h), fun h => nomatch h⟩
  | .t xs, .t ys => by
    show PyData.eqvAll (toPDs xs) (toPDs ys) = true ↔ _
    rw [eqv_toPDs xs ys]
    exact ⟨fun e => by rw [e], fun e => by cases e; rfl⟩
theorem eqv_toPDs : ∀ (xs ys : List NT), PyData.eqvAll (toPDs xs) (toPDs ys) = true ↔ xs = ys
  | [], [] => ⟨fun _ => rfl, fun _ => rfl⟩
  | [], y :: ys => ⟨fun h => (by cases h), fun h => nomatch h⟩
  | x :: xs, [] => ⟨fun h => (by cases h), fun h => nomatch h⟩
  | x :: xs, y :: ys => by
    show (PyData.eqv (toPD x) (toPD y) && PyData.eqvAll (toPDs xs) (toPDs ys)) = true ↔ _
    rw [Bool.and_eq_true, eqv_toPD x y, eqv_toPDs xs ys]
    exact ⟨fun ⟨a, b⟩ => by rw [a, b], fun e => by cases e; exact ⟨rfl, rfl⟩⟩
end
section
variable {A : Around} {s : Shared}
theorem eq_RN {v u : Value} {x y : NT} {d : Nat} (a : RN s.heap v x) (b : RN s.heap u y) (hx : dpt d x) (hu : A.units + d < cLine) : SeqAt.EqAt A s v u (PyData.eqv (toPD x) (toPD y)) := by
  obtain ⟨as, r1⟩ := a.reads
  obtain ⟨bs, r2⟩ := b.reads
  refine SeqAt.eqAt_reads _ _ A s v u as bs r1 r2 (lay_toPD x) (lay_toPD y) ?_
  have h1 := depth_toPD d x hx
  have h2 : min (toPD x).depth (toPD y).depth ≤ (toPD x).depth := Nat.min_le_left _ _
  omega
theorem rns_get {vs : List Value} {xs : List NT} (h : RNs s.heap vs xs) : vs.length = xs.length ∧ ∀ (j : Nat) (h1 : j < vs.length) (h2 : j < xs.length), RN s.heap vs[j] xs[j] := by
  induction xs generalizing vs with
  | nil => cases h; exact ⟨rfl, fun j h1 _ => absurd h1 (by simp)⟩
  | cons x xs ih =>
    cases h with
    | cons a r =>
      obtain ⟨e, g⟩ := ih r
      refine ⟨by rw [List.length_cons, List.length_cons, e], fun j h1 h2 => ?_⟩
      cases j with
      | zero => exact a
      | succ j => exact g j (by simpa using h1) (by simpa using h2)
theorem lexAt_code {d : Nat} : ∀ (k : Nat) (e r : Nat → Bool) (z : Bool) (i : Nat) (xs ys : List NT), (∀ x ∈ xs, dpt d x) → (∀ y ∈ ys, dpt d y) → k = min xs.length ys.length → z = decide (xs.length < ys.length) →
    (∀ j (h1 : j < xs.length) (h2 : j < ys.length), (e (i + j) = true ↔ xs[j] = ys[j]) ∧ r (i + j) = HT.lexLt (code xs[j]) (code ys[j])) → Ob.lexAt e r z i k = HT.lexLt (codeL xs) (codeL ys)
  | 0, e, r, z, i, xs, ys, hx, hy, hk, hz, h => by
    rw [Ob.lexAt_zero, hz]
    cases xs with
    | nil => cases ys with
      | nil => rfl
      | cons y ys =>
        show decide (0 < ys.length + 1) = HT.lexLt [0] (1 :: (code y ++ codeL ys))
        rw [HT.lexLt_cons, if_neg (by decide)]
        first | done | simp
    | cons x xs => cases ys with
      | nil =>
        show decide (xs.length + 1 < 0) = HT.lexLt (1 :: (code x ++ codeL xs)) [0]
        rw [HT.lexLt_cons, if_neg (by decide)]
        first | done | simp
      | cons y ys => simp at hk
  | k + 1, e, r, z, i, [], ys, hx, hy, hk, hz, h => by simp at hk
  | k + 1, e, r, z, i, x :: xs, [], hx, hy, hk, hz, h => by simp at hk
  | k + 1, e, r, z, i, x :: xs, y :: ys, hx, hy, hk, hz, h => by
    rw [Ob.lexAt_succ]
    obtain ⟨h1, h2⟩ := h 0 (by simp) (by simp)
    have cc := codeL_cons (xs := xs) (ys := ys) (hx x List.mem_cons_self) (hy y List.mem_cons_self)
    have h1 : e i = true ↔ x = y := h1
    have h2 : r i = HT.lexLt (code x) (code y) := h2
    by_cases q : x = y
    · rw [if_pos (h1.mpr q), cc.1 q]
      refine lexAt_code k e r z (i + 1) xs ys (fun a ha => hx a (List.mem_cons_of_mem _ ha)) (fun a ha => hy a (List.mem_cons_of_mem _ ha)) (by simp at hk; omega) (by rw [hz]; simp) fun j j1 j2 => ?_
      have := h (j + 1) (by simpa using j1) (by simpa using j2)
      rw [show i + (j + 1) = i + 1 + j by omega] at this
      exact this
    · rw [if_neg (fun z => q (h1.mp z)), cc.2 q, h2]
/-- x < y of two trees of one depth -/
theorem rc_lt : ∀ (d : Nat) (A : Around) (v u : Value) (x y : NT), RN s.heap v x → RN s.heap u y → dpt d x → dpt d y → A.units + d + 1 < cLine → Ob.RcOp .Lt A s v u (HT.lexLt (code x) (code y)) := by
  intro d
  induction d with
  | zero =>
    intro A v u x y a b hx hy hu
    cases a with
    | t _ _ => exact hx.elim
    | i n t => cases b with
      | t _ _ => exact hy.elim
      | i m t2 =>
        have e : HT.lexLt (code (.i n)) (code (.i m)) = decide (n < m) := by
          show HT.lexLt [n] [m] = _
          rw [HT.lexLt_cons]
          by_cases q : n = m
          · rw [if_pos q, q]; simp [HT.lexLt_nil_nil]
          · rw [if_neg q]
        rw [e]
        exact Ob.RcOp.lt_int n m t t2
  | succ d ih =>
    intro A v u x y a b hx hy hu
    cases a with
    | i _ _ => exact hx.elim
    | @t la ia xs ha ra => cases b with
      | i _ _ => exact hy.elim
      | @t lb ib ys hb rb =>
        obtain ⟨l1, g1⟩ := rns_get ra
        obtain ⟨l2, g2⟩ := rns_get rb
        rw [Array.length_toList] at l1 l2
        have key := Ob.RcOp.tuples_lt (A := A) (s := s) (e := fun j => PyData.eqv (toPD (xs.getD j (.i 0))) (toPD (ys.getD j (.i 0)))) (r := fun j => HT.lexLt (code (xs.getD j (.i 0))) (code (ys.getD j (.i 0)))) ha hb (by omega) (fun j h1 h2 => ?_) (fun j h1 h2 _ => ?_)
        · have q := lexAt_code (d := d) (min ia.size ib.size) (fun j => PyData.eqv (toPD (xs.getD j (.i 0))) (toPD (ys.getD j (.i 0)))) (fun j => HT.lexLt (code (xs.getD j (.i 0))) (code (ys.getD j (.i 0)))) (decide (ia.size < ib.size)) 0 xs ys hx hy (by rw [l1, l2]) (by rw [l1, l2]) fun j h1 h2 => ?_
          · rw [q] at key; exact key
          · rw [Nat.zero_add]
            simp only [List.getD_eq_getElem?_getD, List.getElem?_eq_getElem h1, List.getElem?_eq_getElem h2, Option.getD_some]
            exact ⟨eqv_toPD _ _, trivial⟩
        · have j1 : j < xs.length := by rw [← l1]; exact h1
          have j2 : j < ys.length := by rw [← l2]; exact h2
          simp only [List.getD_eq_getElem?_getD, List.getElem?_eq_getElem j1, List.getElem?_eq_getElem j2, Option.getD_some]
          have r1 := g1 j (by simpa using h1) j1
          have r2 := g2 j (by simpa using h2) j2
          rw [Array.getElem_toList] at r1 r2
          exact eq_RN (d := d) r1 r2 (hx _ (List.getElem_mem j1)) (by show A.units + 1 + _ < cLine; omega)
        · have j1 : j < xs.length := by rw [← l1]; exact h1
          have j2 : j < ys.length := by rw [← l2]; exact h2
          simp only [List.getD_eq_getElem?_getD, List.getElem?_eq_getElem j1, List.getElem?_eq_getElem j2, Option.getD_some]
          have r1 := g1 j (by simpa using h1) j1
          have r2 := g2 j (by simpa using h2) j2
          rw [Array.getElem_toList] at r1 r2
          exact ih A.in1 _ _ _ _ r1 r2 (hx _ (List.getElem_mem j1)) (hy _ (List.getElem_mem j2)) (by show A.units + 1 + d + 1 < cLine; omega)
end

open PySem.W in
theorem kat_code {prog : Program} {w : World} {A : Around} {s : Shared} {d : Nat} {Q : Bool → Shared → Prop} : ∀ (xs ys : List NT) (vs us : List Value) (i : Nat) (fin : Bool), RNs s.heap vs xs → RNs s.heap us ys → (∀ x ∈ xs, dpt d x) → (∀ y ∈ ys, dpt d y) → A.units + d + 1 < cLine → fin = decide (xs.length < ys.length) → Q (HT.lexLt (codeL xs) (codeL ys)) s → KatLex prog w A false fin Q (vs.zip us) i s
  | [], [], _, _, i, fin, .nil, .nil, _, _, _, hf, h => by
    subst hf
    exact kat_nil h
  | [], y :: ys, _, _, i, fin, .nil, .cons _ _, _, _, _, hf, h => by
    subst hf
    refine kat_nil ?_
    have e : HT.lexLt (codeL []) (codeL (y :: ys)) = decide (([] : List NT).length < (y :: ys).length) := by
      show HT.lexLt [0] (1 :: (code y ++ codeL ys)) = _
      rw [HT.lexLt_cons, if_neg (by decide)]; simp
    rw [← e]; exact h
  | x :: xs, [], _, _, i, fin, .cons _ _, .nil, _, _, _, hf, h => by
    subst hf
    refine kat_nil ?_
    have e : HT.lexLt (codeL (x :: xs)) (codeL []) = decide ((x :: xs).length < ([] : List NT).length) := by
      show HT.lexLt (1 :: (code x ++ codeL xs)) [0] = _
      rw [HT.lexLt_cons, if_neg (by decide)]; simp
    rw [← e]; exact h
  | x :: xs, y :: ys, v :: vs, u :: us, i, fin, .cons a ra, .cons b rb, hx, hy, hu, hf, h => by
    rw [List.zip_cons_cons]
    have cc := codeL_cons (xs := xs) (ys := ys) (hx x List.mem_cons_self) (hy y List.mem_cons_self)
    refine kat_cons (eq_RN (d := d) a b (hx x List.mem_cons_self) (by omega) prog w _ _ ?_)
    refine kat_go (fun e => ?_) (fun e => ?_)
    · rw [cc.1 ((eqv_toPD x y).mp e)] at h
      exact kat_yes (kat_code xs ys vs us (i + 1) fin ra rb (fun z hz => hx z (List.mem_cons_of_mem _ hz)) (fun z hz => hy z (List.mem_cons_of_mem _ hz)) hu (by rw [hf]; simp) h)
    · have ne : x ≠ y := fun q => by
        have := (eqv_toPD x y).mpr q
        rw [e] at this; cases this
      rw [cc.2 ne] at h
      refine kat_no (kat_one _ _ ?_)
      exact rc_lt d A v u x y a b (hx x List.mem_cons_self) (hy y List.mem_cons_self) hu prog w _ _ h
/-- the items of a list that is sorted: trees of one depth, no first part is a number -/
def Srt (h : Heap) (d : Nat) (v : Value) (c : List Int) : Prop := ∃ (z : NT) (xs : List NT), RN h v (.t (z :: xs)) ∧ dpt (d + 2) (.t (z :: xs)) ∧ c = code (.t (z :: xs))
open PySem.W in
theorem srt_sortable {prog : Program} {w : World} {A : Around} {s : Shared} {d : Nat} {a : Addr} {vs : List Value} {k : Value → List Int} (h0 : 0 < vs.length) (hu : A.units + d + 3 < cLine) (hp : ∀ v ∈ vs, Srt s.heap d v (k v)) (ha : ∀ (h' : Heap), (∀ b o, b ≠ a → s.heap.get? b = some o → h'.get? b = some o) → ∀ v ∈ vs, Srt h' d v (k v)) :
    SrtO.SortableO prog w A s a vs fun v u => HT.lexLt (k v) (k u) := by
  intro h' keep
  have hp' := ha h' keep
  refine ⟨tuples' false, fun Q E hq => ?_, fun p q hm hm' => ?_⟩
  · have firsts : ∀ vs : List Value, (∀ v ∈ vs, Srt h' d v (k v)) → ∃ fs, KatTups h' vs fs ∧ fs.length = vs.length ∧ ∀ f ∈ fs, ∃ l its, f = Value.ref l ∧ h'.IsTuple l its := fun vs => by
      induction vs with
      | nil => exact fun _ => ⟨[], KatTups.nil, rfl, fun _ h => nomatch h⟩
      | cons v vs ih =>
        intro hv
        obtain ⟨fs, h1, h2, h3⟩ := ih fun u hm => hv u (List.mem_cons_of_mem _ hm)
        obtain ⟨z, xs, r, hd, _⟩ := hv v List.mem_cons_self
        cases r with
        | @t l its _ hl rl =>
          obtain ⟨o, o1, o2, n, o3⟩ := hl
          generalize hits : its.toList = L at rl
          cases rl with
          | @cons v0 vr _ _ az rr =>
            have hz := hd z List.mem_cons_self
            cases az with
            | i _ _ => exact hz.elim
            | @t l2 its2 _ hl2 _ =>
              refine ⟨.ref l2 :: fs, KatTups.cons o1 o2 o3 (by rw [← Array.getElem?_toList, hits]; rfl) h1, by rw [List.length_cons, List.length_cons, h2], fun f hm => ?_⟩
              rcases List.mem_cons.mp hm with rfl | hm
              · exact ⟨l2, its2, rfl, hl2⟩
              · exact h3 f hm
    obtain ⟨fs, h1, h2, h3⟩ := firsts vs hp'
    refine kat_kind (T := .type "tuple") h1 (by omega) (fun f hm => ?_) (by rfl) ?_
    · obtain ⟨l, its, rfl, o, o1, o2, n, o3⟩ := h3 f hm
      exact fun A Q E s k q => wpAny_typeOf_ref (k _ _ o1) (by rw [o2]; exact q)
    · have e : (Value.type "tuple" != Value.type "tuple") = false := by decide
      rw [e]; exact hq
  · obtain ⟨z, xs, r, hd, hc⟩ := hp' _ hm
    obtain ⟨z', ys, r', hd', hc'⟩ := hp' _ hm'
    show wpAny (model prog w) A (keyLt' (tuples' false) p.1 q.1) (fun rr s' => s' = { s with heap := h' } ∧ rr = HT.lexLt (k p.1) (k q.1)) (fun _ _ => False) { s with heap := h' }
    rw [hc, hc']
    generalize p.1 = v at r
    generalize q.1 = u at r'
    cases r with
    | @t la ia _ hla ra => cases r' with
      | @t lb ib _ hlb rb =>
        obtain ⟨o, o1, o2, n, o3⟩ := hla
        obtain ⟨o', o1', o2', n', o3'⟩ := hlb
        have l1 := (rns_get (s := { s with heap := h' }) ra).1
        have l2 := (rns_get (s := { s with heap := h' }) rb).1
        rw [Array.length_toList] at l1 l2
        exact kat_lt (s := { s with heap := h' }) o1 o3 o1' o3' (kat_code (s := { s with heap := h' }) (d := d + 1) _ _ _ _ 0 _ ra rb hd hd' (by omega) (by rw [l1, l2]) ⟨rfl, rfl⟩)
end VM
namespace VM
open PySem PySem.Spec PyProof.Rows L2 DL LamX
mutual
theorem RN.fn {h : Heap} : ∀ {v : Value} {x y : NT}, RN h v x → RN h v y → x = y
  | _, _, _, .i n t, b => by cases b; rfl
  | _, _, _, .t ha ra, b => by
    cases b with
    | t hb rb =>
      obtain ⟨o, o1, o2, n, o3⟩ := ha
      obtain ⟨o', o1', o2', n', o3'⟩ := hb
      rw [o1] at o1'
      cases o1'
      rw [o3] at o3'
      cases o3'
      rw [RNs.fn ra rb]
theorem RNs.fn {h : Heap} : ∀ {v : List Value} {x y : List NT}, RNs h v x → RNs h v y → x = y
  | _, _, _, .nil, b => by cases b; rfl
  | _, _, _, .cons a r, b => by
    cases b with
    | cons a' r' => rw [RN.fn a a', RNs.fn r r']
end
mutual
theorem rn_of {h : Heap} : ∀ (x : NT) {v : Value} {as : List Addr}, Reads h v (toPD x) as → RN h v x
  | .i n, v, as, r => by
    cases r
    exact .i _ _
  | .t xs, v, as, r => by
    cases r with
    | tuple h1 h2 h3 r => exact .t ⟨_, h1, h2, _, h3⟩ (rns_of xs r)
theorem rns_of {h : Heap} : ∀ (xs : List NT) {vs : List Value} {as : List Addr}, ReadsAll h vs (toPDs xs) as → RNs h vs xs
  | [], vs, as, r => by
    cases r
    exact .nil
  | x :: xs, vs, as, r => by
    cases r with
    | cons a r => exact .cons (rn_of x a) (rns_of xs r)
end
/-- pointwise: the items and their trees -/
inductive DpN (K : PySem.W.Frag) (H : Hp) (d : Nat) : List V → List NT → Prop
  | nil : DpN K H d [] []
  | cons {t : Addr} {z : NT} {zs : List NT} {vs : List V} {cs : List NT} : Dp K H (.ref t) (toPD (.t (z :: zs))) → dpt (d + 2) (.t (z :: zs)) → DpN K H d vs cs → DpN K H d (.ref t :: vs) (.t (z :: zs) :: cs)
def rSortedN (K : PySem.W.Frag) : List V → Hp → VK → Prop := fun vs H Q => ∃ (a : Addr) (xs : List V) (cs : List NT) (d : Nat), vs = [.ref a] ∧ SqL K H a xs ∧ d ≤ 50 ∧ DpN K H d xs cs ∧
  ∀ (ps : List (V × NT)) (p : Addr), ps.Perm (xs.zip cs) → ps.Pairwise (fun p q => HT.lexLt (code q.2) (code p.2) = false) → H p = none → Q (.ref p) (upd H p (.lst (ps.map (·.1))))
theorem dpn_refs {K : PySem.W.Frag} {H : Hp} {d : Nat} {xs : List V} {cs : List NT} (h : DpN K H d xs cs) : ∀ x ∈ xs, ∃ t, x = V.ref t := by
  induction h with
  | nil => exact fun _ h => nomatch h
  | @cons t z zs vs cs _ _ _ ih =>
    intro x hx
    rcases List.mem_cons.mp hx with rfl | hx
    · exact ⟨t, rfl⟩
    · exact ih x hx
open Classical in
/-- the tree that a value is -/
noncomputable def ntOf (h : Heap) (u : Value) : NT := if e : ∃ x, RN h u x then e.choose else .i 0
theorem ntOf_eq {h : Heap} {u : Value} {x : NT} (r : RN h u x) : ntOf h u = x := by
  unfold ntOf
  have e : ∃ x, RN h u x := ⟨x, r⟩
  rw [dif_pos e]
  exact RN.fn e.choose_spec r
section
variable {X : Cx}
theorem dpn_run {pins : List (Addr × Obj)} {σ : L2.St} {H : Hp} {s : Shared} (I : Inv X pins σ H s) {d : Nat} {xs : List V} {cs : List NT} (h : DpN X.K H d xs cs) : ∀ {us : List Value}, Vals xs us → (∀ u ∈ us, Srt s.heap d u (code (ntOf s.heap u))) ∧ us.map (fun u => (backV u, ntOf s.heap u)) = xs.zip cs := by
  induction h with
  | nil => intro us r; cases r; exact ⟨fun _ h => (nomatch h), rfl⟩
  | @cons t z zs vs cs hp hd _ ih =>
    intro us r
    cases r with
    | @cons _ u _ us ru rr =>
      obtain ⟨g1, g2⟩ := ih rr
      obtain ⟨as, q⟩ := Dp.reads I _ _ u hp ru
      have rn := rn_of _ q
      have e := ntOf_eq rn
      cases (show u = Value.ref t from ru)
      refine ⟨fun w hw => ?_, ?_⟩
      · rcases List.mem_cons.mp hw with rfl | hw
        · exact ⟨z, zs, rn, hd, by rw [e]⟩
        · exact g1 w hw
      · rw [List.map_cons, g2, e]; rfl
theorem cr_sortedN (hu : X.A.units + 64 < cLine) : CallR X (.builtin "sorted") (rSortedN X.K) := by
  intro pins s σ H vs us Q I r h
  obtain ⟨a, xs, cs, d, rfl, hs, hd, hx, q⟩ := h
  obtain ⟨its, rv, hl, hz⟩ := I.list hs
  obtain ⟨u, rfl, ru⟩ := vals1 r
  cases (show u = Value.ref a from ru)
  obtain ⟨e1, e2⟩ := refs_back rv (dpn_refs hx)
  obtain ⟨g1, g2⟩ := dpn_run I hx rv
  refine SrtO.sorted_ord (NtL.swo_lexL fun u => code (ntOf s.heap u)) hl.isList (by rw [← rv.length]; exact hz) (fun h2 h₁ a1 ha kk => ?_) fun out h1 h2 => ?_
  · have base : ∀ (h' : Heap), (∀ b o, s.heap.get? b = some o → h'.get? b = some o) → ∀ v ∈ its, Srt h' d v (code (ntOf s.heap v)) := fun h' k v hv => by
      obtain ⟨z, zs, rn, dd, e⟩ := g1 v hv
      exact ⟨z, zs, rn.keeps k, dd, e⟩
    exact srt_sortable (s := { s with heap := h₁ }) (by omega) (by show X.A.units + 1 + 1 + d + 3 < cLine; omega) (base h₁ fun b o e => (kk b o e).2) fun h' k => base h' fun b o e => k b o (kk b o e).1 (kk b o e).2
  · have h3 : ∀ u ∈ out, ∃ a, u = Value.ref a := fun u hu => e2 u (h2.perm.mem_iff.mp hu)
    obtain ⟨n, hn⟩ := sortedAll_at s.heap its out.toArray
    have nf : H (s.heap.objs.size + 1) = none := I.hok.fresh (Nat.le_succ _)
    refine ⟨.ref _, upd H _ (.lst (out.map backV)), I.laid (t' := s.toks) (fun b o e => sortedAll_old e) (Nat.le_succ _) ⟨?_, out, n, vals_back h3, hn⟩, rfl, ?_⟩
    · rw [List.length_map, h2.len, ← rv.length]; exact hz
    · have key := q (out.map fun u => (backV u, ntOf s.heap u)) _ (by rw [← g2]; exact h2.perm.map _) (List.pairwise_map.mpr h1) nf
      rwa [List.map_map] at key
end

/-! ### by data -/
mutual
def frN : NT → Dat
  | .i n => .int n
  | .t xs => .tup (frNs xs)
def frNs : List NT → List Dat
  | [] => []
  | x :: xs => frN x :: frNs xs
end
section
variable {K : Gm} {A : As} {H : Hp}
mutual
theorem toN_dp : ∀ (d : Nat) (e : Dat) {v : V} {y : NT}, toN d e = some y → Dn K A H v e → Dp K H v (toPD y) ∧ dpt d y ∧ e = frN y
  | 0, .int n, v, y, h, x => by
    simp only [toN] at h
    cases h
    cases x
    exact ⟨.int n, trivial, rfl⟩
  | d + 1, .tup xs, v, y, h, x => by
    simp only [toN] at h
    cases q : toNs d xs with
    | none => rw [q] at h; cases h
    | some ys =>
      rw [q] at h
      cases h
      cases x with
      | tup h1 t1 =>
        obtain ⟨g1, g2, g3⟩ := toNs_dp d xs q t1
        exact ⟨.tup (sqT_hid h1) g1, g2, by rw [g3]; rfl⟩
  | 0, .non, _, _, h, _ => by simp [toN] at h
  | 0, .bl _, _, _, h, _ => by simp [toN] at h
  | 0, .str _, _, _, h, _ => by simp [toN] at h
  | 0, .tup _, _, _, h, _ => by simp [toN] at h
  | 0, .lst _, _, _, h, _ => by simp [toN] at h
  | 0, .cell _, _, _, h, _ => by simp [toN] at h
  | 0, .dct _ _, _, _, h, _ => by simp [toN] at h
  | 0, .obj _ _, _, _, h, _ => by simp [toN] at h
  | 0, .dcell _, _, _, h, _ => by simp [toN] at h
  | 0, .dst _ _, _, _, h, _ => by simp [toN] at h
  | 0, .key _, _, _, h, _ => by simp [toN] at h
  | 0, .clo _ _, _, _, h, _ => by simp [toN] at h
  | 0, .fn _, _, _, h, _ => by simp [toN] at h
  | 0, .tb _, _, _, h, _ => by simp [toN] at h
  | _ + 1, .non, _, _, h, _ => by simp [toN] at h
  | _ + 1, .bl _, _, _, h, _ => by simp [toN] at h
  | _ + 1, .int _, _, _, h, _ => by simp [toN] at h
  | _ + 1, .str _, _, _, h, _ => by simp [toN] at h
  | _ + 1, .lst _, _, _, h, _ => by simp [toN] at h
  | _ + 1, .cell _, _, _, h, _ => by simp [toN] at h
  | _ + 1, .dct _ _, _, _, h, _ => by simp [toN] at h
  | _ + 1, .obj _ _, _, _, h, _ => by simp [toN] at h
  | _ + 1, .dcell _, _, _, h, _ => by simp [toN] at h
  | _ + 1, .dst _ _, _, _, h, _ => by simp [toN] at h
  | _ + 1, .key _, _, _, h, _ => by simp [toN] at h
  | _ + 1, .clo _ _, _, _, h, _ => by simp [toN] at h
  | _ + 1, .fn _, _, _, h, _ => by simp [toN] at h
  | _ + 1, .tb _, _, _, h, _ => by simp [toN] at h
theorem toNs_dp : ∀ (d : Nat) (es : List Dat) {vs : List V} {ys : List NT}, toNs d es = some ys → Dns K A H vs es → DpAll K H vs (toPDs ys) ∧ (∀ y ∈ ys, dpt d y) ∧ es = frNs ys
  | d, [], vs, ys, h, x => by
    simp only [toNs] at h
    cases h
    cases x
    exact ⟨.nil, (fun _ h => nomatch h), rfl⟩
  | d, e :: es, vs, ys, h, x => by
    simp only [toNs] at h
    cases q : toN d e with
    | none => rw [q] at h; cases h
    | some y =>
      rw [q] at h
      cases q2 : toNs d es with
      | none => simp only [q2] at h; cases h
      | some zs =>
        simp only [q2] at h
        cases h
        cases x with
        | cons a t =>
          obtain ⟨g1, g2, g3⟩ := toN_dp d e q a
          obtain ⟨k1, k2, k3⟩ := toNs_dp d es q2 t
          refine ⟨.cons g1 k1, fun w hw => ?_, by rw [g3, k3]; rfl⟩
          rcases List.mem_cons.mp hw with rfl | hw
          · exact g2
          · exact k2 w hw
end
def keyN (c : NT) : List Int × Dat := (code c, frN c)
theorem keyed_dp {d : Nat} : ∀ {es : List Dat} {vs : List V} {ks : List (List Int × Dat)}, keyed (d + 2) es = some ks → Dns K A H vs es → ∃ cs : List NT, DpN K H d vs cs ∧ ks = cs.map keyN ∧ (∀ p ∈ vs.zip cs, Dn K A H p.1 (frN p.2)) ∧ ∀ c ∈ cs, dpt (d + 2) c
  | [], vs, ks, h, x => by
    cases h
    cases x
    exact ⟨[], .nil, rfl, (fun _ h => nomatch h), fun _ h => nomatch h⟩
  | e :: es, vs, ks, h, x => by
    simp only [keyed] at h
    cases q : toN (d + 2) e with
    | none => rw [q] at h; cases h
    | some y =>
      rw [q] at h
      cases y with
      | i _ => cases h
      | t ys => cases ys with
        | nil => cases h
        | cons z zs =>
          cases q2 : keyed (d + 2) es with
          | none => simp only [q2] at h; cases h
          | some kr =>
            simp only [q2] at h
            cases h
            cases x with
            | @cons v vr _ _ a t =>
              obtain ⟨g1, g2, g3⟩ := toN_dp (d + 2) e q a
              obtain ⟨cs, k1, k2, k3, k4⟩ := keyed_dp q2 t
              have hr : ∃ l, v = .ref l := by
                generalize hp : toPD (.t (z :: zs)) = p at g1
                cases g1 with
                | tup _ _ => exact ⟨_, rfl⟩
                | non => cases hp
                | bl _ => cases hp
                | int _ => cases hp
                | str _ => cases hp
                | lst _ _ => cases hp
              obtain ⟨l, rfl⟩ := hr
              refine ⟨.t (z :: zs) :: cs, .cons g1 g2 k1, by rw [k2, g3]; rfl, fun p hp => ?_, fun c hc => ?_⟩
              · rw [List.zip_cons_cons] at hp
                rcases List.mem_cons.mp hp with rfl | hp
                · rw [← g3]; exact a
                · exact k3 p hp
              · rcases List.mem_cons.mp hc with rfl | hc
                · exact g2
                · exact k4 c hc
end

/-! ### sorting by data -/
theorem mrg_perm : ∀ (n : Nat) (l m : List KD), (mrg n l m).Perm (l ++ m)
  | 0, l, m => List.Perm.refl _
  | _ + 1, [], m => List.Perm.refl _
  | _ + 1, x :: l, [] => by rw [List.append_nil]; exact List.Perm.refl _
  | n + 1, x :: l, y :: m => by
    unfold mrg
    by_cases q : HT.lexLt y.1 x.1 = true
    · rw [if_pos q]
      exact ((mrg_perm n (x :: l) m).cons y).trans List.perm_middle.symm
    · rw [if_neg q]
      exact (mrg_perm n l (y :: m)).cons x
theorem spl_perm : ∀ l : List KD, ((spl l).1 ++ (spl l).2).Perm l
  | [] => List.Perm.refl _
  | x :: l => by
    show (x :: (spl l).2 ++ (spl l).1).Perm (x :: l)
    exact (List.perm_append_comm.trans (spl_perm l)).cons x
theorem msort_perm : ∀ (n : Nat) (l : List KD), (msort n l).Perm l
  | 0, l => List.Perm.refl _
  | _ + 1, [] => List.Perm.refl _
  | _ + 1, [x] => List.Perm.refl _
  | n + 1, x :: y :: l => ((mrg_perm _ _ _).trans ((msort_perm n _).append (msort_perm n _))).trans (spl_perm _)
theorem srtB_head : ∀ {l : List KD} {x : KD}, srtB (x :: l) = true → ∀ y ∈ l, HT.lexLt y.1 x.1 = false
  | [], x, _ => fun _ h => nomatch h
  | z :: l, x, h => fun y hy => by
    unfold srtB at h
    obtain ⟨h1, h2⟩ := Bool.and_eq_true_iff.mp h
    have h1 : HT.lexLt z.1 x.1 = false := by simpa using h1
    rcases List.mem_cons.mp hy with rfl | hy
    · exact h1
    · exact (NtL.swo_lexL (fun k : KD => k.1)).tr x z y h1 (srtB_head h2 y hy)
theorem srtB_pw : ∀ {l : List KD}, srtB l = true → l.Pairwise fun x y => HT.lexLt y.1 x.1 = false
  | [], _ => .nil
  | [x], _ => List.pairwise_singleton _ _
  | x :: y :: l, h => by
    refine List.pairwise_cons.mpr ⟨srtB_head h, ?_⟩
    unfold srtB at h
    exact srtB_pw (Bool.and_eq_true_iff.mp h).2
theorem uniq_srt {α : Type} {R : α → α → Prop} : ∀ {l m : List α}, l.Perm m → l.Pairwise R → m.Pairwise R → (∀ a ∈ l, ∀ b ∈ l, R a b → R b a → a = b) → l = m
  | [], m, p, _, _, _ => (List.Perm.eq_nil p.symm).symm
  | x :: l, [], p, _, _, _ => absurd p.length_eq (by simp)
  | x :: l, y :: m, p, h1, h2, an => by
    have e : x = y := by
      have hx : x ∈ y :: m := p.mem_iff.mp List.mem_cons_self
      have hy : y ∈ x :: l := p.mem_iff.mpr List.mem_cons_self
      rcases List.mem_cons.mp hx with e | hx
      · exact e
      · rcases List.mem_cons.mp hy with e | hy'
        · exact e.symm
        · exact an x List.mem_cons_self y hy ((List.pairwise_cons.mp h1).1 y hy') ((List.pairwise_cons.mp h2).1 x hx)
    subst e
    rw [uniq_srt p.cons_inv (List.pairwise_cons.mp h1).2 (List.pairwise_cons.mp h2).2 fun a ha b hb => an a (List.mem_cons_of_mem _ ha) b (List.mem_cons_of_mem _ hb)]
theorem lex_eq : ∀ {a b : List Int}, HT.lexLt a b = false → HT.lexLt b a = false → a = b
  | [], [], _, _ => rfl
  | [], y :: ys, h, _ => by rw [HT.lexLt_nil_cons] at h; cases h
  | x :: xs, [], _, h => by rw [HT.lexLt_nil_cons] at h; cases h
  | x :: xs, y :: ys, h1, h2 => by
    rw [HT.lexLt_cons] at h1 h2
    by_cases e : x = y
    · rw [if_pos e] at h1
      rw [if_pos e.symm] at h2
      rw [e, lex_eq h1 h2]
    · rw [if_neg e] at h1
      rw [if_neg (Ne.symm e)] at h2
      have a := of_decide_eq_false h1
      have b := of_decide_eq_false h2
      omega
theorem lex_app : ∀ (c : List Int) (a b : List Int), HT.lexLt (c ++ a) (c ++ b) = HT.lexLt a b
  | [], _, _ => rfl
  | x :: c, a, b => by rw [List.cons_append, List.cons_append, HT.lexLt_cons, if_pos rfl, lex_app c a b]
theorem code_inj {d : Nat} {x y : NT} (hx : dpt d x) (hy : dpt d y) (e : code x = code y) : x = y := Classical.byContradiction fun n => by
  have h1 := (code_lt d x y [0] [1] hx hy).2 n
  have h2 := (code_lt d x y [1] [0] hx hy).2 n
  rw [e, lex_app] at h1 h2
  rw [← h2] at h1
  exact absurd h1 (by decide)
theorem zip_snd' {α β : Type} : ∀ {l : List α} {m : List β}, l.length = m.length → (l.zip m).map (·.2) = m
  | [], [], _ => rfl
  | [], _ :: _, h => by simp at h
  | _ :: _, [], h => by simp at h
  | a :: l, b :: m, h => by rw [List.zip_cons_cons, List.map_cons, zip_snd' (by simpa using h)]
theorem dpn_len {K : PySem.W.Frag} {H : Hp} {d : Nat} {xs : List V} {cs : List NT} (h : DpN K H d xs cs) : xs.length = cs.length := by
  induction h with
  | nil => rfl
  | cons _ _ _ ih => rw [List.length_cons, List.length_cons, ih]
section
variable {K : Gm} {A : As} {H : Hp}
theorem dns_pairs {ps : List (V × NT)} (h : ∀ p ∈ ps, Dn K A H p.1 (frN p.2)) : Dns K A H (ps.map (·.1)) (ps.map fun p => frN p.2) := by
  induction ps with
  | nil => exact .nil
  | cons p ps ih => exact .cons (h p List.mem_cons_self) (ih fun q hq => h q (List.mem_cons_of_mem _ hq))
/-- what a sorting of the pairs is by data -/
theorem sorted_data {d : Nat} {es : List Dat} {vs : List V} {ks rs : List KD} (hk : keyed (d + 2) es = some ks) (hr : sortK ks = some rs) (x : Dns K A H vs es) : ∃ cs : List NT, DpN K H d vs cs ∧ ∀ ps : List (V × NT), ps.Perm (vs.zip cs) → ps.Pairwise (fun p q => HT.lexLt (code q.2) (code p.2) = false) → Dns K A H (ps.map (·.1)) (rs.map (·.2)) := by
  obtain ⟨cs, k1, k2, k3, k4⟩ := keyed_dp hk x
  refine ⟨cs, k1, fun ps hp hs => ?_⟩
  unfold sortK at hr
  split at hr
  · rename_i hb
    cases hr
    have pw := srtB_pw hb
    have pm := msort_perm 40 ks
    have p2 : (ps.map fun p => keyN p.2).Perm ks := by
      have q := hp.map fun p => keyN p.2
      have e : (vs.zip cs).map (fun p => keyN p.2) = cs.map keyN := by
        rw [← zip_snd' (l := vs) (m := cs) (dpn_len k1), List.map_map, zip_snd' (dpn_len k1)]; rfl
      rw [e, ← k2] at q
      exact q
    have hm : ∀ a ∈ (ps.map fun p => keyN p.2), ∃ c ∈ cs, a = keyN c := fun a ha => by
      have z := p2.mem_iff.mp ha
      rw [k2] at z
      obtain ⟨c, hc, e⟩ := List.mem_map.mp z
      exact ⟨c, hc, e.symm⟩
    have eq := uniq_srt (R := fun x y : KD => HT.lexLt y.1 x.1 = false) (p2.trans pm.symm) (List.pairwise_map.mpr hs) pw fun a ha b hb r1 r2 => by
      obtain ⟨c, hc, rfl⟩ := hm a ha
      obtain ⟨c', hc', rfl⟩ := hm b hb
      rw [code_inj (k4 c hc) (k4 c' hc') (lex_eq r2 r1)]
    rw [← eq, List.map_map]
    exact dns_pairs fun p hp' => k3 p (hp.mem_iff.mp hp')
  · cases hr
end
section
variable {K : Gm}
theorem is_sorted {d : Nat} (hd : d ≤ 50) : IsC K (rSortedN K) (fSorted (d + 2)) := fun ds m z m' h A H vs s w Q q => by
  unfold fSorted at h
  split at h
  · rename_i e
    split at h
    · rename_i xs hx
      cases hk : keyed (d + 2) xs with
      | none => rw [hk] at h; cases h
      | some ks =>
        rw [hk] at h
        cases hr : sortK ks with
        | none => simp only [Option.bind_some, hr] at h; cases h
        | some rs =>
          simp only [Option.bind_some, hr, Option.map_some] at h
          cases h
          cases w with
          | cons x t =>
            cases t
            obtain ⟨a, us, rfl, h1, t1⟩ := lv_at hx s x
            obtain ⟨cs, g1, g2⟩ := sorted_data hk hr t1
            exact ⟨a, us, cs, d, rfl, h1, hd, g1, fun ps p pp ps2 hp => q A _ _ _ _ (ext_new hp) (s.new hp) (Dn.newL s hp (g2 ps pp ps2)) ⟨rfl, rfl⟩⟩
    · cases h
  · cases h
theorem is_sortedC {d : Nat} (hd : d ≤ 50) : IsC K (rSortedN K) (fSortedC (d + 2)) := fun ds m z m' h A H vs s w Q q => by
  unfold fSortedC at h
  split at h
  · rename_i e
    split at h
    · rename_i xs hx
      cases hk : keyed (d + 2) xs with
      | none => rw [hk] at h; cases h
      | some ks =>
        rw [hk] at h
        cases hr : sortK ks with
        | none => simp only [Option.bind_some, hr] at h; cases h
        | some rs =>
          simp only [Option.bind_some, hr, Option.map_some] at h
          cases h
          cases w with
          | cons x t =>
            cases t
            obtain ⟨a, us, rfl, h1, t1⟩ := lv_at hx s x
            obtain ⟨cs, g1, g2⟩ := sorted_data hk hr t1
            refine ⟨a, us, cs, d, rfl, h1, hd, g1, fun ps p pp ps2 hp => ?_⟩
            obtain ⟨n1, n2, n3⟩ := newC (c := ⟨K, fun _ _ _ _ => False, [], .no⟩) s hp (g2 ps pp ps2)
            exact q _ _ _ _ _ n1 n2 n3 ⟨rfl, rfl⟩
    · cases h
  · cases h
end
end VM
namespace VM
open PySem PySem.Spec PyProof.Rows L2 DL LamX
/-! ### a def's own cells are let go at its end -/
mutual
def cb (n : Nat) : Dat → Bool
  | .cell k => decide (k < n)
  | .dcell k => decide (k < n)
  | .tup xs => cbs n xs
  | .lst xs => cbs n xs
  | .dct _ xs => cbs n xs
  | .obj _ xs => cbs n xs
  | .dst _ xs => cbs n xs
  | _ => true
def cbs (n : Nat) : List Dat → Bool
  | [] => true
  | d :: ds => cb n d && cbs n ds
end
section
variable {K : Gm} {A : As} {H : Hp} {m : Mu} {n : Nat}
theorem hid_take : ∀ a o, hid A H a = some o → hid (A.take n) H a = some o := fun a o e => by
  obtain ⟨e1, c⟩ := hid_of e
  exact hid_to e1 fun z => c (List.mem_of_mem_take z)
theorem sqT_hid' {A' : As} (e : ∀ a o, hid A H a = some o → hid A' H a = some o) {a : Addr} {xs : List V} (h : SqT K (hid A H) a xs) : SqT K (hid A' H) a xs := by
  rcases h with (h | ⟨o, h⟩) | h
  · exact .inl (.inl (e _ _ h))
  · exact .inl (.inr ⟨o, e _ _ h⟩)
  · exact .inr h
theorem sqL_hid' {A' : As} (e : ∀ a o, hid A H a = some o → hid A' H a = some o) {a : Addr} {xs : List V} (h : SqL K (hid A H) a xs) : SqL K (hid A' H) a xs := by
  rcases h with (h | ⟨o, h⟩) | h
  · exact .inl (.inl (e _ _ h))
  · exact .inl (.inr ⟨o, e _ _ h⟩)
  · exact .inr h
mutual
theorem Dn.cut {A' : As} (e : ∀ a o, hid A H a = some o → hid A' H a = some o) (c : ∀ k, k < n → ∀ o, A[k]? = some o → A'[k]? = some o) : ∀ {v : V} {d : Dat}, cb n d = true → Dn K A H v d → Dn K A' H v d
  | _, _, _, .non => .non
  | _, _, _, .bl b => .bl b
  | _, _, _, .int i => .int i
  | _, _, _, .str x => .str x
  | _, _, h, .tup q t => .tup (sqT_hid' (K := K) e q) (Dns.cut e c (by simpa [cb] using h) t)
  | _, _, h, .lst q t => .lst (sqL_hid' (K := K) e q) (Dns.cut e c (by simpa [cb] using h) t)
  | _, _, h, .cell q l => .cell (c _ (by simpa [cb] using h) _ q) l
  | _, _, h, .dcell q l => .dcell (c _ (by simpa [cb] using h) _ q) l
  | _, _, h, .dead q => .dead (c _ (by simpa [cb] using h) _ q)
  | _, _, h, .deadD q => .deadD (c _ (by simpa [cb] using h) _ q)
  | _, _, h, .key q => .key (e _ _ q)
  | _, _, h, .dct q t => .dct (e _ _ q) (Dns.cut e c (by simpa [cb] using h) t)
  | _, _, h, .obj o f q t => .obj o f (e _ _ q) (Dns.cut e c (by simpa [cb] using h) t)
  | _, _, h, .clo l k q g => .clo l k (e _ _ q) (e _ _ g)
  | _, .fn i, _, x => by cases x; exact .fn i
theorem Dns.cut {A' : As} (e : ∀ a o, hid A H a = some o → hid A' H a = some o) (c : ∀ k, k < n → ∀ o, A[k]? = some o → A'[k]? = some o) : ∀ {vs : List V} {ds : List Dat}, cbs n ds = true → Dns K A H vs ds → Dns K A' H vs ds
  | _, _, _, .nil => .nil
  | _, _, h, .cons a t => .cons (Dn.cut e c (by rw [cbs, Bool.and_eq_true] at h; exact h.1) a) (Dns.cut e c (by rw [cbs, Bool.and_eq_true] at h; exact h.2) t)
end
def stb (n : Nat) : Mu → Bool
  | [] => true
  | some xs :: m => cbs n xs && stb n m
  | none :: m => stb n m
theorem stb_at {n : Nat} : ∀ {m : Mu} {k : Nat} {xs : List Dat}, stb n m = true → m[k]? = some (some xs) → cbs n xs = true
  | [], _, _, _, e => by simp at e
  | some ys :: m, 0, xs, h, e => by
    rw [stb, Bool.and_eq_true] at h
    simp at e; subst e; exact h.1
  | some ys :: m, k + 1, xs, h, e => by
    rw [stb, Bool.and_eq_true] at h
    exact stb_at h.2 (by simpa using e)
  | none :: m, 0, xs, h, e => by simp at e
  | none :: m, k + 1, xs, h, e => stb_at (by rw [stb] at h; exact h) (by simpa using e)
/-- the cells below n, and one more that is kept -/
theorem sto_cut (s : Sto K A H m) (hn : n ≤ m.length) (h : stb n (m.take n) = true) : Sto K (A.take n) H (m.take n) := by
  have lt : ∀ {k : Nat} {o : Option Addr}, (A.take n)[k]? = some o → k < n ∧ A[k]? = some o := fun {k o} q => by
    have hk : k < n := by have := (List.getElem?_eq_some_iff.mp q).1; rw [List.length_take] at this; omega
    rw [List.getElem?_take_of_lt hk] at q
    exact ⟨hk, q⟩
  have cc : ∀ k, k < n → ∀ o, A[k]? = some o → (A.take n)[k]? = some o := fun k hk o q => by rw [List.getElem?_take_of_lt hk]; exact q
  refine ⟨by rw [List.length_take, List.length_take, s.len], fun k q => ?_, fun k a q => ?_, fun j k a q1 q2 => s.inj j k a (lt q1).2 (lt q2).2, s.tabs⟩
  · rw [List.getElem?_take_of_lt (lt q).1]; exact s.dead k (lt q).2
  · obtain ⟨hk, q0⟩ := lt q
    have em : (m.take n)[k]? = m[k]? := List.getElem?_take_of_lt hk
    rcases s.at_ k a q0 with ⟨xs, ds, h1, h2, h3⟩ | ⟨kvs, ds, h1, h2, h3⟩
    · exact .inl ⟨xs, ds, h1, by rw [em]; exact h2, Dns.cut hid_take cc (stb_at h (by rw [em]; exact h2)) h3⟩
    · have z := stb_at h (by rw [em]; exact h2)
      exact .inr ⟨kvs, ds, h1, by rw [em]; exact h2, Dns.cut hid_take cc (by simpa [cbs, cb] using z) h3⟩
theorem ext_cut {A0 : As} {H0 : Hp} (hn : A0.length ≤ n) (e : Ext A0 H0 A H) : Ext A0 H0 (A.take n) H := by
  have lt : ∀ {k : Nat} {a : Addr}, A0[k]? = some (some a) → (A.take n)[k]? = some (some a) → A[k]? = some (some a) := fun {k a} q q2 => by
    have hk : k < n := Nat.lt_of_lt_of_le (List.getElem?_eq_some_iff.mp q).1 hn
    rwa [List.getElem?_take_of_lt hk] at q2
  refine ⟨fun a o h h2 => hid_take a o (e.keep a o h h2), fun k o q => ?_, fun k a q q2 l => e.kl k a q (lt q q2) l, fun k a q q2 l => e.kd k a q (lt q q2) l⟩
  have hk : k < n := Nat.lt_of_lt_of_le (List.getElem?_eq_some_iff.mp q).1 hn
  rw [List.getElem?_take_of_lt hk]
  exact e.cells k o q
end
section
variable {K : Gm} {A : As} {H : Hp} {m : Mu} {n : Nat}
/-- the same, one newer list kept as the cell n -/
theorem sto_keep {k : Nat} {a : Addr} {xs : List Dat} (s : Sto K A H m) (hn : n ≤ m.length) (h : stb n (m.take n) = true) (hk : n ≤ k) (ha : A[k]? = some (some a)) (hm : m[k]? = some (some xs)) (hl : ∃ vs, H a = some (.lst vs)) (hx : cbs n xs = true) : Sto K (A.take n ++ [some a]) H (m.take n ++ [some xs]) := by
  have ln : (A.take n).length = n := by rw [List.length_take, s.len]; omega
  have lm : (m.take n).length = n := by rw [List.length_take]; omega
  have lt : ∀ {j : Nat} {o : Option Addr}, (A.take n ++ [some a])[j]? = some o → (j < n ∧ A[j]? = some o) ∨ (j = n ∧ o = some a) := fun {j o} q => by
    by_cases c : j < n
    · rw [List.getElem?_append_left (by rw [ln]; exact c), List.getElem?_take_of_lt c] at q
      exact .inl ⟨c, q⟩
    · rw [List.getElem?_append_right (by rw [ln]; omega), ln] at q
      have z : j - n = 0 := by
        have := (List.getElem?_eq_some_iff.mp q).1
        simp at this; omega
      rw [z] at q
      exact .inr ⟨by omega, by simpa using q.symm⟩
  have mem : some a ∈ A := List.mem_of_getElem? ha
  have hh : ∀ b o, hid A H b = some o → hid (A.take n ++ [some a]) H b = some o := fun b o e => by
    obtain ⟨e1, c⟩ := hid_of e
    refine hid_to e1 fun z => ?_
    rcases List.mem_append.mp z with z | z
    · exact c (List.mem_of_mem_take z)
    · exact c (by rw [List.mem_singleton.mp z]; exact mem)
  have cc : ∀ j, j < n → ∀ o, A[j]? = some o → (A.take n ++ [some a])[j]? = some o := fun j hj o q => by rw [List.getElem?_append_left (by rw [ln]; exact hj), List.getElem?_take_of_lt hj]; exact q
  refine ⟨by rw [List.length_append, List.length_append, ln, lm]; rfl, fun j q => ?_, fun j b q => ?_, fun i j b q1 q2 => ?_, s.tabs⟩
  · rcases lt q with ⟨hj, q0⟩ | ⟨_, q0⟩
    · rw [List.getElem?_append_left (by rw [lm]; exact hj), List.getElem?_take_of_lt hj]; exact s.dead j q0
    · cases q0
  · rcases lt q with ⟨hj, q0⟩ | ⟨e, q0⟩
    · have em : (m.take n ++ [some xs])[j]? = m[j]? := by rw [List.getElem?_append_left (by rw [lm]; exact hj), List.getElem?_take_of_lt hj]
      have em0 : (m.take n)[j]? = m[j]? := List.getElem?_take_of_lt hj
      rcases s.at_ j b q0 with ⟨ys, ds, h1, h2, h3⟩ | ⟨kvs, ds, h1, h2, h3⟩
      · exact .inl ⟨ys, ds, h1, by rw [em]; exact h2, Dns.cut hh cc (stb_at h (by rw [em0]; exact h2)) h3⟩
      · have z := stb_at h (by rw [em0]; exact h2)
        exact .inr ⟨kvs, ds, h1, by rw [em]; exact h2, Dns.cut hh cc (by simpa [cbs, cb] using z) h3⟩
    · cases q0
      subst e
      rcases s.at_ k a ha with ⟨ys, ds, h1, h2, h3⟩ | ⟨kvs, ds, h1, h2, h3⟩
      · rw [hm] at h2
        cases h2
        exact .inl ⟨ys, xs, h1, by rw [List.getElem?_append_right (by rw [lm]; exact Nat.le_refl _), lm, Nat.sub_self]; rfl, Dns.cut hh cc hx h3⟩
      · obtain ⟨vs, hv⟩ := hl
        rw [h1] at hv; cases hv
  · rcases lt q1 with ⟨h1, z1⟩ | ⟨h1, z1⟩
    · rcases lt q2 with ⟨h2, z2⟩ | ⟨h2, z2⟩
      · exact s.inj i j b z1 z2
      · cases z2
        have := s.inj i k _ z1 ha
        omega
    · rcases lt q2 with ⟨h2, z2⟩ | ⟨h2, z2⟩
      · cases z1
        have := s.inj j k _ z2 ha
        omega
      · omega
theorem ext_keep {A0 : As} {H0 : Hp} {k : Nat} {a : Addr} (hl : n ≤ A.length) (hn : A0.length ≤ n) (ha : A[k]? = some (some a)) (e : Ext A0 H0 A H) : Ext A0 H0 (A.take n ++ [some a]) H := by
  have ln : (A.take n).length = n := by rw [List.length_take]; omega
  have same : ∀ {j : Nat}, j < n → (A.take n ++ [some a])[j]? = A[j]? := fun {j} hj => by rw [List.getElem?_append_left (by rw [ln]; exact hj), List.getElem?_take_of_lt hj]
  have lt : ∀ {j : Nat} {b : Addr}, A0[j]? = some (some b) → (A.take n ++ [some a])[j]? = some (some b) → A[j]? = some (some b) := fun {j b} q q2 => by
    rw [same (Nat.lt_of_lt_of_le (List.getElem?_eq_some_iff.mp q).1 hn)] at q2
    exact q2
  refine ⟨fun b o h h2 => ?_, fun j o q => ?_, fun j b q q2 l => e.kl j b q (lt q q2) l, fun j b q q2 l => e.kd j b q (lt q q2) l⟩
  · obtain ⟨e1, c⟩ := hid_of (e.keep b o h h2)
    refine hid_to e1 fun z => ?_
    rcases List.mem_append.mp z with z | z
    · exact c (List.mem_of_mem_take z)
    · exact c (by rw [List.mem_singleton.mp z]; exact List.mem_of_getElem? ha)
  · rw [same (Nat.lt_of_lt_of_le (List.getElem?_eq_some_iff.mp q).1 hn)]
    exact e.cells j o q
end
def closeR (n : Nat) : R Dat → R Dat
  | .ok d m => if n ≤ m.length ∧ cb n d = true ∧ stb n (m.take n) = true then .ok d (m.take n) else match d with
    | .cell k => (match lv m (.cell k) with
      | some xs => if n ≤ m.length ∧ n ≤ k ∧ cbs n xs = true ∧ stb n (m.take n) = true then .ok (.cell n) (m.take n ++ [some xs]) else .ok (.cell k) m
      | none => .ok (.cell k) m)
    | d => .ok d m
  | .exc x m => if n ≤ m.length ∧ cbs n x.ds = true ∧ stb n (m.take n) = true then .exc x (m.take n) else .exc x m
  | .no => .no
def closeV (φ : Fv) : Fv := fun κ ds m => closeR m.length (φ κ ds m)
theorem close_sp {G : Gm} {φ : Fv} {n : Nat} : ∀ vs H Q E, spV G (closeV φ) n vs H Q E → spV G φ n vs H Q E := fun vs H Q E ⟨C, A, μ, ds, κ, hl, s, kp, x, h⟩ => by
  refine ⟨C, A, μ, ds, κ, hl, s, kp, x, ?_⟩
  unfold closeV at h
  have cc : ∀ {A' : As} (k : Nat), k < μ.length → ∀ o, A'[k]? = some o → (A'.take μ.length)[k]? = some o := fun k hk o q => by rw [List.getElem?_take_of_lt hk]; exact q
  cases q : φ κ ds μ with
  | no => rw [q] at h; exact h
  | ok d m =>
    rw [q] at h
    unfold closeR at h
    simp only at h
    by_cases z : μ.length ≤ m.length ∧ cb μ.length d = true ∧ stb μ.length (m.take μ.length) = true
    · rw [if_pos z] at h
      exact fun A' H' v e s' y => h (A'.take μ.length) H' v (ext_cut (by rw [s.len]; exact Nat.le_refl _) e) (sto_cut s' z.1 z.2.2) (Dn.cut hid_take cc z.2.1 y)
    · rw [if_neg z] at h
      cases d with
      | cell k =>
        simp only at h
        cases ql : lv m (.cell k) with
        | none => rw [ql] at h; exact h
        | some xs =>
          rw [ql] at h
          simp only at h
          by_cases z2 : μ.length ≤ m.length ∧ μ.length ≤ k ∧ cbs μ.length xs = true ∧ stb μ.length (m.take μ.length) = true
          · rw [if_pos z2] at h
            refine fun A' H' v e s' y => ?_
            obtain ⟨a, us, rfl, hk, hH, t⟩ := s'.cell y (cell_eq ql)
            have le : μ.length ≤ A'.length := by rw [s'.len]; exact z2.1
            refine h (A'.take μ.length ++ [some a]) H' (.ref a) (ext_keep le (by rw [s.len]; exact Nat.le_refl _) hk e) (sto_keep s' z2.1 z2.2.2.2 z2.2.1 hk (cell_eq ql) ⟨_, hH⟩ z2.2.2.1) (.cell ?_ ⟨_, hH⟩)
            rw [List.getElem?_append_right (by rw [List.length_take]; omega)]
            have : (A'.take μ.length).length = μ.length := by rw [List.length_take]; omega
            rw [this, Nat.sub_self]; rfl
          · rw [if_neg z2] at h; exact h
      | _ => exact h
  | exc e0 m =>
    rw [q] at h
    unfold closeR at h
    simp only at h
    by_cases z : μ.length ≤ m.length ∧ cbs μ.length e0.ds = true ∧ stb μ.length (m.take μ.length) = true
    · rw [if_pos z] at h
      refine fun A' H' cls dd e s' xn => h (A'.take μ.length) H' cls dd (ext_cut (by rw [s.len]; exact Nat.le_refl _) e) (sto_cut s' z.1 z.2.2) ?_
      obtain ⟨h1, a, fs, h2, h3, h4, h5⟩ := xn
      exact ⟨h1, a, fs, h2, hid_take _ _ h3, h4, Dns.cut hid_take cc z.2.1 h5⟩
    · rw [if_neg z] at h; exact h
theorem FnV.close {P : Program} {w : World} {K : PySem.W.Frag} {mg : Str → Option Value} {base : Heap} {gd : Bool} {k : Nat} {f : Addr} {fd : FuncData} {ps : List Str} {G : Gm} {φ : Fv} {n : Nat} (F : FnV P w K mg base gd k f fd ps (spV G φ n)) : FnV P w K mg base gd k f fd ps (spV G (closeV φ) n) := F.imp close_sp
end VM
namespace VM
open PySem PySem.Spec PyProof.Rows L2 DL LamX
/-! ### words for derivations -/
section
variable {X : Cx} {c : Cc} {a b e o : Expr} {es : List Expr} {pos apos p p1 p2 : Pos} {fa fb fo : Sm Dat} {fs : Sm (List Dat)}
theorem tk0 {X : Cx} : L2N.Takes X (fun _ _ _ _ => False) := fun _ _ ⟨_, _, _, _, _, _, _, _, _, _, _, _, _, _, _, _, z⟩ => z.elim
def sNotV (f : Sm Dat) : Sm Dat := fun ρ m => (f ρ m).bind fun d m1 => match d with | .bl b => .ok (.bl (!b)) m1 | _ => .no
theorem v_notE (h : PE X a (RdE c fa)) : PE X (.UnaryOp .Not a pos) (RdE c (sNotV fa)) :=
  PE.weak (pe_not h) fun σ H Q ⟨A, ρ, μ, t, h⟩ => val_next t h fun v d A1 H1 m1 t1 e1 x1 h1 => by
    cases d with
    | bl k => cases x1; exact ⟨k, rfl, fin_ok h1 (Ext.refl _ _) t1.sto (.bl _)⟩
    | _ => exact h1.elim
/-- what is never reached -/
def sNever : SS := fun _ _ => .no
theorem v_never {st : List Stmt} : PSs X st (RdS c sNever) := ⟨fun pins s σ H D I ⟨A, ρ, μ, t, h⟩ => h.elim⟩
/-- nothing else is bound: the first row's slot is given up -/
theorem v_free {st : Stmt} {f : SS} {K : Gm} {W : WX} {κ : Kp} {q : Pin} (h : PS X st (RdS ⟨K, W, κ, .no⟩ f)) : PS X st (RdS ⟨K, W, κ, q⟩ f) := PS.weak h fun D σ H ⟨A, ρ, μ, t, z⟩ => ⟨A, ρ, μ, ⟨t.sto, t.env, t.kap, trivial⟩, z⟩
theorem v_freeE {f : Sm Dat} {K : Gm} {W : WX} {κ : Kp} {q : Pin} (h : PE X a (RdE ⟨K, W, κ, .no⟩ f)) : PE X a (RdE ⟨K, W, κ, q⟩ f) := PE.weak h fun D σ H ⟨A, ρ, μ, t, z⟩ => ⟨A, ρ, μ, ⟨t.sto, t.env, t.kap, trivial⟩, z⟩
end
theorem tgSub_exc {i j : Nat} {d : Dat} {ρ : Ro} {m : Mu} {x : Ex} {m' : Mu} : tgSub (sVar i) (sLit (.int j)) d ρ m ≠ .exc x m' := fun h => by
  unfold tgSub sVar sLit at h
  split at h
  · simp only [R.bind] at h
    split at h
    · split at h
      · split at h <;> cases h
      · cases h
    · cases h
  · cases h
section
variable {X : Cx} {c : Cc} {a b e o tx ux : Expr} {pos apos p cpos p2 : Pos} {kk : Nat} {fa fb fo : Sm Dat}
theorem v_isi {T : Ty} {x : Str} (hK : X.K = c.K.K) (hg : Gl X "isinstance") (hm : X.mg "isinstance" = none) (hb : bootBuiltins "isinstance" = some (.builtin "isinstance")) (ha : PE X a (RdE c fa)) (ht : PE X tx (tC (.ty T.nm))) (h1 : starEach [a, tx] X.env = (false, eval a X.env) :: starEach [tx] X.env) (h2 : starEach [tx] X.env = [(false, eval tx X.env)]) (h3 : (backTo pos (starEach [tx] X.env)).any (·.1) = false) :
    PE X (.Call (.Name "isinstance" p) [a, tx] [] pos) (RdE c (sIsi T fa)) :=
  PE.weak (pe_callB call_isi hg hm hb (pa_cons ha (pa_cons ht pa_nil h2) h1) (by decide) (by decide) h1 h3) fun σ H Q q => by rw [hK]; exact isi_run q
theorem v_isi2 {T U : Ty} (hK : X.K = c.K.K) (hg : Gl X "isinstance") (hm : X.mg "isinstance" = none) (hb : bootBuiltins "isinstance" = some (.builtin "isinstance")) (ha : PE X a (RdE c fa)) (ht : PE X tx (tC (.ty T.nm))) (hu : PE X ux (tC (.ty U.nm))) (h1 : starEach [a, .Tuple [tx, ux] kk p2] X.env = (false, eval a X.env) :: starEach [.Tuple [tx, ux] kk p2] X.env) (h2 : starEach [.Tuple [tx, ux] kk p2] X.env = [(false, eval (.Tuple [tx, ux] kk p2) X.env)]) (h3 : (backTo pos (starEach [.Tuple [tx, ux] kk p2] X.env)).any (·.1) = false)
    (h4 : starEach [tx, ux] X.env = (false, eval tx X.env) :: starEach [ux] X.env) (h5 : starEach [ux] X.env = [(false, eval ux X.env)]) :
    PE X (.Call (.Name "isinstance" p) [a, .Tuple [tx, ux] kk p2] [] pos) (RdE c (sIsi2 T U fa)) :=
  PE.weak (pe_callB call_isiT hg hm hb (pa_cons ha (pa_cons (pe_tup (pa_cons ht (pa_cons hu pa_nil h5) h4)) pa_nil h2) h1) (by decide) (by decide) h1 h3) fun σ H Q q => by rw [hK]; exact isi2_run q
theorem v_app {r : V → List V → Hp → VK → Prop} (hK : X.K = c.K.K) (ho : PE X o (RdE c fo)) (ha : PE X a (RdE c fa)) (h : PA X [a] (RdA c (sCons fa sNil)) → PE X e (tBM X.K "list" rAppend (RdE c fo) (RdA c (sCons fa sNil)))) (h2 : starEach [a] X.env = [(false, eval a X.env)]) : PE X e (RdE c (sApp fo fa)) :=
  PE.weak (h (v_cons ha v_nil h2)) fun σ H Q q => by rw [hK]; exact app_run q
theorem v_ext (hK : X.K = c.K.K) (ho : PE X o (RdE c fo)) (ha : PE X a (RdE c fa)) (h : PA X [a] (RdA c (sCons fa sNil)) → PE X e (tBM X.K "list" (rExtL X.K) (RdE c fo) (RdA c (sCons fa sNil)))) (h2 : starEach [a] X.env = [(false, eval a X.env)]) : PE X e (RdE c (sExt fo fa)) :=
  PE.weak (h (v_cons ha v_nil h2)) fun σ H Q q => by rw [hK]; exact ext_run q
end
theorem cons_exc {g : SG} {gs : List SG} (h : ∀ d ρ m x m', g d ρ m ≠ .exc x m') (hs : ∀ g ∈ gs, ∀ d ρ m x m', g d ρ m ≠ .exc x m') : ∀ g' ∈ g :: gs, ∀ d ρ m x m', g' d ρ m ≠ .exc x m' := fun g' hg => by
  rcases List.mem_cons.mp hg with rfl | hg
  · exact h
  · exact hs g' hg
theorem v_kcons {X : Cx} {c : Cc} {e : Expr} {kws : List Keyword} {fa : Sm Dat} {fs : Sm (List Dat)} {nm : Option Str} {kpos : Pos} (ha : PE X e (RdE c fa)) (h : PK X kws (RdA c fs)) : PK X (⟨nm, e, kpos⟩ :: kws) (RdA c (sCons fa fs)) :=
  PK.weak (pk_cons ha h) fun σ H Q ⟨A, ρ, μ, t, h⟩ => val_next t h fun v d A1 H1 m1 t1 e1 x1 h1 =>
    ⟨A1, ρ, m1, t1, (fin_bind (rel := rDs c) h1).imp fun vs H2 ⟨A2, ds, m2, _, e2, s2, y2, h2⟩ => fin_ok h2 (Ext.refl A2 H2) s2 (.cons (x1.mono e2) y2)⟩
def only (i : Nat) : Nat → Option Bool := fun C => if C = i then some true else none
theorem only_eq {i C : Nat} {b : Bool} (h : only i C = some b) : C = i := by
  unfold only at h
  by_cases e : C = i
  · exact e
  · rw [if_neg e] at h; cases h
theorem only_exm {K : PySem.W.Frag} {cls : Nat → Addr} {n : Nat} (h : PySem.W.exmOne K (.ref (cls n)) (.ref (cls n)) = some true) : ∀ C b, only n C = some b → PySem.W.exmOne K (.ref (cls C)) (.ref (cls n)) = some b := fun C b q => by
  have e := only_eq q
  subst e
  unfold only at q
  rw [if_pos rfl] at q
  cases q
  exact h
theorem _root_.L2.Room.units65 {k : Nat} {A : Around} (r : Room (k + 1) A) : A.units + 65 < cLine := by have := r.un; omega
section
variable {P : Program} {w : World} {mg : Str → Option Value} {base : Heap}
theorem okVL {G : Gm} {x qual : Str} {st : Stmt} {f : Addr} {kV doc pm cdv ct oc : Value} {an od : Option Addr} {osl : Array (Option Value)} {N ps : List Str} {gd : Bool} {k : Nat} {ss : Kp → SS}
    (lk : G.K.lookup f = some ⟨oc, od, .func (PySem.W.fnOf x qual (defArgs st) (defBody st) (defScope st) .none kV doc pm an cdv ct), osl⟩) (hcd : PySem.W.codeIn G.K cdv qual = true) (S : FnScope N ps (defScope st))
    (body : ∀ (C : List (List Addr)) (κ : Kp) (A : Around) (outer : List PySem.Env) (s : Shared) (H : Hp) (E : XK), (gd = true → A.guards = some []) → Room k (A.deeper (envOfC qual (defScope st) s.heap.objs.size f cdv)) →
      PSs (cxOf (L2N.CX P w) P w G.K mg base N qual (defScope st) f cdv A outer s H E) (defBody st) (RdS (eC (gmC G C) E κ) (ss κ))) :
    FnV P w G.K mg base gd (k + 1) f (PySem.W.fnOf x qual (defArgs st) (defBody st) (defScope st) .none kV doc pm an cdv ct) ps (spV G (bodyV N.length ss) ps.length) := by
  have len : ∀ vs H Q E, spV G (bodyV N.length ss) ps.length vs H Q E → vs.length = ps.length := fun vs H Q E ⟨C, A, μ, ds, κ, hl, _, _, x, _⟩ => by rw [x.length, hl]
  refine ⟨len, fun A outer s H args us vs Q E hG hr e0 hb rv hsp => ?_⟩
  refine run_ofS (N := N) (ps := ps) lk hcd S hr e0 hb rv (len _ _ _ _ hsp) fun hr' => ?_
  obtain ⟨C, A1, μ, ds, κ, hl, s1, kp, x1, h⟩ := hsp
  refine ⟨_, body C κ A outer s H E hG hr', A1, startR N.length ds, μ, ⟨s1, env_start x1, kp, trivial⟩, ?_⟩
  unfold bodyV at h
  cases q : ss κ (startR N.length ds) μ with
  | nx ρ m => rw [q] at h; exact fun A' H' σ' e s' _ => h A' H' .non e s' .non
  | rt d m => rw [q] at h; exact fun A' H' v e s' y => h A' H' v e s' y
  | exc y ρ m => rw [q] at h; exact fun A' H' σ' cls dd e s' _ xn => h A' H' cls dd e s' xn
  | bk ρ m => rw [q] at h; exact h.elim
  | ct ρ m => rw [q] at h; exact h.elim
  | no => rw [q] at h; exact h.elim
/-- a def without defaults, the facts of the top -/
structure Dv (G : Gm) (mg : Str → Option Value) (x : Str) (st : Stmt) (ps : List Str) where
  f : Addr
  oc : Value
  od : Option Addr
  an : Option Addr
  kV : Value
  doc : Value
  pm : Value
  cdv : Value
  ct : Value
  osl : Array (Option Value)
  lk : G.K.lookup f = some ⟨oc, od, .func (PySem.W.fnOf x x (defArgs st) (defBody st) (defScope st) .none kV doc pm an cdv ct), osl⟩
  cd : PySem.W.codeIn G.K cdv x = true
  kp : PySem.W.keepIn G.K (.ref f) = true
  g : mg x = some (.ref f)
  b : Binds G.K (PySem.W.fnOf x x (defArgs st) (defBody st) (defScope st) .none kV doc pm an cdv ct) ps []
abbrev Dv.fd {G : Gm} {mg : Str → Option Value} {x : Str} {st : Stmt} {ps : List Str} (D : Dv G mg x st ps) : FuncData := PySem.W.fnOf x x (defArgs st) (defBody st) (defScope st) .none D.kV D.doc D.pm D.an D.cdv D.ct
/-- an own exception class with its __init__ -/
structure Xv (G : Gm) (mg : Str → Option Value) (x : Str) (i : Nat) (st : Stmt) (ps ns : List Str) where
  f : Addr
  fd : FuncData
  F : L2.Fun G.K "__init__" (x ++ ".__init__") st f fd
  b : Binds G.K fd ps []
  g : mg x = some (.ref (G.cls i))
  T : OexG G.K (G.cls i)
  iC : PySem.W.findIn G.K (.ref (G.cls i)) "__init__" = some (some (.ref f))
  tI : PySem.W.typeIn G.K (.ref f) = some (.type "function")
  xf : XfC G.K (G.cls i)
  nm : G.xfl i = ns.reverse
  no : ∀ n ∈ ns, PySem.W.findIn G.K (.ref (G.cls i)) n = some none
/-- what the written part says of a code object at c and its table at P -/
def CodeF (K : PySem.W.Frag) (c P : Addr) : Prop := ∃ (dd : Option Addr) (vs : Array Value) (sl : Array (Option Value)) (file : Str) (tf : Tok) (flags : Int) (tg : Tok) (inF : Bool) (text : Int) (tt : Tok), K.lookup c = some ⟨.type "code", dd, .fields vs, sl⟩ ∧ vs[11]? = some (.ref P) ∧ vs.getD 11 .none = .ref P ∧
  vs.getD 18 .none = .str file tf ∧ vs.getD 7 .none = .int flags tg ∧ vs.getD 9 .none = .bool inF ∧ vs.getD 10 .none = .int text tt ∧ c ≠ P ∧ K.lookup P = none
/-- the code object and the table of a def that makes functions -/
structure Tv (G : Gm) (cdv : Value) (q : Str) where
  c : Addr
  P : Addr
  e : cdv = .ref c
  m : (P, q) ∈ G.T
  u : ∀ p ∈ G.T, p.1 = P → p.2 = q
  hd : CodeF G.K c P
  one : ∀ p ∈ G.T, p.1 = P
theorem spV_len {G : Gm} {φ : Fv} {n : Nat} {vs : List V} {H : Hp} {Q : VK} {E : XK} (h : spV G φ n vs H Q E) : vs.length = n := by
  obtain ⟨C, A, μ, ds, κ, hl, _, _, x, _⟩ := h
  rw [x.length, hl]
theorem spX_len {C : Addr} {ns : List Str} {n : Nat} (hn : ns.length + 1 = n) {vs : List V} {H : Hp} {Q : VK} {E : XK} (h : spX C ns vs H Q E) : vs.length = n := by
  obtain ⟨a, ws, e, hl, _⟩ := h
  rw [e, List.length_cons, hl, hn]
theorem startE1 {N : List Str} {a y : V} : (L2.start N [a, y])[0]? = some (some a) ∧ (L2.start N [a, y])[1]? = some (some y) := ⟨rfl, rfl⟩
theorem startE2 {N : List Str} {a y z : V} : (L2.start N [a, y, z])[0]? = some (some a) ∧ (L2.start N [a, y, z])[1]? = some (some y) ∧ (L2.start N [a, y, z])[2]? = some (some z) := ⟨rfl, rfl, rfl⟩
/-- FnV that wants no guards, as FnOk -/
theorem FnV.ok {K : PySem.W.Frag} {k : Nat} {f : Addr} {fd : FuncData} {ps : List Str} {sp : Sp} (F : FnV P w K mg base false k f fd ps sp) : FnOk P w K mg base (L2N.CX P w) k f fd ps sp :=
  ⟨F.len, fun A outer s H args us vs Q E hr e0 hb rv h => F.go A outer s H args us vs Q E (fun z => nomatch z) hr e0 hb rv h⟩
end
/-! ### the law's call: a list of ints is handed over, the tables are empty -/
theorem law_sp {G : Gm} {φ : Fv} {H : Hp} {a : Addr} {ns : List Int} {κ : Kp} {m' : Mu} (hT : ∀ p ∈ G.T, H p.1 = some (.tbl #[])) (hS : SqL G.K H a (ns.map V.int)) (h : φ [] [.lst (ns.map Dat.int)] [] = .ok (.bl true) m') : spV G φ 1 [.ref a] H (fun v _ => v = .bl true) (fun _ _ _ => False) := by
  have e : hid [] H = H := by
    funext b
    unfold hid
    rw [if_neg (by simp)]
  have dn : ∀ ms : List Int, Dns (gmC G []) [] H (ms.map V.int) (ms.map Dat.int) := fun ms => by
    induction ms with
    | nil => exact .nil
    | cons i ms ih => exact .cons (.int i) ih
  refine ⟨[], [], [], [.lst (ns.map Dat.int)], [], rfl, ⟨rfl, fun k q => by simp at q, fun k a q => by simp at q, fun j k a q => by simp at q, fun p hp => ?_⟩, fun l j d q => by simp at q, .cons (.lst (by rw [e]; exact hS) (dn ns)) .nil, ?_⟩
  · exact TabS.nil (hT p hp)
  · rw [h]
    intro A' H' v _ _ x
    cases x
    rfl
/-! ### the end -/
abbrev gmk (K : PySem.W.Frag) (cls : Nat → Addr) (T : List (Addr × Str)) (flds xfl : Nat → List Str) : Gm := ⟨K, fun _ => none, cls, fun _ => 0, fun _ => none, T, [], flds, xfl⟩
noncomputable def dv_mk {G : Gm} {mg : Str → Option Value} {h : Heap} {x : Str} {st : Stmt} {ps : List Str} {f : Addr} {oc : Value} {od an : Option Addr} {sl : Array (Option Value)} {kV doc pm cdv ct : Value} (X : G.K.In h) (Gn : h.Ns mainGlobals mg) (a : PySem.W.nsIn G.K mainGlobals x = some (some (.ref f)))
    (l : G.K.lookup f = some ⟨oc, od, .func (PySem.W.fnOf x x (defArgs st) (defBody st) (defScope st) .none kV doc pm an cdv ct), sl⟩) (c : PySem.W.codeIn G.K cdv x = true) (k : PySem.W.keepIn G.K (.ref f) = true)
    (hb : ∀ (kV doc pm : Value) (an : Option Addr) (cdv ct : Value) (us : List Value), us.length = ps.length → bindArgs (PySem.W.fnOf x x (defArgs st) (defBody st) (defScope st) .none kV doc pm an cdv ct) ⟨us, []⟩ = pure (ps.zip us)) : Dv G mg x st ps where
  f := f
  oc := oc
  od := od
  an := an
  kV := kV
  doc := doc
  pm := pm
  cdv := cdv
  ct := ct
  osl := sl
  lk := l
  cd := c
  kp := k
  g := PySem.W.mg_of X Gn a
  b := (L2.fun_mk (st := st) l c k).binds hb
noncomputable def xv_mk {G : Gm} {mg : Str → Option Value} {h : Heap} {x : Str} {i : Nat} {st : Stmt} {ps ns : List Str} {f : Addr} {oc : Value} {od an : Option Addr} {sl : Array (Option Value)} {kV doc pm cdv ct : Value} (X : G.K.In h) (Gn : h.Ns mainGlobals mg) (a : PySem.W.nsIn G.K mainGlobals x = some (some (.ref (G.cls i))))
    (l : G.K.lookup f = some ⟨oc, od, .func (PySem.W.fnOf "__init__" (x ++ ".__init__") (defArgs st) (defBody st) (defScope st) .none kV doc pm an cdv ct), sl⟩) (c : PySem.W.codeIn G.K cdv (x ++ ".__init__") = true) (k : PySem.W.keepIn G.K (.ref f) = true)
    (hb : ∀ (kV doc pm : Value) (an : Option Addr) (cdv ct : Value) (us : List Value), us.length = ps.length → bindArgs (PySem.W.fnOf "__init__" (x ++ ".__init__") (defArgs st) (defBody st) (defScope st) .none kV doc pm an cdv ct) ⟨us, []⟩ = pure (ps.zip us))
    (T : OexG G.K (G.cls i)) (iC : PySem.W.findIn G.K (.ref (G.cls i)) "__init__" = some (some (.ref f))) (tI : PySem.W.typeIn G.K (.ref f) = some (.type "function")) (xf : XfC G.K (G.cls i)) (nm : G.xfl i = ns.reverse) (no : ∀ n ∈ ns, PySem.W.findIn G.K (.ref (G.cls i)) n = some none) : Xv G mg x i st ps ns where
  f := f
  fd := _
  F := L2.fun_mk (st := st) l c k
  b := (L2.fun_mk (st := st) l c k).binds hb
  g := PySem.W.mg_of X Gn a
  T := T
  iC := iC
  tI := tI
  xf := xf
  nm := nm
  no := no
theorem exm_mk {K : PySem.W.Frag} {C : Addr} {cd : ClassData} (a : PySem.W.subIn K (.ref C) (.type "BaseException") = some true) (d : PySem.W.typeIn K (.ref C) = some (.type "type")) (e : PySem.W.subIn K (.ref C) (.ref C) = some true) (f : PySem.W.clsIn K C = some cd) : PySem.W.exmOne K (.ref C) (.ref C) = some true := by
  unfold PySem.W.exmOne
  rw [a, if_pos (by rfl)]
  show (if ((PySem.W.clsIn K C).isSome && PySem.W.typeIn K (.ref C) == some (.type "type")) = true then PySem.W.subIn K (.ref C) (.ref C) else none) = some true
  rw [f, d, e]
  rfl
theorem noL {α : Type} {R : α → Prop} : ∀ n ∈ ([] : List α), R n := fun _ h => nomatch h
theorem consL {α : Type} {R : α → Prop} {a : α} {l : List α} (h : R a) (t : ∀ n ∈ l, R n) : ∀ n ∈ a :: l, R n := fun n hn => by
  rcases List.mem_cons.mp hn with rfl | hn
  · exact h
  · exact t n hn
theorem codeF_hd {K : PySem.W.Frag} {c P : Addr} {h : Heap} (X : K.In h) (F : CodeF K c P) : PySem.W.CodeHd h c P := by
  obtain ⟨dd, vs, sl, file, tf, flags, tg, inF, text, tt, h1, h2, h3, h4, h5, h6, h7, h8, h9⟩ := F
  exact ⟨_, vs, file, tf, flags, tg, inF, text, tt, X _ _ h1, rfl, rfl, h2, h3, h4, h5, h6, h7, h8⟩
/-- the law's promise at the head -/
theorem law_at {l : PySem.W.OpenLaw} {w : World} {G : Gm} {mg : Str → Option Value} {fa : Addr} {h : Heap} {st : Stmt} {x : Str} {k n : Nat} {φ : Fv} {q : Str} (D : Dv G mg "law" st [x]) (tv : Tv G D.cdv q) (X : G.K.In h) (hfa : mg "law" = some (.ref fa)) (own : OwnTab G.K fa h) (hb1 : ∀ (s : Shared) (u : Value), BindsTo s D.fd ⟨[u], []⟩ [(x, u)])
    (hφ : ∀ ns : List Int, ns.length ≤ n → ∃ m, φ [] [.lst (ns.map Dat.int)] [] = .ok (.bl true) m)
    (ok : ∀ base : Heap, G.K.In base → base.Ns mainGlobals mg → TabB base mg tv.c tv.P → FnV l.prog w G.K mg base false k D.f D.fd [x] (spV G φ 1)) : LawAtS l w G.K (L2N.CX l.prog w) k n x mg fa h := by
  have e := hfa.symm.trans D.g
  cases e
  have F := tv.hd
  obtain ⟨dd, vs, sl, file, tf, flags, tg, inF, text, tt, h1, h2, h3, h4, h5, h6, h7, h8, h9⟩ := tv.hd
  refine ⟨D.fd, [(tv.c, tv.P)], spV G φ 1, fun p hp => ?_, fun p hp => ?_, fun p hp => ?_, fun s u => ?_, fun H a ns hl _ hT hS => ?_, fun base hk hn hT => (ok base hk hn (hT _ List.mem_cons_self)).ok⟩
  · cases List.mem_singleton.mp hp
    exact own tv.c tv.P _ _ _ _ _ _ D.lk rfl tv.e h1 h2
  · cases List.mem_singleton.mp hp
    exact h9
  · cases List.mem_singleton.mp hp
    exact codeF_hd X F
  · exact hb1 s u
  · obtain ⟨m, hm⟩ := hφ ns hl
    exact law_sp (κ := []) (fun p hp => by rw [tv.one p hp]; exact hT (tv.c, tv.P) List.mem_cons_self) hS hm
theorem cx_no {P : Program} {w : World} {H : Hp} {s s' : Shared} {e : Value} (z : L2N.CX P w [] H s (fun _ _ _ => False) e s') : False := by
  obtain ⟨_, _, _, _, _, _, _, _, _, _, _, _, h⟩ := z
  exact h
end VM
namespace VM
open PySem PySem.Spec PyProof.Rows L2 DL LamX
/-! ### a def that is run over a store of its own: what it is handed stands frozen -/
def frz (m : Mu) : Nat → Dat → Option Dat
  | 0, _ => none
  | n + 1, d => match d with
    | .tup xs => (optAll (frz m n) xs).map .tup
    | .lst xs => (optAll (frz m n) xs).map .lst
    | .cell k => (match lv m (.cell k) with | some xs => (optAll (frz m n) xs).map .lst | none => none)
    | .dct ks xs => (optAll (frz m n) xs).map (.dct ks)
    | .obj C xs => (optAll (frz m n) xs).map (.obj C)
    | .non => some .non
    | .bl b => some (.bl b)
    | .int i => some (.int i)
    | .str x => some (.str x)
    | .key l => some (.key l)
    | .fn i => some (.fn i)
    | _ => none
def frA (m : Mu) (ds : List Dat) : Option (List Dat) := match noCells ds with
  | true => some ds
  | false => optAll (frz m 60) ds
mutual
def sh (n : Nat) : Dat → Dat
  | .cell k => .cell (n + k)
  | .dcell k => .dcell (n + k)
  | .tup xs => .tup (shs n xs)
  | .lst xs => .lst (shs n xs)
  | .dct ks xs => .dct ks (shs n xs)
  | .obj C xs => .obj C (shs n xs)
  | .dst ks xs => .dst ks (shs n xs)
  | d => d
def shs (n : Nat) : List Dat → List Dat
  | [] => []
  | d :: ds => sh n d :: shs n ds
end
mutual
/-- nothing in it may be a list or a dict of the caller's -/
def fre : Dat → Bool
  | .lst _ => false
  | .dct _ _ => false
  | .clo _ _ => false
  | .tup xs => fres xs
  | .obj _ xs => fres xs
  | .dst _ xs => fres xs
  | _ => true
def fres : List Dat → Bool
  | [] => true
  | d :: ds => fre d && fres ds
end
def frem : Mu → Bool
  | [] => true
  | some xs :: m => fres xs && frem m
  | none :: m => frem m
def shm (n : Nat) (m : Mu) : Mu := m.map fun o => o.map (shs n)
def shx (n : Nat) (x : Ex) : Ex := ⟨x.C, shs n x.ds⟩
def frR (m : Mu) (k : Unit → R Dat) : R Dat → R Dat
  | .ok d m' => (match fre d && frem m' with | true => .ok (sh m.length d) (m ++ shm m.length m') | false => k ())
  | .exc x m' => (match fres (x.ds) && frem m' with | true => .exc (shx m.length x) (m ++ shm m.length m') | false => k ())
  | .no => k ()
def frameV (φ : Fv) : Fv := fun κ ds m => match frA m ds with
  | some es => frR m (fun _ => φ κ ds m) (φ [] es [])
  | none => φ κ ds m
section
variable {K : Gm} {A A' : As} {H H' : Hp} {m : Mu}
theorem hid_nil : hid [] H = H := by
  funext b
  unfold hid
  rw [if_neg (by simp)]
theorem hid_up : ∀ a o, hid A H a = some o → hid [] H a = some o := fun a o e => by rw [hid_nil]; exact (hid_of e).1
theorem all_fz {n : Nat} (ih : ∀ {v : V} {d e : Dat}, frz m n d = some e → Dn K A H v d → Dn K [] H v e) : ∀ {vs : List V} {ds es : List Dat}, optAll (frz m n) ds = some es → Dns K A H vs ds → Dns K [] H vs es
  | [], ds, es, h, w => by cases w; cases h; exact .nil
  | v :: vs, ds, es, h, w => by
    cases w with
    | @cons _ _ d ds x t =>
    unfold optAll at h
    split at h
    · cases h
    · rename_i y hy
      split at h
      · cases h
      · rename_i ys hys
        cases h
        exact .cons (ih hy x) (all_fz ih hys t)
theorem frz_dn (s : Sto K A H m) : ∀ {n : Nat} {v : V} {d e : Dat}, frz m n d = some e → Dn K A H v d → Dn K [] H v e
  | 0, _, _, _, h, _ => by cases h
  | n + 1, v, d, e, h, x => by
    unfold frz at h
    cases d with
    | non => cases h; cases x; exact .non
    | bl b => cases h; cases x; exact .bl b
    | int i => cases h; cases x; exact .int i
    | str z => cases h; cases x; exact .str z
    | key l => cases h; cases x with | key z => exact .key (hid_up _ _ z)
    | fn i => cases h; cases x; exact .fn i
    | tup xs =>
      simp only at h
      cases q : optAll (frz m n) xs with
      | none => rw [q] at h; cases h
      | some ps =>
        rw [q] at h; cases h
        cases x with
        | tup h1 t1 => exact .tup (sqT_hid' (K := K) hid_up h1) (all_fz (fun a b => frz_dn s a b) q t1)
    | lst xs =>
      simp only at h
      cases q : optAll (frz m n) xs with
      | none => rw [q] at h; cases h
      | some ps =>
        rw [q] at h; cases h
        cases x with
        | lst h1 t1 => exact .lst (sqL_hid' (K := K) hid_up h1) (all_fz (fun a b => frz_dn s a b) q t1)
    | cell k =>
      simp only at h
      cases q0 : lv m (.cell k) with
      | none => rw [q0] at h; cases h
      | some xs =>
        rw [q0] at h
        simp only at h
        cases q : optAll (frz m n) xs with
        | none => rw [q] at h; cases h
        | some ps =>
          rw [q] at h; cases h
          obtain ⟨a, vs, rfl, hk, ho, t1⟩ := s.cell x (cell_eq q0)
          exact .lst (.inl (.inl (by rw [hid_nil]; exact ho))) (all_fz (fun a b => frz_dn s a b) q t1)
    | dct ks xs =>
      simp only at h
      cases q : optAll (frz m n) xs with
      | none => rw [q] at h; cases h
      | some ps =>
        rw [q] at h; cases h
        cases x with
        | dct h1 t1 => exact .dct (hid_up _ _ h1) (all_fz (fun a b => frz_dn s a b) q t1)
    | obj C xs =>
      simp only at h
      cases q : optAll (frz m n) xs with
      | none => rw [q] at h; cases h
      | some ps =>
        rw [q] at h; cases h
        cases x with
        | obj c f h1 t1 => exact .obj c f (hid_up _ _ h1) (all_fz (fun a b => frz_dn s a b) q t1)
    | _ => cases h
theorem frA_dn (s : Sto K A H m) {vs : List V} {ds es : List Dat} (h : frA m ds = some es) (x : Dns K A H vs ds) : Dns K [] H vs es := by
  unfold frA at h
  split at h
  · rename_i q
    cases h
    exact Dns.mono0 hid_up q x
  · exact all_fz (fun a b => frz_dn s a b) h x
theorem optAll_len {α β : Type} {f : α → Option β} : ∀ {xs : List α} {ys : List β}, optAll f xs = some ys → ys.length = xs.length
  | [], ys, h => by cases h; rfl
  | x :: xs, ys, h => by
    unfold optAll at h
    split at h
    · cases h
    · split at h
      · cases h
      · rename_i zs hz
        cases h
        rw [List.length_cons, List.length_cons, optAll_len hz]
theorem frA_len {ds es : List Dat} (h : frA m ds = some es) : es.length = ds.length := by
  unfold frA at h
  split at h
  · cases h; rfl
  · exact optAll_len h
/-- the cells of A hold lists and dicts still -/
def Held (A : As) (H' : Hp) : Prop := ∀ b, some b ∈ A → (∃ xs, H' b = some (.lst xs)) ∨ ∃ kvs, H' b = some (.dT kvs)
theorem hid_add (hh : Held A H') {a : Addr} {o : HO} (n1 : ∀ xs, o ≠ .lst xs) (n2 : ∀ kvs, o ≠ .dT kvs) (h : hid A' H' a = some o) : hid (A ++ A') H' a = some o := by
  obtain ⟨e1, c⟩ := hid_of h
  refine hid_to e1 fun z => ?_
  rcases List.mem_append.mp z with z | z
  · rcases hh a z with ⟨xs, q⟩ | ⟨xs, q⟩
    · rw [e1] at q; exact n1 xs (Option.some.inj q)
    · rw [e1] at q; exact n2 xs (Option.some.inj q)
  · exact c z
theorem sqT_add (hh : Held A H') {a : Addr} {xs : List V} (h : SqT K (hid A' H') a xs) : SqT K (hid (A ++ A') H') a xs := by
  rcases h with (h | ⟨o, h⟩) | h
  · exact .inl (.inl (hid_add hh (fun _ z => nomatch z) (fun _ z => nomatch z) h))
  · exact .inl (.inr ⟨o, hid_add hh (fun _ z => nomatch z) (fun _ z => nomatch z) h⟩)
  · exact .inr h
theorem get_add {k : Nat} {o : Option Addr} (h : A'[k]? = some o) : (A ++ A')[A.length + k]? = some o := by
  rw [List.getElem?_append_right (by omega)]
  rw [show A.length + k - A.length = k by omega]
  exact h
theorem fkO_not1 {f c : Addr} {L : LamT} {cl : List (Str × Addr)} (xs : List V) : FkO f L cl c ≠ .lst xs := fun z => by
  unfold FkO at z
  cases z
mutual
theorem sh_dn (hh : Held A H') : ∀ {v : V} {d : Dat}, fre d = true → Dn K A' H' v d → Dn K (A ++ A') H' v (sh A.length d)
  | _, _, _, .non => by rw [sh] <;> first | exact .non | (intros; rename_i z; cases z)
  | _, _, _, .bl b => by rw [sh] <;> first | exact .bl _ | (intros; rename_i z; cases z)
  | _, _, _, .int i => by rw [sh] <;> first | exact .int _ | (intros; rename_i z; cases z)
  | _, _, _, .str z => by rw [sh] <;> first | exact .str _ | (intros; rename_i z; cases z)
  | _, _, h, .tup q t => by
    rw [sh]
    exact .tup (sqT_add hh q) (shs_dn hh (by rw [fre] at h; exact h) t)
  | _, _, h, .lst q t => by simp [fre] at h
  | _, _, h, .dct q t => by simp [fre] at h
  | _, _, h, .clo _ _ _ _ => by simp [fre] at h
  | _, _, h, .obj c f q t => by
    rw [sh]
    exact .obj c f (hid_add hh (fun _ z => nomatch z) (fun _ z => nomatch z) q) (shs_dn hh (by rw [fre] at h; exact h) t)
  | _, _, _, .cell q l => by rw [sh]; exact .cell (get_add q) l
  | _, _, _, .dead q => by rw [sh]; exact .dead (get_add q)
  | _, _, _, .dcell q l => by rw [sh]; exact .dcell (get_add q) l
  | _, _, _, .deadD q => by rw [sh]; exact .deadD (get_add q)
  | _, _, _, .key q => by rw [sh] <;> first | exact .key (hid_add hh (fun _ z => nomatch z) (fun _ z => nomatch z) q) | (intros; rename_i z; cases z)
  | _, _, _, .fn i => by rw [sh] <;> first | exact .fn _ | (intros; rename_i z; cases z)
theorem shs_dn (hh : Held A H') : ∀ {vs : List V} {ds : List Dat}, fres ds = true → Dns K A' H' vs ds → Dns K (A ++ A') H' vs (shs A.length ds)
  | _, _, _, .nil => .nil
  | _, _, h, .cons a t => by
    rw [shs]
    rw [fres, Bool.and_eq_true] at h
    exact .cons (sh_dn hh h.1 a) (shs_dn hh h.2 t)
end
theorem frem_at : ∀ {m : Mu} {k : Nat} {xs : List Dat}, frem m = true → m[k]? = some (some xs) → fres xs = true
  | [], _, _, _, e => by simp at e
  | some ys :: m, 0, xs, h, e => by
    rw [frem, Bool.and_eq_true] at h
    simp at e; subst e; exact h.1
  | some ys :: m, k + 1, xs, h, e => by
    rw [frem, Bool.and_eq_true] at h
    exact frem_at h.2 (by simpa using e)
  | none :: m, 0, xs, h, e => by simp at e
  | none :: m, k + 1, xs, h, e => frem_at (by rw [frem] at h; exact h) (by simpa using e)
theorem shs_len {n : Nat} : ∀ {ds : List Dat}, (shs n ds).length = ds.length
  | [] => rfl
  | _ :: ds => by rw [shs, List.length_cons, List.length_cons, shs_len]
/-- the store behind: the caller's cells, then the new ones -/
theorem fr_sto {m' : Mu} (s : Sto K A H m) (e : Ext [] H A' H') (s' : Sto K A' H' m') (hf : frem m' = true) : Ext A H (A ++ A') H' ∧ Sto K (A ++ A') H' (m ++ shm A.length m') ∧ Held A H' := by
  have kp : ∀ a o, H a = some o → (∀ ps, o ≠ .tbl ps) → hid A' H' a = some o := fun a o h n => e.keep a o (by rw [hid_nil]; exact h) n
  have hh : Held A H' := fun b hb => by
    obtain ⟨k, hk⟩ := List.mem_iff_getElem?.mp hb
    rcases (s.at_ k b hk).plain with ⟨xs, q⟩ | ⟨kvs, q⟩
    · exact .inl ⟨xs, (hid_of (kp b _ q (fun _ z => nomatch z))).1⟩
    · exact .inr ⟨kvs, (hid_of (kp b _ q (fun _ z => nomatch z))).1⟩
  have ap : ∀ b, some b ∈ A → some b ∉ A' := fun b hb => by
    obtain ⟨k, hk⟩ := List.mem_iff_getElem?.mp hb
    rcases (s.at_ k b hk).plain with ⟨xs, q⟩ | ⟨kvs, q⟩
    · exact (hid_of (kp b _ q (fun _ z => nomatch z))).2
    · exact (hid_of (kp b _ q (fun _ z => nomatch z))).2
  have ex : Ext A H (A ++ A') H' := ⟨fun a o h n => by
    obtain ⟨h1, c⟩ := hid_of h
    obtain ⟨h2, c2⟩ := hid_of (kp a o h1 n)
    refine hid_to h2 fun z => ?_
    rcases List.mem_append.mp z with z | z
    · exact c z
    · exact c2 z, fun k o h => .inl (by rw [List.getElem?_append_left (List.getElem?_eq_some_iff.mp h).1]; exact h),
    fun k a h _ ⟨xs, l⟩ => ⟨xs, (hid_of (kp a _ l (fun _ z => nomatch z))).1⟩, fun k a h _ ⟨xs, l⟩ => ⟨xs, (hid_of (kp a _ l (fun _ z => nomatch z))).1⟩⟩
  have lA : A.length = m.length := s.len
  have lt : ∀ {k : Nat} {o : Option Addr}, (A ++ A')[k]? = some o → (k < A.length ∧ A[k]? = some o) ∨ (A.length ≤ k ∧ A'[k - A.length]? = some o) := fun {k o} q => by
    by_cases c : k < A.length
    · rw [List.getElem?_append_left c] at q; exact .inl ⟨c, q⟩
    · rw [List.getElem?_append_right (by omega)] at q; exact .inr ⟨by omega, q⟩
  have ml : ∀ {k : Nat}, k < A.length → (m ++ shm A.length m')[k]? = m[k]? := fun {k} c => List.getElem?_append_left (by omega)
  have mr : ∀ {k : Nat}, A.length ≤ k → (m ++ shm A.length m')[k]? = (m'[k - A.length]?).map fun o => o.map (shs A.length) := fun {k} c => by
    rw [List.getElem?_append_right (by omega), ← lA]
    unfold shm
    rw [List.getElem?_map]
  refine ⟨ex, ⟨by unfold shm; rw [List.length_append, List.length_append, List.length_map, lA, s'.len], fun k q => ?_, fun k a q => ?_, fun i j a q1 q2 => ?_, s'.tabs⟩, hh⟩
  · rcases lt q with ⟨c, q⟩ | ⟨c, q⟩
    · rw [ml c]; exact s.dead k q
    · rw [mr c, s'.dead _ q]; rfl
  · rcases lt q with ⟨c, q⟩ | ⟨c, q⟩
    · rcases s.at_ k a q with ⟨xs, ds, h1, h2, h3⟩ | ⟨kvs, ds, h1, h2, h3⟩
      · exact .inl ⟨xs, ds, (hid_of (kp a _ h1 (fun _ z => nomatch z))).1, by rw [ml c]; exact h2, h3.mono ex⟩
      · exact .inr ⟨kvs, ds, (hid_of (kp a _ h1 (fun _ z => nomatch z))).1, by rw [ml c]; exact h2, h3.mono ex⟩
    · rcases s'.at_ _ a q with ⟨xs, ds, h1, h2, h3⟩ | ⟨kvs, ds, h1, h2, h3⟩
      · exact .inl ⟨xs, shs A.length ds, h1, by rw [mr c, h2]; rfl, shs_dn hh (frem_at hf h2) h3⟩
      · refine .inr ⟨kvs, shs A.length ds, h1, by rw [mr c, h2]; rfl, shs_dn hh ?_ h3⟩
        have := frem_at hf h2
        simpa [fres, fre] using this
  · rcases lt q1 with ⟨c1, q1⟩ | ⟨c1, q1⟩
    · rcases lt q2 with ⟨c2, q2⟩ | ⟨c2, q2⟩
      · exact s.inj i j a q1 q2
      · exact absurd (List.mem_of_getElem? q2) (ap a (List.mem_of_getElem? q1))
    · rcases lt q2 with ⟨c2, q2⟩ | ⟨c2, q2⟩
      · exact absurd (List.mem_of_getElem? q1) (ap a (List.mem_of_getElem? q2))
      · have := s'.inj _ _ a q1 q2
        omega
end
theorem frame_sp {G : Gm} {φ : Fv} {n : Nat} : ∀ vs H Q E, spV G (frameV φ) n vs H Q E → spV G φ n vs H Q E := fun vs H Q E ⟨C, A, μ, ds, κ, hl, s, kp, x, h⟩ => by
  unfold frameV at h
  split at h
  · rename_i es he
    have s0 : Sto (gmC G C) [] H [] := ⟨rfl, fun k q => by simp at q, fun k a q => by simp at q, fun j k a q => by simp at q, s.tabs⟩
    have k0 : Kap (gmC G C) [] H [] := fun l j d q => by simp at q
    have x0 := frA_dn s he x
    have done : Fin (eC (gmC G C) E κ) [] A H (φ κ ds μ) (rD (eC (gmC G C) E κ)) Q → spV G φ n vs H Q E := fun h => ⟨C, A, μ, ds, κ, hl, s, kp, x, h⟩
    cases q : φ [] es [] with
    | no => rw [q] at h; exact done h
    | ok d m' =>
      rw [q] at h
      unfold frR at h
      simp only at h
      split at h
      · rename_i hc
        rw [Bool.and_eq_true] at hc
        refine ⟨C, [], [], es, [], by rw [frA_len he, hl], s0, k0, x0, ?_⟩
        rw [q]
        intro A' H' v e' s' y
        obtain ⟨g1, g2, g3⟩ := fr_sto s e' s' hc.2
        rw [s.len] at g2
        have y2 := sh_dn g3 hc.1 y
        rw [s.len] at y2
        exact h _ H' v g1 g2 y2
      · exact done h
    | exc x0' m' =>
      rw [q] at h
      unfold frR at h
      simp only at h
      split at h
      · rename_i hc
        rw [Bool.and_eq_true] at hc
        refine ⟨C, [], [], es, [], by rw [frA_len he, hl], s0, k0, x0, ?_⟩
        rw [q]
        intro A' H' cls dd e' s' xn
        obtain ⟨g1, g2, g3⟩ := fr_sto s e' s' hc.2
        obtain ⟨h1, a, fs, h2, h3, h4, h5⟩ := xn
        have y2 := shs_dn g3 hc.1 h5
        rw [s.len] at y2 g2
        exact h _ H' cls dd g1 g2 ⟨h1, a, fs, h2, hid_add g3 (fun _ z => nomatch z) (fun _ z => nomatch z) h3, h4, y2⟩
      · exact done h
  · exact ⟨C, A, μ, ds, κ, hl, s, kp, x, h⟩
theorem FnV.frame {P : Program} {w : World} {K : PySem.W.Frag} {mg : Str → Option Value} {base : Heap} {gd : Bool} {k : Nat} {f : Addr} {fd : FuncData} {ps : List Str} {G : Gm} {φ : Fv} {n : Nat} (F : FnV P w K mg base gd k f fd ps (spV G φ n)) : FnV P w K mg base gd k f fd ps (spV G (frameV φ) n) := F.imp frame_sp
/-! what is told of a frame -/
mutual
theorem sh_no (n : Nat) : ∀ {d : Dat}, noCell d = true → sh n d = d
  | .non, _ => rfl
  | .bl _, _ => rfl
  | .int _, _ => rfl
  | .str _, _ => rfl
  | .tup xs, h => by rw [sh, shs_no n (by simpa [noCell] using h)]
  | .lst xs, h => by rw [sh, shs_no n (by simpa [noCell] using h)]
  | .dct ks xs, h => by rw [sh, shs_no n (by simpa [noCell] using h)]
  | .obj C xs, h => by rw [sh, shs_no n (by simpa [noCell] using h)]
  | .cell _, h => by simp [noCell] at h
  | .dcell _, h => by simp [noCell] at h
  | .dst _ _, h => by simp [noCell] at h
  | .key _, _ => rfl
  | .clo _ _, _ => rfl
  | .fn _, _ => rfl
  | .tb _, _ => rfl
theorem shs_no (n : Nat) : ∀ {ds : List Dat}, noCells ds = true → shs n ds = ds
  | [], _ => rfl
  | d :: ds, h => by
    rw [noCells, Bool.and_eq_true] at h
    rw [shs, sh_no n h.1, shs_no n h.2]
end
theorem frA_no {m : Mu} {ds : List Dat} (h : noCells ds = true) : frA m ds = some ds := by unfold frA; rw [h]
/-- no cell goes in or comes out -/
theorem frame_ok {φ : Fv} {κ : Kp} {ds : List Dat} {m : Mu} {d : Dat} (hd : noCells ds = true) (h : φ [] ds [] = .ok d []) (hf : fre d = true) (hn : noCell d = true) : frameV φ κ ds m = .ok d m := by
  unfold frameV
  rw [frA_no hd]
  simp only
  rw [h]
  show (match fre d && frem [] with | true => _ | false => _) = _
  rw [hf]
  show R.ok (sh m.length d) (m ++ shm m.length []) = _
  rw [sh_no _ hn]
  show R.ok d (m ++ []) = _
  rw [List.append_nil]
/-- one new list comes out -/
theorem frame_cell {φ : Fv} {κ : Kp} {ds : List Dat} {m : Mu} {xs : List Dat} (hd : noCells ds = true) (h : φ [] ds [] = .ok (.cell 0) [some xs]) (hf : fres xs = true) (hn : noCells xs = true) : frameV φ κ ds m = .ok (.cell m.length) (m ++ [some xs]) := by
  unfold frameV
  rw [frA_no hd]
  simp only
  rw [h]
  show (match fre (Dat.cell 0) && (fres xs && frem []) with | true => _ | false => _) = _
  rw [hf]
  show R.ok (Dat.cell (m.length + 0)) (m ++ [some (shs m.length xs)]) = _
  rw [shs_no _ hn]
  rfl
theorem frame_exc {φ : Fv} {κ : Kp} {ds : List Dat} {m : Mu} {x : Ex} (hd : noCells ds = true) (h : φ [] ds [] = .exc x []) (hf : fres (x.ds) = true) (hn : noCells (x.ds) = true) : frameV φ κ ds m = .exc x m := by
  unfold frameV
  rw [frA_no hd]
  simp only
  rw [h]
  show (match fres (x.ds) && frem [] with | true => _ | false => _) = _
  rw [hf]
  show R.exc (shx m.length x) (m ++ shm m.length []) = _
  unfold shx
  rw [shs_no _ hn]
  show R.exc x (m ++ []) = _
  rw [List.append_nil]
end VM
namespace VM
open PySem PySem.Spec PyProof.Rows L2 DL LamX
/-! ### a function is made: it is tracked at once -/
section
variable {X : Cx} {pins : List (Addr × Obj)} {σ : L2.St} {H : Hp} {s : Shared}
theorem fkO_ok {P : Program} {w : World} {Hx : Hp} {h : Heap} {f c : Addr} {L : LamT} {cl : List (Str × Addr)} {od : Option Addr} {sl : Array (Option Value)} {doc pm ctv : Value} (e : h.get? f = some (⟨.type "function", od, .func (L.body.fd L cl c doc pm ctv), sl⟩ : Obj)) : ObjOk P w Hx h f (FkO f L cl c) :=
  ⟨⟨od, sl, doc, pm, ctv, e⟩, ⟨_, e⟩, fun h1 h2 ⟨a, b, c, d, g, q⟩ st => ⟨a, b, c, d, g, st _ q⟩⟩
/-- as LamX has it, with the function's place told -/
theorem make_clo {T : List (Addr × Str)} {cc Pt : Addr} {prm : Arguments} {bdy : Expr} {scp : Scope} {ps0 : Pos} {Er : Value → Shared → Prop} {Qr : Value → Shared → Prop} {L : LamT} (I : Inv X pins σ H s) (TB : TabB X.base X.mg cc Pt) (hco : X.env.code = .ref cc)
    (hL : L = ⟨"<lambda>", X.env.qual ++ "<lambda>", prm, .ex bdy, scp, [], L.fr⟩)
    (hmT : (Pt, L.qual) ∈ T) (huT : ∀ p ∈ T, p.1 = Pt → p.2 = L.qual) (hT : Tabs T H) (hd0 : defaultsOf prm X.env = ([], [])) (hfr : ∀ y ∈ scp.names, y.2 = .free → ∃ c, X.env.cells.lookup y.1 = some c)
    (go : ∀ (f c' : Addr) (H1 : Hp) (s' : Shared), Inv X pins σ (upd H1 f (FkO f L (cloFrom X.env.cells scp.names []) c')) s' → ExtN H H1 → Tabs T H1 → H1 f = none → H1 c' = some (CodeO c' L.qual) → Qr (.ref f) s') :
    wpAny (model X.prog X.w) X.A (eval (.Lambda prm bdy scp ps0) X.env) Qr Er s := by
  obtain ⟨qs, hP, tok, tall⟩ := hT _ hmT
  have bP := TB.bm.keeps I.bk
  have hPs : s.heap.get? Pt = some { cls := .none, data := .fields qs } := I.hok Pt _ hP
  have obj : ∀ (h : Heap) (c' f : Addr) (pm ctv : Value), h.get? f = some (PySem.W.kla_obj "<lambda>" (X.env.qual ++ "<lambda>") prm bdy scp (cloFrom X.env.cells scp.names []) pm c' ctv) → ∀ Hx, ObjOk X.prog X.w Hx h f (FkO f L (cloFrom X.env.cells scp.names []) c') := fun h c' f pm ctv e Hx => by
    refine fkO_ok (od := none) (sl := #[]) (doc := .none) (pm := pm) (ctv := ctv) ?_
    rw [e, hL]
    rfl
  have qn : L.qual = X.env.qual ++ "<lambda>" := by rw [hL]
  refine PySem.W.kla_eval hd0 ?_
  cases hca : codeAmong ps0 qs.toList with
  | some cv =>
    obtain ⟨c', ec, hcc⟩ := tall ps0 cv hca
    subst ec
    refine PySem.W.kla_makeFunctionHit (mg := X.mg) (c := cc) (P := Pt) (ps := qs) (closure_ok hfr) I.ok.glob (I.mod.glob.keeps I.bk) hco (TB.code.keeps I.bk) hPs tok hca bP fun ctv h' tk hx hsz => ?_
    have J := I.laid (t' := tk) (h' := h'.push (PySem.W.kla_obj "<lambda>" (X.env.qual ++ "<lambda>") prm bdy scp (cloFrom X.env.cells scp.names []) ((X.mg "__name__").getD .none) c' ctv)) (a := h'.objs.size) (o := FkO h'.objs.size L (cloFrom X.env.cells scp.names []) c')
      (fun b o e => Heap.get?_push_of_some _ (hx b o e)) hsz (obj _ c' _ _ ctv (Heap.get?_push_size _ rfl) _)
    exact go h'.objs.size c' H _ J (ExtN.refl H) hT (I.hok.fresh hsz) hcc
  | none =>
    refine PySem.W.kla_makeFunction (mg := X.mg) (c := cc) (P := Pt) (ps := qs) (closure_ok hfr) I.ok.glob (I.mod.glob.keeps I.bk) hco (TB.code.keeps I.bk) hPs tok hca TB.gP bP fun c' ctv h' tk hx hge hlt hrec htb => ?_
    obtain ⟨c2, oc, vs, t, e2, hoc, hd, hv⟩ := hrec
    cases e2
    have nC : H c' = none := I.hok.fresh hge
    have J0 := inv_table (t' := tk) (more := #[rawInt ps0.line, rawInt ps0.col, .ref c']) (h' := h') (q := L.qual) I hP (fun b o hb e => hx b o hb e) htb hge ⟨oc, vs, t, hoc, hd, by rw [hv, qn]⟩
    have hE : ExtN H (upd (upd H Pt (.tbl (qs ++ #[rawInt ps0.line, rawInt ps0.col, .ref c']))) c' (CodeO c' L.qual)) := fun b o e n => by
      have n1 : b ≠ c' := ne_of_none e nC
      have n2 : b ≠ Pt := fun z => by
        subst z
        rw [hP] at e
        exact n qs (Option.some.inj e).symm
      rw [upd_ne n1, upd_ne n2]
      exact e
    have eL : (qs ++ #[rawInt ps0.line, rawInt ps0.col, .ref c']).toList = qs.toList ++ [rawInt ps0.line, rawInt ps0.col, .ref c'] := by simp
    have hT1 : Tabs T (upd (upd H Pt (.tbl (qs ++ #[rawInt ps0.line, rawInt ps0.col, .ref c']))) c' (CodeO c' L.qual)) := fun p hp => by
      by_cases hb : p.1 = Pt
      · rw [huT p hp hb, hb]
        refine ⟨_, by rw [upd_ne (ne_of_none hP nC), upd_same], by rw [eL]; exact PySem.TriplesOk_snoc _ _ _ _ tok, fun p' cv hcv => ?_⟩
        rw [eL] at hcv
        rcases among_app _ tok hcv with z | z
        · obtain ⟨c0, e1, e2⟩ := tall p' cv z
          exact ⟨c0, e1, hE _ _ e2 codeO_ne⟩
        · exact ⟨c', z, upd_same⟩
      · obtain ⟨qs', a1, a2, a3⟩ := hT p hp
        refine ⟨qs', by rw [upd_ne (ne_of_none a1 nC), upd_ne hb]; exact a1, a2, fun p' cv hcv => ?_⟩
        obtain ⟨c0, e1, e2⟩ := a3 p' cv hcv
        exact ⟨c0, e1, hE _ _ e2 codeO_ne⟩
    have hn : upd (upd H Pt (.tbl (qs ++ #[rawInt ps0.line, rawInt ps0.col, .ref c']))) c' (CodeO c' L.qual) h'.objs.size = none := J0.hok.fresh (Nat.le_refl _)
    have J := J0.laid (t' := tk) (h' := h'.push (PySem.W.kla_obj "<lambda>" (X.env.qual ++ "<lambda>") prm bdy scp (cloFrom X.env.cells scp.names []) ((X.mg "__name__").getD .none) c' ctv)) (a := h'.objs.size) (o := FkO h'.objs.size L (cloFrom X.env.cells scp.names []) c')
      (fun b o e => Heap.get?_push_of_some _ e) (Nat.le_refl _) (obj _ c' _ _ ctv (Heap.get?_push_size _ rfl) _)
    exact go h'.objs.size c' _ _ J hE hT1 hn upd_same
end
section
variable {X : Cx} {c : Cc} {pos : Pos}
/-- a closure: the text l, its captured names at the places js of this frame's own level -/
def sClo (l : Nat) (js : List Nat) (κ : Kp) : Sm Dat := fun _ m => .ok (.clo l (js.map fun j => (κ.length, j))) m
/-- the frame's own captured cells stand as the last level -/
def OwnC (X : Cx) (c : Cc) (ys : List Str) : Prop := ∃ C0 : List (List Addr), C0.length = c.κ.length ∧ c.K.C = C0 ++ [ys.map fun y => (X.env.cells.lookup y).getD 0]
theorem own_at {ys : List Str} (h : OwnC X c ys) {j : Nat} {y : Str} {a : Addr} (hy : ys[j]? = some y) (ha : X.env.cells.lookup y = some a) : (c.K.C[c.κ.length]?.bind fun r => r[j]?) = some a := by
  obtain ⟨C0, h1, h2⟩ := h
  rw [h2, ← h1, List.getElem?_append_right (Nat.le_refl _), Nat.sub_self]
  show ((ys.map fun y => (X.env.cells.lookup y).getD 0)[j]?) = some a
  rw [List.getElem?_map, hy]
  show some ((X.env.cells.lookup y).getD 0) = _
  rw [ha]; rfl
theorem v_lam {ys : List Str} {l : Nat} {js : List Nat} {L : LamT} {cc Pt : Addr} {prm : Arguments} {bdy : Expr} {scp : Scope} (hO : OwnC X c ys) (hl : c.K.lam l = some L) (hL : L = ⟨"<lambda>", X.env.qual ++ "<lambda>", prm, .ex bdy, scp, [], L.fr⟩) (hjs : js.length = L.fr.length) (hj : ∀ (i : Nat) (y : Str) (j : Nat), L.fr[i]? = some y → js[i]? = some j → ys[j]? = some y)
    (TB : TabB X.base X.mg cc Pt) (hco : X.env.code = .ref cc) (hmT : (Pt, L.qual) ∈ c.K.T) (huT : ∀ p ∈ c.K.T, p.1 = Pt → p.2 = L.qual) (hd0 : defaultsOf prm X.env = ([], [])) (LS : LamS X.env.scope scp) (hfr : ∀ y ∈ scp.names, y.2 = .free → y.1 ∈ L.fr) (hfr2 : ∀ y ∈ L.fr, scp.names.lookup y = some .free) :
    PE X (.Lambda prm bdy scp pos) (RdE c (sClo l js c.κ)) := by
  constructor
  rintro pins s σ H Q I ⟨A, ρ, μ, t, h⟩
  have cm : ∀ {y a}, (cloFrom X.env.cells scp.names []).lookup y = some a → X.env.cells.lookup y = some a := fun {y a} e => by
    rcases cloFrom_mem (PySem.mem_of_lookup e) with hm | ⟨h1, h2⟩
    · cases hm
    · obtain ⟨a1, ha⟩ := LS.has I.ok _ h1 rfl
      have ha : X.env.cells.lookup y = some a1 := ha
      have e2 : a = a1 := by rw [h2, ha]; rfl
      rw [e2]
      exact ha
  refine make_clo I TB hco hL hmT huT t.sto.tabs hd0 (LS.has I.ok) fun f c' H1 s' J eN T1 hf hcc => ?_
  have e1 : Ext A H A H1 := ext_N eN
  have s1 := sto_N t.sto eN T1
  have e2 := ext_new (A := A) (o := FkO f L (cloFrom X.env.cells scp.names []) c') hf
  have s2 := s1.new (o := FkO f L (cloFrom X.env.cells scp.names []) c') hf
  refine ⟨.ref f, _, J, rfl, fin_ok h (e1.trans e2) s2 (.clo (c := c') (cl := cloFrom X.env.cells scp.names []) hl ⟨by rw [List.length_map, hjs], fun i y k hy hk => ?_, fun y a hy => ?_, fun x y a hx hy => ?_⟩ (hid_to upd_same (s1.fresh hf)) ?_)⟩
  · rw [List.getElem?_map] at hk
    cases hji : js[i]? with
    | none => rw [hji] at hk; cases hk
    | some j =>
      rw [hji] at hk
      cases hk
      have hm : (y, NameKind.free) ∈ scp.names := PySem.mem_of_lookup (hfr2 y (List.mem_of_getElem? hy))
      obtain ⟨a, ha⟩ := LS.has I.ok _ hm rfl
      obtain ⟨a2, ha2⟩ := mem_lookup (cloFrom_has (cells := X.env.cells) (acc := []) hm)
      have ea : a2 = a := by
        have ha : X.env.cells.lookup y = some a := ha
        have := cm ha2
        rw [ha] at this
        exact (Option.some.inj this).symm
      subst ea
      exact ⟨a2, ha2, own_at hO (hj i y j hy hji) ha⟩
  · rcases cloFrom_mem (PySem.mem_of_lookup hy) with hm | ⟨h1, h2⟩
    · cases hm
    · exact hfr _ h1 rfl
  · exact I.ok.inj x y a (cm hx) (cm hy)
  · have hc2 : upd H1 f (FkO f L (cloFrom X.env.cells scp.names []) c') c' = some (CodeO c' L.qual) := by rw [upd_ne (ne_of_none hcc hf)]; exact hcc
    exact hid_to hc2 (plain_ne s2 hc2 codeO_not1 codeO_not2)
end
end VM
namespace VM
open PySem PySem.Spec PyProof.Rows L2 DL LamX
/-! ### a function that is data is called -/
abbrev Lm := Nat → List (Option Dat) → Mu → R Dat
def capsOf (κ : Kp) (ks : List (Nat × Nat)) : Option (List (Option Dat)) := optAll (fun p => κ[p.1]?.bind fun r => r[p.2]?) ks
def sAct (LAM : Lm) (κ : Kp) (fe : Sm Dat) : Sm Dat := fun ρ m => (fe ρ m).bind fun d m1 => match d with
  | .clo l ks => (match capsOf κ ks with | some caps => LAM l caps m1 | none => .no)
  | _ => .no
abbrev cloEnv (L : LamT) (s : Shared) (f c' : Addr) (cl : List (Str × Addr)) : Env := PySem.W.envX L.qual L.scope s.heap.objs.size f (.ref c') cl
/-- the context of its body -/
def cloCx (P : Program) (w : World) (K : PySem.W.Frag) (mg : Str → Option Value) (base : Heap) (A : Around) (outer : List Env) (s : Shared) (H : Hp) (E : XK) (L : LamT) (f c' : Addr) (cl : List (Str × Addr)) : Cx where
  prog := P
  w := w
  K := K
  mg := mg
  base := base
  A := A.deeper (cloEnv L s f c' cl)
  N := L.fr
  s_0 := s
  H_0 := H
  env := cloEnv L s f c' cl
  outer := outer
  stack := cloEnv L s f c' cl :: outer
  ex := []
  fn := fun _ => false
  calm := true
  pn := []
  xe := fun e st => wpAny (model P w) (A.deeper (cloEnv L s f c' cl)) (leaving (cloEnv L s f c' cl) e) (fun _ st2 => L2N.CX P w outer H s E e st2) (fun e2 st2 => L2N.CX P w outer H s E e2 st2) st
/-- what the text l promises -/
structure LamF (P : Program) (w : World) (K : PySem.W.Frag) (mg : Str → Option Value) (base : Heap) (G : Gm) (gd : Bool) (k : Nat) (L : LamT) (e : Expr) (fe : Sm Dat) : Prop where
  body : L.body = .ex e
  kind : L.scope.kind = .function
  co : L.scope.isCoroutine = false
  gen : L.scope.isGenerator = false
  own : ∀ y ∈ L.scope.names, y.2 ≠ .local ∧ y.2 ≠ .cell
  free : ∀ y ∈ L.scope.names, y.2 = .free → y.1 ∈ L.fr
  bind : ∀ (cl : List (Str × Addr)) (pm cdv ctv : Value), bindArgs (PySem.W.kla_fn L.name L.qual L.params e L.scope cl pm cdv ctv) ⟨[], []⟩ = pure []
  run : ∀ (A : Around) (outer : List Env) (s : Shared) (H : Hp) (E : XK) (f c' : Addr) (cl : List (Str × Addr)) (C : List (List Addr)), (gd = true → A.guards = some []) → Room k (A.deeper (cloEnv L s f c' cl)) → PE (cloCx P w K mg base A outer s H E L f c' cl) e (RdE (eC (gmC G C) E []) fe)
theorem ex_list {β : Type} {Pr : Nat → β → Prop} : ∀ n : Nat, (∀ i, i < n → ∃ x, Pr i x) → ∃ l : List β, l.length = n ∧ ∀ i x, l[i]? = some x → Pr i x
  | 0, _ => ⟨[], rfl, fun i x h => by simp at h⟩
  | n + 1, h => by
    obtain ⟨l, h1, h2⟩ := ex_list n fun i hi => h i (Nat.lt_succ_of_lt hi)
    obtain ⟨x, hx⟩ := h n (Nat.lt_succ_self n)
    refine ⟨l ++ [x], by rw [List.length_append, h1]; rfl, fun i y hy => ?_⟩
    by_cases c : i < n
    · rw [List.getElem?_append_left (by omega)] at hy
      exact h2 i y hy
    · rw [List.getElem?_append_right (by omega), h1] at hy
      have z : i - n = 0 := by
        have := (List.getElem?_eq_some_iff.mp hy).1
        simp at this; omega
      rw [z] at hy
      have e1 : i = n := by omega
      subst e1
      cases hy
      exact hx
theorem optAll_get {α β : Type} {f : α → Option β} : ∀ {xs : List α} {ys : List β} {i : Nat} {x : α}, optAll f xs = some ys → xs[i]? = some x → ∃ y, f x = some y ∧ ys[i]? = some y
  | [], _, _, _, _, hx => by simp at hx
  | x0 :: xs, ys, i, x, h, hx => by
    unfold optAll at h
    split at h
    · cases h
    · rename_i y hy
      split at h
      · cases h
      · rename_i zs hz
        cases h
        cases i with
        | zero =>
          simp at hx
          subst hx
          exact ⟨y, hy, rfl⟩
        | succ i =>
          obtain ⟨u, h1, h2⟩ := optAll_get (i := i) hz (by simpa using hx)
          exact ⟨u, h1, by simpa using h2⟩
section
variable {P : Program} {w : World} {K : PySem.W.Frag} {mg : Str → Option Value} {base : Heap} {A : Around} {outer : List Env} {s : Shared} {H : Hp} {E : XK} {L : LamT} {f c' : Addr} {cl : List (Str × Addr)}
theorem clo_start {σ : L2.St} {h₁ : Heap} {tk : Nat} (e0 : Env0 P w K mg base A outer s H) (hd : A.handled = none) (hk : L.scope.kind = .function) (hown : ∀ y ∈ L.scope.names, y.2 ≠ .local ∧ y.2 ≠ .cell) (has : ∀ y ∈ L.scope.names, y.2 = .free → ∃ c, cl.lookup y.1 = some c) (inj : ∀ x y c, cl.lookup x = some c → cl.lookup y = some c → x = y)
    (cells : ∀ y c, cl.lookup y = some c → H c = none ∧ ∃ v, s.heap.IsCell c v) (vals : ∀ (i : Nat) (y : Str) (v : V), L.fr[i]? = some y → σ[i]? = some (some v) → ∃ c u, cl.lookup y = some c ∧ s.heap.IsCell c (some u) ∧ RelV v u) (hlen : σ.length = L.fr.length)
    (hns : h₁.Ns s.heap.objs.size fun y => ([] : List (Str × Value)).reverse.lookup y) (kp : ∀ b o, s.heap.get? b = some o → h₁.get? b = some o) :
    L2.Inv (cloCx P w K mg base A outer s H E L f c' cl) [] σ H { s with heap := h₁, toks := tk } := by
  have noA : ∀ b : Addr, b ∉ (cloCx P w K mg base A outer s H E L f c' cl).ex := fun b z => absurd (show b ∈ ([] : List Addr) from z) (by simp)
  have ck : ∀ {c : Addr} {v : Option Value}, s.heap.IsCell c v → h₁.IsCell c v := fun ⟨o, ho, hd⟩ => ⟨o, kp _ _ ho, hd⟩
  have ok : (cloCx P w K mg base A outer s H E L f c' cl).Ok := {
    mod := e0.mod, kind := hk, glob := rfl, blt := rfl, above := Nat.le_refl _, inj := inj
    has := fun y hy => by
      have hy : L.scope.names.lookup y = some .cell ∨ L.scope.names.lookup y = some .free := hy
      rcases hy with hy | hy
      · exact absurd rfl (hown _ (PySem.mem_of_lookup hy)).2
      · exact has _ (PySem.mem_of_lookup hy) rfl
    cab := fun y c z _ => by
      have z : false = true := z
      cases z
    hd := fun _ => hd, frames := Around.frames_deeper e0.frames, stk := .inr ⟨rfl, rfl⟩, exf := fun b z => absurd z (noA b)
    bs := e0.bs, bsz := e0.bsz, noex := fun b _ _ => noA b, exfs := fun b z => absurd z (noA b), funs := e0.funs, frf := e0.frf }
  exact {
    ok := ok, os := rfl, bare := e0.bare, base := Un.kept kp
    loc := ⟨_, hns, fun i y v e1 e2 e3 => by
      have e3 : Vis L.scope y := e3
      rcases e3 with k | k | k
      · exact absurd rfl (hown _ (PySem.mem_of_lookup k)).1
      · exact absurd rfl (hown _ (PySem.mem_of_lookup k)).2
      · obtain ⟨c, u, h1, h2, h3⟩ := vals i y v e1 e2
        exact ⟨u, h3, .inr ⟨.inr k, c, h1, ck h2⟩⟩⟩
    cell := fun y c e => by
      obtain ⟨v, z⟩ := (cells y c e).2
      exact ⟨v, ck z⟩
    free := e0.hok.fresh (Nat.le_refl _)
    freeC := fun y c e => (cells y c e).1
    pin := fun q hq => absurd (show q ∈ ([] : List (Addr × Obj)) ++ [] from hq) (by simp)
    hok := e0.hok.kept kp, len := hlen }
end
section
variable {X : Cx} {c : Cc} {p1 p2 : Pos} {a : Str} {fe : Sm Dat} {G : Gm} {LAM : Lm} {gd : Bool} {k : Nat}
theorem v_act (HL : ∀ l L, c.K.lam l = some L → ∃ e fl, LamF X.prog X.w X.K X.mg X.base G gd k L e fl ∧ ∀ caps m, LAM l caps m = fl caps m) (hGm : c.K = gmC G c.K.C) (hK : X.K = c.K.K) (tk : L2N.Takes X c.W) (hG : gd = true → X.A.guards = some []) (hr : Room (k + 1) X.A) (ha : PE X (.Name a p1) (RdE c fe)) :
    PE X (.Call (.Name a p1) [] [] p2) (RdE c (sAct LAM c.κ fe)) := by
  constructor
  rintro pins s σ0 H Q I ⟨A, ρ, μ, t, h⟩
  apply wpAny_Call_Name_kw
  refine thn (ha.run pins s σ0 H _ I ⟨A, ρ, μ, t, fin_bind (rel := rD c) h⟩) ?_
  rintro u s1 ⟨v, H1, I1, r1, A1, d, m1, q1, e1, s1', x1, h1⟩
  cases d with
  | clo l ks =>
    simp only at h1
    cases qc : capsOf c.κ ks with
    | none => rw [qc] at h1; exact h1.elim
    | some caps =>
      rw [qc] at h1
      simp only at h1
      have t1 := t.next e1 s1'
      cases x1 with
      | @clo f c' _ _ L cl hl cp hf hc =>
        cases (show u = Value.ref f from r1)
        obtain ⟨e, fl, F, hfl⟩ := HL l L hl
        rw [hfl] at h1
        obtain ⟨⟨od, sl, doc, pm, ctv, of1⟩, _, _⟩ := I1.hok f _ (hid_of hf).1
        have efd : L.body.fd L cl c' doc pm ctv = PySem.W.kla_fn L.name L.qual L.params e L.scope cl pm (.ref c') ctv := by rw [F.body]; rfl
        rw [efd] at of1
        refine PySem.W.callWith_F0 ⟨_, _, _, _, of1⟩ ?_
        obtain ⟨⟨oco, fvs, tko, hoc, hdc, hvc⟩, _, _⟩ := I1.hok c' _ (hid_of hc).1
        have hlen := cp.len
        -- the captured cells, their contents
        obtain ⟨l0, n0, P0⟩ := ex_list (β := (Addr × Obj) × Option V) (Pr := fun i p => ∃ y w, L.fr[i]? = some y ∧ cl.lookup y = some p.1.1 ∧ hid A1 H1 p.1.1 = some (.frz p.1.2 (.own p.1.1)) ∧ p.1.2.data = .cell w ∧ (∀ v, p.2 = some v → ∃ u, w = some u ∧ RelV v u) ∧ ∀ d, caps[i]? = some (some d) → ∃ v, p.2 = some v ∧ Dn c.K A1 H1 v d) L.fr.length fun i hi => by
          obtain ⟨y, hy⟩ : ∃ y, L.fr[i]? = some y := ⟨_, List.getElem?_eq_getElem hi⟩
          obtain ⟨kk, hk⟩ : ∃ kk, ks[i]? = some kk := ⟨_, List.getElem?_eq_getElem (by rw [hlen]; exact hi)⟩
          obtain ⟨a1, g1, g2⟩ := cp.at_ i y kk hy hk
          obtain ⟨o, g3, g4⟩ := optAll_get qc hk
          obtain ⟨a2, ob, w, f1, f2, f3, f4⟩ := t1.kap kk.1 kk.2 o g3
          rw [g2] at f1
          cases f1
          cases o with
          | none => exact ⟨((a1, ob), none), y, w, hy, g1, f2, f3, (fun v z => nomatch z), (fun d z => by rw [g4] at z; cases z)⟩
          | some d =>
            obtain ⟨v, u, z1, z2, z3⟩ := f4 d rfl
            exact ⟨((a1, ob), some v), y, w, hy, g1, f2, f3, (fun v' z => by cases z; exact ⟨u, z1, z2⟩), (fun d' z => by rw [g4] at z; cases z; exact ⟨v, rfl, z3⟩)⟩
        obtain ⟨ps, eps⟩ : ∃ ps : List (Addr × Obj), ps = l0.map (·.1) := ⟨_, rfl⟩
        have hmem : ∀ p ∈ ps, H1 p.1 = some (.frz p.2 (.own p.1)) := fun p hp => by
          rw [eps] at hp
          obtain ⟨q, hq, rfl⟩ := List.mem_map.mp hp
          obtain ⟨i, hi⟩ := List.mem_iff_getElem?.mp hq
          obtain ⟨y, w, _, _, g, _⟩ := P0 i q hi
          exact (hid_of g).1
        have hcs : ∀ b ∈ ps.map (·.1), ∃ ob, H1 b = some (.frz ob (.own b)) := fun b hb => by
          obtain ⟨p, hp, rfl⟩ := List.mem_map.mp hb
          exact ⟨_, hmem p hp⟩
        have look : ∀ y b, cl.lookup y = some b → b ∈ ps.map (·.1) := fun y b hy => by
          obtain ⟨i, hi⟩ := List.mem_iff_getElem?.mp (cp.all y b hy)
          have hil : i < L.fr.length := (List.getElem?_eq_some_iff.mp hi).1
          obtain ⟨p, hp⟩ : ∃ p, l0[i]? = some p := ⟨_, List.getElem?_eq_getElem (by rw [n0]; exact hil)⟩
          obtain ⟨y2, w, g0, g1, _⟩ := P0 i p hp
          rw [hi] at g0
          cases g0
          rw [hy] at g1
          cases g1
          exact List.mem_map.mpr ⟨p.1, by rw [eps]; exact List.mem_map.mpr ⟨p, List.mem_of_getElem? hp, rfl⟩, rfl⟩
        have al : Alike A1 H1 (cutH (ps.map (·.1)) H1) := alike_cut s1' hcs
        have nfr : ∀ b ∈ frs X.stack, b ∉ ps.map (·.1) := fun b hb z => by
          obtain ⟨ob, q⟩ := hcs b z
          rw [I1.stkFree b hb] at q
          cases q
        have e02 : Env0 X.prog X.w X.K X.mg X.base X.A X.stack s1 (cutH (ps.map (·.1)) H1) := by
          have e0 := I1.env0
          exact { frames := e0.frames, mod := e0.mod, bs := fun b o q => ⟨(e0.bs b o q).1, by
                    by_cases z : b ∈ ps.map (·.1)
                    · exact cut_in z
                    · rw [cut_out z]; exact (e0.bs b o q).2⟩, bsz := e0.bsz, funs := e0.funs, frf := fun b hb => by rw [cut_out (nfr b hb)]; exact e0.frf b hb, hok := hok_cut e0.hok hcs, bare := e0.bare }
        have step : codeAny (model X.prog X.w) X.A (.call (.ref f) ⟨[], []⟩) (CR (L2N.CX X.prog X.w) X.stack X.prog X.w (cutH (ps.map (·.1)) H1) s1 (fun v H' => (∀ p ∈ ps, H' p.1 = none) → Q v (addH (ps) H')) (fun cls dd H' => (∀ p ∈ ps, H' p.1 = none) → c.W cls dd σ0 (addH (ps) H'))) s1 := by
          refine PySem.W.kla_callFunE hr.depth of1 rfl F.co F.gen rfl ⟨c', oco, fvs, tko, rfl, hoc, hdc, hvc⟩ ?_
          rw [F.bind]
          apply wpAny_pure
          refine wpAny_newFunctionEnv (fun z hz => (F.own z hz).2) (fun z hz => nomatch hz) ?_ F.kind
          intro h₁ hns hsb
          refine ⟨I1.nolimit.fresh _ hsb, ?_⟩
          have kp : ∀ z w, s1.heap.get? z = some w → h₁.get? z = some w := by
            intro z w hw
            exact hsb.extBut z w (Nat.ne_of_lt (Heap.lt_size hw)) (Heap.get?_push_of_some _ hw)
          have J := clo_start (E := fun cls dd H' => (∀ p ∈ ps, H' p.1 = none) → c.W cls dd σ0 (addH (ps) H')) (f := f) (c' := c') (cl := cl) (L := L) (σ := l0.map (·.2)) (tk := s1.toks) (h₁ := h₁) e02 hr.hd F.kind F.own
            (fun y hy e => by
              obtain ⟨i, hi⟩ := List.mem_iff_getElem?.mp (F.free y hy e)
              have hil : i < L.fr.length := (List.getElem?_eq_some_iff.mp hi).1
              obtain ⟨kk, hk⟩ : ∃ kk, ks[i]? = some kk := ⟨_, List.getElem?_eq_getElem (by rw [hlen]; exact hil)⟩
              obtain ⟨a1, g1, _⟩ := cp.at_ i y.1 kk hi hk
              exact ⟨a1, g1⟩) cp.inj
            (fun y b hy => ⟨cut_in (look y b hy), by
              obtain ⟨p, hp, e⟩ := List.mem_map.mp (look y b hy)
              rw [eps] at hp
              obtain ⟨q, hq, e2⟩ := List.mem_map.mp hp
              obtain ⟨i, hi⟩ := List.mem_iff_getElem?.mp hq
              obtain ⟨y2, w, _, _, g, g2, _⟩ := P0 i q hi
              subst e2
              subst e
              exact ⟨w, _, (I1.hok _ _ (hid_of g).1).1, g2⟩⟩)
            (fun i y v hy hv => by
              rw [List.getElem?_map] at hv
              cases hq : l0[i]? with
              | none => rw [hq] at hv; cases hv
              | some q =>
                rw [hq] at hv
                have hv : q.2 = some v := Option.some.inj hv
                obtain ⟨y2, w, g0, g1, g, g2, g3, _⟩ := P0 i q hq
                rw [hy] at g0
                cases g0
                obtain ⟨u, z1, z2⟩ := g3 v hv
                subst z1
                exact ⟨_, u, g1, ⟨_, (I1.hok _ _ (hid_of g).1).1, g2⟩, z2⟩)
            (by rw [List.length_map, n0]) hns kp
          refine PySem.W.kla_codeExpr (wpAny_mono ((F.run X.A X.stack s1 (cutH (ps.map fun q : Addr × Obj => q.1) H1) (fun cls dd H' => (∀ p ∈ ps, H' p.1 = none) → c.W cls dd σ0 (addH (ps) H')) f c' cl c.K.C hG (hr.deeper _)).run [] _ _ _ (fun v H' => (∀ p ∈ ps, H' p.1 = none) → Q v (addH (ps) H')) J ?_) ?_ fun e s' hq => hq)
          · refine ⟨A1, caps, m1, ⟨?_, ⟨by rw [List.length_map, n0, ← hlen]; exact (optAll_len qc).symm, fun i d hd => ?_⟩, fun l j o q => by simp at q, trivial⟩, ?_⟩
            · rw [← hGm]; exact Sto.alike s1' al (tabs_cut s1'.tabs hcs)
            · have hil : i < caps.length := (List.getElem?_eq_some_iff.mp hd).1
              obtain ⟨q, hq⟩ : ∃ q, l0[i]? = some q := ⟨_, List.getElem?_eq_getElem (by rw [n0, ← hlen, ← optAll_len qc]; exact hil)⟩
              obtain ⟨y2, w, _, _, _, _, _, g⟩ := P0 i q hq
              obtain ⟨v, z1, z2⟩ := g d hd
              refine ⟨v, by rw [List.getElem?_map, hq]; exact congrArg some z1, ?_⟩
              rw [← hGm]
              exact Dn.alike al z2
            · rw [← hGm]
              have back : ∀ {A' : As} {H' : Hp} {m : Mu}, Ext A1 (cutH (ps.map (·.1)) H1) A' H' → Sto c.K A' H' m → (∀ p ∈ ps, H' p.1 = none) → Ext A1 H1 A' (addH (ps) H') ∧ Sto c.K A' (addH (ps) H') m ∧ Alike A' H' (addH (ps) H') := fun {A' H' m} ex st hn => by
                have al2 := alike_add st hn
                refine ⟨⟨fun b o hb nt => ?_, ex.cells, fun k b hb hb2 ⟨xs, hx⟩ => ?_, fun k b hb hb2 ⟨xs, hx⟩ => ?_⟩, Sto.alike st al2 (tabs_add st.tabs hn), al2⟩
                · obtain ⟨w1, w2⟩ := hid_of hb
                  by_cases z : b ∈ ps.map (·.1)
                  · obtain ⟨o2, f1, f2⟩ := add_in (H := H') z
                    have f3 := hmem _ f2
                    rw [w1] at f3
                    refine hid_to (by rw [f1, ← Option.some.inj f3]) fun zz => ?_
                    obtain ⟨j, hj⟩ := List.mem_iff_getElem?.mp zz
                    obtain ⟨o3, f4⟩ := (st.at_ j b hj).has
                    have f5 : H' b = none := hn (b, o2) f2
                    rw [f5] at f4
                    cases f4
                  · obtain ⟨w3, w4⟩ := hid_of (ex.keep b o (hid_to (by rw [cut_out z]; exact w1) w2) nt)
                    exact hid_to (by rw [add_out z]; exact w3) w4
                · have z : b ∉ ps.map (·.1) := fun z => by
                    obtain ⟨ob, q⟩ := hcs b z
                    rw [hx] at q; cases q
                  rw [add_out z]
                  exact ex.kl k b hb hb2 ⟨xs, by rw [cut_out z]; exact hx⟩
                · have z : b ∉ ps.map (·.1) := fun z => by
                    obtain ⟨ob, q⟩ := hcs b z
                    rw [hx] at q; cases q
                  rw [add_out z]
                  exact ex.kd k b hb hb2 ⟨xs, by rw [cut_out z]; exact hx⟩
              cases qf : fl caps m1 with
              | no => rw [qf] at h1; exact h1.elim
              | ok d m =>
                rw [qf] at h1
                intro A' H' v ex st x hn
                obtain ⟨b1, b2, b3⟩ := back ex st hn
                exact h1 A' _ v b1 b2 (Dn.alike b3 x)
              | exc x m =>
                rw [qf] at h1
                intro A' H' cls dd ex st xn hn
                obtain ⟨b1, b2, b3⟩ := back ex st hn
                exact h1 A' _ cls dd b1 b2 (Xn.alike xn b3)
          · rintro v s' ⟨y, H2, J2, rv, q⟩
            exact ⟨y, H2, J2.os, J2.bare, J2.base, J2.hok, rv, q⟩
        have gob : ∀ p ∈ ps, s1.heap.get? p.1 = some p.2 := fun p hp => (I1.hok _ _ (hmem p hp)).1
        have cut0 : ∀ p ∈ ps, cutH (ps.map (·.1)) H1 p.1 = none := fun p hp => cut_in (List.mem_map.mpr ⟨p, hp, rfl⟩)
        have nst : ∀ p ∈ ps, p.1 ∉ frs X.stack := fun p hp z => nfr _ z (List.mem_map.mpr ⟨p, hp, rfl⟩)
        refine wpAny_call (codeAny_mono step fun r s' hq => ?_)
        cases r with
        | error er =>
          obtain ⟨ea, B, H', cls, dd, eu, fz, hk2, ub, na, os, bare, w⟩ := hq
          have hn : ∀ p ∈ ps, H' p.1 = none := fun p hp => ub.free _ _ (gob p hp) (cut0 p hp)
          have hB : ∀ p ∈ ps, B.get? p.1 = some p.2 := fun p hp => ub.keep _ _ (gob p hp) (cut0 p hp) (nst p hp)
          have hx : L2N.CX X.prog X.w X.stack H1 s1 (WE c.W σ0) er s' := ⟨ea, B, addH (ps) H', cls, dd, eu, fz, hok_add hk2 hn hB, ub_add ub hmem, (by
            rw [add_out]
            · exact na
            · intro z
              obtain ⟨p, hp, e⟩ := List.mem_map.mp z
              have := hB p hp
              rw [e, fz.2.1] at this
              cases this), os, bare, w hn⟩
          exact L2N.passAt tk σ0 pins H1 s1 er s' I1 hx
        | ok flw =>
          cases flw with
          | ret u =>
            obtain ⟨v, H', os, bare, un, hk2, rv, q⟩ := hq
            have hn : ∀ p ∈ ps, H' p.1 = none := fun p hp => un.free _ _ (gob p hp) (cut0 p hp) (by simp)
            have hB : ∀ p ∈ ps, s'.heap.get? p.1 = some p.2 := fun p hp => un.keep _ _ (gob p hp) (cut0 p hp) (nst p hp) (by simp)
            exact I1.after ⟨v, addH (ps) H', os, bare, un_add un hmem, hok_add hk2 hn hB, rv, q hn⟩
          | next => exact hq.elim
          | brk => exact hq.elim
          | cont => exact hq.elim
  | _ => exact h1.elim
end
end VM
namespace VM
open PySem PySem.Spec PyProof.Rows L2 DL LamX
/-! ### frames that make functions -/
mutual
def ncl : Dat → Bool
  | .clo _ _ => false
  | .tup xs => ncls xs
  | .lst xs => ncls xs
  | .dct _ xs => ncls xs
  | .dst _ xs => ncls xs
  | .obj _ xs => ncls xs
  | _ => true
def ncls : List Dat → Bool
  | [] => true
  | d :: ds => ncl d && ncls ds
end
def nclm : Mu → Bool
  | [] => true
  | some xs :: m => ncls xs && nclm m
  | none :: m => nclm m
def nclr : List (Option Dat) → Bool
  | [] => true
  | some d :: r => ncl d && nclr r
  | none :: r => nclr r
section
variable {G : Gm} {C C2 : List (List Addr)} {A : As} {H : Hp} {μ : Mu}
mutual
theorem Dn.reC : ∀ {v : V} {d : Dat}, ncl d = true → Dn (gmC G C) A H v d → Dn (gmC G C2) A H v d
  | _, _, _, .non => .non
  | _, _, _, .bl b => .bl b
  | _, _, _, .int i => .int i
  | _, _, _, .str x => .str x
  | _, _, n, .tup h t => .tup h (Dns.reC (by rw [ncl] at n; exact n) t)
  | _, _, n, .lst h t => .lst h (Dns.reC (by rw [ncl] at n; exact n) t)
  | _, _, _, .cell h l => .cell h l
  | _, _, _, .dcell h l => .dcell h l
  | _, _, _, .dead h => .dead h
  | _, _, _, .deadD h => .deadD h
  | _, _, _, .key h => .key h
  | _, _, n, .dct h t => .dct h (Dns.reC (by rw [ncl] at n; exact n) t)
  | _, _, n, .obj c f h t => .obj (K := gmC G C2) c f h (Dns.reC (by rw [ncl] at n; exact n) t)
  | _, _, n, .clo _ _ _ _ => by simp [ncl] at n
  | _, _, _, .fn i => .fn (K := gmC G C2) i
theorem Dns.reC : ∀ {vs : List V} {ds : List Dat}, ncls ds = true → Dns (gmC G C) A H vs ds → Dns (gmC G C2) A H vs ds
  | _, _, _, .nil => .nil
  | _, _, n, .cons h t => .cons (Dn.reC (by rw [ncls, Bool.and_eq_true] at n; exact n.1) h) (Dns.reC (by rw [ncls, Bool.and_eq_true] at n; exact n.2) t)
end
theorem nclm_at : ∀ {m : Mu} {k : Nat} {xs : List Dat}, nclm m = true → m[k]? = some (some xs) → ncls xs = true
  | [], _, _, _, e => by simp at e
  | some ys :: m, 0, xs, h, e => by
    rw [nclm, Bool.and_eq_true] at h
    simp at e; subst e; exact h.1
  | some ys :: m, k + 1, xs, h, e => by
    rw [nclm, Bool.and_eq_true] at h
    exact nclm_at h.2 (by simpa using e)
  | none :: m, 0, xs, h, e => by simp at e
  | none :: m, k + 1, xs, h, e => nclm_at (by rw [nclm] at h; exact h) (by simpa using e)
theorem nclr_at : ∀ {r : List (Option Dat)} {k : Nat} {d : Dat}, nclr r = true → r[k]? = some (some d) → ncl d = true
  | [], _, _, _, e => by simp at e
  | some y :: m, 0, d, h, e => by
    rw [nclr, Bool.and_eq_true] at h
    simp at e; subst e; exact h.1
  | some y :: m, k + 1, d, h, e => by
    rw [nclr, Bool.and_eq_true] at h
    exact nclr_at h.2 (by simpa using e)
  | none :: m, 0, d, h, e => by simp at e
  | none :: m, k + 1, d, h, e => nclr_at (by rw [nclr] at h; exact h) (by simpa using e)
theorem Sto.reC (n : nclm μ = true) (s : Sto (gmC G C) A H μ) : Sto (gmC G C2) A H μ :=
  ⟨s.len, s.dead, fun k a q => by
    rcases s.at_ k a q with ⟨xs, ds, h1, h2, h3⟩ | ⟨kvs, ds, h1, h2, h3⟩
    · exact .inl ⟨xs, ds, h1, h2, Dns.reC (nclm_at n h2) h3⟩
    · have z := nclm_at n h2
      exact .inr ⟨kvs, ds, h1, h2, Dns.reC (by rw [ncls, ncl, Bool.and_eq_true] at z; exact z.1) h3⟩, s.inj, s.tabs⟩
end
def makeR : R Dat → R Dat
  | .ok d m => (match ncl d && nclm m with | true => .ok d m | false => .no)
  | .exc x m => (match ncls x.ds && nclm m with | true => .exc x m | false => .no)
  | .no => .no
def makeV (φ : Fv) : Fv := fun κ ds m => match ncls ds && (nclm m && κ.all nclr) with
  | true => makeR (φ κ ds m)
  | false => .no
section
variable {P : Program} {w : World} {mg : Str → Option Value} {base : Heap}
theorem fin_close {c : Cc} {σ : L2.St} {A : As} {H : Hp} {μ : Mu} {r : R Dat} {Q : VK} (s : Sto c.K A H μ) (h : Fin c σ A H (closeR μ.length r) (rD c) Q) : Fin c σ A H r (rD c) Q := by
  have cc : ∀ {A' : As} (k : Nat), k < μ.length → ∀ o, A'[k]? = some o → (A'.take μ.length)[k]? = some o := fun k hk o q => by rw [List.getElem?_take_of_lt hk]; exact q
  have lA : A.length ≤ μ.length := by rw [s.len]; exact Nat.le_refl _
  cases r with
  | no => exact h
  | ok d m =>
    unfold closeR at h
    simp only at h
    by_cases z : μ.length ≤ m.length ∧ cb μ.length d = true ∧ stb μ.length (m.take μ.length) = true
    · rw [if_pos z] at h
      intro A' H' v e st y
      exact h (A'.take μ.length) H' v (ext_cut lA e) (sto_cut st z.1 z.2.2) (Dn.cut hid_take cc z.2.1 y)
    · rw [if_neg z] at h
      cases d with
      | cell k =>
        simp only at h
        cases ql : lv m (.cell k) with
        | none => rw [ql] at h; exact h
        | some xs =>
          rw [ql] at h
          simp only at h
          by_cases z2 : μ.length ≤ m.length ∧ μ.length ≤ k ∧ cbs μ.length xs = true ∧ stb μ.length (m.take μ.length) = true
          · rw [if_pos z2] at h
            intro A' H' v e st y
            obtain ⟨a, us, rfl, hk, hH, t⟩ := st.cell y (cell_eq ql)
            have le : μ.length ≤ A'.length := by rw [st.len]; exact z2.1
            refine h (A'.take μ.length ++ [some a]) H' (.ref a) (ext_keep le lA hk e) (sto_keep st z2.1 z2.2.2.2 z2.2.1 hk (cell_eq ql) ⟨_, hH⟩ z2.2.2.1) (.cell ?_ ⟨_, hH⟩)
            rw [List.getElem?_append_right (by rw [List.length_take]; omega)]
            have e0 : (A'.take μ.length).length = μ.length := by rw [List.length_take]; omega
            rw [e0, Nat.sub_self]; rfl
          · rw [if_neg z2] at h; exact h
      | _ => exact h
  | exc e0 m =>
    unfold closeR at h
    simp only at h
    by_cases z : μ.length ≤ m.length ∧ cbs μ.length e0.ds = true ∧ stb μ.length (m.take μ.length) = true
    · rw [if_pos z] at h
      intro A' H' cls dd e st xn
      obtain ⟨h1, a, fs, h2, h3, h4, h5⟩ := xn
      exact h (A'.take μ.length) H' cls dd (ext_cut lA e) (sto_cut st z.1 z.2.2) ⟨h1, a, fs, h2, hid_take _ _ h3, h4, Dns.cut hid_take cc z.2.1 h5⟩
    · rw [if_neg z] at h; exact h
/-- the levels as far as they are told, then the frame's own -/
def lvls (κ : Kp) (C : List (List Addr)) (own : List Addr) : List (List Addr) := (List.range κ.length).map (fun l => (C[l]?).getD []) ++ [own]
theorem kap_lvls {G : Gm} {C : List (List Addr)} {own : List Addr} {A : As} {H : Hp} {κ : Kp} (n : κ.all nclr = true) (h : Kap (gmC G C) A H κ) : Kap (gmC G (lvls κ C own)) A H κ := fun l j o q => by
  obtain ⟨c, ob, w, h1, h2, h3, h4⟩ := h l j o q
  have hl : l < κ.length := by
    cases z : κ[l]? with
    | none => rw [z] at q; cases q
    | some r => exact (List.getElem?_eq_some_iff.mp z).1
  refine ⟨c, ob, w, ?_, h2, h3, fun d hd => ?_⟩
  · have e : (lvls κ C own)[l]? = some ((C[l]?).getD []) := by
      unfold lvls
      rw [List.getElem?_append_left (by simpa using hl), List.getElem?_map, List.getElem?_range hl]
      rfl
    show ((lvls κ C own)[l]?.bind fun r => r[j]?) = some c
    rw [e]
    cases z : C[l]? with
    | none => rw [show (gmC G C).C[l]? = C[l]? from rfl, z] at h1; cases h1
    | some r => rw [show (gmC G C).C[l]? = C[l]? from rfl, z] at h1; exact h1
  · obtain ⟨v, u, g1, g2, g3⟩ := h4 d hd
    refine ⟨v, u, g1, g2, Dn.reC ?_ g3⟩
    subst hd
    cases z : κ[l]? with
    | none => rw [z] at q; cases q
    | some r =>
      rw [z] at q
      exact nclr_at (List.all_eq_true.mp n r (List.mem_of_getElem? z)) q
theorem okVLc {G : Gm} {x qual : Str} {st : Stmt} {f : Addr} {kV doc pm cdv ct oc : Value} {an od : Option Addr} {osl : Array (Option Value)} {N ps : List Str} {gd : Bool} {k : Nat} {ss : Kp → SS} (ys : List Str)
    (lk : G.K.lookup f = some ⟨oc, od, .func (PySem.W.fnOf x qual (defArgs st) (defBody st) (defScope st) .none kV doc pm an cdv ct), osl⟩) (hcd : PySem.W.codeIn G.K cdv qual = true) (S : FnScope N ps (defScope st))
    (body : ∀ (C : List (List Addr)) (κ : Kp) (A : Around) (outer : List PySem.Env) (s : Shared) (H : Hp) (E : XK), (gd = true → A.guards = some []) → Room k (A.deeper (envOfC qual (defScope st) s.heap.objs.size f cdv)) →
      PSs (cxOf (L2N.CX P w) P w G.K mg base N qual (defScope st) f cdv A outer s H E) (defBody st) (RdS (eC (gmC G (lvls κ C (ys.map fun y => ((envOfC qual (defScope st) s.heap.objs.size f cdv).cells.lookup y).getD 0))) E κ) (ss κ))) :
    FnV P w G.K mg base gd (k + 1) f (PySem.W.fnOf x qual (defArgs st) (defBody st) (defScope st) .none kV doc pm an cdv ct) ps (spV G (makeV (closeV (bodyV N.length ss))) ps.length) := by
  have len : ∀ vs H Q E, spV G (makeV (closeV (bodyV N.length ss))) ps.length vs H Q E → vs.length = ps.length := fun vs H Q E ⟨C, A, μ, ds, κ, hl, _, _, x, _⟩ => by rw [x.length, hl]
  refine ⟨len, fun A outer s H args us vs Q E hG hr e0 hb rv hsp => ?_⟩
  refine run_ofS (N := N) (ps := ps) lk hcd S hr e0 hb rv (len _ _ _ _ hsp) fun hr' => ?_
  obtain ⟨C, A1, μ, ds, κ, hl, s1, kp, x1, h⟩ := hsp
  unfold makeV at h
  split at h
  · rename_i hn
    rw [Bool.and_eq_true, Bool.and_eq_true] at hn
    have s2 : Sto (gmC G (lvls κ C (ys.map fun y => ((envOfC qual (defScope st) s.heap.objs.size f cdv).cells.lookup y).getD 0))) A1 H μ := Sto.reC hn.2.1 s1
    refine ⟨_, body C κ A outer s H E hG hr', A1, startR N.length ds, μ, ⟨s2, env_start (Dns.reC hn.1 x1), kap_lvls hn.2.2 kp, trivial⟩, ?_⟩
    have h0 : Fin (eC (gmC G (lvls κ C (ys.map fun y => ((envOfC qual (defScope st) s.heap.objs.size f cdv).cells.lookup y).getD 0))) E κ) [] A1 H (closeR μ.length (bodyV N.length ss κ ds μ)) (rD (eC (gmC G (lvls κ C (ys.map fun y => ((envOfC qual (defScope st) s.heap.objs.size f cdv).cells.lookup y).getD 0))) E κ)) Q := by
      cases q : closeV (bodyV N.length ss) κ ds μ with
      | no => rw [q] at h; exact h.elim
      | ok d m =>
        rw [q] at h
        unfold makeR at h
        simp only at h
        split at h
        · rename_i hc
          rw [Bool.and_eq_true] at hc
          have q : closeR μ.length (bodyV N.length ss κ ds μ) = .ok d m := q
          rw [q]
          exact fun A' H' v e st y => h A' H' v e (Sto.reC hc.2 st) (Dn.reC hc.1 y)
        · exact h.elim
      | exc e1 m =>
        rw [q] at h
        unfold makeR at h
        simp only at h
        split at h
        · rename_i hc
          rw [Bool.and_eq_true] at hc
          have q : closeR μ.length (bodyV N.length ss κ ds μ) = .exc e1 m := q
          rw [q]
          intro A' H' cls dd e st xn
          obtain ⟨h1, a, fs, h2, h3, h4, h5⟩ := xn
          exact h A' H' cls dd e (Sto.reC hc.2 st) ⟨h1, a, fs, h2, h3, h4, Dns.reC hc.1 h5⟩
        · exact h.elim
    have h := fin_close s2 h0
    unfold bodyV at h
    cases q : ss κ (startR N.length ds) μ with
    | nx ρ m => rw [q] at h; exact fun A' H' σ' e st _ => h A' H' .non e st .non
    | rt d m => rw [q] at h; exact fun A' H' v e st y => h A' H' v e st y
    | exc y ρ m => rw [q] at h; exact fun A' H' σ' cls dd e st _ xn => h A' H' cls dd e st xn
    | bk ρ m => rw [q] at h; exact h.elim
    | ct ρ m => rw [q] at h; exact h.elim
    | no => rw [q] at h; exact h.elim
  · exact h.elim
end
end VM
namespace VM
open PySem PySem.Spec PyProof.Rows L2 DL LamX
/-! ### a frame that makes functions calls: its own captured cells are told -/
section
variable {X : Cx} {c : Cc} {ys : List Str} {is : List Nat}
/-- what a frame that makes functions must show -/
structure MakesC (X : Cx) (c : Cc) (ys : List Str) (is : List Nat) : Prop where
  own : OwnC X c ys
  cell : ∀ y ∈ ys, X.env.scope.names.lookup y = some .cell
  fn : ∀ y ∈ ys, X.fn y = true
  at_ : ∀ (j i : Nat) (y : Str), is[j]? = some i → ys[j]? = some y → X.N[i]? = some y
  len : is.length = ys.length
def rowK (is : List Nat) (ρ : Ro) : List (Option Dat) := is.map fun i => (ρ[i]?).join
theorem own_cells {pins : List (Addr × Obj)} {σ : L2.St} {H : Hp} {s : Shared} {A : As} {ρ : Ro} {μ : Mu} (M : MakesC X c ys is) (I : L2.Inv X pins σ H s) (t : At c A σ H ρ μ) :
    ∃ ps : List (Addr × Obj), (∀ p ∈ ps, H p.1 = none ∧ s.heap.get? p.1 = some p.2 ∧ X.s_0.heap.objs.size ≤ p.1 ∧ p.1 ≠ X.env.locals) ∧ Kap c.K A (addH ps H) (c.κ ++ [rowK is ρ]) := by
  obtain ⟨ps, n0, P0⟩ := ex_list (β := Addr × Obj) (Pr := fun j p => ∃ y, ys[j]? = some y ∧ X.env.cells.lookup y = some p.1 ∧ s.heap.get? p.1 = some p.2 ∧ ∃ w, p.2.data = .cell w) ys.length fun j hj => by
    obtain ⟨y, hy⟩ : ∃ y, ys[j]? = some y := ⟨_, List.getElem?_eq_getElem hj⟩
    obtain ⟨a, ha⟩ := I.ok.has y (.inl (M.cell y (List.mem_of_getElem? hy)))
    obtain ⟨w, o, ho, hd⟩ := I.cell y a ha
    exact ⟨(a, o), y, hy, ha, ho, w, hd⟩
  have all : ∀ p ∈ ps, ∃ y ∈ ys, X.env.cells.lookup y = some p.1 ∧ s.heap.get? p.1 = some p.2 ∧ ∃ w, p.2.data = .cell w := fun p hp => by
    obtain ⟨j, hj⟩ := List.mem_iff_getElem?.mp hp
    obtain ⟨y, h1, h2⟩ := P0 j p hj
    exact ⟨y, List.mem_of_getElem? h1, h2⟩
  have hn : ∀ p ∈ ps, H p.1 = none := fun p hp => by
    obtain ⟨y, _, h2, _⟩ := all p hp
    exact I.freeC y _ h2
  refine ⟨ps, fun p hp => ?_, fun l j o q => ?_⟩
  · obtain ⟨y, h1, h2, h3, _⟩ := all p hp
    exact ⟨hn p hp, h3, I.ok.cab y p.1 (M.fn y h1) h2, I.cne y p.1 h2⟩
  · have ea := ext_add (A := A) (ps := ps) hn
    by_cases hl : l < c.κ.length
    · rw [List.getElem?_append_left hl] at q
      exact (t.kap.mono ea) l j o q
    · have e1 : l = c.κ.length := by
        cases z : (c.κ ++ [rowK is ρ])[l]? with
        | none => rw [z] at q; cases q
        | some r =>
          have := (List.getElem?_eq_some_iff.mp z).1
          rw [List.length_append] at this
          simp at this
          omega
      subst e1
      rw [List.getElem?_append_right (Nat.le_refl _), Nat.sub_self] at q
      have q : (rowK is ρ)[j]? = some o := q
      unfold rowK at q
      rw [List.getElem?_map] at q
      cases zi : is[j]? with
      | none => rw [zi] at q; cases q
      | some i =>
        rw [zi] at q
        have q : (ρ[i]?).join = o := Option.some.inj q
        have hj : j < ps.length := by rw [n0, ← M.len]; exact (List.getElem?_eq_some_iff.mp zi).1
        obtain ⟨p, hp⟩ : ∃ p, ps[j]? = some p := ⟨_, List.getElem?_eq_getElem hj⟩
        obtain ⟨y, h1, h2, h3, w, h4⟩ := P0 j p hp
        obtain ⟨ob, f1, f2⟩ := add_in (H := H) (ps := ps) (b := p.1) (List.mem_map.mpr ⟨p, List.mem_of_getElem? hp, rfl⟩)
        have eo : ob = p.2 := by
          obtain ⟨_, _, _, g3, _⟩ := all _ f2
          have g3 : s.heap.get? p.1 = some ob := g3
          rw [h3] at g3
          exact (Option.some.inj g3).symm
        subst eo
        refine ⟨p.1, p.2, w, own_at M.own h1 h2, hid_to f1 fun z => ?_, h4, fun d hd => ?_⟩
        · obtain ⟨jj, hjj⟩ := List.mem_iff_getElem?.mp z
          obtain ⟨o3, g⟩ := (t.sto.at_ jj p.1 hjj).has
          rw [hn p (List.mem_of_getElem? hp)] at g
          cases g
        · subst hd
          cases zr : ρ[i]? with
          | none => rw [zr] at q; cases q
          | some o2 =>
            rw [zr] at q
            have q : o2 = some d := q
            subst q
            obtain ⟨v, g1, g2⟩ := t.env.2 i d zr
            obtain ⟨m, hm, lk⟩ := I.loc
            obtain ⟨u, r, lo⟩ := lk i y v (M.at_ j i y zi h1) g1 (.inr (.inl (M.cell y (List.mem_of_getElem? h1))))
            refine ⟨v, u, ?_, r, g2.mono ea⟩
            rcases lo with ⟨k1, _⟩ | ⟨_, cc, k2, ob2, k3, k4⟩
            · have k1 : X.env.scope.names.lookup y = some .local := k1
              rw [M.cell y (List.mem_of_getElem? h1)] at k1
              cases k1
            · rw [h2] at k2
              cases k2
              rw [h3] at k3
              cases k3
              rw [h4] at k4
              exact Data.cell.inj k4
/-- the call itself, the cells tracked meanwhile -/
theorem run_fnK {gd : Bool} {k : Nat} {f : Addr} {fd : FuncData} {pars : List Str} {G : Gm} {φ : Fv} {n : Nat} {pins : List (Addr × Obj)} {σ : L2.St} {H : Hp} {s : Shared} {A : As} {ρ : Ro} {μ : Mu} {Q : VK} {us : List Value} {vs : List V} {ds : List Dat} {args : Args}
    (F : FnV X.prog X.w X.K X.mg X.base gd k f fd pars (spV G φ n)) (hGm : c.K = gmC G c.K.C) (hG : gd = true → X.A.guards = some []) (hr : Room k X.A) (tk : L2N.Takes X c.W) (M : MakesC X c ys is) (I : L2.Inv X pins σ H s) (t : At c A σ H ρ μ) (x : Dns c.K A H vs ds) (hn : ds.length = n)
    (bd : BindsTo s fd args (pars.zip us)) (r : Vals vs us) (h : Fin c σ A H (φ (c.κ ++ [rowK is ρ]) ds μ) (rD c) Q) : codeAny (model X.prog X.w) X.A (.call (.ref f) args) (fun r s' => match r with | .ok (.ret u) => EP X pins σ Q u s' | .ok _ => False | .error x => X.xe x s') s := by
  obtain ⟨ps, hp, kp⟩ := own_cells M I t
  have hn0 : ∀ p ∈ ps, H p.1 = none := fun p q => (hp p q).1
  have hg0 : ∀ p ∈ ps, s.heap.get? p.1 = some p.2 := fun p q => (hp p q).2.1
  have nin : ∀ b o, H b = some o → b ∉ ps.map (·.1) := fun b o e z => by
    obtain ⟨p, hm, rfl⟩ := List.mem_map.mp z
    rw [hn0 p hm] at e
    cases e
  have e0 := I.env0
  have bs2 : ∀ b o, X.base.get? b = some o → s.heap.get? b = some o ∧ addH ps H b = none := fun b o q => ⟨(e0.bs b o q).1, by
    rw [add_out]
    · exact (e0.bs b o q).2
    · intro z
      obtain ⟨p, hm, rfl⟩ := List.mem_map.mp z
      exact absurd (Nat.lt_of_lt_of_le (Heap.lt_size q) (Nat.le_trans I.ok.bsz (hp p hm).2.2.1)) (Nat.lt_irrefl _)⟩
  have nst : ∀ p ∈ ps, p.1 ∉ frs X.stack := fun p hm hb => by
    rcases List.mem_cons.mp (I.stkSub _ hb) with e | e
    · exact (hp p hm).2.2.2 e
    · obtain ⟨_, o, ho, _⟩ := I.ok.funs.mem e
      exact absurd (Nat.lt_of_lt_of_le (Heap.lt_size ho) (hp p hm).2.2.1) (Nat.lt_irrefl _)
  have fr2 : ∀ b ∈ frs X.stack, addH ps H b = none := fun b hb => by
    rw [add_out]
    · exact e0.frf b hb
    · intro z
      obtain ⟨p, hm, rfl⟩ := List.mem_map.mp z
      exact nst p hm hb
  have e02 : Env0 X.prog X.w X.K X.mg X.base X.A X.stack s (addH ps H) := { frames := e0.frames, mod := e0.mod, bs := bs2, bsz := e0.bsz, funs := e0.funs, frf := fr2, hok := hok_add e0.hok hn0 hg0, bare := e0.bare }
  have al := alike_add (ps := ps) t.sto hn0
  -- back: the cells are taken away
  have back : ∀ {A' : As} {H' : Hp} {m : Mu}, Ext A (addH ps H) A' H' → Sto c.K A' H' m → (∀ p ∈ ps, H' p.1 = some (.frz p.2 (.own p.1))) ∧ Ext A H A' (cutH (ps.map (·.1)) H') ∧ Sto c.K A' (cutH (ps.map (·.1)) H') m ∧ Alike A' H' (cutH (ps.map (·.1)) H') := fun {A' H' m} ex st => by
    have hk : ∀ p ∈ ps, H' p.1 = some (.frz p.2 (.own p.1)) := fun p hm => by
      obtain ⟨ob, f1, f2⟩ := add_in (H := H) (List.mem_map.mpr ⟨p, hm, rfl⟩)
      have eo : ob = p.2 := by
        have g3 := hg0 _ f2
        have g3 : s.heap.get? p.1 = some ob := g3
        rw [hg0 p hm] at g3
        exact (Option.some.inj g3).symm
      subst eo
      have nA : some p.1 ∉ A := fun z => by
        obtain ⟨jj, hjj⟩ := List.mem_iff_getElem?.mp z
        obtain ⟨o3, g⟩ := (t.sto.at_ jj p.1 hjj).has
        rw [hn0 p hm] at g
        cases g
      exact (hid_of (ex.keep p.1 _ (hid_to f1 nA) (fun _ z => nomatch z))).1
    have hcs : ∀ b ∈ ps.map (·.1), ∃ ob, H' b = some (.frz ob (.own b)) := fun b hb => by
      obtain ⟨p, hm, rfl⟩ := List.mem_map.mp hb
      exact ⟨_, hk p hm⟩
    have al2 := alike_cut st hcs
    refine ⟨hk, ⟨fun b o hb nt => ?_, ex.cells, fun k b hb hb2 ⟨xs, hx⟩ => ?_, fun k b hb hb2 ⟨xs, hx⟩ => ?_⟩, Sto.alike st al2 (tabs_cut st.tabs hcs), al2⟩
    · obtain ⟨w1, w2⟩ := hid_of hb
      obtain ⟨w3, w4⟩ := hid_of (ex.keep b o (hid_to (add_old hn0 w1) w2) nt)
      exact hid_to (by rw [cut_out (nin b o w1)]; exact w3) w4
    · rw [cut_out (nin b _ hx)]
      exact ex.kl k b hb hb2 ⟨xs, add_old hn0 hx⟩
    · rw [cut_out (nin b _ hx)]
      exact ex.kd k b hb hb2 ⟨xs, add_old hn0 hx⟩
  have q0 : spV G φ n vs (addH ps H) (fun v H' => (∀ p ∈ ps, H' p.1 = some (.frz p.2 (.own p.1))) ∧ Q v (cutH (ps.map (·.1)) H')) (fun cls dd H' => (∀ p ∈ ps, H' p.1 = some (.frz p.2 (.own p.1))) ∧ c.W cls dd σ (cutH (ps.map (·.1)) H')) := by
    refine ⟨c.K.C, A, μ, ds, c.κ ++ [rowK is ρ], hn, ?_⟩
    rw [← hGm]
    refine ⟨Sto.alike t.sto al (tabs_add t.sto.tabs hn0), kp, Dns.alike al x, ?_⟩
    cases qf : φ (c.κ ++ [rowK is ρ]) ds μ with
    | no => rw [qf] at h; exact h.elim
    | ok d m =>
      rw [qf] at h
      intro A' H' v ex st y
      obtain ⟨b0, b1, b2, b3⟩ := back ex st
      exact ⟨b0, h A' _ v b1 b2 (Dn.alike b3 y)⟩
    | exc x0 m =>
      rw [qf] at h
      intro A' H' cls dd ex st xn
      obtain ⟨b0, b1, b2, b3⟩ := back ex st
      exact ⟨b0, h A' _ cls dd b1 b2 (Xn.alike xn b3)⟩
  refine codeAny_mono (F.go X.A X.stack s (addH ps H) args us vs _ _ hG hr e02 bd r q0) fun r s' z => ?_
  cases r with
  | error er =>
    obtain ⟨ea, B, H', cls, dd, eu, fz, hk2, ub, na, os, bare, hc, w⟩ := z
    have hcs : ∀ b ∈ ps.map (·.1), ∃ ob, H' b = some (.frz ob (.own b)) := fun b hb => by
      obtain ⟨p, hm, rfl⟩ := List.mem_map.mp hb
      exact ⟨_, hc p hm⟩
    have hx : L2N.CX X.prog X.w X.stack H s (WE c.W σ) er s' := ⟨ea, B, cutH (ps.map (·.1)) H', cls, dd, eu, fz, hok_cut hk2 hcs, ub_cut ub hn0 hg0 hc hk2, (by
      by_cases z : ea ∈ ps.map (·.1)
      · exact cut_in z
      · rw [cut_out z]; exact na), os, bare, w⟩
    exact L2N.passAt tk σ pins H s er s' I hx
  | ok flw =>
    cases flw with
    | ret u =>
      obtain ⟨v, H', os, bare, un, hk2, rv, hc, q⟩ := z
      have hcs : ∀ b ∈ ps.map (·.1), ∃ ob, H' b = some (.frz ob (.own b)) := fun b hb => by
        obtain ⟨p, hm, rfl⟩ := List.mem_map.mp hb
        exact ⟨_, hc p hm⟩
      exact I.after ⟨v, cutH (ps.map (·.1)) H', os, bare, un_cut un hn0 hg0 hc hk2, hok_cut hk2 hcs, rv, q⟩
    | next => exact z.elim
    | brk => exact z.elim
    | cont => exact z.elim
end
section
variable {X : Cx} {c : Cc} {ys : List Str} {is : List Nat} {gd : Bool} {k : Nat} {f : Addr} {fd : FuncData} {pars : List Str} {x : Str} {p pos : Pos} {e : Expr} {es : List Expr} {fs : Sm (List Dat)} {φ : Fv} {G : Gm} {n : Nat}
def sCallK (φ : Fv) (is : List Nat) (κ : Kp) (fs : Sm (List Dat)) : Sm Dat := fun ρ m => (fs ρ m).bind fun ds m1 => φ (κ ++ [rowK is ρ]) ds m1
theorem v_callK (M : MakesC X c ys is) (F : FnV X.prog X.w X.K X.mg X.base gd k f fd pars (spV G φ n)) (hGm : c.K = gmC G c.K.C) (hG : gd = true → X.A.guards = some []) (hr : Room k X.A) (tk : L2N.Takes X c.W) (hg : Gl X x) (hm : X.mg x = some (.ref f)) (hk : PySem.W.keepIn X.K (.ref f) = true) (hb : Binds X.K fd pars []) (hn : es.length + 1 = n)
    (ha : PA X (e :: es) (RdA c fs)) (hdb : (x == ("__debug__" : Str)) = false) (he : starEach (e :: es) X.env = (false, eval e X.env) :: starEach es X.env) (hpl : (backTo pos (starEach es X.env)).any (·.1) = false) (hls : ∀ ρ m ds m', fs ρ m = .ok ds m' → ds.length = n) (hpn : n = pars.length) :
    PE X (.Call (.Name x p) (e :: es) [] pos) (RdE c (sCallK φ is c.κ fs)) := by
  constructor
  rintro pins s σ H Q I ⟨A, ρ, μ, t, h⟩
  refine wpAny_Call_Name_kw (ld_glob I hg hm ?_ hdb)
  refine PySem.W.callWith_K (h₀ := X.base) I.ok.mod.kin hk ?_ he hpl
  refine thn (ha.run pos pins s σ H _ I ⟨A, ρ, μ, t, fin_bind (rel := rDs c) h⟩) ?_
  rintro us s1 ⟨vs, H1, I1, rv, A1, ds, m1, q1, e1, s1', x1, h1⟩
  have hl : ds.length = n := hls _ _ _ _ q1
  have q1len : vs.length = pars.length := by rw [x1.length, hl, hpn]
  have bd : BindsTo s1 fd ⟨us, []⟩ (pars.zip us) := by
    have := hb s1 us I1.kIn (by rw [List.append_nil, ← rv.length]; exact q1len)
    rwa [List.append_nil] at this
  refine ⟨I1.kIn, wpAny_call (codeAny_mono (run_fnK F hGm hG hr tk M I1 (t.next e1 s1') x1 hl bd rv h1) fun r s' z => ?_)⟩
  cases r with
  | error er => exact z
  | ok fl => cases fl <;> exact z
end
end VM
namespace VM
open PySem PySem.Spec PyProof.Rows L2 DL LamX
/-! ### try .. several clauses, each of them `as` -/
abbrev Cl := Value × Nat × (Addr → Value → Option Addr → TS)
def wClauses (K : PySem.W.Frag) (Wo : WX) (D : L2.Ends) : List Cl → WX
  | [] => Wo
  | q :: rest => fun cls d σ H => ∃ b, PySem.W.exmOne K cls q.1 = some b ∧ (b = true → ∀ ad, H ad = none → q.2.2 ad cls d { nx := fun τ H' => D.nx (τ.set q.2.1 none) H', rt := D.rt, bk := fun τ H' => D.bk (τ.set q.2.1 none) H', ct := fun τ H' => D.ct (τ.set q.2.1 none) H' } (σ.set q.2.1 (some (.ref ad))) H) ∧ (b = false → wClauses K Wo D rest cls d σ H)
inductive Clauses (X : Cx) : List ExceptHandler → List Cl → Prop
  | nil : Clauses X [] []
  | cons {cn vn : Str} {cv : Value} {i : Nat} {tsu : Addr → Value → Option Addr → TS} {s0 : Stmt} {su : List Stmt} {q1 q2 : Pos} {hs : List ExceptHandler} {l : List Cl} (hcn : Names X cn cv) (hiv : X.N[i]? = some vn) (hkv : X.env.kindOf vn = some .local)
      (body : ∀ (ad : Addr) (ob : Obj) (cls : Value) (d : Option Addr) (pn : List (Addr × Obj)), L2N.Zn cls d ob → (∃ vs, ob.data = .fields vs) → PSs (X.suite ad ((ad, ob) :: pn)) (s0 :: su) (tsu ad cls d)) (rest : Clauses X hs l) :
      Clauses X (.ExceptHandler (some (.Name cn q1)) (some vn) (s0 :: su) q2 :: hs) ((cv, i, tsu) :: l)
section
variable {X : Cx} {bd : List Stmt} {hd0 : ExceptHandler} {hs : List ExceptHandler} {l : List Cl} {pos : Pos} {tb : WX → TS} {Wo : WX}
theorem ps_clauses (hst : X.stack = X.env :: X.outer) (hfr : X.env.frame = some X.env.locals) (hN : X.N.Nodup) (tk : L2N.Takes X Wo)
    (hb : ∀ (W : WX) (pn : List (Addr × Obj)) (xe : Value → Shared → Prop), L2N.Takes (X.tr pn xe) W → PassesOwn (model X.prog X.w) X.A X.env xe → PSs (X.tr pn xe) bd (tb W))
    (hc : Clauses X (hd0 :: hs) l) : PS X (.Try bd (hd0 :: hs) [] [] pos) (fun D σ H => tb (wClauses X.K Wo D l) D σ H) := by
  constructor
  intro pins s σ H D I hrd
  have okX := I.ok
  have frm : X.A.frames = some (X.env :: X.outer) := by rw [okX.frames, hst]
  refine wpAny_Try_except ?_
  refine wpAny_mono ((hb (wClauses X.K Wo D l) (X.pn ++ pins) (fun er st1 => wpAny (model X.prog X.w) X.A (noteFrame er X.env) (fun _ st2 => wpAny (model X.prog X.w) X.A (setFlight er none) (fun _ st3 =>
      wpAny (model X.prog X.w) X.A (handleBy er X.env (hd0 :: hs)) (SP X pins D) X.xe st3) X.xe st2) X.xe st1) (fun u st hx => ?_) PassesOwn.looking).run [] s σ H D (I.toTry _) hrd) (fun fl st hsp => ?_) (fun er st z => z)
  · obtain ⟨ad, B, sI, pins', σe, He, cls, d, rfl, Jt, nb, up, sky, na, os, ag, ww⟩ := hx
    have J0 : L2.Inv X pins σe He sI := Jt.ofTry okX
    have sky2 : Sky B (X.env :: X.outer) ad (L2N.Zn cls d) X.env.locals st.heap := by rw [← hst]; exact sky
    show wpAny (model X.prog X.w) X.A (noteFrame (.ref ad) X.env) _ _ _
    refine L2N.Sky.land L2N.Zn.steady frm hfr sky2 fun hA flA upA => ?_
    have JA : L2.Inv X pins σe He { st with heap := hA } := J0.landed nb flA.1 (up.trans upA) os ag
    obtain ⟨obA, vsA, eA, zA, dA⟩ := flA.there
    have apart : ∀ {h : Heap} {o : Obj} {vs : Array Value}, h.FunFrames B (X.env :: X.outer) → h.get? ad = some o → o.data = .fields vs → ad ∉ frs (X.env :: X.outer) := by
      intro h o vs ff e dd hm
      obtain ⟨_, o2, e2, hnf⟩ := ff.mem hm
      rw [e] at e2
      cases e2
      exact hnf _ dd
    have nfr := apart flA.2.2.1 eA dA
    have nL : ad ≠ X.env.locals := fun z => nfr (List.mem_filterMap.mpr ⟨X.env, List.mem_cons_self, by rw [hfr, z]⟩)
    have nF : ad ∉ X.fs := fun hm => by
      obtain ⟨en, he, q⟩ := List.mem_filterMap.mp hm
      exact nfr (List.mem_filterMap.mpr ⟨en, List.mem_cons_of_mem _ he, q⟩)
    have SA := JA.suite eA dA na nL nF
    have each : ∀ {hs' : List ExceptHandler} {l' : List Cl}, Clauses X hs' l' → wClauses X.K Wo D l' cls d σe He → wpAny (model X.prog X.w) X.A (handleBy (.ref ad) X.env hs') (SP X pins D) X.xe { st with heap := hA } := by
      intro hs' l' hcl
      induction hcl with
      | nil =>
        intro wo
        refine wpAny_handleBy_nil ?_
        obtain ⟨_, _, _, o1, vs1, T1, _, _, e1, _, d1, f1, _⟩ := id flA
        unfold PySem.passOn
        refine wpAny_bind (wpAny_field e1 d1 f1 ?_)
        rw [if_neg (show ¬ ((Value.ref T1 == Value.none) = true) from by simp)]
        have away : wpAny (model X.prog X.w) X.A (setFlight (.ref ad) X.env.frame) (fun _ st4 => wpAny (model X.prog X.w) X.A (throw (.ref ad) : Sem Flow) (SP X pins D) X.xe st4) X.xe { st with heap := hA } := by
          rw [hfr]
          refine HandSPX.setFlight_upZ flA fun hB heldB upB => wpAny_throw (tk _ _ ?_)
          refine ⟨ad, B, sI, pins, σe, He, cls, d, rfl, J0, nb, (up.trans upA).trans upB, ?_, na, os, ag, wo⟩
          refine .inr (.inr ?_)
          rw [hst]
          exact heldB
        first
          | exact wpAny_bind (wpAny_pure (wpAny_bind away))
          | exact wpAny_bind away
      | @cons cn vn cv i tsu s0 su q1 q2 hs2 l2 hcn hiv hkv body rest ih =>
        rintro ⟨b, hbm, yes, no⟩
        refine wpAny_handleBy_cons (codeAny_handlers_test ?_) (by intro q; cases q)
        have seen : PySem.W.Looks (model X.prog X.w) hA (typeOf (.ref ad)) cls := fun A Q E s k q => wpAny_typeOf_ref (k _ _ eA) (by rw [zA.1]; exact q)
        have met := PySem.W.exm_one (M := model X.prog X.w) (JA.kIn) seen hbm
        have look : ∀ {Qx Ex : Value → Shared → Prop}, Qx cv { st with heap := hA } → wpAny (model X.prog X.w) (X.A.mark (some (.ref ad))) (eval (.Name cn q1) X.env) Qx Ex { st with heap := hA } := by
          intro Qx Ex q
          obtain ⟨hg, hdbg, hm | ⟨hm, hv, hnn⟩⟩ := hcn
          · exact ld_glob (X := X.suite ad ((ad, obA) :: (X.pn ++ pins))) SA hg hm q hdbg
          · exact ld_blt (X := X.suite ad ((ad, obA) :: (X.pn ++ pins))) SA hg hm hv q hnn hdbg
        refine look (met.here ?_)
        cases b with
        | false =>
          show wpAny _ X.A (handleBy (.ref ad) X.env hs2) _ _ _
          exact ih (no rfl)
        | true =>
          refine codeAny_handlers_suite_as ?_
          refine HandSPX.lands_againZ flA fun hB flB upB => ?_
          have JB : L2.Inv X pins σe He { st with heap := hB } := J0.landed nb flB.1 ((up.trans upA).trans upB) os ag
          obtain ⟨obB, vsB, eB, zB, dB⟩ := flB.there
          have SB := JB.suite eB dB na nL nF
          refine store_ok (X := X.suite ad ((ad, obB) :: (X.pn ++ pins))) (v := .ref ad) SB hN hiv (.inl hkv) rfl (fun st5 S5 => ?_) (.inr hkv)
          refine wpAny_mono ((body ad obB cls d (X.pn ++ pins) zB ⟨_, dB⟩).run [] st5 _ He _ S5 (yes rfl ad na)) (fun fl st6 hsp => ?_) (fun _ _ z => False.elim z)
          have done : ∀ {σ6 : L2.St} {H6 : Hp} {Qx : Shared → Prop}, L2.Inv (X.suite ad ((ad, obB) :: (X.pn ++ pins))) [] σ6 H6 st6 → (∀ st7, L2.Inv X pins (σ6.set i none) H6 st7 → Qx st7) →
              wpAny (model X.prog X.w) X.A (do bindName X.env vn .none; unbindBehindTheSuite X.env vn q2) (fun _ st7 => Qx st7) X.xe st6 := fun {σ6 H6 Qx} S6 hq => gone_ok (S6.unsuite okX) hN hiv hkv hq
          cases fl with
          | ret u =>
            obtain ⟨v6, σ6, H6, S6, r6, q6⟩ := hsp
            exact done S6 fun st7 J7 => ⟨_, _, _, J7, r6, q6⟩
          | next =>
            obtain ⟨σ6, H6, S6, q6⟩ := hsp
            exact done S6 fun st7 J7 => ⟨_, _, J7, q6⟩
          | brk =>
            obtain ⟨σ6, H6, S6, q6⟩ := hsp
            exact done S6 fun st7 J7 => ⟨_, _, J7, q6⟩
          | cont =>
            obtain ⟨σ6, H6, S6, q6⟩ := hsp
            exact done S6 fun st7 J7 => ⟨_, _, J7, q6⟩
    exact each hc ww
  · cases fl with
    | ret u =>
      obtain ⟨v, σ2, H2, J2, r2, q⟩ := hsp
      exact ⟨v, σ2, H2, J2.ofTry okX, r2, q⟩
    | next =>
      obtain ⟨σ2, H2, J2, q⟩ := hsp
      exact wpAny_execs_nil ⟨σ2, H2, J2.ofTry okX, q⟩
    | brk =>
      obtain ⟨σ2, H2, J2, q⟩ := hsp
      exact ⟨σ2, H2, J2.ofTry okX, q⟩
    | cont =>
      obtain ⟨σ2, H2, J2, q⟩ := hsp
      exact ⟨σ2, H2, J2.ofTry okX, q⟩
end
/-! the same by data -/
abbrev ClD := (Nat → Option Bool) × Nat × (Ex → SS)
def tryCl : List ClD → Ex → Ro → Mu → Out
  | [], x, ρ, m => .exc x ρ m
  | (mt, i, su) :: r, x, ρ, m => match mt x.C with
    | some true => if i < ρ.length then unset i (su x (ρ.set i none) m) else .no
    | some false => tryCl r x ρ m
    | none => .no
def sTryM (cs : List ClD) (f : SS) : SS := fun ρ m => match f ρ m with
  | .exc x ρ1 m1 => tryCl cs x ρ1 m1
  | o => o
/-- what is told of the clauses -/
inductive ClausesV (X : Cx) (c : Cc) : List ExceptHandler → List ClD → Prop
  | nil : ClausesV X c [] []
  | cons {cn vn : Str} {cv : Value} {i : Nat} {mt : Nat → Option Bool} {su : Ex → SS} {s0 : Stmt} {sl : List Stmt} {q1 q2 : Pos} {hs : List ExceptHandler} {l : List ClD} (hcn : Names X cn cv) (hiv : X.N[i]? = some vn) (hkv : X.env.kindOf vn = some .local)
      (hmt : ∀ C b, mt C = some b → PySem.W.exmOne X.K (.ref (c.K.cls C)) cv = some b)
      (body : ∀ (ad : Addr) (ob : Obj) (cls : Value) (d : Option Addr) (pn : List (Addr × Obj)) (x : Ex), mt x.C = some true → cls = .ref (c.K.cls x.C) → L2N.Zn cls d ob → (∃ vs, ob.data = .fields vs) → PSs (X.suite ad ((ad, ob) :: pn)) (s0 :: sl) (RdS ⟨c.K, fun _ _ _ _ => False, c.κ, .ex i ad cls d x⟩ (su x))) (rest : ClausesV X c hs l) :
      ClausesV X c (.ExceptHandler (some (.Name cn q1)) (some vn) (s0 :: sl) q2 :: hs) ((mt, i, su) :: l)
section
variable {X : Cx} {c : Cc} {bd : List Stmt} {hd0 : ExceptHandler} {hs : List ExceptHandler} {pos : Pos} {f : SS} {l : List ClD}
/-- the readings of the clauses -/
theorem clauses_of (h : ClausesV X c hs l) : ∃ ls : List Cl, Clauses X hs ls ∧ ∀ (D : L2.Ends) (x : Ex) (cls : Value) (dd : Option Addr) (σ : L2.St) (A : As) (H : Hp) (ρ : Ro) (m : Mu), Sto c.K A H m → DL.Env c.K A H σ ρ → Kap c.K A H c.κ → Xn c.K A H cls dd x → FinS c A H (tryCl l x ρ m) D → wClauses X.K c.W D ls cls dd σ H := by
  induction h with
  | nil => exact ⟨[], .nil, fun D x cls dd σ A H ρ m st ev kp xn h => h A H σ cls dd (Ext.refl A H) st ev xn⟩
  | @cons cn vn cv i mt su s0 sl q1 q2 hs2 l2 hcn hiv hkv hmt body rest ih =>
    obtain ⟨ls, h1, h2⟩ := ih
    refine ⟨(cv, i, fun a cls d D σ H => ∃ x, mt x.C = some true ∧ cls = .ref (c.K.cls x.C) ∧ RdS ⟨c.K, fun _ _ _ _ => False, c.κ, .ex i a cls d x⟩ (su x) D σ H) :: ls, .cons hcn hiv hkv (fun ad ob cls d pn hz hd => ⟨fun pins s σ H D I ⟨x, g1, g2, q⟩ => (body ad ob cls d pn x g1 g2 hz hd).run pins s σ H D I q⟩) h1, ?_⟩
    intro D x cls dd σ A H ρ m st ev kp xn h
    unfold tryCl at h
    cases qm : mt x.C with
    | none => rw [qm] at h; exact h.elim
    | some b =>
      rw [qm] at h
      refine ⟨b, by rw [xn.1]; exact hmt _ _ qm, fun hb ad na => ?_, fun hb => ?_⟩
      · subst hb
        simp only at h
        by_cases z : i < ρ.length
        · rw [if_pos z] at h
          refine ⟨x, qm, xn.1, A, ρ.set i none, m, ⟨st, env_drop i _ ev, kp, by rw [List.getElem?_set_self (by rw [ev.1]; exact z)], xn⟩, ?_⟩
          cases qs : su x (ρ.set i none) m with
          | nx ρ2 m2 => rw [qs] at h; exact fun A2 H2 σ2 e2 s2 v2 => h A2 H2 _ e2 s2 (env_none i v2)
          | bk ρ2 m2 => rw [qs] at h; exact fun A2 H2 σ2 e2 s2 v2 => h A2 H2 _ e2 s2 (env_none i v2)
          | ct ρ2 m2 => rw [qs] at h; exact fun A2 H2 σ2 e2 s2 v2 => h A2 H2 _ e2 s2 (env_none i v2)
          | rt d m2 => rw [qs] at h; exact h
          | exc x ρ m => rw [qs] at h; exact h.elim
          | no => rw [qs] at h; exact h.elim
        · rw [if_neg z] at h; exact h.elim
      · subst hb
        exact h2 D x cls dd σ A H ρ m st ev kp xn h
theorem v_tryM (hst : X.stack = X.env :: X.outer) (hfr : X.env.frame = some X.env.locals) (hN : X.N.Nodup) (tk : L2N.Takes X c.W)
    (hb : ∀ (W : WX) (pn : List (Addr × Obj)) (xe : Value → Shared → Prop), L2N.Takes (X.tr pn xe) W → PassesOwn (model X.prog X.w) X.A X.env xe → PSs (X.tr pn xe) bd (RdS ⟨c.K, W, c.κ, c.pn⟩ f)) (hc : ClausesV X c (hd0 :: hs) l) :
    PS X (.Try bd (hd0 :: hs) [] [] pos) (RdS c (sTryM l f)) := by
  obtain ⟨ls, h1, h2⟩ := clauses_of hc
  refine PS.weak (ps_clauses hst hfr hN tk hb h1) fun D σ H ⟨A, ρ, μ, t, h⟩ => ?_
  refine ⟨A, ρ, μ, ⟨t.sto, t.env, t.kap, t.pin⟩, ?_⟩
  unfold sTryM at h
  cases q : f ρ μ with
  | nx ρ1 m1 => rw [q] at h; exact h
  | rt d m => rw [q] at h; exact h
  | bk ρ m => rw [q] at h; exact h
  | ct ρ m => rw [q] at h; exact h
  | no => rw [q] at h; exact h.elim
  | exc x ρ1 m1 =>
    rw [q] at h
    exact fun A' H' σ' cls dd e1 s1 v1 xn => h2 D x cls dd σ' A' H' ρ1 m1 s1 v1 (t.kap.mono e1) xn (FinS.mono e1 h)
/-- isinstance(e, c), e the caught exception with its dict -/
def rIsX (K : PySem.W.Frag) (D a dx : Addr) : List V → Hp → VK → Prop := fun xs H Q => ∃ (cc : V) (cv : Value) (b : Bool) (fs : List (Str × V)), xs = [.ref a, cc] ∧ (∀ u, RelV cc u → u = cv) ∧ PySem.W.kitOne K (.ref D) cv = some b ∧ H dx = some (.xd fs) ∧ Q (.bl b) H
theorem call_isX {X : Cx} {a D dx : Addr} {oe : Obj} {pn : List (Addr × Obj)} (C : ExcC X.K D) (hz : L2N.Zn (.ref D) (some dx) oe) (hf : ∃ vs, oe.data = .fields vs) : CallR (X.suite a ((a, oe) :: pn)) (.builtin "isinstance") (rIsX X.K D a dx) := by
  intro pins s σ H xs us Q I r h
  obtain ⟨cc, cv, b, fs, rfl, hcv, e, hx, q⟩ := h
  match us, r with
  | [u1, u2], .cons rx (.cons rt .nil) =>
    cases (show u1 = Value.ref a from rx)
    cases hcv _ rt
    obtain ⟨hget, _⟩ := I.pin (a, oe) (List.mem_append.mpr (.inl List.mem_cons_self))
    obtain ⟨vs, hv⟩ := hf
    obtain ⟨mA, ⟨od, es, ep, hod, _⟩, _⟩ := I.hok dx _ hx
    have J : PySem.W.InstAt s.heap a oe D (some od) := by
      obtain ⟨o1, o2, o3, o4⟩ := oe
      have y1 : o1 = .ref D := hz.1
      have y2 : o2 = some dx := hz.2.1
      have y3 : o3 = .fields vs := hv
      subst y1 y2 y3
      exact ⟨hget, rfl, rfl, hod⟩
    have hcl : (PySem.W.clsIn X.K D).isSome = true := by
      obtain ⟨cd, hc, _⟩ := PySem.W.any_some C.hd
      rw [hc]; rfl
    exact PySem.W.kia_one (PySem.W.kitx_exc hcl C.hg C.hk C.hs C.ha C.hn C.ht C.hm) I.kIn J e (fun z => nomatch z) fun tk => ⟨.bl b, H, I.kept (t' := tk) fun _ _ z => z, rfl, q⟩
theorem v_isE {X : Cx} {c : Cc} {i : Nat} {n : Str} {x : Ex} {ad D : Addr} {oe : Obj} {cls : Value} {d : Option Addr} {pn : List (Addr × Obj)} {p p2 pos : Pos} {tx : Expr} {CA : Addr} {b : Bool} (hC : c.K.cls x.C = D) (hcls : cls = .ref (c.K.cls x.C)) (hp : c.pn = .ex i ad cls d x) (EC : ExcC X.K D) (hz : L2N.Zn cls d oe) (hf : ∃ vs, oe.data = .fields vs) (hb : PySem.W.kitOne X.K (.ref D) (.ref CA) = some b)
    (hN : (X.suite ad ((ad, oe) :: pn)).N[i]? = some n) (hv : Vis X.env.scope n) (hd : (n == ("__debug__" : Str)) = false) (hcd : (n == ("__classdict__" : Str)) = false) (hg : Gl (X.suite ad ((ad, oe) :: pn)) "isinstance") (hm : X.mg "isinstance" = none) (hbb : bootBuiltins "isinstance" = some (.builtin "isinstance")) (ht : PE (X.suite ad ((ad, oe) :: pn)) tx (tC (.ref CA)))
    (h1 : starEach [.Name n p, tx] (X.suite ad ((ad, oe) :: pn)).env = (false, eval (.Name n p) (X.suite ad ((ad, oe) :: pn)).env) :: starEach [tx] (X.suite ad ((ad, oe) :: pn)).env) (h2 : starEach [tx] (X.suite ad ((ad, oe) :: pn)).env = [(false, eval tx (X.suite ad ((ad, oe) :: pn)).env)]) (h3 : (backTo pos (starEach [tx] (X.suite ad ((ad, oe) :: pn)).env)).any (·.1) = false) :
    PE (X.suite ad ((ad, oe) :: pn)) (.Call (.Name "isinstance" p2) [.Name n p, tx] [] pos) (RdE c (sLit (.bl b))) := by
  cases d with
  | none =>
    constructor
    intro pins s σ H Q I ⟨A, ρ, μ, t, h⟩
    have hpin := t.pin
    rw [hp] at hpin
    obtain ⟨_, _, da, fs, e2, _⟩ := hpin
    cases e2
  | some dx =>
    have hz2 : L2N.Zn (.ref D) (some dx) oe := by rw [← hC, ← hcls]; exact hz
    refine PE.weak (pe_callB (call_isX EC hz2 hf) hg hm hbb (pa_cons (pe_var (i := i) hN hv hd hcd) (pa_cons ht pa_nil h2) h1) (by decide) (by decide) h1 h3) fun σ H Q ⟨A, ρ, μ, t, h⟩ => ?_
    have hpin := t.pin
    rw [hp] at hpin
    obtain ⟨g1, xn⟩ := hpin
    obtain ⟨e1, da, fs, e2, e3, e4, e5⟩ := xn
    cases e2
    exact ⟨.ref ad, g1, .ref CA, .ref CA, b, fs, rfl, fun u hu => hu, hb, (hid_of e3).1, fin_ok h (Ext.refl A H) t.sto (.bl b)⟩
end
end VM
namespace VM
open PySem PySem.Spec PyProof.Rows L2 DL LamX StX
/-! ### repr of data -/
def rShow (K : PySem.W.Frag) : List V → Hp → VK → Prop := fun xs H Q => (∃ a d, xs = [.ref a] ∧ Dp K H (.ref a) d ∧ d.showable = true ∧ d.hasDict = false ∧ d.shown.length ≤ sizeLine ∧ d.depth ≤ 60 ∧ Q (.str d.shown) H) ∨ (∃ b : Bool, xs = [.bl b] ∧ Q (.str (if b then "True" else "False")) H) ∨ (xs = [.non] ∧ Q (.str ("None" : String)) H) ∨
  (∃ x : Str, xs = [.str x] ∧ (reprText x).length ≤ sizeLine ∧ Q (.str (reprText x)) H) ∨ (∃ a, xs = [.ref a] ∧ H a = some (.dT []) ∧ Q (.str (PyData.shown (.dict []))) H) ∨ ∃ i : Int, xs = [.int i] ∧ i.natAbs.log2 < 1920 ∧ Q (.str (toString i)) H
theorem call_show {X : Cx} (hG : X.A.guards = some []) (hu : X.A.units + 64 < cLine) : CallR X (.builtin "repr") (rShow X.K) := by
  intro pins s σ H xs us Q I rv h
  rcases h with ⟨a, d, rfl, hd, hs, hn, hz, hdep, q⟩ | ⟨b, rfl, q⟩ | ⟨rfl, q⟩ | ⟨x, rfl, hz, q⟩ | ⟨a, rfl, hH, q⟩ | h
  · obtain ⟨u, rfl, rx⟩ := vals1 rv
    obtain ⟨as, rd⟩ := hd.reads I d (.ref a) u rx
    cases rx
    refine repr_of_reads' rd hs (fun z => by rw [hn] at z; cases z) hG (by omega) (fun _ _ z => z) ?_ hz
    exact fun h' u tk hk => ⟨.str d.shown, H, I.kept hk, ⟨u, rfl⟩, q⟩
  · obtain ⟨u, rfl, ru⟩ := vals1 rv
    cases ru
    exact PySem.P.repr_of_bool ⟨.str _, H, I.tok _, ⟨_, rfl⟩, q⟩
  · obtain ⟨u, rfl, ru⟩ := vals1 rv
    cases ru
    exact PySem.P.repr_of_none ⟨.str _, H, I.tok _, ⟨_, rfl⟩, q⟩
  · obtain ⟨u, rfl, t, rfl⟩ := vals1 rv
    exact PySem.P.repr_of_str ⟨.str _, H, I.tok _, ⟨_, rfl⟩, q⟩ hz
  · obtain ⟨u, rfl, ru⟩ := vals1 rv
    cases ru
    obtain ⟨_, ns, ys, r, o, es, ep, e1, e2, e3, e4, _⟩ := (show ObjOk X.prog X.w H s.heap a (.dT []) from I.hok a _ hH)
    cases r
    have ee : es.toList = [] := by rw [e4]; rfl
    have rd : Reads s.heap (.ref a) (.dict []) (a :: [] ++ []) := Reads.dict e1 e2.1 e3 (by rw [ee]; exact .nil) (by rw [ee]; exact .nil)
    refine repr_of_reads' rd rfl (fun _ z => ?_) hG (by show X.A.units + (_ + 1) < cLine; simp [PyData.depth, PyData.depthKv]; omega) (fun _ _ z => z) ?_ (by decide)
    · have : sysModules = a := by simpa using z
      rw [← this] at ns
      simp at ns
    · exact fun h' u tk hk => ⟨.str _, H, I.kept hk, ⟨u, rfl⟩, q⟩
  · exact SkE.call_repr_int pins s σ H xs us Q I rv h
def showD (m : Mu) (d : Dat) : Option Str := match d with
  | .non => some ("None" : String)
  | .bl b => some (if b then "True" else "False" : String)
  | .int i => if i.natAbs.log2 < 1920 then some (toString i : String) else none
  | .str x => if (reprText x).length ≤ sizeLine then some (reprText x) else none
  | .dct ks [] => (match ks with | [] => some (PyData.shown (.dict [])) | _ => none)
  | d => (match toP m 60 d with
    | some p => if p.showable = true ∧ p.hasDict = false ∧ p.shown.length ≤ sizeLine ∧ p.depth ≤ 60 then some p.shown else none
    | none => none)
def fRepr : FC := fun ds m => match ds with
  | [d] => (showD m d).map fun x => (.str x, m)
  | _ => none
theorem is_repr {K : Gm} : IsC K (rShow K.K) fRepr := fun ds m z m' h A H vs s w Q q => by
  unfold fRepr at h
  split at h
  · rename_i d
    cases hx : showD m d with
    | none => rw [hx] at h; cases h
    | some x =>
      rw [hx] at h
      cases h
      cases w with
      | cons a t =>
        cases t
        have fin : ∀ y : Str, y = x → Q (.str y) H := fun y hy => by rw [hy]; exact q A H _ _ _ (Ext.refl A H) s (.str _) ⟨rfl, rfl⟩
        have deep : ∀ p : PyData, toP m 60 d = some p → (if p.showable = true ∧ p.hasDict = false ∧ p.shown.length ≤ sizeLine ∧ p.depth ≤ 60 then some p.shown else none) = some x → (∃ b, ‹V› = .ref b) → rShow K.K [‹V›] H Q := fun p hp hc ⟨b, hb⟩ => by
          split at hc
          · rename_i hh
            refine .inl ⟨b, p, by rw [hb], by rw [← hb]; exact toP_dp s hp a, hh.1, hh.2.1, hh.2.2.1, hh.2.2.2, fin _ (Option.some.inj hc)⟩
          · cases hc
        cases a with
        | non => exact .inr (.inr (.inl ⟨rfl, fin _ (Option.some.inj hx)⟩))
        | bl b => exact .inr (.inl ⟨b, rfl, by
            have e := Option.some.inj hx
            cases b
            · exact fin _ e
            · exact fin _ e⟩)
        | int i =>
          simp only [showD] at hx
          split at hx
          · rename_i hi
            exact .inr (.inr (.inr (.inr (.inr ⟨i, rfl, hi, fin _ (Option.some.inj hx)⟩))))
          · cases hx
        | str y =>
          simp only [showD] at hx
          split at hx
          · rename_i hi
            exact .inr (.inr (.inr (.inl ⟨y, rfl, hi, fin _ (Option.some.inj hx)⟩)))
          · cases hx
        | tup h1 t1 =>
          simp only [showD] at hx
          split at hx
          · rename_i p hp
            exact deep p hp hx ⟨_, rfl⟩
          · cases hx
        | lst h1 t1 =>
          simp only [showD] at hx
          split at hx
          · rename_i p hp
            exact deep p hp hx ⟨_, rfl⟩
          · cases hx
        | cell h1 t1 =>
          simp only [showD] at hx
          split at hx
          · rename_i p hp
            exact deep p hp hx ⟨_, rfl⟩
          · cases hx
        | dead h1 =>
          simp only [showD] at hx
          split at hx
          · rename_i p hp
            exact deep p hp hx ⟨_, rfl⟩
          · cases hx
        | @dct b kvs ds h1 t1 =>
          have e := t1.length
          cases ds with
          | nil =>
            have ek : kvs = [] := List.eq_nil_of_length_eq_zero (by simpa using e)
            subst ek
            exact .inr (.inr (.inr (.inr (.inl ⟨b, rfl, (hid_of h1).1, fin _ (Option.some.inj hx)⟩))))
          | cons d ds =>
            simp only [showD, toP] at hx
            cases hx
        | dcell h1 t1 => simp only [showD, toP] at hx; cases hx
        | deadD h1 => simp only [showD, toP] at hx; cases hx
        | key h1 => simp only [showD, toP] at hx; cases hx
        | obj c f h1 t1 => simp only [showD, toP] at hx; cases hx
        | clo _ _ _ _ => simp only [showD, toP] at hx; cases hx
        | fn i => simp only [showD, toP] at hx; cases hx
  · cases h
/-- {}, of which nothing changes -/
def sDct0 : Sm Dat := fun _ m => .ok (.dct [] []) m
end VM
namespace VM
open PySem PySem.Spec PyProof.Rows L2 DL LamX
/-! ### where a lambda stands in the text -/
def dftE : Expr := .Constant .none 0 ⟨0, 0, 0, 0⟩
def dftS : Stmt := .Pass ⟨0, 0, 0, 0⟩
def sE : Stmt → List Expr
  | .Return (some v) _ => [v]
  | .Assign _ v _ => [v]
  | .AugAssign _ _ v _ => [v]
  | .Expr v _ => [v]
  | .If t _ _ _ => [t]
  | .While t _ _ _ => [t]
  | .For _ t _ _ _ => [t]
  | _ => []
def sS : Stmt → List Stmt
  | .If _ b o _ => b ++ o
  | .While _ b o _ => b ++ o
  | .For _ _ b o _ => b ++ o
  | .Try b _ _ _ _ => b
  | _ => []
def eE : Expr → List Expr
  | .BoolOp _ vs _ => vs
  | .BinOp l _ r _ => [l, r]
  | .UnaryOp _ e _ => [e]
  | .Lambda _ b _ _ => [b]
  | .IfExp t b o _ => [t, b, o]
  | .Call f as ks _ => f :: as ++ ks.map fun k => k.value
  | .Compare l _ cs _ => l :: cs
  | .List es _ => es
  | .Tuple es _ _ => es
  | .Subscript v s _ => [v, s]
  | .Attribute v _ _ => [v]
  | .Starred v _ => [v]
  | .ListComp e gs _ _ => e :: gs.map fun g => g.iter
  | .Dict _ vs _ => vs
  | _ => []
abbrev atE (l : List Expr) (i : Nat) : Expr := l.getD i dftE
abbrev atS (l : List Stmt) (i : Nat) : Stmt := l.getD i dftS
def lamP : Expr → Arguments
  | .Lambda p _ _ _ => p
  | _ => ⟨[], [], none, [], [], none, []⟩
def lamB : Expr → Expr
  | .Lambda _ b _ _ => b
  | e => e
def lamS0 : Expr → Option Scope
  | .Lambda _ _ s _ => some s
  | _ => none
abbrev gmkL (K : PySem.W.Frag) (lam : Nat → Option LamT) (cls : Nat → Addr) (T : List (Addr × Str)) (flds xfl : Nat → List Str) : Gm := ⟨K, lam, cls, fun _ => 0, fun _ => none, T, [], flds, xfl⟩
/-- the code object and the table of a def that makes functions -/
structure Tw (G : Gm) (cdv : Value) (q : Str) where
  c : Addr
  P : Addr
  e : cdv = .ref c
  m : (P, q) ∈ G.T
  u : ∀ p ∈ G.T, p.1 = P → p.2 = q
  hd : CodeF G.K c P
/-- the defs' tables are empty -/
def TabsOwn (K : PySem.W.Frag) (q : Program) (mg : Str → Option Value) (h : Heap) : Prop := ∀ x : Str, ((recsOf q).any fun e => e.name == x) = true → ∀ fa : Addr, mg x = some (.ref fa) → OwnTab K fa h
theorem walk_ofAll {l : PySem.W.OpenLaw} {n k : Nat} {q : Program} {loose : List Str} {XP : (Str → Option Value) → Heap → Prop} {YP : World → Heap → Prop} {d : DefRec} {K : Params → PySem.W.Frag} {CX : World → CXT} {x : Str}
    (hn : l.most = some n) (hn2 : n ≤ sizeLine) (hdf : d.params.defaults = []) (hr : Room k callerA) (hY : ∀ (w : World) (h : Heap), YP w h → (K w.params).In h)
    (F : ∀ (w : World) (mg : Str → Option Value) (fa : Addr) (h : Heap), YP w h → (K w.params).In h → h.Ns mainGlobals mg → mg d.name = some (.ref fa) → TabsOwn (K w.params) q mg h → LawAtS l w (K w.params) (CX w) k n x mg fa h)
    (hCX : ∀ (w : World) (H : Hp) (s : Shared) (e : Value) (s' : Shared), CX w [] H s (fun _ _ _ => False) e s' → False) :
    PySem.W.WalkO q loose XP YP l.row.toRowW d [] (fun f vs => PySem.call f vs) := by
  apply Att.attach_callB hn hdf
  intro w sa sb mg mb fa o pm cd doc a vs ns W Y _ _ _ hmg lst iv len bits gens
  have inn := hY w _ Y
  have empty : TabsOwn (K w.params) q mg sb.heap := by
    intro z known fz named c P obj fn cl dd flds sl la lb lc ld le
    obtain ⟨r, there, same⟩ := List.any_eq_true.mp known
    rw [beq_iff_eq] at same
    obtain ⟨fa', ob', fn', c', P', ta, tb, tc, td, -, ⟨⟨oc, vc, te, -, tf, tg⟩, bare⟩⟩ := W.T.tab r there
    subst same
    have q1 : Value.ref fz = .ref fa' := Option.some.inj (named.symm.trans ta)
    injection q1 with q1
    subst q1
    have q2 : obj = ob' := Option.some.inj ((inn _ _ la).symm.trans tb)
    subst q2
    have q3 : Data.func fn = .func fn' := lb.symm.trans tc
    injection q3 with q3
    subst q3
    have q4 : Value.ref c = .ref c' := lc.symm.trans td
    injection q4 with q4
    subst q4
    have q5 := Option.some.inj ((inn _ _ ld).symm.trans te)
    subst q5
    injection tf with tf
    subst tf
    have q6 : Value.ref P = .ref P' := Option.some.inj (le.symm.trans tg)
    injection q6 with q6
    subst q6
    exact bare
  have L := F w mg fa _ Y inn W.T.g hmg empty
  obtain ⟨fd, cs, sp, t1, t2, t3, t4, t5, t6⟩ := L
  exact law_callTs inn W.T.g W.T.b W.T.builtins W.T.nolimit gens t1 t2 t3 W.T.bmain lst iv (Nat.le_trans len hn2) hr t6 t4 (fun H h1 h2 => t5 H a ns len bits h1 h2) (hCX w · sb)
/-- the law's promise at the head, several tables -/
theorem law_atL {l : PySem.W.OpenLaw} {w : World} {G : Gm} {mg : Str → Option Value} {fa : Addr} {h : Heap} {st : Stmt} {x : Str} {k n : Nat} {φ : Fv} (D : Dv G mg "law" st [x]) (cs : List (Addr × Addr)) (hcs : ∀ p ∈ cs, CodeF G.K p.1 p.2) (hT0 : ∀ p ∈ cs, h.get? p.2 = some { cls := .none, data := .fields #[] }) (hGT : ∀ p ∈ G.T, p.1 ∈ cs.map (·.2)) (X : G.K.In h) (hfa : mg "law" = some (.ref fa)) (hb1 : ∀ (s : Shared) (u : Value), BindsTo s D.fd ⟨[u], []⟩ [(x, u)])
    (hφ : ∀ ns : List Int, ns.length ≤ n → ∃ m, φ [] [.lst (ns.map Dat.int)] [] = .ok (.bl true) m)
    (ok : ∀ base : Heap, G.K.In base → base.Ns mainGlobals mg → (∀ p ∈ cs, TabB base mg p.1 p.2) → FnV l.prog w G.K mg base false k D.f D.fd [x] (spV G φ 1)) : LawAtS l w G.K (L2N.CX l.prog w) k n x mg fa h := by
  have e := hfa.symm.trans D.g
  cases e
  refine ⟨D.fd, cs, spV G φ 1, hT0, fun p hp => ?_, fun p hp => codeF_hd X (hcs p hp), fun s u => hb1 s u, fun H a ns hl _ hT hS => ?_, fun base hk hn hT => (ok base hk hn hT).ok⟩
  · obtain ⟨dd, vs, sl, file, tf, flags, tg, inF, text, tt, h1, h2, h3, h4, h5, h6, h7, h8, h9⟩ := hcs p hp
    exact h9
  · obtain ⟨m, hm⟩ := hφ ns hl
    refine law_sp (κ := []) (fun p hp => ?_) hS hm
    obtain ⟨q, hq, e⟩ := List.mem_map.mp (hGT p hp)
    rw [← e]
    exact hT q hq
/-- an empty table, of the def that stands at f -/
theorem own_tab {K : PySem.W.Frag} {q : Program} {mg : Str → Option Value} {h : Heap} {G : Gm} {x : Str} {st : Stmt} {ps : List Str} {nm : Str} (e : G.K = K) (own : TabsOwn K q mg h) (D : Dv G mg x st ps) (tw : Tw G D.cdv nm) (hr : ((recsOf q).any fun e => e.name == x) = true) : h.get? tw.P = some { cls := .none, data := .fields #[] } := by
  subst e
  obtain ⟨dd, vs, sl, file, tf, flags, tg, inF, text, tt, h1, h2, h3, h4, h5, h6, h7, h8, h9⟩ := tw.hd
  exact own x hr D.f D.g tw.c tw.P _ _ _ _ _ _ D.lk rfl tw.e h1 h2
end VM
namespace VM
open PySem PySem.Spec PyProof.Rows L2 DL LamX
/-! ### a list by steps -/
def pickIx (n : Nat) (lo hi st : Option Int) : List Nat := sliceRange (sliceBounds lo hi st n).1 (sliceBounds lo hi st n).2.1 (sliceBounds lo hi st n).2.2
def pick {α : Type} (xs : List α) (lo hi st : Option Int) : List α := (pickIx xs.length lo hi st).filterMap fun i => xs[i]?
theorem vals_ix {vs : List V} {us : List Value} (r : Vals vs us) : ∀ ix : List Nat, Vals (ix.filterMap fun i => vs[i]?) (ix.filterMap fun i => us[i]?)
  | [] => .nil
  | i :: ix => by
    cases q : vs[i]? with
    | none =>
      have q2 : us[i]? = none := List.getElem?_eq_none (by rw [← r.length]; exact List.getElem?_eq_none_iff.mp q)
      rw [List.filterMap_cons_none q, List.filterMap_cons_none q2]
      exact vals_ix r ix
    | some v =>
      obtain ⟨u, q2, ru⟩ : ∃ u, us[i]? = some u ∧ RelV v u := by
        clear ix
        induction r generalizing i with
        | nil => simp at q
        | cons h t ih =>
          cases i with
          | zero => simp at q; subst q; exact ⟨_, rfl, h⟩
          | succ i => exact ih i (by simpa using q)
      rw [List.filterMap_cons_some q, List.filterMap_cons_some q2]
      exact .cons ru (vals_ix r ix)
theorem dns_ix {K : Gm} {A : As} {H : Hp} {vs : List V} {ds : List Dat} (r : Dns K A H vs ds) : ∀ ix : List Nat, Dns K A H (ix.filterMap fun i => vs[i]?) (ix.filterMap fun i => ds[i]?)
  | [] => .nil
  | i :: ix => by
    cases q : vs[i]? with
    | none =>
      have q2 : ds[i]? = none := List.getElem?_eq_none (by rw [← r.length]; exact List.getElem?_eq_none_iff.mp q)
      rw [List.filterMap_cons_none q, List.filterMap_cons_none q2]
      exact dns_ix r ix
    | some v =>
      have go : ∀ (vs : List V) (ds : List Dat) (i : Nat), Dns K A H vs ds → vs[i]? = some v → ∃ d, ds[i]? = some d ∧ Dn K A H v d := by
        intro vs
        induction vs with
        | nil => intro ds i _ q; simp at q
        | cons y vs ih =>
          intro ds i r q
          cases r with
          | cons h t =>
            cases i with
            | zero => simp at q; subst q; exact ⟨_, rfl, h⟩
            | succ i =>
              obtain ⟨d, z1, z2⟩ := ih _ i t (by simpa using q)
              exact ⟨d, by simpa using z1, z2⟩
      obtain ⟨d, q2, rd⟩ := go _ _ _ r q
      rw [List.filterMap_cons_some q, List.filterMap_cons_some q2]
      exact .cons rd (dns_ix r ix)
theorem pick_len {α : Type} (xs : List α) (ix : List Nat) : (ix.filterMap fun i => xs[i]?).length ≤ ix.length := List.length_filterMap_le _ _
section
variable {X : Cx} {c : Cc} {a : Expr} {fa : Sm Dat} {p2 pos : Pos}
def tSlS (K : PySem.W.Frag) (te : TE) (tl th ts : TO) : TE := fun σ H Q => te σ H fun x H1 => tl σ H1 fun l H2 => th σ H2 fun u H3 => ts σ H3 fun st H4 => ∃ b xs, x = .ref b ∧ st ≠ some 0 ∧ SqL K H4 b xs ∧ (pick xs l u st).length ≤ sizeLine ∧ ∀ p, H4 p = none → Q (.ref p) (upd H4 p (.lst (pick xs l u st)))
theorem pe_slS {lo hi : Option Expr} {est : Expr} {te : TE} {tl th ts : TO} (he : PE X a te) (hl : PO X lo tl) (hu : PO X hi th) (hs : PO X (some est) ts) : PE X (.Subscript a (.Slice lo hi (some est) p2) pos) (tSlS X.K te tl th ts) := by
  constructor
  intro pins s σ H Q I h
  refine Subscript_ (thn (he.run pins s σ H _ I h) fun v s1 ⟨x, H1, I1, r1, q1⟩ => wpAny_Slice (thn (hl.run pins s1 σ H1 _ I1 q1) fun vl s2 ⟨l, H2, I2, pl, q2⟩ => thn (hu.run pins s2 σ H2 _ I2 q2) fun vu s3 ⟨u, H3, I3, pu, q3⟩ => thn (hs.run pins s3 σ H3 _ I3 q3) fun vt s4 ⟨o, H4, I4, pt, q4⟩ => ?_))
  obtain ⟨b, xs, e, h0, hx, hz0, q⟩ := q4
  subst e
  cases r1
  have J : Inv X pins σ H4 { s4 with heap := s4.heap.push { cls := .type "slice", data := .fields #[vl, vu, vt] } } := I4.kept (t' := s4.toks) fun _ _ z => Heap.get?_push_of_some _ z
  obtain ⟨its, r, hb, hz⟩ := J.list hx
  show wpAny (model X.prog X.w) X.A (subscriptTail a (.Slice lo hi (some est) p2) (.ref b) (.ref s4.heap.objs.size)) (EP X pins σ Q) X.xe _
  refine tail_any (ops := [.ref b, .ref s4.heap.objs.size]) hb.isList.typeIs PySem.slot_list_getitem.lookup (wpAny_getItem_list_slice hb.isList (Heap.IsSliceOf.new _ vl vu vt) pl pu pt h0 ?_ (by rw [List.size_toArray, ← r.length]; exact hz)) (by with_unfolding_all rfl)
  have e : slicePick its.toArray l u o = (pick its l u o).toArray := by
    unfold slicePick pick pickIx
    rw [List.size_toArray]
    have ef : (fun i : Nat => its.toArray[i]?) = fun i => its[i]? := by funext i; simp
    rw [ef]
  rw [e]
  have rp : Vals (pick xs l u o) (pick its l u o) := by
    unfold pick
    rw [r.length]
    exact vals_ix r _
  exact ⟨.ref _, _, J.laid (t' := s4.toks) (o := .lst (pick xs l u o)) (fun _ _ z => Heap.get?_push_of_some _ z) (Nat.le_refl _) ⟨hz0, _, 0, rp, Heap.get?_push_size _ rfl⟩, rfl, q _ (J.hok.fresh (Nat.le_refl _))⟩
def fSlS (d : Dat) (lo hi st : Option Int) (m : Mu) : Option (Dat × Mu) := match lv m d with
  | some xs => (match decide (st ≠ some 0) && decide ((pick xs lo hi st).length ≤ sizeLine) with | true => some (.lst (pick xs lo hi st), m) | false => none)
  | none => none
def sSlS (f : Sm Dat) (lo hi st : Sm (Option Int)) : Sm Dat := fun ρ m => (f ρ m).bind fun d m1 => (lo ρ m1).bind fun l m2 => (hi ρ m2).bind fun u m3 => (st ρ m3).bind fun t m4 => R.of2 (fSlS d l u t m4)
theorem v_slS {lo hi : Option Expr} {est : Expr} {fl fh fs : Sm (Option Int)} (hK : X.K = c.K.K) (ha : PE X a (RdE c fa)) (hl : PO X lo (RdO c fl)) (hh : PO X hi (RdO c fh)) (hs : PO X (some est) (RdO c fs)) : PE X (.Subscript a (.Slice lo hi (some est) p2) pos) (RdE c (sSlS fa fl fh fs)) :=
  PE.weak (pe_slS ha hl hh hs) fun σ H Q ⟨A, ρ, μ, t, h⟩ => val_next t h fun v d A1 H1 m1 t1 e1 x1 h1 =>
    ⟨A1, ρ, m1, t1, (fin_bind (rel := rO) h1).imp fun l H2 ⟨A2, l', m2, _, e2, s2, hl2, h2⟩ => ⟨A2, ρ, m2, t1.next e2 s2, (fin_bind (rel := rO) h2).imp fun u H3 ⟨A3, u', m3, _, e3, s3, hu3, h3⟩ => ⟨A3, ρ, m3, (t1.next e2 s2).next e3 s3, (fin_bind (rel := rO) h3).imp fun o H4 ⟨A4, o', m4, _, e4, s4, ho4, h4⟩ => by
      have hl2 : l = l' := hl2
      have hu3 : u = u' := hu3
      have ho4 : o = o' := ho4
      subst hl2 hu3 ho4
      obtain ⟨z, m', hz, q⟩ := fin_of2 h4
      unfold fSlS at hz
      split at hz
      · rename_i xs hx
        split at hz
        · rename_i hc
          rw [Bool.and_eq_true, decide_eq_true_eq, decide_eq_true_eq] at hc
          cases hz
          obtain ⟨p, vs, rfl, hq, td⟩ := lv_at hx s4 (x1.mono (e2.trans (e3.trans e4)))
          have el : (pick vs l u o).length = (pick xs l u o).length := by
            have : Dns c.K A4 H4 (pick vs l u o) (pick xs l u o) := by unfold pick; rw [← td.length]; exact dns_ix td _
            exact this.length
          exact ⟨p, vs, rfl, hc.1, hK ▸ hq, by rw [el]; exact hc.2, fun b hb => q _ _ _ (ext_new hb) (s4.new hb) (Dn.newL s4 hb (by unfold pick; rw [← td.length]; exact dns_ix td _))⟩
        · cases hz
      · cases hz⟩⟩⟩
end
theorem makes_at {N : List Str} {ys : List Str} {is : List Nat} (h : (is.zip ys).all (fun p => N[p.1]? == some p.2) = true) : ∀ (j i : Nat) (y : Str), is[j]? = some i → ys[j]? = some y → N[i]? = some y := fun j i y hi hy => by
  have hm : (i, y) ∈ is.zip ys := by
    refine List.mem_iff_getElem?.mpr ⟨j, ?_⟩
    rw [List.getElem?_zip_eq_some]
    exact ⟨hi, hy⟩
  exact beq_iff_eq.mp (List.all_eq_true.mp h _ hm)
end VM
namespace VM
open PySem PySem.Spec PyProof.Rows L2 DL LamX
theorem uniqT {T : List (Addr × Str)} {P : Addr} {q : Str} (n : (T.map (·.1)).Nodup) (h : (P, q) ∈ T) : ∀ p ∈ T, p.1 = P → p.2 = q := fun p hp e => by
  induction T with
  | nil => cases h
  | cons t T ih =>
    rw [List.map_cons, List.nodup_cons] at n
    rcases List.mem_cons.mp h with h1 | h1
    · subst h1
      rcases List.mem_cons.mp hp with h2 | h2
      · rw [h2]
      · exact absurd (List.mem_map.mpr ⟨p, h2, e⟩) n.1
    · rcases List.mem_cons.mp hp with h2 | h2
      · subst h2
        exact absurd (List.mem_map.mpr ⟨(P, q), h1, e.symm⟩) n.1
      · exact ih n.2 h1 h2
theorem lam_js {fr : List Str} {js : List Nat} {ys : List Str} (h : (fr.zip js).all (fun p => ys[p.2]? == some p.1) = true) : ∀ (i : Nat) (y : Str) (j : Nat), fr[i]? = some y → js[i]? = some j → ys[j]? = some y := fun i y j hy hj => by
  have hm : (y, j) ∈ fr.zip js := by
    refine List.mem_iff_getElem?.mpr ⟨i, ?_⟩
    rw [List.getElem?_zip_eq_some]
    exact ⟨hy, hj⟩
  exact beq_iff_eq.mp (List.all_eq_true.mp h _ hm)
end VM
namespace VM
open PySem PySem.Spec PyProof.Rows L2 DL LamX HotX L2H
/-! ### max, min of two ints while an exception is handled -/
section
variable {P0 : Program} {w0 : World} {Ar : Around} {Er : Value → Shared → Prop} {st : Shared}
theorem next_end_hot {J T xh : Addr} {n : Nat} {ys : Array Value} {R : Option Value → Shared → Prop} (hot : HotAt Ar xh st.heap) (nx : xh ≠ J) (iter : st.heap.IsTupleIter J T n) (tup : st.heap.IsTuple T ys) (over : ys[n]? = none)
    (go : ∀ g, Heap.ExtBut J st.heap g → R none { st with heap := g }) : wpAny (model P0 w0) Ar (pyNext (.ref J)) R Er st := by
  obtain ⟨oj, atJ, cj, dj⟩ := id iter
  obtain ⟨ot, atT, _, _, dt⟩ := tup
  obtain ⟨hh, oh, fh, atX, dh, noctx⟩ := hot
  have still : ∀ g, (st.heap.update J g).get? xh = some oh := fun g => (Heap.get?_update_other _ _ nx.symm).trans atX
  unfold pyNext
  refine wpAny_bind (wpAny_attempt (wpAny_callSpecial?_slot (name := Str.ofString "__next__") iter.typeIs F.slot_tuple_iterator_next ?_))
  refine wpAny_call_entry F.slot_tuple_iterator_next iter.typeIs F.entry_tuple_iterator_next ?_ (F.args_tuple_iterator_next_1 _)
  show wpAny _ _ (field (.ref J) 0 >>= _) _ _ st
  refine wpAny_bind (wpAny_field atJ dj (x := .ref T) rfl ?_)
  show wpAny _ _ (if (Value.ref T == Value.none) = true then _ else _) _ _ st
  rw [if_neg (show ¬ ((Value.ref T == Value.none) = true) from nofun)]
  show wpAny _ _ (field (.ref J) 1 >>= _) _ _ st
  refine wpAny_bind (wpAny_field atJ dj (x := .int n 0) rfl ?_)
  show wpAny _ _ (seqItems? (.ref T) >>= _) _ _ st
  refine wpAny_bind (wpAny_seqItems atT dt ?_)
  simp only [Int.toNat_natCast, over]
  refine wpAny_bind (wpAny_rule (wpAny_bind (wpAny_setField atJ dj (by simp) (wpAny_bind ?_))))
  show wpAny _ _ (newExc (.type "StopIteration") []) _ _ _
  simp only [newExc, newTuple]
  refine wpAny_bind (wpAny_newObj_type (wpAny_bind (m := firstArgMember _ _) ?_) (by size_fits))
  apply wpAny_of_eq (a := Value.none)
  · first | rfl | (simp only [firstArgMember]; rfl)
  apply wpAny_newObj_type (hd := by size_fits)
  refine raiseNew_hot ⟨hh, oh, fh, Heap.get?_push_of_some _ (Heap.get?_push_of_some _ (still _)), dh, noctx⟩ (Nat.ne_of_lt (Heap.lt_size (Heap.get?_push_of_some _ (still _)))) (Heap.get?_push_size _ rfl) rfl (by first | (simp; done) | (simp; omega) | (simp only [Array.size_append]; simp; omega)) ?_
  refine wpAny_bind (wpAny_isInstance (T := "StopIteration") (b := true) ⟨_, Heap.get?_update_self _ (Heap.get?_push_size _ rfl) rfl, rfl⟩ isSubtype_stop (wpAny_pure (go _ ?_)))
  intro b ob hb e
  have e2 : ∀ g, (st.heap.update J g).get? b = some ob := fun g => (Heap.get?_update_other _ _ (Ne.symm hb)).trans e
  rw [Heap.get?_update_other _ _ (Nat.ne_of_gt (Heap.lt_size (Heap.get?_push_of_some _ (e2 _))))]
  exact Heap.get?_push_of_some _ (Heap.get?_push_of_some _ (e2 _))
theorem walks_hot {xh : Addr} (J T : Addr) (nT : T ≠ J) (nx : xh ≠ J) (ys : Array Value) :
    Walks P0 w0 Ar J [J, T, xh] [J] ys.size (fun i v => ys[i]? = some v) (fun i g => g.IsTupleIter J T i ∧ g.IsTuple T ys ∧ HotAt Ar xh g) where
  sub := fun b hb => List.mem_cons.mpr (.inl (List.mem_singleton.mp hb))
  frame := fun i g g' ⟨z1, z2, hh, o, fh, e, d, c⟩ hk => ⟨z1.at fun o e => hk J (by simp) o e, z2.at fun o e => hk T (by simp) o e, hh, o, fh, hk xh (by simp) o e, d, c⟩
  item := fun i s R E hi ⟨z1, z2, hh, o, fh, e, d, c⟩ hR => wpAny_pyNext_tuple_item z1 z2 (x := ys[i]) (by simp [hi]) fun g it2 sb => hR _ g s.toks (by simp [hi]) ⟨it2, z2.extBut sb.extBut nT, hh, o, fh, sb.extBut xh o nx e, d, c⟩ fun b o hb e => sb.extBut b o (fun z => hb (by simp [z])) e
  done := fun s R E ⟨z1, z2, hot⟩ hR => next_end_hot hot nx z1 z2 (by simp) fun g ex => hR g s.toks fun b o hb e => ex b o (fun z => hb (by simp [z])) e
  self := fun i s R E z hR => wpAny_pyIter_tupleiter z.1 hR
theorem max_two_hot {i j : Int} {ti tj : Tok} {xh : Addr} {R : Value → Shared → Prop} (hot : HotAt Ar xh st.heap)
    (go : ∀ g tk, (∀ c o, st.heap.get? c = some o → g.get? c = some o) → R (if j > i then .int j tj else .int i ti) { st with heap := g, toks := tk }) :
    wpAny (model P0 w0) Ar (call (.builtin "max") [.int i ti, .int j tj]) R Er st := by
  obtain ⟨hh, oh, fh, atX, dh, noctx⟩ := hot
  have lx := Heap.lt_size atX
  have pair : (st.heap.push { cls := .type "tuple", data := .seq #[.int i ti, .int j tj] }).IsTuple st.heap.objs.size (intItems #[(i, ti), (j, tj)]) := ⟨_, Heap.get?_push_size _ rfl, rfl, 0, by simp [intItems]⟩
  have sz : (st.heap.push { cls := .type "tuple", data := .seq #[.int i ti, .int j tj] }).objs.size = st.heap.objs.size + 1 := Heap.size_push ..
  refine call_max_two (wpAny_pyIter_tuple pair ⟨_, [_, st.heap.objs.size, xh], [_], _, _, _, _, rfl, walks_hot (Ar := Ar.in1) _ st.heap.objs.size (by rw [sz]; exact Nat.ne_of_lt (Nat.lt_succ_self _)) (by rw [sz]; exact Nat.ne_of_lt (Nat.lt_succ_of_lt lx)) (intItems #[(i, ti), (j, tj)]),
    ⟨⟨_, Heap.get?_push_size _ rfl, rfl, rfl⟩, pair.push _, hh, oh, fh, Heap.get?_push_of_some _ (Heap.get?_push_of_some _ atX), dh, noctx⟩, ?_, by simp [intItems], CmpOf.ints_gt (numAt #[(i, ti), (j, tj)]) (fun _ _ => intItems_at), ?_⟩)
  · intro c hc
    show c < Array.size (Heap.objs _)
    rw [Heap.size_push, sz]
    rcases List.mem_cons.mp hc with z | hc
    · rw [z, sz]; exact Nat.lt_succ_self _
    · rcases List.mem_cons.mp hc with z | hc
      · rw [z]; exact Nat.lt_succ_of_lt (Nat.lt_succ_self _)
      · rw [List.mem_singleton.mp hc]
        exact Nat.lt_succ_of_lt (Nat.lt_succ_of_lt lx)
  · intro v g tk best keep
    have old : ∀ c o, st.heap.get? c = some o → g.get? c = some o := by
      intro c o e
      refine keep c o ?_ (Heap.get?_push_of_some _ (Heap.get?_push_of_some _ e))
      intro hm
      have z := Heap.lt_size e
      rw [List.mem_singleton.mp hm, sz] at z
      exact Nat.lt_irrefl _ (Nat.lt_of_succ_lt z)
    have two : (intItems #[(i, ti), (j, tj)]).size - 1 = 1 := by simp [intItems]
    rw [two] at best
    have is : v = if j > i then Value.int j tj else Value.int i ti := by
      by_cases c : j > i
      · have e : argBest (fun a b => decide (numAt #[(i, ti), (j, tj)] a > numAt #[(i, ti), (j, tj)] b)) 1 = 1 := by simp [argBest, numAt, c]
        rw [e] at best
        simpa [intItems, c] using best.symm
      · have e : argBest (fun a b => decide (numAt #[(i, ti), (j, tj)] a > numAt #[(i, ti), (j, tj)] b)) 1 = 0 := by simp [argBest, numAt, c]
        rw [e] at best
        simpa [intItems, c] using best.symm
    rw [is]
    exact go g tk old
end
theorem call_maxH {X : Cx} (hc : HotC X) : CallR X (.builtin "max") rMax2 := by
  rintro pins s σ H xs us Q I r ⟨i, j, rfl, q⟩
  obtain ⟨xh, hot⟩ := hc.at I
  obtain ⟨u1, u2, rfl, ⟨ti, rfl⟩, tj, rfl⟩ := vals2 r
  refine max_two_hot hot fun g tk old => ⟨_, H, I.kept old, ?_, q⟩
  by_cases c : j > i
  · rw [if_pos c, if_pos c]
    exact ⟨tj, rfl⟩
  · rw [if_neg c, if_neg c]
    exact ⟨ti, rfl⟩
theorem hot_suite {X : Cx} {a : Addr} {oe : Obj} {cls : Value} {d : Option Addr} {pn : List (Addr × Obj)} (hz : L2N.Zn cls d oe) (hf : ∃ vs, oe.data = .fields vs) : HotC (X.suite a ((a, oe) :: pn)) := by
  obtain ⟨vs, e⟩ := hf
  exact ⟨(a, oe), ⟨rfl, vs, e, hz.2.2 vs e⟩, List.mem_cons_self⟩
/-- an exception's own __init__, in this layer's context -/
theorem okXN {P : Program} {w : World} {K : PySem.W.Frag} {mg : Str → Option Value} {base : Heap} {x qual : Str} {st : Stmt} {f : Addr} {fd : FuncData} {N ps : List Str} {k : Nat} {sp : Sp} (F : L2.Fun K x qual st f fd) (S : FnScope N ps (defScope st)) (len : ∀ vs H Q E, sp vs H Q E → vs.length = ps.length)
    (body : ∀ (cdv : Value) (A : Around) (outer : List PySem.Env) (s : Shared) (H : Hp) (vs : List V) (Q : VK) (E : XK), Room k (A.deeper (envOfC qual (defScope st) s.heap.objs.size f cdv)) → sp vs H Q E →
      ∃ t, PSs (cxOf (L2N.CX P w) P w K mg base N qual (defScope st) f cdv A outer s H E) (defBody st) t ∧ t { nx := fun _ H' => Q .non H', rt := Q } (L2.start N vs) H) : FnOk P w K mg base (L2N.CX P w) (k + 1) f fd ps sp := by
  cases F with
  | mk ex =>
    obtain ⟨oc, od, kV, doc, pm, an, cdv, ct, osl, rfl, lk, hcd⟩ := ex
    exact fn_of lk hcd S len (body cdv)
end VM
namespace VM
open PySem PySem.Spec PyProof.Rows L2 DL LamX
theorem hp_mem {T : List (Addr × Str)} {cs : List (Addr × Addr)} (e : T.map (·.1) = cs.map (·.2)) : ∀ p ∈ T, p.1 ∈ cs.map (·.2) := fun p hp => by
  rw [← e]
  exact List.mem_map.mpr ⟨p, hp, rfl⟩
end VM
namespace VM
open PySem DL
/-! ### functions of data, run by hand -/
abbrev tz (xs : List Int) : Dat := .tup (xs.map Dat.int)
abbrev rz (B A : List Int) : Dat := .tup [tz B, tz A]
theorem noC_ints : ∀ xs : List Int, noCells (xs.map Dat.int) = true
  | [] => rfl
  | x :: xs => by rw [List.map_cons, noCells, noC_ints xs]; rfl
theorem fre_ints : ∀ xs : List Int, fres (xs.map Dat.int) = true
  | [] => rfl
  | x :: xs => by rw [List.map_cons, fres, fre_ints xs]; rfl
theorem noC_tz (xs : List Int) : noCell (tz xs) = true := by rw [noCell]; exact noC_ints xs
theorem fre_tz (xs : List Int) : fre (tz xs) = true := by rw [fre]; exact fre_ints xs
theorem noC_rz (B A : List Int) : noCell (rz B A) = true := by rw [noCell, noCells, noC_tz, noCells, noC_tz]; rfl
theorem fre_rz (B A : List Int) : fre (rz B A) = true := by rw [fre, fres, fre_tz, fres, fre_tz]; rfl
mutual
theorem cb_no (n : Nat) : ∀ {d : Dat}, noCell d = true → cb n d = true
  | .tup xs, h => by rw [cb]; exact cbs_no n (by rw [noCell] at h; exact h)
  | .lst xs, h => by rw [cb]; exact cbs_no n (by rw [noCell] at h; exact h)
  | .dct _ xs, h => by rw [cb]; exact cbs_no n (by rw [noCell] at h; exact h)
  | .obj _ xs, h => by rw [cb]; exact cbs_no n (by rw [noCell] at h; exact h)
  | .cell _, h => by simp [noCell] at h
  | .dcell _, h => by simp [noCell] at h
  | .dst _ _, h => by simp [noCell] at h
  | .non, _ => rfl
  | .bl _, _ => rfl
  | .int _, _ => rfl
  | .str _, _ => rfl
  | .key _, _ => rfl
  | .fn _, _ => rfl
  | .clo _ _, _ => rfl
  | .tb _, _ => rfl
theorem cbs_no (n : Nat) : ∀ {ds : List Dat}, noCells ds = true → cbs n ds = true
  | [], _ => rfl
  | d :: ds, h => by
    rw [noCells, Bool.and_eq_true] at h
    rw [cbs, cb_no n h.1, cbs_no n h.2]; rfl
end
theorem close_ok {φ : Fv} {ds : List Dat} {d : Dat} {m' : Mu} {κ : Kp} (h : φ κ ds [] = .ok d m') (hd : noCell d = true) : closeV φ κ ds [] = .ok d [] := by
  unfold closeV
  rw [h]
  unfold closeR
  simp only [List.length_nil, List.take_zero, stb, cb_no 0 hd, Nat.zero_le, and_self, if_true]
theorem close_cell {φ : Fv} {ds : List Dat} {k : Nat} {m' : Mu} {κ : Kp} {xs : List Dat} (h : φ κ ds [] = .ok (.cell k) m') (hl : lv m' (.cell k) = some xs) (hx : noCells xs = true) : closeV φ κ ds [] = .ok (.cell 0) [some xs] := by
  unfold closeV
  rw [h]
  unfold closeR
  have h0 : cb 0 (.cell k) = false := by rw [cb]; exact decide_eq_false (Nat.not_lt_zero k)
  simp only [List.length_nil, List.take_zero, stb, h0, hl, cbs_no 0 hx, Nat.zero_le, and_self, if_true, List.nil_append]
  rw [if_neg (by intro z; exact absurd z.2.1 Bool.false_ne_true)]
/-- a framed def -/
theorem fr_run {n : Nat} {ss : Kp → SS} {κ : Kp} {ds : List Dat} {m m' : Mu} {d : Dat} (hds : noCells ds = true) (h : endO (ss [] (startR n ds) []) = .ok d m') (hd : noCell d = true) (hf : fre d = true) : frameV (closeV (bodyV n ss)) κ ds m = .ok d m :=
  frame_ok hds (close_ok h hd) hf hd
theorem fr_cell {n : Nat} {ss : Kp → SS} {κ : Kp} {ds : List Dat} {m m' : Mu} {k : Nat} {xs : List Dat} (hds : noCells ds = true) (h : endO (ss [] (startR n ds) []) = .ok (.cell k) m') (hl : lv m' (.cell k) = some xs) (hx : noCells xs = true) (hf : fres xs = true) : frameV (closeV (bodyV n ss)) κ ds m = .ok (.cell m.length) (m ++ [some xs]) :=
  frame_cell hds (close_cell h hl hx) hf hx
/-! loops -/
inductive OkO (I : Ro → Mu → Prop) (R : Dat → Mu → Prop) : Out → Prop
  | nx {ρ : Ro} {m : Mu} : I ρ m → OkO I R (.nx ρ m)
  | rt {d : Dat} {m : Mu} : R d m → OkO I R (.rt d m)
theorem forL_run {w : Wk} {g : SG} {b : SS} {N : Nat} {d : Nat → Dat} {I : Nat → Ro → Mu → Prop} {R : Dat → Mu → Prop} (hw : ∀ i m, i < N → wkAt w i m = some (some (d i))) (he : ∀ m, wkAt w N m = some none)
    (step : ∀ i ρ m, i < N → I i ρ m → ∃ ρ1, g (d i) ρ m = .ok ρ1 m ∧ OkO (I (i + 1)) R (b ρ1 m)) : ∀ n i ρ m, i ≤ N → N - i < n → I i ρ m → OkO (I N) R (forL w g b n i ρ m)
  | 0, i, ρ, m, _, h, _ => by omega
  | n + 1, i, ρ, m, hi, hn, hI => by
    unfold forL
    by_cases c : i = N
    · subst c
      rw [he]
      exact .nx hI
    · rw [hw i m (by omega)]
      obtain ⟨ρ1, h1, h2⟩ := step i ρ m (by omega) hI
      simp only
      rw [h1]
      simp only
      cases q : b ρ1 m with
      | nx ρ2 m2 =>
        rw [q] at h2
        cases h2 with
        | nx h2 => exact forL_run hw he step n (i + 1) ρ2 m2 (by omega) (by omega) h2
      | rt d2 m2 =>
        rw [q] at h2
        cases h2 with
        | rt h2 => exact .rt h2
      | bk _ _ => rw [q] at h2; cases h2
      | ct _ _ => rw [q] at h2; cases h2
      | exc _ _ _ => rw [q] at h2; cases h2
      | no => rw [q] at h2; cases h2
theorem rng_at (lo : Int) {n i : Nat} (m : Mu) (h : i < n) : wkAt (.rng lo n) i m = some (some (.int (lo + i))) := by
  unfold wkAt; simp only; rw [if_pos h]
theorem rng_end (lo : Int) (n : Nat) (m : Mu) : wkAt (.rng lo n) n m = some none := by
  unfold wkAt; simp only; rw [if_neg (Nat.lt_irrefl n)]
theorem tup_at {xs : List Dat} {i : Nat} (m : Mu) (h : i < xs.length) : wkAt (.sq (.tup xs)) i m = some (some (xs.getD i .non)) := by
  unfold wkAt
  simp only [sq, Option.map_some, List.getElem?_eq_getElem h, List.getD_eq_getElem?_getD, Option.getD_some]
theorem tup_end (xs : List Dat) (m : Mu) : wkAt (.sq (.tup xs)) xs.length m = some none := by
  unfold wkAt
  simp only [sq, Option.map_some, List.getElem?_eq_none (Nat.le_refl _)]
/-- a loop over range: all turns go on -/
theorem for_rng {it : Sm Wk} {g : SG} {b : SS} {ρ : Ro} {m : Mu} {lo : Int} {N : Nat} {I : Nat → Ro → Mu → Prop} {R : Dat → Mu → Prop} (hit : it ρ m = .ok (.rng lo N) m) (hN : N < FUEL) (h0 : I 0 ρ m)
    (step : ∀ i ρ m, i < N → I i ρ m → ∃ ρ1, g (.int (lo + i)) ρ m = .ok ρ1 m ∧ OkO (I (i + 1)) R (b ρ1 m)) : OkO (I N) R (sFor it g b ρ m) := by
  unfold sFor
  rw [hit]
  show OkO (I N) R (forL (.rng lo N) g b FUEL 0 ρ m)
  exact forL_run (fun i m h => rng_at lo m h) (rng_end lo N) step FUEL 0 ρ m (Nat.zero_le _) (by omega) h0
/-! comprehensions -/
theorem grow_go {e : Sm Dat} {ρ : Ro} {m : Mu} {acc : List Dat} {y : Dat} (h : e ρ (m ++ [some acc]) = .ok y (m ++ [some acc])) (hl : acc.length < sizeLine) : grow m.length e ρ (m ++ [some acc]) = some (m ++ [some (acc ++ [y])]) := by
  unfold grow
  rw [h]
  have hc : lv (m ++ [some acc]) (.cell m.length) = some acc := by
    simp [lv]
  simp only [hc, if_pos hl]
  congr 1
  rw [List.set_append_right _ _ (Nat.le_refl _), Nat.sub_self]
  rfl
theorem walk_go {w : Wk} {g : SG} {e : Sm Dat} {N : Nat} {d f : Nat → Dat} {ρ0 : Ro} {m : Mu} (hN : N < sizeLine) (hw : ∀ i m, i < N → wkAt w i m = some (some (d i))) (he : ∀ m, wkAt w N m = some none)
    (step : ∀ i m, i < N → ∃ ρ1, g (d i) ρ0 m = .ok ρ1 m ∧ e ρ1 m = .ok (f i) m) : ∀ n i acc, i ≤ N → N - i < n → acc.length = i → walkL w g sYes (grow m.length e) ρ0 n i (m ++ [some acc]) = some (m ++ [some (acc ++ (List.range' i (N - i)).map f)])
  | 0, i, acc, _, h, _ => by omega
  | n + 1, i, acc, hi, hn, ha => by
    unfold walkL
    by_cases c : i = N
    · subst c
      rw [he, Nat.sub_self]
      simp
    · rw [hw i _ (by omega)]
      obtain ⟨ρ1, h1, h2⟩ := step i (m ++ [some acc]) (by omega)
      simp only
      rw [h1]
      simp only [sYes]
      rw [grow_go h2 (by omega)]
      simp only
      rw [walk_go hN hw he step n (i + 1) (acc ++ [f i]) (by omega) (by omega) (by simp [ha])]
      have e2 : N - i = (N - (i + 1)) + 1 := by omega
      rw [e2, List.range'_succ, List.map_cons, List.append_assoc]
      rfl
theorem lc_go {it : Sm Wk} {vs : List Nat} {g : SG} {e : Sm Dat} {ρ : Ro} {m : Mu} {w : Wk} {N : Nat} {d f : Nat → Dat} (hit : it ρ m = .ok w m) (hN : N < FUEL) (hw : ∀ i m, i < N → wkAt w i m = some (some (d i))) (he : ∀ m, wkAt w N m = some none)
    (step : ∀ i m, i < N → ∃ ρ1, g (d i) (wipeR ρ vs) m = .ok ρ1 m ∧ e ρ1 m = .ok (f i) m) : sLc it vs g sYes e ρ m = .ok (.lst ((List.range N).map f)) (m ++ [none]) := by
  unfold sLc
  rw [hit]
  show lcEnd m.length (walkL w g sYes (grow m.length e) (wipeR ρ vs) FUEL 0 (m ++ [some []])) = _
  rw [walk_go (by rw [sizeLine_eq]; have : FUEL = 1000000 := rfl; omega) hw he step FUEL 0 [] (Nat.zero_le _) (by omega) rfl]
  unfold lcEnd
  have hc : ∀ acc : List Dat, lv (m ++ [some acc]) (.cell m.length) = some acc := fun acc => by simp [lv]
  simp only [hc]
  rw [List.nil_append, Nat.sub_zero, List.range_eq_range', List.set_append_right _ _ (Nat.le_refl _), Nat.sub_self]
  rfl
theorem lcC_go {it : Sm Wk} {vs : List Nat} {g : SG} {e : Sm Dat} {ρ : Ro} {m : Mu} {w : Wk} {N : Nat} {d f : Nat → Dat} (hit : it ρ m = .ok w m) (hN : N < FUEL) (hw : ∀ i m, i < N → wkAt w i m = some (some (d i))) (he : ∀ m, wkAt w N m = some none)
    (step : ∀ i m, i < N → ∃ ρ1, g (d i) (wipeR ρ vs) m = .ok ρ1 m ∧ e ρ1 m = .ok (f i) m) : sLcC it vs g sYes e ρ m = .ok (.cell m.length) (m ++ [some ((List.range N).map f)]) := by
  unfold sLcC
  rw [hit]
  show lcEndC m.length (walkL w g sYes (grow m.length e) (wipeR ρ vs) FUEL 0 (m ++ [some []])) = _
  rw [walk_go (by rw [sizeLine_eq]; have : FUEL = 1000000 := rfl; omega) hw he step FUEL 0 [] (Nat.zero_le _) (by omega) rfl]
  unfold lcEndC
  rw [List.nil_append, Nat.sub_zero, List.range_eq_range']
end VM
namespace VM
open PySem DL L2
/-! ### tuples and lists of ints -/
abbrev pz (xs : List Int) : List PyData := xs.map PyData.int
theorem toP_ints (m : Mu) (n : Nat) : ∀ xs : List Int, optAll (toP m (n + 1)) (xs.map Dat.int) = some (pz xs)
  | [] => rfl
  | x :: xs => by
    rw [List.map_cons]
    unfold optAll
    rw [toP_ints m n xs]
    rfl
theorem lay_ints : ∀ xs : List Int, PyData.canLayAll0 (pz xs) = true
  | [] => by rw [pz, List.map_nil, PyData.canLayAll0]
  | x :: xs => by
    have := lay_ints xs
    rw [pz, List.map_cons, PyData.canLayAll0, PyData.canLay0]
    exact this
theorem depth_ints : ∀ xs : List Int, PyData.depthAll (pz xs) = 0
  | [] => by rw [pz, List.map_nil, PyData.depthAll]
  | x :: xs => by
    have h := depth_ints xs
    rw [pz] at h
    rw [pz, List.map_cons, PyData.depthAll, h, PyData.depth]
    rfl
theorem eqv_ints : ∀ xs ys : List Int, PyData.eqvAll (pz xs) (pz ys) = decide (xs = ys)
  | [], [] => by rw [pz, List.map_nil, PyData.eqvAll]; rfl
  | x :: xs, [] => by rw [pz, pz, List.map_nil, List.map_cons, PyData.eqvAll]; simp
  | [], y :: ys => by rw [pz, pz, List.map_nil, List.map_cons, PyData.eqvAll]; simp
  | x :: xs, y :: ys => by
    have h := eqv_ints xs ys
    rw [pz, pz] at h
    rw [pz, pz, List.map_cons, List.map_cons, PyData.eqvAll, PyData.eqv, h]
    by_cases c : x = y
    · subst c
      simp
    · simp [c]
theorem toS_tz (m : Mu) (xs : List Int) : toS m (tz xs) = some (.tuple (pz xs)) := by
  have e : toP m 60 (tz xs) = some (.tuple (pz xs)) := by
    unfold toP
    simp only
    rw [toP_ints m 58 xs]
    rfl
  have s : SeqAt.shaped (.tuple (pz xs)) = true := by
    unfold SeqAt.shaped
    rw [PyData.canLay0, lay_ints, PyData.depth, depth_ints]
    rfl
  unfold toS
  rw [e]
  simp only [s, if_true]
theorem toS_lst (m : Mu) (d : Dat) (xs : List Int) (h : lv m d = some (xs.map Dat.int)) : toS m d = some (.list (pz xs)) := by
  have e : toP m 60 d = some (.list (pz xs)) := by
    cases d with
    | lst ys =>
      have : ys = xs.map Dat.int := Option.some.inj h
      subst this
      unfold toP
      simp only
      rw [toP_ints m 58 xs]
      rfl
    | cell k =>
      unfold toP
      simp only
      rw [h]
      simp only
      rw [toP_ints m 58 xs]
      rfl
    | _ => cases h
  have s : SeqAt.shaped (.list (pz xs)) = true := by
    unfold SeqAt.shaped
    rw [PyData.canLay0, lay_ints, PyData.depth, depth_ints]
    rfl
  unfold toS
  rw [e]
  simp only [s, if_true]
theorem toS_rz (m : Mu) (B A : List Int) : toS m (rz B A) = some (.tuple [.tuple (pz B), .tuple (pz A)]) := by
  have e : toP m 60 (rz B A) = some (.tuple [.tuple (pz B), .tuple (pz A)]) := by
    unfold toP
    simp only [optAll]
    unfold toP
    simp only
    rw [toP_ints m 57 B, toP_ints m 57 A]
    rfl
  have s : SeqAt.shaped (.tuple [.tuple (pz B), .tuple (pz A)]) = true := by
    unfold SeqAt.shaped
    simp only [PyData.canLay0, PyData.canLayAll0, lay_ints, PyData.depth, PyData.depthAll, depth_ints]
    rfl
  unfold toS
  rw [e]
  simp only [s, if_true]
theorem eq_tz (m : Mu) (xs ys : List Int) : fEq (tz xs) (tz ys) m = some (.bl (decide (xs = ys)), m) := by
  unfold fEq
  rw [toS_tz, toS_tz]
  simp only
  rw [PyData.eqv, eqv_ints]
theorem eq_int (m : Mu) (i j : Int) : fEq (.int i) (.int j) m = some (.bl (decide (i = j)), m) := by
  have e : ∀ i : Int, toS m (.int i) = some (.int i) := fun i => rfl
  unfold fEq
  rw [e, e]
  simp only
  rw [PyData.eqv]
  by_cases c : i = j
  · subst c; simp
  · simp [c]
theorem eq_rz (m : Mu) (B A B' A' : List Int) : fEq (rz B A) (rz B' A') m = some (.bl (decide (B = B' ∧ A = A')), m) := by
  unfold fEq
  rw [toS_rz, toS_rz]
  simp only
  rw [PyData.eqv, PyData.eqvAll, PyData.eqvAll, PyData.eqvAll, PyData.eqv, PyData.eqv, eqv_ints, eqv_ints, Bool.and_true]
  congr 2
  by_cases c : B = B' <;> by_cases c2 : A = A' <;> simp [c, c2]
theorem eq_lst {m : Mu} {d e : Dat} {xs ys : List Int} (h1 : lv m d = some (xs.map Dat.int)) (h2 : lv m e = some (ys.map Dat.int)) : fEq d e m = some (.bl (decide (xs = ys)), m) := by
  unfold fEq
  rw [toS_lst m d xs h1, toS_lst m e ys h2]
  simp only
  rw [PyData.eqv, eqv_ints]
theorem ne_lst {m : Mu} {d e : Dat} {xs ys : List Int} (h1 : lv m d = some (xs.map Dat.int)) (h2 : lv m e = some (ys.map Dat.int)) : fNe d e m = some (.bl (!decide (xs = ys)), m) := by
  unfold fNe
  rw [toS_lst m d xs h1, toS_lst m e ys h2]
  simp only
  rw [PyData.eqv, eqv_ints]
theorem cut_map {α β : Type} (f : α → β) (xs : List α) (lo hi : Option Int) : DL.cut (xs.map f) lo hi = (DL.cut xs lo hi).map f := by
  unfold DL.cut
  rw [List.length_map, List.map_take, List.map_drop]
theorem cut_to {α : Type} (xs : List α) (n : Nat) : DL.cut xs none (some (n : Int)) = xs.take n := by
  unfold DL.cut
  rw [HT.sIx_nat]
  show (xs.drop 0).take (min n xs.length - 0) = _
  rw [List.drop_zero, Nat.sub_zero]
  by_cases c : n ≤ xs.length
  · rw [Nat.min_eq_left c]
  · rw [Nat.min_eq_right (by omega), List.take_length, List.take_of_length_le (by omega)]
theorem cut_from {α : Type} (xs : List α) (n : Nat) : DL.cut xs (some (n : Int)) none = xs.drop n := by
  unfold DL.cut
  rw [HT.sIx_nat]
  show (xs.drop (min n xs.length)).take (xs.length - min n xs.length) = _
  rw [List.take_of_length_le (by rw [List.length_drop]; omega)]
  by_cases c : n ≤ xs.length
  · rw [Nat.min_eq_left c]
  · rw [Nat.min_eq_right (by omega), List.drop_of_length_le (Nat.le_refl _), List.drop_of_length_le (by omega)]
theorem cut_mid {α : Type} (xs : List α) (a b : Nat) : DL.cut xs (some (a : Int)) (some (b : Int)) = (xs.drop a).take (b - a) := by
  unfold DL.cut
  rw [HT.sIx_nat, HT.sIx_nat]
  by_cases c : a ≤ xs.length
  · rw [Nat.min_eq_left c]
    by_cases c2 : b ≤ xs.length
    · rw [Nat.min_eq_left c2]
    · rw [Nat.min_eq_right (by omega), List.take_of_length_le (by rw [List.length_drop]; omega), List.take_of_length_le (by rw [List.length_drop]; omega)]
  · rw [List.drop_of_length_le (by omega), List.drop_of_length_le (i := a) (by omega)]
    simp
theorem sl_tz (m : Mu) (xs : List Int) (lo hi : Option Int) : fSl (tz xs) lo hi m = some (tz (DL.cut xs lo hi), m) := by
  unfold fSl
  simp only
  rw [cut_map]
theorem sl_lst {m : Mu} {d : Dat} {xs : List Int} (h : lv m d = some (xs.map Dat.int)) (lo hi : Option Int) : fSl d lo hi m = some (.lst ((DL.cut xs lo hi).map Dat.int), m) := by
  cases d with
  | lst ys =>
    have : ys = xs.map Dat.int := Option.some.inj h
    subst this
    unfold fSl
    simp only [lv]
    rw [cut_map]
  | cell k =>
    unfold fSl
    simp only
    rw [h]
    simp only
    rw [cut_map]
  | _ => cases h
theorem len_tz (m : Mu) (xs : List Int) : fLen [tz xs] m = some (.int (xs.length : Int), m) := by
  unfold fLen
  simp only [sq, List.length_map]
theorem len_lst {m : Mu} {d : Dat} {xs : List Int} (h : lv m d = some (xs.map Dat.int)) : fLen [d] m = some (.int (xs.length : Int), m) := by
  cases d with
  | lst ys =>
    have : ys = xs.map Dat.int := Option.some.inj h
    subst this
    unfold fLen
    simp only [sq, lv, List.length_map]
  | cell k =>
    unfold fLen
    simp only [sq]
    rw [h]
    simp only [List.length_map]
  | _ => cases h
theorem ixN_nat {n i : Nat} (h : i < n) : ixN n (i : Int) = some i := by
  unfold ixN
  rw [if_pos (by omega), if_pos (by omega)]
  rfl
theorem ixN_neg {n j : Nat} (h : j < n) : ixN n (-1 - (j : Int)) = some (n - 1 - j) := by
  unfold ixN
  rw [if_neg (by omega), if_pos (by omega)]
  congr 1
  omega
theorem at_ints {xs : List Int} {i : Int} {j : Nat} (h : ixN xs.length i = some j) (hj : j < xs.length) : atI (xs.map Dat.int) i = some (.int (xs.getD j 0)) := by
  unfold atI
  rw [List.length_map, h]
  show (xs.map Dat.int)[j]? = _
  rw [List.getElem?_map, List.getElem?_eq_getElem hj, List.getD_eq_getElem?_getD, List.getElem?_eq_getElem hj]
  rfl
theorem ix_tz {xs : List Int} {i : Int} {j : Nat} (m : Mu) (h : ixN xs.length i = some j) (hj : j < xs.length) : fIx (tz xs) (.int i) m = some (.int (xs.getD j 0), m) := by
  unfold fIx
  simp only [sq]
  rw [at_ints h hj]
  rfl
theorem ix_rz0 (B A : List Int) (m : Mu) : fIx (rz B A) (.int 0) m = some (tz B, m) := rfl
theorem ix_rz1 (B A : List Int) (m : Mu) : fIx (rz B A) (.int 1) m = some (tz A, m) := rfl
theorem add_tz {xs ys : List Int} (m : Mu) (h : xs.length + ys.length ≤ 1000000) : fAdd (tz xs) (tz ys) m = some (tz (xs ++ ys), m) := by
  unfold fAdd
  simp only
  unfold fCat
  simp only [List.length_map]
  rw [if_pos (by rw [sizeLine_eq]; omega), ← List.map_append]
theorem add_int (i j : Int) (m : Mu) : fAdd (.int i) (.int j) m = some (.int (i + j), m) := rfl
theorem rep_tz {xs : List Int} {k : Nat} (m : Mu) (h : xs ≠ []) (h1 : 1 ≤ k) (h2 : k ≤ 1000) (h3 : xs.length ≤ 1000) : fMul (tz xs) (.int (k : Int)) m = some (tz (List.replicate k xs).flatten, m) := by
  unfold fMul
  simp only
  unfold fRepT
  simp only
  rw [if_pos ⟨by cases xs with | nil => exact absurd rfl h | cons _ _ => rfl, by omega, by omega, by rw [List.length_map]; exact h3⟩]
  have e : (List.replicate (Int.toNat (k : Int)) (xs.map Dat.int)).flatten = ((List.replicate k xs).flatten).map Dat.int := by
    rw [Int.toNat_natCast, List.map_flatten, List.map_replicate]
  rw [e]
theorem tuple_lst {m : Mu} {d : Dat} {xs : List Int} (h : sq m d = some (xs.map Dat.int)) : fTuple [d] m = some (tz xs, m) := by
  unfold fTuple
  simp only
  rw [h]
end VM
namespace VM
open PySem DL L2
/-! ### big steps -/
section
variable {f g : Sm Dat} {h : Sm (List Dat)} {t u : Sm Bool} {a b : SS} {ρ ρ1 : Ro} {m m1 m2 m3 : Mu} {d e z : Dat} {ds : List Dat} {o : Out} {r : R Dat} {F : F2} {κ : Kp} {φ : Fv} {i : Nat}
theorem b_var (q : ρ[i]? = some (some d)) : sVar i ρ m = .ok d m := by unfold sVar; rw [q]
theorem b_op (q : f ρ m = .ok d m1) (q2 : g ρ m1 = .ok e m2) (q3 : F d e m2 = some (z, m3)) : sOp F f g ρ m = .ok z m3 := by
  unfold sOp; rw [q]; simp only [R.bind]; rw [q2]; simp only [R.bind]; rw [q3]; rfl
theorem b_fI {C : Int → Int → Bool} {G : Int → Int → Dat} {x y : Int} (q : f ρ m = .ok (.int x) m1) (q2 : g ρ m1 = .ok (.int y) m2) (q3 : C x y = true) : sOp (fI C G) f g ρ m = .ok (G x y) m2 :=
  b_op q q2 (by unfold fI; simp only; rw [if_pos q3])
theorem b_nil : sNil ρ m = .ok [] m := rfl
theorem b_cons (q : f ρ m = .ok d m1) (q2 : h ρ m1 = .ok ds m2) : sCons f h ρ m = .ok (d :: ds) m2 := by
  unfold sCons; rw [q]; simp only [R.bind]; rw [q2]
theorem b_one (q : f ρ m = .ok d m1) : sCons f sNil ρ m = .ok [d] m1 := b_cons q rfl
theorem b_two (q : f ρ m = .ok d m1) (q2 : g ρ m1 = .ok e m2) : sCons f (sCons g sNil) ρ m = .ok [d, e] m2 := b_cons q (b_one q2)
theorem b_cb {C : FC} (q : h ρ m = .ok ds m1) (q2 : C ds m1 = some (z, m2)) : sCB C h ρ m = .ok z m2 := by
  unfold sCB; rw [q]; simp only [R.bind]; rw [q2]; rfl
theorem b_call (q : h ρ m = .ok ds m1) (q2 : φ κ ds m1 = r) : sCall φ κ h ρ m = r := by
  unfold sCall; rw [q]; exact q2
theorem b_tup (q : h ρ m = .ok ds m1) (q2 : ds.length ≤ 1000000) : sTup h ρ m = .ok (.tup ds) m1 := by
  unfold sTup; rw [q]; simp only [R.bind]; rw [if_pos (by rw [sizeLine_eq]; omega)]
theorem b_neg {x : Int} (q : f ρ m = .ok (.int x) m1) : sNeg f ρ m = .ok (.int (-x)) m1 := by unfold sNeg; rw [q]; rfl
theorem b_part {x : Int} (q : f ρ m = .ok (.int x) m1) : sPart f ρ m = .ok (some x) m1 := by unfold sPart; rw [q]; rfl
theorem b_sl {lo hi : Sm (Option Int)} {x y : Option Int} (q : f ρ m = .ok d m) (q2 : lo ρ m = .ok x m) (q3 : hi ρ m = .ok y m) (q4 : fSl d x y m = some (z, m)) : sSl f lo hi ρ m = .ok z m := by
  unfold sSl; rw [q]; simp only [R.bind]; rw [q2]; simp only [R.bind]; rw [q3]; simp only [R.bind]; rw [q4]; rfl
theorem b_and1 (q : f ρ m = .ok (.bl true) m1) (q2 : g ρ m1 = r) : sAnd f g ρ m = r := by unfold sAnd; rw [q]; exact q2
theorem b_and0 (q : f ρ m = .ok (.bl false) m1) : sAnd f g ρ m = .ok (.bl false) m1 := by unfold sAnd; rw [q]; rfl
theorem b_or1 (q : f ρ m = .ok (.bl true) m1) : sOr f g ρ m = .ok (.bl true) m1 := by unfold sOr; rw [q]; rfl
theorem b_or0 (q : f ρ m = .ok (.bl false) m1) (q2 : g ρ m1 = r) : sOr f g ρ m = r := by unfold sOr; rw [q]; exact q2
theorem b_test {k : Bool} (q : f ρ m = .ok (.bl k) m1) : sTest f ρ m = .ok k m1 := by unfold sTest; rw [q]; rfl
theorem b_tru {k : Bool} (q : f ρ m = .ok (.bl k) m1) : sTru f ρ m = .ok k m1 := by unfold sTru; rw [q]; cases k <;> rfl
theorem b_notT {k : Bool} (q : t ρ m = .ok k m1) : sNotT t ρ m = .ok (!k) m1 := by unfold sNotT; rw [q]; rfl
theorem b_andT1 {rb : R Bool} (q : t ρ m = .ok true m1) (q2 : u ρ m1 = rb) : sAndT t u ρ m = rb := by unfold sAndT; rw [q]; exact q2
theorem b_andT0 (q : t ρ m = .ok false m1) : sAndT t u ρ m = .ok false m1 := by unfold sAndT; rw [q]; rfl
theorem b_orT1 (q : t ρ m = .ok true m1) : sOrT t u ρ m = .ok true m1 := by unfold sOrT; rw [q]; rfl
theorem b_orT0 {rb : R Bool} (q : t ρ m = .ok false m1) (q2 : u ρ m1 = rb) : sOrT t u ρ m = rb := by unfold sOrT; rw [q]; exact q2
theorem b_if1 (q : t ρ m = .ok true m1) (q2 : a ρ m1 = o) : sIfS t a b ρ m = o := by unfold sIfS; rw [q]; exact q2
theorem b_if0 (q : t ρ m = .ok false m1) (q2 : b ρ m1 = o) : sIfS t a b ρ m = o := by unfold sIfS; rw [q]; exact q2
theorem b_ret (q : f ρ m = .ok d m1) : sRet f ρ m = .rt d m1 := by unfold sRet; rw [q]; rfl
theorem b_retX {x : Ex} (q : f ρ m = .exc x m1) : sRet f ρ m = .exc x ρ m1 := by unfold sRet; rw [q]; rfl
theorem b_drop (q : f ρ m = .ok d m1) : sDrop f ρ m = .nx ρ m1 := by unfold sDrop; rw [q]; rfl
theorem b_set (q : f ρ m = .ok d m1) : sSet i f ρ m = .nx (ρ.set i (some d)) m1 := by unfold sSet; rw [q]; rfl
theorem b_aug {G : Int → Int → Int} {x y : Int} (q0 : ρ[i]? = some (some (.int x))) (q : f ρ m = .ok (.int y) m1) : sAug i G f ρ m = .nx (ρ.set i (some (.int (G x y)))) m1 := by unfold sAug; rw [q0]; simp only; rw [q]; rfl
theorem b_seq (q : a ρ m = .nx ρ1 m1) (q2 : b ρ1 m1 = o) : sSeq a b ρ m = o := by unfold sSeq; rw [q]; exact q2
theorem b_rt (q : a ρ m = .rt d m1) : sSeq a b ρ m = .rt d m1 := by unfold sSeq; rw [q]
theorem b_exc {x : Ex} (q : a ρ m = .exc x ρ1 m1) : sSeq a b ρ m = .exc x ρ1 m1 := by unfold sSeq; rw [q]
theorem b_asg {G : SG} (q : f ρ m = .ok d m1) (q2 : G d ρ m1 = .ok ρ1 m2) : sAsg f G ρ m = .nx ρ1 m2 := by unfold sAsg; rw [q]; simp only [R.out]; rw [q2]
theorem b_app {k : Nat} {xs : List Dat} (q : f ρ m = .ok (.cell k) m) (q1 : lv m (.cell k) = some xs) (q2 : g ρ m = .ok d m) (hl : xs.length < 1000000) : sApp f g ρ m = .ok .non (m.set k (some (xs ++ [d]))) := by
  unfold sApp; rw [q]; simp only [R.bind]; rw [q1]; simp only; rw [q2]; simp only [R.bind]; rw [q1]; simp only
  rw [if_pos (by rw [sizeLine_eq]; omega)]
theorem b_ext {k : Nat} {xs ys : List Dat} {m2 : Mu} (q : f ρ m = .ok (.cell k) m) (q1 : lv m (.cell k) = some xs) (q2 : g ρ m = .ok d m2) (q3 : lv m2 (.cell k) = some xs) (q4 : lv m2 d = some ys) (hl : xs.length + ys.length ≤ 1000000) : sExt f g ρ m = .ok .non (m2.set k (some (xs ++ ys))) := by
  unfold sExt; rw [q]; simp only [R.bind]; rw [q1]; simp only; rw [q2]; simp only [R.bind]; rw [q3, q4]; simp only
  rw [if_pos (by rw [sizeLine_eq]; omega)]
end
theorem body_rt {n : Nat} {ss : Kp → SS} {κ : Kp} {ds : List Dat} {m m1 : Mu} {d : Dat} (q : ss κ (startR n ds) m = .rt d m1) : endO (ss κ (startR n ds) m) = .ok d m1 := by rw [q]; rfl
theorem body_nx {n : Nat} {ss : Kp → SS} {κ : Kp} {ds : List Dat} {m m1 : Mu} {ρ1 : Ro} (q : ss κ (startR n ds) m = .nx ρ1 m1) : endO (ss κ (startR n ds) m) = .ok .non m1 := by rw [q]; rfl
theorem all_true {n : Nat} {m : Mu} : fAll [.lst ((List.range n).map fun _ => Dat.bl true)] m = some (.bl true, m) := by
  have e : ∀ l : List Nat, bls (l.map fun _ => Dat.bl true) = some (l.map fun _ => true) := fun l => by
    induction l with
    | nil => rfl
    | cons x l ih => rw [List.map_cons, bls, ih]; rfl
  unfold fAll
  simp only [lv]
  rw [e]
  simp
end VM
namespace KM
/-! endless rows that go round, as functions of the place -/
def seq (B A : List Int) (i : Nat) : Int := if i < B.length then B.getD i 0 else A.getD ((i - B.length) % A.length) 0
def Per (x : Nat → Int) (m s : Nat) : Prop := ∀ i, m ≤ i → x (i + s) = x i
structure IsN (x : Nat → Int) (m s : Nat) : Prop where
  per : Per x m s
  pos : 1 ≤ s
  least : ∀ m' s', 1 ≤ s' → Per x m' s' → m ≤ m' ∧ s ≤ s'
def pre (x : Nat → Int) (m : Nat) : List Int := (List.range m).map x
def cyc (x : Nat → Int) (m s : Nat) : List Int := (List.range s).map fun i => x (m + i)
def NR (x : Nat → Int) (B A : List Int) : Prop := ∃ m s, IsN x m s ∧ B = pre x m ∧ A = cyc x m s
theorem NR.unique {x : Nat → Int} {B A B' A' : List Int} (h : NR x B A) (g : NR x B' A') : B = B' ∧ A = A' := by
  obtain ⟨m, s, h1, rfl, rfl⟩ := h
  obtain ⟨m', s', g1, rfl, rfl⟩ := g
  have a := h1.least m' s' g1.pos g1.per
  have b := g1.least m s h1.pos h1.per
  have e1 : m = m' := by omega
  have e2 : s = s' := by omega
  subst e1 e2
  exact ⟨rfl, rfl⟩
theorem per_seq {B A : List Int} : Per (seq B A) B.length A.length := fun i hi => by
  unfold seq
  rw [if_neg (by omega), if_neg (by omega)]
  have : i + A.length - B.length = (i - B.length) + A.length := by omega
  rw [this, Nat.add_mod_right]
theorem per_mul {x : Nat → Int} {m s : Nat} (h : Per x m s) : ∀ k, Per x m (s * k)
  | 0 => fun i _ => by simp
  | k + 1 => fun i hi => by
    rw [Nat.mul_succ, ← Nat.add_assoc, h _ (by omega)]
    exact per_mul h k i hi
theorem per_mix {x : Nat → Int} {m s m' s' : Nat} (h : Per x m s) (g : Per x m' s') (hs : 1 ≤ s) : Per x m s' := fun i hi => by
  have big : m' ≤ i + s * m' := by
    have := Nat.mul_le_mul_right m' hs
    omega
  have e1 := per_mul h m' (i + s') (by omega)
  have e2 := per_mul h m' i hi
  have e3 := g (i + s * m') big
  have c : i + s' + s * m' = i + s * m' + s' := by omega
  rw [← e1, c, e3, e2]
theorem per_sub {x : Nat → Int} {m s t : Nat} (h : Per x m s) (g : Per x m t) (l : s ≤ t) : Per x m (t - s) := fun i hi => by
  have e1 := h (i + (t - s)) (by omega)
  have e2 := g i hi
  have c : i + (t - s) + s = i + t := by omega
  rw [c] at e1
  rw [← e1, e2]
theorem per_mod {x : Nat → Int} {m s t : Nat} (h : Per x m s) (g : Per x m t) : Per x m (t % s) := by
  have e : t % s = t - s * (t / s) := by
    have := Nat.div_add_mod t s
    omega
  rw [e]
  exact per_sub (per_mul h _) g (Nat.mul_div_le t s)
theorem per_gcd {x : Nat → Int} {m : Nat} : ∀ s t : Nat, Per x m s → Per x m t → Per x m (Nat.gcd s t) := fun s t =>
  Nat.gcd.induction (P := fun s t => Per x m s → Per x m t → Per x m (Nat.gcd s t)) s t (fun n _ h => by rw [Nat.gcd_zero_left]; exact h) fun a b _ ih h g => by
    rw [Nat.gcd_rec]
    exact ih (per_mod h g) h
/-! ### the shortest round -/
/-- the first l letters, again and again, are all of A -/
def Rnd (A : List Int) (l : Nat) : Prop := 1 ≤ l ∧ A.length % l = 0 ∧ ∀ i, i < A.length → A.getD i 0 = A.getD (i % l) 0
theorem rnd_per {B A : List Int} {l : Nat} (h : Rnd A l) (hA : A ≠ []) : Per (seq B A) B.length l := fun i hi => by
  obtain ⟨h1, h2, h3⟩ := h
  have hn : 0 < A.length := List.length_pos_iff.mpr hA
  unfold seq
  rw [if_neg (by omega), if_neg (by omega)]
  have e : i + l - B.length = (i - B.length) + l := by omega
  rw [e, h3 _ (Nat.mod_lt _ hn), h3 ((i - B.length) % A.length) (Nat.mod_lt _ hn)]
  have d : l ∣ A.length := Nat.dvd_of_mod_eq_zero h2
  rw [Nat.mod_mod_of_dvd _ d, Nat.mod_mod_of_dvd _ d, Nat.add_mod_right]
theorem per_rnd {B A : List Int} {l : Nat} (h : Per (seq B A) B.length l) (h1 : 1 ≤ l) (h2 : A.length % l = 0) : Rnd A l := by
  refine ⟨h1, h2, fun i hi => ?_⟩
  have e := per_mul h (i / l) (B.length + i % l) (by omega)
  have c : B.length + i % l + l * (i / l) = B.length + i := by
    have := Nat.div_add_mod i l
    omega
  rw [c] at e
  unfold seq at e
  rw [if_neg (by omega), if_neg (by omega)] at e
  have q1 : (B.length + i - B.length) % A.length = i := by rw [Nat.add_sub_cancel_left]; exact Nat.mod_eq_of_lt hi
  have q2 : (B.length + i % l - B.length) % A.length = i % l := by
    rw [Nat.add_sub_cancel_left]
    exact Nat.mod_eq_of_lt (Nat.lt_of_le_of_lt (Nat.mod_le i l) hi)
  rw [q1, q2] at e
  exact e
/-- the least round is the least period -/
theorem least_round {B A : List Int} {p m' s' : Nat} (hA : A ≠ []) (hp : ∀ l, l < p → ¬ Rnd A l) (hs : 1 ≤ s') (h : Per (seq B A) m' s') : p ≤ s' := by
  have hn : 1 ≤ A.length := List.length_pos_iff.mpr hA
  have h1 : Per (seq B A) B.length s' := per_mix per_seq h hn
  have h2 := per_gcd _ _ h1 (per_seq (B := B) (A := A))
  have gp : 1 ≤ Nat.gcd s' A.length := Nat.gcd_pos_of_pos_left _ hs
  have gl : Nat.gcd s' A.length ≤ s' := Nat.gcd_le_left _ hs
  have r := per_rnd h2 gp (Nat.mod_eq_zero_of_dvd (Nat.gcd_dvd_right _ _))
  by_cases c : p ≤ s'
  · exact c
  · exact absurd r (hp _ (by omega))
theorem seq_rnd {B A : List Int} {l : Nat} (h : Rnd A l) (hA : A ≠ []) (hl : l ≤ A.length) : seq B (A.take l) = seq B A := by
  funext i
  obtain ⟨h1, h2, h3⟩ := h
  have hn : 0 < A.length := List.length_pos_iff.mpr hA
  unfold seq
  by_cases c : i < B.length
  · rw [if_pos c, if_pos c]
  · rw [if_neg c, if_neg c]
    have tl : (A.take l).length = l := by rw [List.length_take]; omega
    rw [tl, h3 _ (Nat.mod_lt _ hn), Nat.mod_mod_of_dvd _ (Nat.dvd_of_mod_eq_zero h2)]
    rw [List.getD_eq_getElem?_getD, List.getD_eq_getElem?_getD, List.getElem?_take_of_lt (Nat.mod_lt _ (by omega))]
theorem rep_get (w : List Int) : ∀ (k i : Nat), i < k * w.length → (List.replicate k w).flatten.getD i 0 = w.getD (i % w.length) 0
  | 0, i, h => by simp at h
  | k + 1, i, h => by
    rw [List.replicate_succ, List.flatten_cons]
    by_cases c : i < w.length
    · rw [Nat.mod_eq_of_lt c, List.getD_eq_getElem?_getD, List.getD_eq_getElem?_getD, List.getElem?_append_left c]
    · have e : i % w.length = (i - w.length) % w.length := by
        have : i = (i - w.length) + w.length := by omega
        conv => lhs; rw [this]
        rw [Nat.add_mod_right]
      rw [e, ← rep_get w k (i - w.length) (by rw [Nat.succ_mul] at h; omega)]
      rw [List.getD_eq_getElem?_getD, List.getD_eq_getElem?_getD, List.getElem?_append_right (by omega)]
theorem rep_len (w : List Int) : ∀ k : Nat, (List.replicate k w).flatten.length = k * w.length
  | 0 => by simp
  | k + 1 => by rw [List.replicate_succ, List.flatten_cons, List.length_append, rep_len w k, Nat.succ_mul, Nat.add_comm]
theorem ext_getD {a b : List Int} (hl : a.length = b.length) (h : ∀ i, i < a.length → a.getD i 0 = b.getD i 0) : a = b := by
  apply List.ext_getElem hl
  intro i h1 h2
  have := h i h1
  rw [List.getD_eq_getElem?_getD, List.getD_eq_getElem?_getD, List.getElem?_eq_getElem h1, List.getElem?_eq_getElem h2] at this
  simpa using this
/-- what the program asks of a length -/
theorem rnd_iff {A : List Int} {l : Nat} (h1 : 1 ≤ l) (hl : l ≤ A.length) : Rnd A l ↔ A.length % l = 0 ∧ (List.replicate (A.length / l) (A.take l)).flatten = A := by
  have tl : (A.take l).length = l := by rw [List.length_take]; omega
  have tg : ∀ i, (A.take l).getD (i % l) 0 = A.getD (i % l) 0 := fun i => by
    rw [List.getD_eq_getElem?_getD, List.getD_eq_getElem?_getD, List.getElem?_take_of_lt (Nat.mod_lt _ (by omega))]
  have dv : A.length % l = 0 → A.length / l * l = A.length := fun h => Nat.div_mul_cancel (Nat.dvd_of_mod_eq_zero h)
  constructor
  · rintro ⟨_, h2, h3⟩
    refine ⟨h2, ext_getD (by rw [rep_len, tl, dv h2]) fun i hi => ?_⟩
    rw [rep_len, tl] at hi
    rw [rep_get _ _ _ (by rw [tl]; exact hi), tl, tg, ← h3 i (by rw [dv h2] at hi; exact hi)]
  · rintro ⟨h2, h3⟩
    refine ⟨h1, h2, fun i hi => ?_⟩
    have e := rep_get (A.take l) (A.length / l) i (by rw [tl, dv h2]; exact hi)
    rw [h3, tl, tg] at e
    exact e
theorem rnd_self {A : List Int} (h : A ≠ []) : Rnd A A.length := ⟨List.length_pos_iff.mpr h, Nat.mod_self _, fun i hi => by rw [Nat.mod_eq_of_lt hi]⟩
/-! ### the letter that goes from begin's end to again's front -/
theorem rot_seq (B A : List Int) (c : Int) : seq (B ++ [c]) (A ++ [c]) = seq B (c :: A) := by
  funext i
  unfold seq
  rw [List.length_append, List.length_append, List.length_singleton, List.length_cons]
  by_cases h : i < B.length
  · rw [if_pos h, if_pos (by omega), List.getD_eq_getElem?_getD, List.getD_eq_getElem?_getD, List.getElem?_append_left h]
  · rw [if_neg h]
    by_cases g : i < B.length + 1
    · have e : i = B.length := by omega
      subst e
      rw [if_pos g, Nat.sub_self, Nat.zero_mod, List.getD_eq_getElem?_getD, List.getElem?_append_right (Nat.le_refl _), Nat.sub_self]
      rfl
    · rw [if_neg g]
      have e : i - B.length = (i - (B.length + 1)) + 1 := by omega
      rw [e]
      generalize i - (B.length + 1) = j
      have key : ∀ q, q < A.length + 1 → (A ++ [c]).getD q 0 = (c :: A).getD ((q + 1) % (A.length + 1)) 0 := fun q hq => by
        by_cases z : q = A.length
        · subst z
          rw [Nat.mod_self, List.getD_eq_getElem?_getD, List.getElem?_append_right (Nat.le_refl _), Nat.sub_self]
          rfl
        · rw [Nat.mod_eq_of_lt (by omega), List.getD_eq_getElem?_getD, List.getElem?_append_left (by omega), List.getD_cons_succ, List.getD_eq_getElem?_getD]
      rw [key _ (Nat.mod_lt _ (by omega)), Nat.mod_add_mod]
theorem pre_seq (B A : List Int) : pre (seq B A) B.length = B := by
  apply ext_getD
  · simp [pre]
  · intro i hi
    have hi' : i < B.length := by simpa [pre] using hi
    unfold pre
    rw [List.getD_eq_getElem?_getD, List.getElem?_map, List.getElem?_range hi']
    show (some (seq B A i)).getD 0 = _
    unfold seq
    rw [if_pos hi']
    rfl
theorem cyc_seq (B A : List Int) : cyc (seq B A) B.length A.length = A := by
  apply ext_getD
  · simp [cyc]
  · intro i hi
    have hi' : i < A.length := by simpa [cyc] using hi
    unfold cyc
    rw [List.getD_eq_getElem?_getD, List.getElem?_map, List.getElem?_range hi']
    show (some (seq B A (B.length + i))).getD 0 = _
    unfold seq
    rw [if_neg (by omega), Nat.add_sub_cancel_left, Nat.mod_eq_of_lt hi']
    rfl
/-- the program's end: shortest again, begin that does not end as again does -/
theorem nr_of {B A : List Int} {x : Nat → Int} (e : seq B A = x) (hA : A ≠ []) (hp : ∀ m' s', 1 ≤ s' → Per x m' s' → A.length ≤ s') (hl : B = [] ∨ B.getD (B.length - 1) 0 ≠ A.getD (A.length - 1) 0) : NR x B A := by
  subst e
  have hn : 1 ≤ A.length := List.length_pos_iff.mpr hA
  refine ⟨B.length, A.length, ⟨per_seq, hn, fun m' s' hs h => ⟨?_, hp m' s' hs h⟩⟩, (pre_seq B A).symm, (cyc_seq B A).symm⟩
  by_cases c : B.length ≤ m'
  · exact c
  · rcases hl with rfl | hl
    · simp
    · have q : Per (seq B A) m' A.length := per_mix h per_seq hs
      have z := q (B.length - 1) (by omega)
      refine absurd ?_ hl
      unfold seq at z
      rw [if_neg (by omega), if_pos (by omega)] at z
      have : (B.length - 1 + A.length - B.length) % A.length = A.length - 1 := by
        have : B.length - 1 + A.length - B.length = A.length - 1 := by omega
        rw [this]
        exact Nat.mod_eq_of_lt (by omega)
      rw [this] at z
      exact z.symm
theorem nr_seq {x : Nat → Int} {B A : List Int} (h : NR x B A) : seq B A = x := by
  obtain ⟨m, s, h, rfl, rfl⟩ := h
  funext i
  have l1 : (pre x m).length = m := by simp [pre]
  have l2 : (cyc x m s).length = s := by simp [cyc]
  unfold seq
  rw [l1, l2]
  by_cases c : i < m
  · rw [if_pos c]
    unfold pre
    rw [List.getD_eq_getElem?_getD, List.getElem?_map, List.getElem?_range c]
    rfl
  · rw [if_neg c]
    have hs := h.pos
    unfold cyc
    rw [List.getD_eq_getElem?_getD, List.getElem?_map, List.getElem?_range (Nat.mod_lt _ hs)]
    show x (m + (i - m) % s) = x i
    have e := per_mul h.per ((i - m) / s) (m + (i - m) % s) (by omega)
    have c2 : m + (i - m) % s + s * ((i - m) / s) = i := by
      have := Nat.div_add_mod (i - m) s
      omega
    rw [c2] at e
    exact e.symm
theorem nr_same {x y : Nat → Int} {B A B' A' : List Int} (h : NR x B A) (g : NR y B' A') : (B = B' ∧ A = A') ↔ ∀ i, x i = y i := by
  constructor
  · rintro ⟨rfl, rfl⟩ i
    rw [← nr_seq h, ← nr_seq g]
  · intro e
    have : x = y := funext e
    subst this
    exact h.unique g
/-! ### the law's search -/
/-- the windows that the law compares -/
def Win (x : Nat → Int) (b n m s : Nat) : Prop := ∀ i, i < b + n + 1 - m → x (m + i) = x (m + s + i)
theorem win_per {x : Nat → Int} {b n m s : Nat} (h : Per x b n) (hm : m ≤ b) (hn : 1 ≤ n) : Win x b n m s ↔ Per x m s := by
  constructor
  · intro w i
    induction i using Nat.strongRecOn with
    | ind i ih =>
      intro hi
      by_cases c : i < b + n + 1
      · have := w (i - m) (by omega)
        have e1 : m + (i - m) = i := by omega
        have e2 : m + s + (i - m) = i + s := by omega
        rw [e1, e2] at this
        exact this.symm
      · have e1 := h (i - n + s) (by omega)
        have e2 := h (i - n) (by omega)
        have c1 : i - n + s + n = i + s := by omega
        have c2 : i - n + n = i := by omega
        rw [c1] at e1
        rw [c2] at e2
        rw [e1, e2]
        exact ih (i - n) (by omega) (by omega)
  · intro p i _
    have := p (m + i) (by omega)
    have e : m + i + s = m + s + i := by omega
    rw [e] at this
    exact this.symm
theorem found {x : Nat → Int} {b n m s : Nat} (h : Per x b n) (hn : 1 ≤ n) (hs : 1 ≤ s) (hm : m ≤ b) (p : Per x m s) (h1 : ∀ m' s', m' < m → 1 ≤ s' → s' ≤ n → ¬ Per x m' s') (h2 : ∀ s', 1 ≤ s' → s' < s → ¬ Per x m s') : IsN x m s := by
  refine ⟨p, hs, fun m' s' hs' q => ⟨?_, ?_⟩⟩
  · by_cases c : m ≤ m'
    · exact c
    · exact absurd (per_mix q h hs') (h1 m' n (by omega) hn (Nat.le_refl _))
  · by_cases c : s ≤ s'
    · exact c
    · exact absurd (per_mix p q hs) (h2 s' hs' (by omega))
/-! ### first unlike places -/
def FD (x y : Nat → Int) : Option Nat → Prop
  | none => ∀ i, x i = y i
  | some p => x p ≠ y p ∧ ∀ i, i < p → x i = y i
theorem FD.unique {x y : Nat → Int} : ∀ {a b : Option Nat}, FD x y a → FD x y b → a = b
  | none, none, _, _ => rfl
  | none, some q, h, g => absurd (h q) g.1
  | some p, none, h, g => absurd (g p) h.1
  | some p, some q, h, g => by
    have a : ¬ p < q := fun c => h.1 (g.2 p c)
    have b : ¬ q < p := fun c => g.1 (h.2 q c)
    have : p = q := by omega
    rw [this]
theorem FD.symm {x y : Nat → Int} : ∀ {a : Option Nat}, FD x y a → FD y x a
  | none, h => fun i => (h i).symm
  | some p, h => ⟨fun e => h.1 e.symm, fun i c => (h.2 i c).symm⟩
theorem agree_sum {x y : Nat → Int} {M n n' : Nat} (h : Per x M n) (g : Per y M n') (hn : 1 ≤ n) (hn' : 1 ≤ n') (w : ∀ i, i < M + n + n' → x i = y i) : ∀ i, x i = y i := fun i => by
  induction i using Nat.strongRecOn with
  | ind i ih =>
    by_cases c : i < M + n + n'
    · exact w i c
    · have a1 := h (i - n) (by omega)
      have a2 := h (i - n - n') (by omega)
      have b1 := g (i - n') (by omega)
      have b2 := g (i - n - n') (by omega)
      have c1 : i - n + n = i := by omega
      have c2 : i - n - n' + n = i - n' := by omega
      have c3 : i - n' + n' = i := by omega
      have c4 : i - n - n' + n' = i - n := by omega
      rw [c1] at a1
      rw [c2] at a2
      rw [c3] at b1
      rw [c4] at b2
      rw [a1, b1, ih (i - n) (by omega), b2, ← ih (i - n - n') (by omega), ← a2, ih (i - n') (by omega)]
theorem agree_prod {x y : Nat → Int} {M n n' : Nat} (h : Per x M n) (g : Per y M n') (hn : 1 ≤ n) (hn' : 1 ≤ n') (w : ∀ i, i < M + n * n' → x i = y i) : ∀ i, x i = y i := fun i => by
  have hp : 1 ≤ n * n' := Nat.mul_pos hn hn'
  induction i using Nat.strongRecOn with
  | ind i ih =>
    by_cases c : i < M + n * n'
    · exact w i c
    · have a1 := per_mul h n' (i - n * n') (by omega)
      have b1 := per_mul g n (i - n * n') (by omega)
      rw [Nat.mul_comm n' n] at b1
      have c1 : i - n * n' + n * n' = i := by omega
      rw [c1] at a1 b1
      rw [a1, b1]
      exact ih _ (by omega)
theorem per_more {x : Nat → Int} {m m' s : Nat} (h : Per x m s) (l : m ≤ m') : Per x m' s := fun i hi => h i (by omega)
/-! ### turned on -/
theorem drop_seq (B A : List Int) (k : Nat) (h : k ≤ B.length) : seq (B.drop k) A = fun i => seq B A (i + k) := by
  funext i
  unfold seq
  rw [List.length_drop]
  by_cases c : i < B.length - k
  · rw [if_pos c, if_pos (by omega), List.getD_eq_getElem?_getD, List.getD_eq_getElem?_getD, List.getElem?_drop, Nat.add_comm]
  · rw [if_neg c, if_neg (by omega)]
    have : i - (B.length - k) = i + k - B.length := by omega
    rw [this]
theorem spin_seq (B A : List Int) (k g : Nat) (h : B.length ≤ k) (hA : A ≠ []) (hg : g = (k - B.length) % A.length) : seq [] (A.drop g ++ A.take g) = fun i => seq B A (i + k) := by
  have hn : 0 < A.length := List.length_pos_iff.mpr hA
  have gl : g < A.length := hg ▸ Nat.mod_lt _ hn
  funext i
  unfold seq
  have l : (A.drop g ++ A.take g).length = A.length := by
    rw [List.length_append, List.length_drop, List.length_take]; omega
  rw [if_neg (by simp), if_neg (by omega), l]
  have e : (i + k - B.length) % A.length = (i % A.length + g) % A.length := by
    have : i + k - B.length = i + (k - B.length) := by omega
    rw [this, hg, ← Nat.add_mod]
  rw [e]
  show (A.drop g ++ A.take g).getD ((i - 0) % A.length) 0 = _
  rw [Nat.sub_zero]
  have hj : i % A.length < A.length := Nat.mod_lt _ hn
  generalize i % A.length = j at hj
  by_cases c : j < A.length - g
  · rw [Nat.mod_eq_of_lt (by omega), List.getD_eq_getElem?_getD, List.getD_eq_getElem?_getD, List.getElem?_append_left (by rw [List.length_drop]; exact c), List.getElem?_drop, Nat.add_comm]
  · have e2 : (j + g) % A.length = j + g - A.length := by
      have : j + g = (j + g - A.length) + A.length := by omega
      conv => lhs; rw [this]
      rw [Nat.add_mod_right]
      exact Nat.mod_eq_of_lt (by omega)
    rw [e2, List.getD_eq_getElem?_getD, List.getD_eq_getElem?_getD, List.getElem?_append_right (by rw [List.length_drop]; omega), List.length_drop, List.getElem?_take_of_lt (by omega)]
    congr 2
    omega
/-! ### rows that are let -/
structure Ok (L : Int) (B A : List Int) : Prop where
  lb : B.length ≤ 40
  la : A.length ≤ 40
  ne : A ≠ []
  b : ∀ c ∈ B, 0 ≤ c ∧ c < L
  a : ∀ c ∈ A, 0 ≤ c ∧ c < L
theorem getD_ok {L : Int} {l : List Int} (h : ∀ c ∈ l, 0 ≤ c ∧ c < L) {i : Nat} (hi : i < l.length) : 0 ≤ l.getD i 0 ∧ l.getD i 0 < L := by
  rw [List.getD_eq_getElem?_getD, List.getElem?_eq_getElem hi]
  exact h _ (List.getElem_mem hi)
theorem Ok.at {L : Int} {B A : List Int} (h : Ok L B A) (i : Nat) : 0 ≤ seq B A i ∧ seq B A i < L := by
  unfold seq
  by_cases c : i < B.length
  · rw [if_pos c]; exact getD_ok h.b c
  · rw [if_neg c]; exact getD_ok h.a (Nat.mod_lt _ (List.length_pos_iff.mpr h.ne))
theorem Ok.nr {L : Int} {B A B' A' : List Int} (h : Ok L B A) (g : NR (seq B A) B' A') : Ok L B' A' ∧ B'.length ≤ B.length ∧ A'.length ≤ A.length := by
  obtain ⟨m, s, n, rfl, rfl⟩ := g
  have hn : 1 ≤ A.length := List.length_pos_iff.mpr h.ne
  have l := n.least _ _ hn (per_seq (B := B) (A := A))
  have l1 : (pre (seq B A) m).length = m := by simp [pre]
  have l2 : (cyc (seq B A) m s).length = s := by simp [cyc]
  have h1 := h.lb
  have h2 := h.la
  refine ⟨⟨by omega, by omega, fun z => ?_, fun c hc => ?_, fun c hc => ?_⟩, by omega, by omega⟩
  · have := n.pos
    rw [z] at l2
    simp at l2
    omega
  · obtain ⟨i, _, rfl⟩ := List.mem_map.mp hc
    exact h.at i
  · obtain ⟨i, _, rfl⟩ := List.mem_map.mp hc
    exact h.at _
theorem Ok.mono {L L' : Int} {B A : List Int} (h : Ok L B A) (l : L ≤ L') : Ok L' B A := ⟨h.lb, h.la, h.ne, fun c m => ⟨(h.b c m).1, Int.lt_of_lt_of_le (h.b c m).2 l⟩, fun c m => ⟨(h.a c m).1, Int.lt_of_lt_of_le (h.a c m).2 l⟩⟩
end KM
namespace KM
/-! ### the letters that the begin's end and the again have alike -/
def bkw (B : List Int) (k : Nat) : List Int := B.take (B.length - k)
def spn (A : List Int) (k : Nat) : List Int := A.drop (A.length - k % A.length) ++ A.take (A.length - k % A.length)
theorem spn_len {A : List Int} {k : Nat} : (spn A k).length = A.length := by
  unfold spn
  rw [List.length_append, List.length_drop, List.length_take]
  omega
theorem take_last (l : List Int) (n : Nat) (h : n < l.length) : l.take (n + 1) = l.take n ++ [l.getD n 0] := by
  rw [List.take_succ, List.getElem?_eq_getElem h, List.getD_eq_getElem?_getD, List.getElem?_eq_getElem h]
  rfl
theorem drop_first (l : List Int) (n : Nat) (h : n < l.length) : l.drop n = l.getD n 0 :: l.drop (n + 1) := by
  rw [List.drop_eq_getElem_cons h, List.getD_eq_getElem?_getD, List.getElem?_eq_getElem h]
  rfl
theorem spn_step {A : List Int} (k : Nat) (hA : A ≠ []) : ∃ X, spn A k = X ++ [A.getD (A.length - 1 - k % A.length) 0] ∧ spn A (k + 1) = A.getD (A.length - 1 - k % A.length) 0 :: X := by
  have hn : 0 < A.length := List.length_pos_iff.mpr hA
  have hr := Nat.mod_lt k hn
  have e1 : A.length - k % A.length = (A.length - 1 - k % A.length) + 1 := by omega
  refine ⟨A.drop (A.length - k % A.length) ++ A.take (A.length - 1 - k % A.length), ?_, ?_⟩
  · unfold spn
    conv => lhs; rw [show A.take (A.length - k % A.length) = A.take (A.length - 1 - k % A.length) ++ [A.getD (A.length - 1 - k % A.length) 0] by rw [e1]; exact take_last A _ (by omega)]
    rw [List.append_assoc]
  · unfold spn
    by_cases c : k % A.length + 1 < A.length
    · have e2 : (k + 1) % A.length = k % A.length + 1 := by rw [← Nat.mod_add_mod]; exact Nat.mod_eq_of_lt c
      have e3 : A.length - (k % A.length + 1) = A.length - 1 - k % A.length := by omega
      rw [e2, e3, drop_first A (A.length - 1 - k % A.length) (by omega), ← e1]
      rfl
    · have e0 : k % A.length + 1 = A.length := by omega
      have e2 : (k + 1) % A.length = 0 := by rw [← Nat.mod_add_mod, e0, Nat.mod_self]
      have e3 : A.length - 1 - k % A.length = 0 := by omega
      have e4 : A.length - k % A.length = 1 := by omega
      rw [e2, e3, e4, Nat.sub_zero, List.drop_length, List.take_length, List.take_zero, List.append_nil, List.nil_append]
      have := drop_first A 0 hn
      rwa [List.drop_zero] at this
theorem back_seq {B A : List Int} (hA : A ≠ []) : ∀ k, k ≤ B.length → (∀ j, j < k → B.getD (B.length - 1 - j) 0 = A.getD (A.length - 1 - j % A.length) 0) → seq (bkw B k) (spn A k) = seq B A
  | 0, _, _ => by
    unfold bkw spn
    rw [Nat.zero_mod, Nat.sub_zero, Nat.sub_zero, List.take_length, List.take_length, List.drop_length, List.nil_append]
  | k + 1, h, al => by
    rw [← back_seq hA k (by omega) fun j hj => al j (by omega)]
    obtain ⟨X, e1, e2⟩ := spn_step k hA
    have eb : bkw B k = bkw B (k + 1) ++ [A.getD (A.length - 1 - k % A.length) 0] := by
      unfold bkw
      have e : B.length - k = (B.length - (k + 1)) + 1 := by omega
      rw [e, take_last B _ (by omega), ← al k (by omega)]
      have e5 : B.length - (k + 1) = B.length - 1 - k := by omega
      rw [e5]
    rw [e1, e2, eb]
    exact (rot_seq _ _ _).symm
theorem back_nr {B A : List Int} {x : Nat → Int} {k : Nat} (hA : A ≠ []) (e : seq B A = x) (hp : ∀ m' s', 1 ≤ s' → Per x m' s' → A.length ≤ s') (hk : k ≤ B.length) (al : ∀ j, j < k → B.getD (B.length - 1 - j) 0 = A.getD (A.length - 1 - j % A.length) 0)
    (no : ¬ (k < B.length ∧ B.getD (B.length - 1 - k) 0 = A.getD (A.length - 1 - k % A.length) 0)) : NR x (bkw B k) (spn A k) := by
  have hn : 0 < A.length := List.length_pos_iff.mpr hA
  refine nr_of ((back_seq hA k hk al).trans e) (fun z => ?_) (fun m' s' a b => by rw [spn_len]; exact hp m' s' a b) ?_
  · have := congrArg List.length z
    rw [spn_len, List.length_nil] at this
    omega
  · by_cases c : k < B.length
    · right
      have no' := fun z => no ⟨c, z⟩
      obtain ⟨X, e1, _⟩ := spn_step k hA
      have l1 : (bkw B k).length = B.length - k := by unfold bkw; rw [List.length_take]; omega
      have g1 : (bkw B k).getD ((bkw B k).length - 1) 0 = B.getD (B.length - 1 - k) 0 := by
        rw [l1]
        unfold bkw
        have : B.length - k - 1 = B.length - 1 - k := by omega
        rw [this, List.getD_eq_getElem?_getD, List.getElem?_take_of_lt (by omega), ← List.getD_eq_getElem?_getD]
      have g2 : (spn A k).getD ((spn A k).length - 1) 0 = A.getD (A.length - 1 - k % A.length) 0 := by
        rw [e1, List.length_append, List.length_singleton, Nat.add_sub_cancel, List.getD_eq_getElem?_getD, List.getElem?_append_right (Nat.le_refl _), Nat.sub_self]
        rfl
      rw [g1, g2]
      exact no'
    · left
      have : B.length - k = 0 := by omega
      unfold bkw
      rw [this, List.take_zero]
end KM
namespace VK12
open PySem PySem.Spec PyProof.Rows L2 DL LamX VM
def top (i : Nat) : Stmt := PySem.Challenge.pw_tworivals_k12_whole_words_ahead_and_rows.main.body.getD i (.Pass ⟨0, 0, 0, 0⟩)
def inC (i j : Nat) : Stmt := match top i with | .ClassDef _ _ _ b _ _ _ _ _ _ _ => b.getD j (.Pass ⟨0, 0, 0, 0⟩) | s => s
abbrev s_is_integer : Stmt := top 1
abbrev N_is_integer : List Str := ["value"]
theorem sc_is_integer : FnScope N_is_integer ["value"] (defScope s_is_integer) := ⟨rfl, rfl, rfl, by decide +kernel, rfl, by decide +kernel, by decide +kernel⟩
abbrev s_is_count : Stmt := top 2
abbrev N_is_count : List Str := ["value"]
theorem sc_is_count : FnScope N_is_count ["value"] (defScope s_is_count) := ⟨rfl, rfl, rfl, by decide +kernel, rfl, by decide +kernel, by decide +kernel⟩
abbrev s_is_below : Stmt := top 3
abbrev N_is_below : List Str := ["value", "bound"]
theorem sc_is_below : FnScope N_is_below ["value", "bound"] (defScope s_is_below) := ⟨rfl, rfl, rfl, by decide +kernel, rfl, by decide +kernel, by decide +kernel⟩
abbrev s_is_list : Stmt := top 4
abbrev N_is_list : List Str := ["value"]
theorem sc_is_list : FnScope N_is_list ["value"] (defScope s_is_list) := ⟨rfl, rfl, rfl, by decide +kernel, rfl, by decide +kernel, by decide +kernel⟩
abbrev s_is_pair : Stmt := top 5
abbrev N_is_pair : List Str := ["value"]
theorem sc_is_pair : FnScope N_is_pair ["value"] (defScope s_is_pair) := ⟨rfl, rfl, rfl, by decide +kernel, rfl, by decide +kernel, by decide +kernel⟩
abbrev s_is_word : Stmt := top 16
abbrev N_is_word : List Str := ["letters", "value", "letter"]
theorem sc_is_word : FnScope N_is_word ["letters", "value"] (defScope s_is_word) := ⟨rfl, rfl, rfl, by decide +kernel, rfl, by decide +kernel, by decide +kernel⟩
abbrev s_is_row_of : Stmt := top 17
abbrev N_is_row_of : List Str := ["letters", "value"]
theorem sc_is_row_of : FnScope N_is_row_of ["letters", "value"] (defScope s_is_row_of) := ⟨rfl, rfl, rfl, by decide +kernel, rfl, by decide +kernel, by decide +kernel⟩
abbrev s_check_word : Stmt := top 18
abbrev N_check_word : List Str := ["letters", "word"]
theorem sc_check_word : FnScope N_check_word ["letters", "word"] (defScope s_check_word) := ⟨rfl, rfl, rfl, by decide +kernel, rfl, by decide +kernel, by decide +kernel⟩
abbrev s_check_row : Stmt := top 19
abbrev N_check_row : List Str := ["letters", "row"]
theorem sc_check_row : FnScope N_check_row ["letters", "row"] (defScope s_check_row) := ⟨rfl, rfl, rfl, by decide +kernel, rfl, by decide +kernel, by decide +kernel⟩
abbrev s_check_many : Stmt := top 20
abbrev N_check_many : List Str := ["many", "most"]
theorem sc_check_many : FnScope N_check_many ["many", "most"] (defScope s_check_many) := ⟨rfl, rfl, rfl, by decide +kernel, rfl, by decide +kernel, by decide +kernel⟩
abbrev s_spelled : Stmt := top 24
abbrev N_spelled : List Str := ["row", "many", "place"]
theorem sc_spelled : FnScope N_spelled ["row", "many"] (defScope s_spelled) := ⟨rfl, rfl, rfl, by decide +kernel, rfl, by decide +kernel, by decide +kernel⟩
abbrev s_normal_row : Stmt := top 25
abbrev N_normal_row : List Str := ["row"]
theorem sc_normal_row : FnScope N_normal_row ["row"] (defScope s_normal_row) := ⟨rfl, rfl, rfl, by decide +kernel, rfl, by decide +kernel, by decide +kernel⟩
abbrev s_turned_on : Stmt := top 26
abbrev N_turned_on : List Str := ["row", "many", "begin", "again", "gone"]
theorem sc_turned_on : FnScope N_turned_on ["row", "many"] (defScope s_turned_on) := ⟨rfl, rfl, rfl, by decide +kernel, rfl, by decide +kernel, by decide +kernel⟩
abbrev s_put_ahead : Stmt := top 27
abbrev N_put_ahead : List Str := ["word", "row"]
theorem sc_put_ahead : FnScope N_put_ahead ["word", "row"] (defScope s_put_ahead) := ⟨rfl, rfl, rfl, by decide +kernel, rfl, by decide +kernel, by decide +kernel⟩
abbrev s_woven : Stmt := top 28
abbrev N_woven : List Str := ["row", "other", "ahead", "rounds", "letters", "place"]
theorem sc_woven : FnScope N_woven ["row", "other"] (defScope s_woven) := ⟨rfl, rfl, rfl, by decide +kernel, rfl, by decide +kernel, by decide +kernel⟩
abbrev s__letter : Stmt := top 29
abbrev N__letter : List Str := ["row", "place", "begin", "again"]
theorem sc__letter : FnScope N__letter ["row", "place"] (defScope s__letter) := ⟨rfl, rfl, rfl, by decide +kernel, rfl, by decide +kernel, by decide +kernel⟩
abbrev s__shortest_round : Stmt := top 30
abbrev N__shortest_round : List Str := ["again", "length"]
theorem sc__shortest_round : FnScope N__shortest_round ["again"] (defScope s__shortest_round) := ⟨rfl, rfl, rfl, by decide +kernel, rfl, by decide +kernel, by decide +kernel⟩
abbrev s_normal_of : Stmt := top 31
abbrev N_normal_of : List Str := ["row", "begin", "again", "alike", "back"]
theorem sc_normal_of : FnScope N_normal_of ["row"] (defScope s_normal_of) := ⟨rfl, rfl, rfl, by decide +kernel, rfl, by decide +kernel, by decide +kernel⟩
abbrev s_short_enough : Stmt := top 32
abbrev N_short_enough : List Str := ["row"]
theorem sc_short_enough : FnScope N_short_enough ["row"] (defScope s_short_enough) := ⟨rfl, rfl, rfl, by decide +kernel, rfl, by decide +kernel, by decide +kernel⟩
abbrev s__law_pot : Stmt := top 34
abbrev N__law_pot : List Str := ["_law_script", "_law_k", "_law_cell"]
theorem sc__law_pot : FnScope N__law_pot ["_law_script", "_law_k"] (defScope s__law_pot) := ⟨rfl, rfl, rfl, by decide +kernel, rfl, by decide +kernel, by decide +kernel⟩
abbrev s__law_draw : Stmt := top 35
abbrev N__law_draw : List Str := ["_law_pot_here", "_law_size", "_law_digit"]
theorem sc__law_draw : FnScope N__law_draw ["_law_pot_here", "_law_size"] (defScope s__law_draw) := ⟨rfl, rfl, rfl, by decide +kernel, rfl, by decide +kernel, by decide +kernel⟩
abbrev s__law_word : Stmt := top 36
abbrev N__law_word : List Str := ["_law_pot_here", "_law_letters", "_law_least", "_law_most", "_law_found", "_law_turn"]
theorem sc__law_word : FnScope N__law_word ["_law_pot_here", "_law_letters", "_law_least", "_law_most"] (defScope s__law_word) := ⟨rfl, rfl, rfl, by decide +kernel, rfl, by decide +kernel, by decide +kernel⟩
abbrev s__law_row : Stmt := top 37
abbrev N__law_row : List Str := ["_law_pot_here", "_law_letters", "_law_most", "_law_begin", "_law_again", "_law_way"]
theorem sc__law_row : FnScope N__law_row ["_law_pot_here", "_law_letters", "_law_most"] (defScope s__law_row) := ⟨rfl, rfl, rfl, by decide +kernel, rfl, by decide +kernel, by decide +kernel⟩
abbrev s__law_at : Stmt := top 38
abbrev N__law_at : List Str := ["_law_row_here", "_law_place", "_law_begin", "_law_again"]
theorem sc__law_at : FnScope N__law_at ["_law_row_here", "_law_place"] (defScope s__law_at) := ⟨rfl, rfl, rfl, by decide +kernel, rfl, by decide +kernel, by decide +kernel⟩
abbrev s__law_spelled : Stmt := top 39
abbrev N__law_spelled : List Str := ["_law_row_here", "_law_many", "_law_place"]
theorem sc__law_spelled : FnScope N__law_spelled ["_law_row_here", "_law_many"] (defScope s__law_spelled) := ⟨rfl, rfl, rfl, by decide +kernel, rfl, by decide +kernel, by decide +kernel⟩
abbrev s__law_normal : Stmt := top 40
abbrev N__law_normal : List Str := ["_law_letters", "_law_begun", "_law_long", "_law_many", "_law_step"]
theorem sc__law_normal : FnScope N__law_normal ["_law_letters", "_law_begun", "_law_long"] (defScope s__law_normal) := ⟨rfl, rfl, rfl, by decide +kernel, rfl, by decide +kernel, by decide +kernel⟩
abbrev s__law_is_told : Stmt := top 41
abbrev N__law_is_told : List Str := ["_law_call", "_law_letters", "_law_begun", "_law_long", "_law_due", "_law_told", "e"]
theorem sc__law_is_told : FnScope N__law_is_told ["_law_call", "_law_letters", "_law_begun", "_law_long"] (defScope s__law_is_told) := ⟨rfl, rfl, rfl, by decide +kernel, rfl, by decide +kernel, by decide +kernel⟩
abbrev s__law_ahead_right : Stmt := top 42
abbrev N__law_ahead_right : List Str := ["_law_pot_here", "_law_letters", "_law_row_here", "_law_word_here", "_law_begun", "_law_long", "_law_whole", "_law_told"]
theorem sc__law_ahead_right : FnScope N__law_ahead_right ["_law_pot_here", "_law_letters", "_law_row_here"] (defScope s__law_ahead_right) := ⟨rfl, rfl, rfl, by decide +kernel, rfl, by decide +kernel, by decide +kernel⟩
abbrev s__law_woven_right : Stmt := top 43
abbrev N__law_woven_right : List Str := ["_law_row_here", "_law_other", "_law_ahead", "_law_long", "_law_whole", "_law_place", "_law_begun", "_law_turn", "_law_due", "_law_told"]
theorem sc__law_woven_right : FnScope N__law_woven_right ["_law_row_here", "_law_other"] (defScope s__law_woven_right) := ⟨rfl, rfl, rfl, by decide +kernel, rfl, by decide +kernel, by decide +kernel⟩
abbrev s_law : Stmt := top 44
abbrev N_law : List Str := ["_law_script", "_law_pot_here", "_law_letters", "_law_row_here", "_law_other"]
theorem sc_law : FnScope N_law ["_law_script"] (defScope s_law) := ⟨rfl, rfl, rfl, by decide +kernel, rfl, by decide +kernel, by decide +kernel⟩
abbrev s_TooMany : Stmt := inC 12 0
theorem sc_TooMany : FnScope ["self", "what", "limit"] ["self", "what", "limit"] (defScope s_TooMany) := ⟨rfl, rfl, rfl, by decide +kernel, rfl, by decide +kernel, by decide +kernel⟩
abbrev lx_0 : Expr := (atE (eE (atE (eE (atE (sE (atS (defBody s__law_ahead_right) 4)) 0)) 0)) 1)
def lt_0 : LamT := ⟨"<lambda>", (("_law_ahead_right" : Str) ++ ".<locals>." ++ "<lambda>"), lamP lx_0, .ex (lamB lx_0), (lamS0 lx_0).getD (defScope s__law_ahead_right), [], ["_law_row_here", "_law_word_here"]⟩
abbrev lx_1 : Expr := (atE (eE (atE (eE (atE (sE (atS (defBody s__law_woven_right) 4)) 0)) 0)) 1)
def lt_1 : LamT := ⟨"<lambda>", (("_law_woven_right" : Str) ++ ".<locals>." ++ "<lambda>"), lamP lx_1, .ex (lamB lx_1), (lamS0 lx_1).getD (defScope s__law_woven_right), [], ["_law_row_here", "_law_other"]⟩
def lamTab : Nat → Option LamT := fun l => if l = 0 then some lt_0 else if l = 1 then some lt_1 else none
structure All (G : Gm) (mg : Str → Option Value) where
  x_TooMany : Xv G mg "TooMany" 0 s_TooMany ["self", "what", "limit"] ["what", "limit"]
  m_TooMany : PySem.W.exmOne G.K (.ref (G.cls 0)) (.ref (G.cls 0)) = some true
  d_is_integer : Dv G mg "is_integer" s_is_integer ["value"]
  d_is_count : Dv G mg "is_count" s_is_count ["value"]
  d_is_below : Dv G mg "is_below" s_is_below ["value", "bound"]
  d_is_list : Dv G mg "is_list" s_is_list ["value"]
  d_is_pair : Dv G mg "is_pair" s_is_pair ["value"]
  d_is_word : Dv G mg "is_word" s_is_word ["letters", "value"]
  d_is_row_of : Dv G mg "is_row_of" s_is_row_of ["letters", "value"]
  d_check_word : Dv G mg "check_word" s_check_word ["letters", "word"]
  d_check_row : Dv G mg "check_row" s_check_row ["letters", "row"]
  d_check_many : Dv G mg "check_many" s_check_many ["many", "most"]
  d_spelled : Dv G mg "spelled" s_spelled ["row", "many"]
  d_normal_row : Dv G mg "normal_row" s_normal_row ["row"]
  d_turned_on : Dv G mg "turned_on" s_turned_on ["row", "many"]
  d_put_ahead : Dv G mg "put_ahead" s_put_ahead ["word", "row"]
  d_woven : Dv G mg "woven" s_woven ["row", "other"]
  d__letter : Dv G mg "_letter" s__letter ["row", "place"]
  d__shortest_round : Dv G mg "_shortest_round" s__shortest_round ["again"]
  d_normal_of : Dv G mg "normal_of" s_normal_of ["row"]
  d_short_enough : Dv G mg "short_enough" s_short_enough ["row"]
  d__law_pot : Dv G mg "_law_pot" s__law_pot ["_law_script", "_law_k"]
  d__law_draw : Dv G mg "_law_draw" s__law_draw ["_law_pot_here", "_law_size"]
  d__law_word : Dv G mg "_law_word" s__law_word ["_law_pot_here", "_law_letters", "_law_least", "_law_most"]
  d__law_row : Dv G mg "_law_row" s__law_row ["_law_pot_here", "_law_letters", "_law_most"]
  d__law_at : Dv G mg "_law_at" s__law_at ["_law_row_here", "_law_place"]
  d__law_spelled : Dv G mg "_law_spelled" s__law_spelled ["_law_row_here", "_law_many"]
  d__law_normal : Dv G mg "_law_normal" s__law_normal ["_law_letters", "_law_begun", "_law_long"]
  d__law_is_told : Dv G mg "_law_is_told" s__law_is_told ["_law_call", "_law_letters", "_law_begun", "_law_long"]
  d__law_ahead_right : Dv G mg "_law_ahead_right" s__law_ahead_right ["_law_pot_here", "_law_letters", "_law_row_here"]
  d__law_woven_right : Dv G mg "_law_woven_right" s__law_woven_right ["_law_row_here", "_law_other"]
  d_law : Dv G mg "law" s_law ["_law_script"]
  lamE_0 : G.lam 0 = some lt_0
  lamE_1 : G.lam 1 = some lt_1
  lamE : G.lam = lamTab
  w__law_ahead_right : Tw G d__law_ahead_right.cdv (("_law_ahead_right" : Str) ++ ".<locals>." ++ "<lambda>")
  w__law_woven_right : Tw G d__law_woven_right.cdv (("_law_woven_right" : Str) ++ ".<locals>." ++ "<lambda>")
  c_FARTHEST : ∃ u, mg "FARTHEST" = some u ∧ RelV (.int 999999) u
  c_LONGEST : ∃ u, mg "LONGEST" = some u ∧ RelV (.int 40) u
  c_MOST_LETTERS : ∃ u, mg "MOST_LETTERS" = some u ∧ RelV (.int 4) u
  c_MOST_SPELLED : ∃ u, mg "MOST_SPELLED" = some u ∧ RelV (.int 400) u
  z_abs : mg "abs" = none
  z_all : mg "all" = none
  z_bool : mg "bool" = none
  z_divmod : mg "divmod" = none
  z_int : mg "int" = none
  z_isinstance : mg "isinstance" = none
  z_len : mg "len" = none
  z_list : mg "list" = none
  z_max : mg "max" = none
  z_range : mg "range" = none
  z_tuple : mg "tuple" = none
structure TBs {G : Gm} {mg : Str → Option Value} (T : All G mg) (base : Heap) : Prop where
  t__law_ahead_right : TabB base mg T.w__law_ahead_right.c T.w__law_ahead_right.P
  t__law_woven_right : TabB base mg T.w__law_woven_right.c T.w__law_woven_right.P
theorem kb_put_ahead_row_word {G : Gm} {mg : Str → Option Value} (D : Dv G mg "put_ahead" s_put_ahead ["word", "row"]) : KBn G.K D.fd ["word", "row"] 0 ["row", "word"] (fun _ ws => pm [1, 0] ws) (fun _ zs => pm [1, 0] zs) :=
  ⟨fun s us ws _ hu hw => match us, ws, hu, hw with | [], [w0, w1], _, _ => .of_eq rfl, fun _ r2 => pm_vals r2 [1, 0]⟩
theorem kb_woven_other_row {G : Gm} {mg : Str → Option Value} (D : Dv G mg "woven" s_woven ["row", "other"]) : KBn G.K D.fd ["row", "other"] 0 ["other", "row"] (fun _ ws => pm [1, 0] ws) (fun _ zs => pm [1, 0] zs) :=
  ⟨fun s us ws _ hu hw => match us, ws, hu, hw with | [], [w0, w1], _, _ => .of_eq rfl, fun _ r2 => pm_vals r2 [1, 0]⟩
end VK12
namespace VK12
open PySem PySem.Spec PyProof.Rows L2 DL LamX VM
def f_is_integer (κ : Kp) : SS := (sRet (sAnd (sIsi .int (sVar 0)) (sNotV (sIsi .bool (sVar 0)))))
def F_is_integer : Fv := frameV (closeV (bodyV 1 f_is_integer))
def f_is_count (κ : Kp) : SS := (sRet (sAnd (sCall F_is_integer κ (sCons (sVar 0) sNil)) (sOp (fI (fun _ _ => true) (dB (fun i j => decide (j ≤ i)))) (sVar 0) (sLit (.int 0)))))
def F_is_count : Fv := frameV (closeV (bodyV 1 f_is_count))
def f_is_below (κ : Kp) : SS := (sRet (sAnd (sCall F_is_count κ (sCons (sVar 0) sNil)) (sOp (fI (fun _ _ => true) (dB (fun i j => decide (i < j)))) (sVar 0) (sVar 1))))
def F_is_below : Fv := frameV (closeV (bodyV 2 f_is_below))
def f_is_list (κ : Kp) : SS := (sRet (sIsi2 .list .tuple (sVar 0)))
def F_is_list : Fv := frameV (closeV (bodyV 1 f_is_list))
def f_is_pair (κ : Kp) : SS := (sRet (sAnd (sIsi .tuple (sVar 0)) (sOp fEq (sCB fLen (sCons (sVar 0) sNil)) (sLit (.int 2)))))
def F_is_pair : Fv := frameV (closeV (bodyV 1 f_is_pair))
def f_is_word (κ : Kp) : SS := (sRet (sAnd (sCall F_is_list κ (sCons (sVar 1) sNil)) (sAnd (sOp (fI (fun _ _ => true) (dB (fun i j => decide (i ≤ j)))) (sCB fLen (sCons (sVar 1) sNil)) (sLit (.int 40))) (sCB fAll (sCons (sLc (wkSeq (sVar 1)) [2] (tgName 2) sYes (sCall F_is_below κ (sCons (sVar 2) (sCons (sVar 0) sNil)))) sNil)))))
def F_is_word : Fv := frameV (closeV (bodyV 3 f_is_word))
def f_is_row_of (κ : Kp) : SS := (sSeq (sIfS (sOrT (sNotT (sTru (sCall F_is_pair κ (sCons (sVar 1) sNil)))) (sOrT (sNotT (sTru (sIsi .tuple (sOp fIx (sVar 1) (sLit (.int 0)))))) (sNotT (sTru (sIsi .tuple (sOp fIx (sVar 1) (sLit (.int 1)))))))) (sRet (sLit (.bl false))) sNext) (sRet (sAnd (sCall F_is_word κ (sCons (sVar 0) (sCons (sOp fIx (sVar 1) (sLit (.int 0))) sNil))) (sAnd (sCall F_is_word κ (sCons (sVar 0) (sCons (sOp fIx (sVar 1) (sLit (.int 1))) sNil))) (sOp (fI (fun _ _ => true) (dB (fun i j => decide (j < i)))) (sCB fLen (sCons (sOp fIx (sVar 1) (sLit (.int 1))) sNil)) (sLit (.int 0)))))))
def F_is_row_of : Fv := frameV (closeV (bodyV 2 f_is_row_of))
def f_check_word (κ : Kp) : SS := (sIfS (sNotT (sTru (sCall F_is_word κ (sCons (sVar 0) (sCons (sVar 1) sNil))))) sNever sNext)
def F_check_word : Fv := frameV (closeV (bodyV 2 f_check_word))
def f_check_row (κ : Kp) : SS := (sIfS (sNotT (sTru (sCall F_is_row_of κ (sCons (sVar 0) (sCons (sVar 1) sNil))))) sNever sNext)
def F_check_row : Fv := frameV (closeV (bodyV 2 f_check_row))
def f_check_many (κ : Kp) : SS := (sIfS (sNotT (sTru (sCall F_is_below κ (sCons (sVar 0) (sCons (sOp fAdd (sVar 1) (sLit (.int 1))) sNil))))) sNever sNext)
def F_check_many : Fv := frameV (closeV (bodyV 2 f_check_many))
def f__letter (κ : Kp) : SS := (sSeq (sAsg (sVar 0) (tgTup ((tgName 2) :: ((tgName 3) :: [])))) (sSeq (sIfS (sTest (sOp (fI (fun _ _ => true) (dB (fun i j => decide (i < j)))) (sVar 1) (sCB fLen (sCons (sVar 2) sNil)))) (sRet (sOp fIx (sVar 2) (sVar 1))) sNext) (sRet (sOp fIx (sVar 3) (sOp (fI cMod (dI (fun i j => i % j))) (sOp (fI (fun _ _ => true) (dI (fun i j => i - j))) (sVar 1) (sCB fLen (sCons (sVar 2) sNil))) (sCB fLen (sCons (sVar 3) sNil)))))))
def F__letter : Fv := frameV (closeV (bodyV 4 f__letter))
def f_spelled (κ : Kp) : SS := (sSeq (sDrop (sCall F_check_row κ (sCons (sLit (.int 4)) (sCons (sVar 0) sNil)))) (sSeq (sDrop (sCall F_check_many κ (sCons (sVar 1) (sCons (sLit (.int 400)) sNil)))) (sRet (sLcC (wkRng1 (sVar 1)) [2] (tgName 2) sYes (sCall F__letter κ (sCons (sVar 0) (sCons (sVar 2) sNil)))))))
def F_spelled : Fv := frameV (closeV (bodyV 3 f_spelled))
def f__shortest_round (κ : Kp) : SS := (sSeq (sFor (wkRng2 (sLit (.int 1)) (sOp fAdd (sCB fLen (sCons (sVar 0) sNil)) (sLit (.int 1)))) (tgName 1) (sIfS (sAndT (sTest (sOp fEq (sOp (fI cMod (dI (fun i j => i % j))) (sCB fLen (sCons (sVar 0) sNil)) (sVar 1)) (sLit (.int 0)))) (sTest (sOp fEq (sOp fMul (sSl (sVar 0) sNoPart (sPart (sVar 1))) (sOp (fI cDiv (dI (fun i j => i / j))) (sCB fLen (sCons (sVar 0) sNil)) (sVar 1))) (sVar 0)))) (sRet (sSl (sVar 0) sNoPart (sPart (sVar 1)))) sNext)) (sRet (sVar 0)))
def F__shortest_round : Fv := frameV (closeV (bodyV 2 f__shortest_round))
def f_normal_of (κ : Kp) : SS := (sSeq (sAsg (sVar 0) (tgTup ((tgName 1) :: ((tgName 2) :: [])))) (sSeq (sSet 2 (sCall F__shortest_round κ (sCons (sVar 2) sNil))) (sSeq (sSet 3 (sLit (.int 0))) (sSeq (sWhile (sAndT (sTest (sOp (fI (fun _ _ => true) (dB (fun i j => decide (i < j)))) (sVar 3) (sCB fLen (sCons (sVar 1) sNil)))) (sTest (sOp fEq (sOp fIx (sVar 1) (sOp (fI (fun _ _ => true) (dI (fun i j => i - j))) (sNeg (sLit (.int 1))) (sVar 3))) (sOp fIx (sVar 2) (sOp (fI (fun _ _ => true) (dI (fun i j => i - j))) (sNeg (sLit (.int 1))) (sOp (fI cMod (dI (fun i j => i % j))) (sVar 3) (sCB fLen (sCons (sVar 2) sNil)))))))) (sAug 3 (fun i j => i + j) (sLit (.int 1)))) (sSeq (sSet 4 (sOp (fI cMod (dI (fun i j => i % j))) (sVar 3) (sCB fLen (sCons (sVar 2) sNil)))) (sRet (sTup (sCons (sSl (sVar 1) sNoPart (sPart (sOp (fI (fun _ _ => true) (dI (fun i j => i - j))) (sCB fLen (sCons (sVar 1) sNil)) (sVar 3)))) (sCons (sOp fAdd (sSl (sVar 2) (sPart (sOp (fI (fun _ _ => true) (dI (fun i j => i - j))) (sCB fLen (sCons (sVar 2) sNil)) (sVar 4))) sNoPart) (sSl (sVar 2) sNoPart (sPart (sOp (fI (fun _ _ => true) (dI (fun i j => i - j))) (sCB fLen (sCons (sVar 2) sNil)) (sVar 4))))) sNil)))))))))
def F_normal_of : Fv := frameV (closeV (bodyV 5 f_normal_of))
def f_normal_row (κ : Kp) : SS := (sSeq (sDrop (sCall F_check_row κ (sCons (sLit (.int 4)) (sCons (sVar 0) sNil)))) (sRet (sCall F_normal_of κ (sCons (sVar 0) sNil))))
def F_normal_row : Fv := frameV (closeV (bodyV 1 f_normal_row))
def f_turned_on (κ : Kp) : SS := (sSeq (sDrop (sCall F_check_row κ (sCons (sLit (.int 4)) (sCons (sVar 0) sNil)))) (sSeq (sDrop (sCall F_check_many κ (sCons (sVar 1) (sCons (sLit (.int 999999)) sNil)))) (sSeq (sAsg (sVar 0) (tgTup ((tgName 2) :: ((tgName 3) :: [])))) (sSeq (sIfS (sTest (sOp (fI (fun _ _ => true) (dB (fun i j => decide (i ≤ j)))) (sVar 1) (sCB fLen (sCons (sVar 2) sNil)))) (sRet (sCall F_normal_of κ (sCons (sTup (sCons (sSl (sVar 2) (sPart (sVar 1)) sNoPart) (sCons (sVar 3) sNil))) sNil))) sNext) (sSeq (sSet 4 (sOp (fI cMod (dI (fun i j => i % j))) (sOp (fI (fun _ _ => true) (dI (fun i j => i - j))) (sVar 1) (sCB fLen (sCons (sVar 2) sNil))) (sCB fLen (sCons (sVar 3) sNil)))) (sRet (sCall F_normal_of κ (sCons (sTup (sCons (sTup sNil) (sCons (sOp fAdd (sSl (sVar 3) (sPart (sVar 4)) sNoPart) (sSl (sVar 3) sNoPart (sPart (sVar 4)))) sNil))) sNil))))))))
def F_turned_on : Fv := frameV (closeV (bodyV 5 f_turned_on))
def f_short_enough (κ : Kp) : SS := (sSeq (sIfS (sOrT (sTest (sOp (fI (fun _ _ => true) (dB (fun i j => decide (j < i)))) (sCB fLen (sCons (sOp fIx (sVar 0) (sLit (.int 0))) sNil)) (sLit (.int 40)))) (sTest (sOp (fI (fun _ _ => true) (dB (fun i j => decide (j < i)))) (sCB fLen (sCons (sOp fIx (sVar 0) (sLit (.int 1))) sNil)) (sLit (.int 40))))) (sRaise 0 2 (sCons (sLit (.str "letters")) (sCons (sLit (.int 40)) sNil))) sNext) (sRet (sVar 0)))
def F_short_enough : Fv := frameV (closeV (bodyV 1 f_short_enough))
def f_put_ahead (κ : Kp) : SS := (sSeq (sDrop (sCall F_check_word κ (sCons (sLit (.int 4)) (sCons (sVar 0) sNil)))) (sSeq (sDrop (sCall F_check_row κ (sCons (sLit (.int 4)) (sCons (sVar 1) sNil)))) (sRet (sCall F_short_enough κ (sCons (sCall F_normal_of κ (sCons (sTup (sCons (sOp fAdd (sCB fTuple (sCons (sVar 0) sNil)) (sOp fIx (sVar 1) (sLit (.int 0)))) (sCons (sOp fIx (sVar 1) (sLit (.int 1))) sNil))) sNil)) sNil)))))
def F_put_ahead : Fv := frameV (closeV (bodyV 2 f_put_ahead))
def f_woven (κ : Kp) : SS := (sSeq (sDrop (sCall F_check_row κ (sCons (sLit (.int 4)) (sCons (sVar 0) sNil)))) (sSeq (sDrop (sCall F_check_row κ (sCons (sLit (.int 4)) (sCons (sVar 1) sNil)))) (sSeq (sSet 2 (sCB fMax2 (sCons (sCB fLen (sCons (sOp fIx (sVar 0) (sLit (.int 0))) sNil)) (sCons (sCB fLen (sCons (sOp fIx (sVar 1) (sLit (.int 0))) sNil)) sNil)))) (sSeq (sSet 3 (sOp fMul (sCB fLen (sCons (sOp fIx (sVar 0) (sLit (.int 1))) sNil)) (sCB fLen (sCons (sOp fIx (sVar 1) (sLit (.int 1))) sNil)))) (sSeq (sSet 4 (sLstC sNil)) (sSeq (sFor (wkRng1 (sOp fAdd (sVar 2) (sVar 3))) (tgName 5) (sSeq (sDrop (sApp (sVar 4) (sCall F__letter κ (sCons (sVar 0) (sCons (sVar 5) sNil))))) (sDrop (sApp (sVar 4) (sCall F__letter κ (sCons (sVar 1) (sCons (sVar 5) sNil))))))) (sRet (sCall F_short_enough κ (sCons (sCall F_normal_of κ (sCons (sTup (sCons (sCB fTuple (sCons (sSl (sVar 4) sNoPart (sPart (sOp fMul (sLit (.int 2)) (sVar 2)))) sNil)) (sCons (sCB fTuple (sCons (sSl (sVar 4) (sPart (sOp fMul (sLit (.int 2)) (sVar 2))) sNoPart) sNil)) sNil))) sNil)) sNil)))))))))
def F_woven : Fv := frameV (closeV (bodyV 6 f_woven))
def f__law_pot (κ : Kp) : SS := (sSeq (sSet 2 (sOp fAdd (sOp fMul (sLit (.int 1187)) (sVar 1)) (sLit (.int 883)))) (sSeq (sIfS (sTest (sOp (fI (fun _ _ => true) (dB (fun i j => decide (i < j)))) (sVar 1) (sCB fLen (sCons (sVar 0) sNil)))) (sSet 2 (sCB fAbs (sCons (sOp fIx (sVar 0) (sVar 1)) sNil))) sNext) (sRet (sLstC (sCons (sCB fMax2 (sCons (sLit (.int 0)) (sCons (sOp (fI (fun _ _ => true) (dI (fun i j => i - j))) (sVar 2) (sOp (fI cPow (dI (fun i j => i ^ j.toNat))) (sLit (.int 10)) (sLit (.int 18)))) sNil))) (sCons (sOp fAdd (sOp (fI cMod (dI (fun i j => i % j))) (sCB fInt1 (sCons (sOp fAdd (sOp fMul (sOp (fI cMod (dI (fun i j => i % j))) (sCB fInt1 (sCons (sVar 2) sNil)) (sLit (.int 2147483549))) (sOp fAdd (sOp fMul (sLit (.int 2)) (sVar 1)) (sLit (.int 827)))) (sLit (.int 1613))) sNil)) (sLit (.int 2147483543))) (sLit (.int 1))) sNil))))))
def F__law_pot : Fv := closeV (bodyV 3 f__law_pot)
def f__law_draw (κ : Kp) : SS := (sSeq (sIfS (sTest (sOp (fI (fun _ _ => true) (dB (fun i j => decide (j < i)))) (sOp fIx (sVar 0) (sLit (.int 0))) (sLit (.int 0)))) (sSeq (sAsg (sCB fDm (sCons (sOp fIx (sVar 0) (sLit (.int 0))) (sCons (sVar 1) sNil))) (tgTup ((tgSub (sVar 0) (sLit (.int 0))) :: ((tgName 2) :: [])))) (sRet (sVar 2))) sNext) (sSeq (sAsg (sOp (fI cMod (dI (fun i j => i % j))) (sCB fInt1 (sCons (sOp fAdd (sOp fMul (sOp fIx (sVar 0) (sLit (.int 1))) (sLit (.int 48271))) (sLit (.int 19087))) sNil)) (sLit (.int 2147483587))) (tgSub (sVar 0) (sLit (.int 1)))) (sRet (sOp (fI cMod (dI (fun i j => i % j))) (sCB fInt1 (sCons (sOp (fI cDiv (dI (fun i j => i / j))) (sOp (fI cMod (dI (fun i j => i % j))) (sCB fInt1 (sCons (sOp fMul (sOp fIx (sVar 0) (sLit (.int 1))) (sOp fIx (sVar 0) (sLit (.int 1)))) sNil)) (sLit (.int 2147483549))) (sLit (.int 13))) sNil)) (sVar 1)))))
def F__law_draw : Fv := closeV (bodyV 3 f__law_draw)
def f__law_word (κ : Kp) : SS := (sSeq (sSet 4 (sTup sNil)) (sSeq (sFor (wkRng1 (sOp fAdd (sVar 2) (sCall F__law_draw κ (sCons (sVar 0) (sCons (sOp fAdd (sOp (fI (fun _ _ => true) (dI (fun i j => i - j))) (sVar 3) (sVar 2)) (sLit (.int 1))) sNil))))) (tgName 5) (sSet 4 (sOp fAdd (sVar 4) (sTup (sCons (sCall F__law_draw κ (sCons (sVar 0) (sCons (sVar 1) sNil))) sNil))))) (sRet (sVar 4))))
def F__law_word : Fv := bodyV 6 f__law_word
def f__law_row (κ : Kp) : SS := (sSeq (sPar 3 4 (sCons (sCall F__law_word κ (sCons (sVar 0) (sCons (sVar 1) (sCons (sLit (.int 0)) (sCons (sVar 2) sNil))))) (sCons (sCall F__law_word κ (sCons (sVar 0) (sCons (sVar 1) (sCons (sLit (.int 1)) (sCons (sVar 2) sNil))))) sNil))) (sSeq (sSet 5 (sCall F__law_draw κ (sCons (sVar 0) (sCons (sLit (.int 4)) sNil)))) (sSeq (sIfS (sTest (sOp fEq (sVar 5) (sLit (.int 0)))) (sSet 4 (sOp fMul (sVar 4) (sOp fAdd (sLit (.int 1)) (sCall F__law_draw κ (sCons (sVar 0) (sCons (sLit (.int 2)) sNil)))))) sNext) (sSeq (sIfS (sTest (sOp fEq (sVar 5) (sLit (.int 1)))) (sSet 3 (sOp fAdd (sVar 3) (sVar 4))) sNext) (sRet (sTup (sCons (sVar 3) (sCons (sVar 4) sNil))))))))
def F__law_row : Fv := bodyV 6 f__law_row
def f__law_at (κ : Kp) : SS := (sSeq (sAsg (sVar 0) (tgTup ((tgName 2) :: ((tgName 3) :: [])))) (sSeq (sIfS (sTest (sOp (fI (fun _ _ => true) (dB (fun i j => decide (i < j)))) (sVar 1) (sCB fLen (sCons (sVar 2) sNil)))) (sRet (sOp fIx (sVar 2) (sVar 1))) sNext) (sRet (sOp fIx (sVar 3) (sOp (fI cMod (dI (fun i j => i % j))) (sOp (fI (fun _ _ => true) (dI (fun i j => i - j))) (sVar 1) (sCB fLen (sCons (sVar 2) sNil))) (sCB fLen (sCons (sVar 3) sNil)))))))
def F__law_at : Fv := frameV (closeV (bodyV 4 f__law_at))
def f__law_spelled (κ : Kp) : SS := (sRet (sLcC (wkRng1 (sVar 1)) [2] (tgName 2) sYes (sCall F__law_at κ (sCons (sVar 0) (sCons (sVar 2) sNil)))))
def F__law_spelled : Fv := frameV (closeV (bodyV 3 f__law_spelled))
def f__law_normal (κ : Kp) : SS := (sSeq (sFor (wkRng1 (sOp fAdd (sVar 1) (sLit (.int 1)))) (tgName 3) (sFor (wkRng2 (sLit (.int 1)) (sOp fAdd (sVar 2) (sLit (.int 1)))) (tgName 4) (sIfS (sTest (sOp fEq (sSl (sVar 0) (sPart (sVar 3)) (sPart (sOp fAdd (sOp fAdd (sVar 1) (sVar 2)) (sLit (.int 1))))) (sSl (sVar 0) (sPart (sOp fAdd (sVar 3) (sVar 4))) (sPart (sOp fAdd (sOp fAdd (sOp fAdd (sVar 1) (sVar 2)) (sLit (.int 1))) (sVar 4)))))) (sRet (sTup (sCons (sCB fTuple (sCons (sSl (sVar 0) sNoPart (sPart (sVar 3))) sNil)) (sCons (sCB fTuple (sCons (sSl (sVar 0) (sPart (sVar 3)) (sPart (sOp fAdd (sVar 3) (sVar 4)))) sNil)) sNil)))) sNext))) (sRet (sLit .non)))
def F__law_normal : Fv := frameV (closeV (bodyV 5 f__law_normal))
def lf_0 (κ : Kp) : Sm Dat := (sCall F_put_ahead κ (sCons (sVar 1) (sCons (sVar 0) sNil)))
def lf_1 (κ : Kp) : Sm Dat := (sCall F_woven κ (sCons (sVar 0) (sCons (sVar 1) sNil)))
def LAM : Lm := fun l caps m => if l = 0 then lf_0 [] caps m else if l = 1 then lf_1 [] caps m else .no
def f__law_is_told (κ : Kp) : SS := (sSeq (sSet 4 (sCall F__law_normal κ (sCons (sVar 1) (sCons (sVar 2) (sCons (sVar 3) sNil))))) (sSeq (sSet 5 (sLit (.str "many"))) (sSeq (sTryAs (only 0) 6 (sSet 5 (sAct LAM κ (sVar 0))) (fun x => (sRet (sAnd (sOp (fI (fun _ _ => true) (dB (fun i j => decide (j < i)))) (sCB fMax2 (sCons (sCB fLen (sCons (sOp fIx (sVar 4) (sLit (.int 0))) sNil)) (sCons (sCB fLen (sCons (sOp fIx (sVar 4) (sLit (.int 1))) sNil)) sNil))) (sLit (.int 40))) (sOp fEq (sTup (sCons (sXf x 1) (sCons (sXf x 0) sNil))) (sTup (sCons (sLit (.str "letters")) (sCons (sLit (.int 40)) sNil)))))))) (sRet (sAnd (sOp fEq (sVar 5) (sVar 4)) (sOp (fI (fun _ _ => true) (dB (fun i j => decide (i ≤ j)))) (sCB fMax2 (sCons (sCB fLen (sCons (sOp fIx (sVar 4) (sLit (.int 0))) sNil)) (sCons (sCB fLen (sCons (sOp fIx (sVar 4) (sLit (.int 1))) sNil)) sNil))) (sLit (.int 40))))))))
def F__law_is_told : Fv := frameV (closeV (bodyV 7 f__law_is_told))
def f__law_ahead_right (κ : Kp) : SS := (sSeq (sSet 3 (sCall F__law_word κ (sCons (sVar 0) (sCons (sVar 1) (sCons (sLit (.int 0)) (sCons (sLit (.int 6)) sNil)))))) (sSeq (sIfS (sTest (sOp fEq (sCall F__law_draw κ (sCons (sVar 0) (sCons (sLit (.int 2)) sNil))) (sLit (.int 0)))) (sSet 3 (sOp fAdd (sVar 3) (sOp fIx (sVar 2) (sLit (.int 1))))) sNext) (sSeq (sPar 4 5 (sCons (sOp fAdd (sCB fLen (sCons (sVar 3) sNil)) (sCB fLen (sCons (sOp fIx (sVar 2) (sLit (.int 0))) sNil))) (sCons (sCB fLen (sCons (sOp fIx (sVar 2) (sLit (.int 1))) sNil)) sNil))) (sSeq (sSet 6 (sOp fAdd (sCB fList (sCons (sVar 3) sNil)) (sCall F__law_spelled κ (sCons (sVar 2) (sCons (sOp fAdd (sOp fAdd (sCB fLen (sCons (sOp fIx (sVar 2) (sLit (.int 0))) sNil)) (sOp fMul (sLit (.int 3)) (sVar 5))) (sLit (.int 2))) sNil))))) (sSeq (sIfS (sNotT (sTru (sCallK F__law_is_told [2, 3] κ (sCons (sClo 0 [0, 1] κ) (sCons (sVar 6) (sCons (sVar 4) (sCons (sVar 5) sNil))))))) (sRet (sLit (.bl false))) sNext) (sSeq (sSet 7 (sCall F_put_ahead κ (sPm [1, 0] (sCons (sVar 2) (sCons (sCB fList (sCons (sVar 3) sNil)) sNil))))) (sSeq (sIfS (sTest (sOp fNe (sCall F_spelled κ (sCons (sVar 7) (sCons (sLit (.int 30)) sNil))) (sSl (sOp fAdd (sCB fList (sCons (sVar 3) sNil)) (sCall F__law_spelled κ (sCons (sVar 2) (sCons (sLit (.int 30)) sNil)))) sNoPart (sPart (sLit (.int 30)))))) (sRet (sLit (.bl false))) sNext) (sRet (sOp fEq (sCall F_turned_on κ (sCons (sVar 7) (sCons (sCB fLen (sCons (sVar 3) sNil)) sNil))) (sCall F_normal_row κ (sCons (sVar 2) sNil)))))))))))
def F__law_ahead_right : Fv := makeV (closeV (bodyV 8 f__law_ahead_right))
def f__law_woven_right (κ : Kp) : SS := (sSeq (sPar 2 3 (sCons (sCB fMax2 (sCons (sCB fLen (sCons (sOp fIx (sVar 0) (sLit (.int 0))) sNil)) (sCons (sCB fLen (sCons (sOp fIx (sVar 1) (sLit (.int 0))) sNil)) sNil))) (sCons (sOp fMul (sCB fLen (sCons (sOp fIx (sVar 0) (sLit (.int 1))) sNil)) (sCB fLen (sCons (sOp fIx (sVar 1) (sLit (.int 1))) sNil))) sNil))) (sSeq (sSet 4 (sLstC sNil)) (sSeq (sFor (wkRng1 (sOp fAdd (sOp fAdd (sVar 2) (sOp fMul (sLit (.int 3)) (sVar 3))) (sLit (.int 1)))) (tgName 5) (sDrop (sExt (sVar 4) (sLst (sCons (sCall F__law_at κ (sCons (sVar 0) (sCons (sVar 5) sNil))) (sCons (sCall F__law_at κ (sCons (sVar 1) (sCons (sVar 5) sNil))) sNil)))))) (sSeq (sPar 6 7 (sCons (sOp fMul (sLit (.int 2)) (sVar 2)) (sCons (sOp fMul (sLit (.int 2)) (sVar 3)) sNil))) (sSeq (sIfS (sNotT (sTru (sCallK F__law_is_told [0, 1] κ (sCons (sClo 1 [0, 1] κ) (sCons (sVar 4) (sCons (sVar 6) (sCons (sVar 7) sNil))))))) (sRet (sLit (.bl false))) sNext) (sSeq (sSet 8 (sCall F__law_normal κ (sCons (sVar 4) (sCons (sVar 6) (sCons (sVar 7) sNil))))) (sSeq (sIfS (sTest (sOp (fI (fun _ _ => true) (dB (fun i j => decide (j < i)))) (sCB fMax2 (sCons (sCB fLen (sCons (sOp fIx (sVar 8) (sLit (.int 0))) sNil)) (sCons (sCB fLen (sCons (sOp fIx (sVar 8) (sLit (.int 1))) sNil)) sNil))) (sLit (.int 40)))) (sRet (sLit (.bl true))) sNext) (sSeq (sSet 9 (sCall F_spelled κ (sCons (sCall F_woven κ (sPm [1, 0] (sCons (sVar 1) (sCons (sVar 0) sNil)))) (sCons (sLit (.int 40)) sNil)))) (sRet (sAnd (sOp fEq (sSlS (sVar 9) sNoPart sNoPart (sPart (sLit (.int 2)))) (sCall F__law_spelled κ (sCons (sVar 0) (sCons (sLit (.int 20)) sNil)))) (sOp fEq (sSlS (sVar 9) (sPart (sLit (.int 1))) sNoPart (sPart (sLit (.int 2)))) (sCall F__law_spelled κ (sCons (sVar 1) (sCons (sLit (.int 20)) sNil))))))))))))))
def F__law_woven_right : Fv := frameV (makeV (closeV (bodyV 10 f__law_woven_right)))
def f_law (κ : Kp) : SS := (sSeq (sSet 1 (sCall F__law_pot κ (sCons (sVar 0) (sCons (sLit (.int 0)) sNil)))) (sSeq (sSet 2 (sOp fAdd (sLit (.int 1)) (sCall F__law_draw κ (sCons (sVar 1) (sCons (sLit (.int 3)) sNil))))) (sSeq (sPar 3 4 (sCons (sCall F__law_row κ (sCons (sVar 1) (sCons (sVar 2) (sCons (sLit (.int 4)) sNil)))) (sCons (sCall F__law_row κ (sCons (sVar 1) (sCons (sVar 2) (sCons (sLit (.int 3)) sNil)))) sNil))) (sSeq (sIfS (sNotT (sTru (sCall F__law_woven_right κ (sCons (sTup (sCons (sTup sNil) (sCons (sOp fAdd (sOp fMul (sTup (sCons (sLit (.int 0)) sNil)) (sLit (.int 6))) (sTup (sCons (sLit (.int 1)) sNil))) sNil))) (sCons (sTup (sCons (sTup sNil) (sCons (sTup (sCons (sLit (.int 0)) (sCons (sLit (.int 0)) (sCons (sLit (.int 1)) sNil)))) sNil))) sNil))))) (sRet (sLit (.bl false))) sNext) (sRet (sAnd (sCall F__law_ahead_right κ (sCons (sVar 1) (sCons (sVar 2) (sCons (sVar 3) sNil)))) (sAnd (sCall F__law_woven_right κ (sCons (sVar 3) (sCons (sVar 4) sNil))) (sCall F__law_woven_right κ (sCons (sVar 4) (sCons (sVar 3) sNil))))))))))
def F_law : Fv := bodyV 5 f_law
end VK12
namespace VK12
open PySem PySem.Spec PyProof.Rows L2 DL LamX VM
section
variable {P : Program} {w : World} {G : Gm} {mg : Str → Option Value} {base : Heap}
theorem init_TooMany (T : All G mg) : FnOk P w G.K mg base (L2N.CX P w) 1 T.x_TooMany.f T.x_TooMany.fd ["self", "what", "limit"] (spX (G.cls 0) ["what", "limit"]) := by
  refine okXN T.x_TooMany.F sc_TooMany (fun vs H Q E h => spX_len (by rfl) h) (fun cdv A outer s H vs Q E hr h => ?_)
  refine ⟨_, initX2 (f := "what") (g := "limit") T.x_TooMany.T (T.x_TooMany.no _ (by decide)) (T.x_TooMany.no _ (by decide)) (by rfl) (by rfl) (by rfl) (by first | exact Or.inl rfl | exact Or.inr (Or.inl rfl) | exact Or.inr (Or.inr rfl)) (by first | exact Or.inl rfl | exact Or.inr (Or.inl rfl) | exact Or.inr (Or.inr rfl)) (by first | exact Or.inl rfl | exact Or.inr (Or.inl rfl) | exact Or.inr (Or.inr rfl)) (by rfl) (by rfl) (by rfl) (by rfl) (by rfl) (by rfl) (by rfl) (by rfl), ?_⟩
  obtain ⟨a, ws, e, hl, h1, h2⟩ := h
  match ws, hl with
  | [y, z], _ =>
    subst e
    exact ⟨a, y, z, Q, rfl, rfl, rfl, rfl, a, [y, z], rfl, rfl, h1, h2⟩
theorem ok_is_integer (T : All G mg) : FnV P w G.K mg base false 3 T.d_is_integer.f T.d_is_integer.fd ["value"] (spV G F_is_integer 1) :=
  FnV.frame <| FnV.close <| okVL (G := G) (x := "is_integer") (qual := "is_integer") (st := s_is_integer) (N := N_is_integer) (ps := ["value"]) (gd := false) (k := 2) (ss := f_is_integer) T.d_is_integer.lk T.d_is_integer.cd sc_is_integer (fun C κ A outer s H E hG hr => by
    unfold f_is_integer
    exact (v_last (v_ret (v_and (v_isi (T := .int) (x := "isinstance") rfl (by rfl) T.z_isinstance (by decide +kernel) (v_var (i := 0) (by rfl) (by first | exact Or.inl rfl | exact Or.inr (Or.inl rfl) | exact Or.inr (Or.inr rfl)) (by rfl) (by rfl)) (pe_bltn (v := .ty "int") (u := .type "int") (by rfl) T.z_int (by decide +kernel) rfl) (by rfl) (by rfl) (by rfl)) (v_one (v_notE (v_isi (T := .bool) (x := "isinstance") rfl (by rfl) T.z_isinstance (by decide +kernel) (v_var (i := 0) (by rfl) (by first | exact Or.inl rfl | exact Or.inr (Or.inl rfl) | exact Or.inr (Or.inr rfl)) (by rfl) (by rfl)) (pe_bltn (v := .ty "bool") (u := .type "bool") (by rfl) T.z_bool (by decide +kernel) rfl) (by rfl) (by rfl) (by rfl))))))))
theorem ok_is_count (T : All G mg) : FnV P w G.K mg base false 4 T.d_is_count.f T.d_is_count.fd ["value"] (spV G F_is_count 1) :=
  FnV.frame <| FnV.close <| okVL (G := G) (x := "is_count") (qual := "is_count") (st := s_is_count) (N := N_is_count) (ps := ["value"]) (gd := false) (k := 3) (ss := f_is_count) T.d_is_count.lk T.d_is_count.cd sc_is_count (fun C κ A outer s H E hG hr => by
    unfold f_is_count
    exact (v_last (v_ret (v_and (v_call (ok_is_integer T) rfl (fun z => nomatch z) (hr.mono (by decide)) (L2N.takes_of rfl rfl rfl rfl) (by rfl) T.d_is_integer.g T.d_is_integer.kp T.d_is_integer.b (by rfl) (v_cons (v_var (i := 0) (by rfl) (by first | exact Or.inl rfl | exact Or.inr (Or.inl rfl) | exact Or.inr (Or.inr rfl)) (by rfl) (by rfl)) v_nil (by rfl)) (by rfl) (by rfl) (by rfl) (ls_cons ls_nil)) (v_one (v_cmp op_ge (is_I0 (f := dB (fun i j => decide (j ≤ i))) fun _ _ _ _ => .bl _) (v_var (i := 0) (by rfl) (by first | exact Or.inl rfl | exact Or.inr (Or.inl rfl) | exact Or.inr (Or.inr rfl)) (by rfl) (by rfl)) (v_c pe_int fun _ _ => .int _) (by rfl)))))))
theorem ok_is_below (T : All G mg) : FnV P w G.K mg base false 5 T.d_is_below.f T.d_is_below.fd ["value", "bound"] (spV G F_is_below 2) :=
  FnV.frame <| FnV.close <| okVL (G := G) (x := "is_below") (qual := "is_below") (st := s_is_below) (N := N_is_below) (ps := ["value", "bound"]) (gd := false) (k := 4) (ss := f_is_below) T.d_is_below.lk T.d_is_below.cd sc_is_below (fun C κ A outer s H E hG hr => by
    unfold f_is_below
    exact (v_last (v_ret (v_and (v_call (ok_is_count T) rfl (fun z => nomatch z) (hr.mono (by decide)) (L2N.takes_of rfl rfl rfl rfl) (by rfl) T.d_is_count.g T.d_is_count.kp T.d_is_count.b (by rfl) (v_cons (v_var (i := 0) (by rfl) (by first | exact Or.inl rfl | exact Or.inr (Or.inl rfl) | exact Or.inr (Or.inr rfl)) (by rfl) (by rfl)) v_nil (by rfl)) (by rfl) (by rfl) (by rfl) (ls_cons ls_nil)) (v_one (v_cmp op_lt (is_I0 (f := dB (fun i j => decide (i < j))) fun _ _ _ _ => .bl _) (v_var (i := 0) (by rfl) (by first | exact Or.inl rfl | exact Or.inr (Or.inl rfl) | exact Or.inr (Or.inr rfl)) (by rfl) (by rfl)) (v_var (i := 1) (by rfl) (by first | exact Or.inl rfl | exact Or.inr (Or.inl rfl) | exact Or.inr (Or.inr rfl)) (by rfl) (by rfl)) (by rfl)))))))
theorem ok_is_list (T : All G mg) : FnV P w G.K mg base false 3 T.d_is_list.f T.d_is_list.fd ["value"] (spV G F_is_list 1) :=
  FnV.frame <| FnV.close <| okVL (G := G) (x := "is_list") (qual := "is_list") (st := s_is_list) (N := N_is_list) (ps := ["value"]) (gd := false) (k := 2) (ss := f_is_list) T.d_is_list.lk T.d_is_list.cd sc_is_list (fun C κ A outer s H E hG hr => by
    unfold f_is_list
    exact (v_last (v_ret (v_isi2 (T := .list) (U := .tuple) rfl (by rfl) T.z_isinstance (by decide +kernel) (v_var (i := 0) (by rfl) (by first | exact Or.inl rfl | exact Or.inr (Or.inl rfl) | exact Or.inr (Or.inr rfl)) (by rfl) (by rfl)) (pe_bltn (v := .ty "list") (u := .type "list") (by rfl) T.z_list (by decide +kernel) rfl) (pe_bltn (v := .ty "tuple") (u := .type "tuple") (by rfl) T.z_tuple (by decide +kernel) rfl) (by rfl) (by rfl) (by rfl) (by rfl) (by rfl)))))
theorem ok_is_pair (T : All G mg) : FnV P w G.K mg base false 3 T.d_is_pair.f T.d_is_pair.fd ["value"] (spV G F_is_pair 1) :=
  FnV.frame <| FnV.close <| okVL (G := G) (x := "is_pair") (qual := "is_pair") (st := s_is_pair) (N := N_is_pair) (ps := ["value"]) (gd := false) (k := 2) (ss := f_is_pair) T.d_is_pair.lk T.d_is_pair.cd sc_is_pair (fun C κ A outer s H E hG hr => by
    unfold f_is_pair
    exact (v_last (v_ret (v_and (v_isi (T := .tuple) (x := "isinstance") rfl (by rfl) T.z_isinstance (by decide +kernel) (v_var (i := 0) (by rfl) (by first | exact Or.inl rfl | exact Or.inr (Or.inl rfl) | exact Or.inr (Or.inr rfl)) (by rfl) (by rfl)) (pe_bltn (v := .ty "tuple") (u := .type "tuple") (by rfl) T.z_tuple (by decide +kernel) rfl) (by rfl) (by rfl) (by rfl)) (v_one (v_cmp (op_eqD hr.units) is_eq (v_callB call_lenX is_len (by rfl) T.z_len (by decide +kernel) (v_cons (v_var (i := 0) (by rfl) (by first | exact Or.inl rfl | exact Or.inr (Or.inl rfl) | exact Or.inr (Or.inr rfl)) (by rfl) (by rfl)) v_nil (by rfl)) (by decide) (by decide) (by rfl) (by rfl)) (v_c pe_int fun _ _ => .int _) (by rfl)))))))
theorem ok_is_word (T : All G mg) : FnV P w G.K mg base false 6 T.d_is_word.f T.d_is_word.fd ["letters", "value"] (spV G F_is_word 2) :=
  FnV.frame <| FnV.close <| okVL (G := G) (x := "is_word") (qual := "is_word") (st := s_is_word) (N := N_is_word) (ps := ["letters", "value"]) (gd := false) (k := 5) (ss := f_is_word) T.d_is_word.lk T.d_is_word.cd sc_is_word (fun C κ A outer s H E hG hr => by
    unfold f_is_word
    exact (v_last (v_ret (v_and (v_call (ok_is_list T) rfl (fun z => nomatch z) (hr.mono (by decide)) (L2N.takes_of rfl rfl rfl rfl) (by rfl) T.d_is_list.g T.d_is_list.kp T.d_is_list.b (by rfl) (v_cons (v_var (i := 1) (by rfl) (by first | exact Or.inl rfl | exact Or.inr (Or.inl rfl) | exact Or.inr (Or.inr rfl)) (by rfl) (by rfl)) v_nil (by rfl)) (by rfl) (by rfl) (by rfl) (ls_cons ls_nil)) (v_and (v_cmp op_le (is_I0 (f := dB (fun i j => decide (i ≤ j))) fun _ _ _ _ => .bl _) (v_callB call_lenX is_len (by rfl) T.z_len (by decide +kernel) (v_cons (v_var (i := 1) (by rfl) (by first | exact Or.inl rfl | exact Or.inr (Or.inl rfl) | exact Or.inr (Or.inr rfl)) (by rfl) (by rfl)) v_nil (by rfl)) (by decide) (by decide) (by rfl) (by rfl)) (v_c (pe_glob (v := .int 40) (by rfl) T.c_LONGEST.choose_spec.1 T.c_LONGEST.choose_spec.2) fun _ _ => .int _) (by rfl)) (v_one (v_callB (cr_all rfl) is_all (by rfl) T.z_all (by decide +kernel) (v_cons (v_lc (own := [("letter", 2)]) rfl sc_is_word.nd (v_wkSeq rfl (v_var (i := 1) (by rfl) (by first | exact Or.inl rfl | exact Or.inr (Or.inl rfl) | exact Or.inr (Or.inr rfl)) (by rfl) (by rfl))) (blkOk_by (N := N_is_word) (sc := defScope s_is_word) (by decide +kernel)) (fun _ _ _ _ _ => (v_pName (i := 2) (by decide) sc_is_word.nd (by rfl) (by first | exact Or.inl rfl | exact Or.inr rfl) (by first | exact Or.inl rfl | exact Or.inr rfl))) (fun _ _ _ _ _ => v_tNil) (fun _ _ _ _ _ => (v_call (ok_is_below T) rfl (fun z => nomatch z) (hr.mono (by decide)) tk0 (by rfl) T.d_is_below.g T.d_is_below.kp T.d_is_below.b (by rfl) (v_cons (v_var (i := 2) (by rfl) (by first | exact Or.inl rfl | exact Or.inr (Or.inl rfl) | exact Or.inr (Or.inr rfl)) (by rfl) (by rfl)) (v_cons (v_var (i := 0) (by rfl) (by first | exact Or.inl rfl | exact Or.inr (Or.inl rfl) | exact Or.inr (Or.inr rfl)) (by rfl) (by rfl)) v_nil (by rfl)) (by rfl)) (by rfl) (by rfl) (by rfl) (ls_cons (ls_cons ls_nil)))) (by intro _; rfl)) v_nil (by rfl)) (by decide) (by decide) (by rfl) (by rfl))))))))
theorem ok_is_row_of (T : All G mg) : FnV P w G.K mg base false 7 T.d_is_row_of.f T.d_is_row_of.fd ["letters", "value"] (spV G F_is_row_of 2) :=
  FnV.frame <| FnV.close <| okVL (G := G) (x := "is_row_of") (qual := "is_row_of") (st := s_is_row_of) (N := N_is_row_of) (ps := ["letters", "value"]) (gd := false) (k := 6) (ss := f_is_row_of) T.d_is_row_of.lk T.d_is_row_of.cd sc_is_row_of (fun C κ A outer s H E hG hr => by
    unfold f_is_row_of
    exact (v_seq (v_if (v_pt (v_orT (v_notT (v_testV rfl (v_call (ok_is_pair T) rfl (fun z => nomatch z) (hr.mono (by decide)) (L2N.takes_of rfl rfl rfl rfl) (by rfl) T.d_is_pair.g T.d_is_pair.kp T.d_is_pair.b (by rfl) (v_cons (v_var (i := 1) (by rfl) (by first | exact Or.inl rfl | exact Or.inr (Or.inl rfl) | exact Or.inr (Or.inr rfl)) (by rfl) (by rfl)) v_nil (by rfl)) (by rfl) (by rfl) (by rfl) (ls_cons ls_nil)) (by intro _; rfl))) (v_orT (v_notT (v_testV rfl (v_isi (T := .tuple) (x := "isinstance") rfl (by rfl) T.z_isinstance (by decide +kernel) (v_ix rfl (v_var (i := 1) (by rfl) (by first | exact Or.inl rfl | exact Or.inr (Or.inl rfl) | exact Or.inr (Or.inr rfl)) (by rfl) (by rfl)) (v_c pe_int fun _ _ => .int _) (fun _ _ => rfl)) (pe_bltn (v := .ty "tuple") (u := .type "tuple") (by rfl) T.z_tuple (by decide +kernel) rfl) (by rfl) (by rfl) (by rfl)) (by intro _; rfl))) (v_or1 (v_notT (v_testV rfl (v_isi (T := .tuple) (x := "isinstance") rfl (by rfl) T.z_isinstance (by decide +kernel) (v_ix rfl (v_var (i := 1) (by rfl) (by first | exact Or.inl rfl | exact Or.inr (Or.inl rfl) | exact Or.inr (Or.inr rfl)) (by rfl) (by rfl)) (v_c pe_int fun _ _ => .int _) (fun _ _ => rfl)) (pe_bltn (v := .ty "tuple") (u := .type "tuple") (by rfl) T.z_tuple (by decide +kernel) rfl) (by rfl) (by rfl) (by rfl)) (by intro _; rfl))))))) (v_last (v_ret (v_c pe_bl fun _ _ => .bl _))) v_end)
      (v_last (v_ret (v_and (v_call (ok_is_word T) rfl (fun z => nomatch z) (hr.mono (by decide)) (L2N.takes_of rfl rfl rfl rfl) (by rfl) T.d_is_word.g T.d_is_word.kp T.d_is_word.b (by rfl) (v_cons (v_var (i := 0) (by rfl) (by first | exact Or.inl rfl | exact Or.inr (Or.inl rfl) | exact Or.inr (Or.inr rfl)) (by rfl) (by rfl)) (v_cons (v_ix rfl (v_var (i := 1) (by rfl) (by first | exact Or.inl rfl | exact Or.inr (Or.inl rfl) | exact Or.inr (Or.inr rfl)) (by rfl) (by rfl)) (v_c pe_int fun _ _ => .int _) (fun _ _ => rfl)) v_nil (by rfl)) (by rfl)) (by rfl) (by rfl) (by rfl) (ls_cons (ls_cons ls_nil))) (v_and (v_call (ok_is_word T) rfl (fun z => nomatch z) (hr.mono (by decide)) (L2N.takes_of rfl rfl rfl rfl) (by rfl) T.d_is_word.g T.d_is_word.kp T.d_is_word.b (by rfl) (v_cons (v_var (i := 0) (by rfl) (by first | exact Or.inl rfl | exact Or.inr (Or.inl rfl) | exact Or.inr (Or.inr rfl)) (by rfl) (by rfl)) (v_cons (v_ix rfl (v_var (i := 1) (by rfl) (by first | exact Or.inl rfl | exact Or.inr (Or.inl rfl) | exact Or.inr (Or.inr rfl)) (by rfl) (by rfl)) (v_c pe_int fun _ _ => .int _) (fun _ _ => rfl)) v_nil (by rfl)) (by rfl)) (by rfl) (by rfl) (by rfl) (ls_cons (ls_cons ls_nil))) (v_one (v_cmp op_gt (is_I0 (f := dB (fun i j => decide (j < i))) fun _ _ _ _ => .bl _) (v_callB call_lenX is_len (by rfl) T.z_len (by decide +kernel) (v_cons (v_ix rfl (v_var (i := 1) (by rfl) (by first | exact Or.inl rfl | exact Or.inr (Or.inl rfl) | exact Or.inr (Or.inr rfl)) (by rfl) (by rfl)) (v_c pe_int fun _ _ => .int _) (fun _ _ => rfl)) v_nil (by rfl)) (by decide) (by decide) (by rfl) (by rfl)) (v_c pe_int fun _ _ => .int _) (by rfl)))))))))
theorem ok_check_word (T : All G mg) : FnV P w G.K mg base false 7 T.d_check_word.f T.d_check_word.fd ["letters", "word"] (spV G F_check_word 2) :=
  FnV.frame <| FnV.close <| okVL (G := G) (x := "check_word") (qual := "check_word") (st := s_check_word) (N := N_check_word) (ps := ["letters", "word"]) (gd := false) (k := 6) (ss := f_check_word) T.d_check_word.lk T.d_check_word.cd sc_check_word (fun C κ A outer s H E hG hr => by
    unfold f_check_word
    exact (v_last (v_if (v_notT (v_testV rfl (v_call (ok_is_word T) rfl (fun z => nomatch z) (hr.mono (by decide)) (L2N.takes_of rfl rfl rfl rfl) (by rfl) T.d_is_word.g T.d_is_word.kp T.d_is_word.b (by rfl) (v_cons (v_var (i := 0) (by rfl) (by first | exact Or.inl rfl | exact Or.inr (Or.inl rfl) | exact Or.inr (Or.inr rfl)) (by rfl) (by rfl)) (v_cons (v_var (i := 1) (by rfl) (by first | exact Or.inl rfl | exact Or.inr (Or.inl rfl) | exact Or.inr (Or.inr rfl)) (by rfl) (by rfl)) v_nil (by rfl)) (by rfl)) (by rfl) (by rfl) (by rfl) (ls_cons (ls_cons ls_nil))) (by intro _; rfl))) v_never v_end)))
theorem ok_check_row (T : All G mg) : FnV P w G.K mg base false 8 T.d_check_row.f T.d_check_row.fd ["letters", "row"] (spV G F_check_row 2) :=
  FnV.frame <| FnV.close <| okVL (G := G) (x := "check_row") (qual := "check_row") (st := s_check_row) (N := N_check_row) (ps := ["letters", "row"]) (gd := false) (k := 7) (ss := f_check_row) T.d_check_row.lk T.d_check_row.cd sc_check_row (fun C κ A outer s H E hG hr => by
    unfold f_check_row
    exact (v_last (v_if (v_notT (v_testV rfl (v_call (ok_is_row_of T) rfl (fun z => nomatch z) (hr.mono (by decide)) (L2N.takes_of rfl rfl rfl rfl) (by rfl) T.d_is_row_of.g T.d_is_row_of.kp T.d_is_row_of.b (by rfl) (v_cons (v_var (i := 0) (by rfl) (by first | exact Or.inl rfl | exact Or.inr (Or.inl rfl) | exact Or.inr (Or.inr rfl)) (by rfl) (by rfl)) (v_cons (v_var (i := 1) (by rfl) (by first | exact Or.inl rfl | exact Or.inr (Or.inl rfl) | exact Or.inr (Or.inr rfl)) (by rfl) (by rfl)) v_nil (by rfl)) (by rfl)) (by rfl) (by rfl) (by rfl) (ls_cons (ls_cons ls_nil))) (by intro _; rfl))) v_never v_end)))
theorem ok_check_many (T : All G mg) : FnV P w G.K mg base false 6 T.d_check_many.f T.d_check_many.fd ["many", "most"] (spV G F_check_many 2) :=
  FnV.frame <| FnV.close <| okVL (G := G) (x := "check_many") (qual := "check_many") (st := s_check_many) (N := N_check_many) (ps := ["many", "most"]) (gd := false) (k := 5) (ss := f_check_many) T.d_check_many.lk T.d_check_many.cd sc_check_many (fun C κ A outer s H E hG hr => by
    unfold f_check_many
    exact (v_last (v_if (v_notT (v_testV rfl (v_call (ok_is_below T) rfl (fun z => nomatch z) (hr.mono (by decide)) (L2N.takes_of rfl rfl rfl rfl) (by rfl) T.d_is_below.g T.d_is_below.kp T.d_is_below.b (by rfl) (v_cons (v_var (i := 0) (by rfl) (by first | exact Or.inl rfl | exact Or.inr (Or.inl rfl) | exact Or.inr (Or.inr rfl)) (by rfl) (by rfl)) (v_cons (v_op op_plus is_plus (v_var (i := 1) (by rfl) (by first | exact Or.inl rfl | exact Or.inr (Or.inl rfl) | exact Or.inr (Or.inr rfl)) (by rfl) (by rfl)) (v_c pe_int fun _ _ => .int _)) v_nil (by rfl)) (by rfl)) (by rfl) (by rfl) (by rfl) (ls_cons (ls_cons ls_nil))) (by intro _; rfl))) v_never v_end)))
theorem ok__letter (T : All G mg) : FnV P w G.K mg base false 3 T.d__letter.f T.d__letter.fd ["row", "place"] (spV G F__letter 2) :=
  FnV.frame <| FnV.close <| okVL (G := G) (x := "_letter") (qual := "_letter") (st := s__letter) (N := N__letter) (ps := ["row", "place"]) (gd := false) (k := 2) (ss := f__letter) T.d__letter.lk T.d__letter.cd sc__letter (fun C κ A outer s H E hG hr => by
    unfold f__letter
    exact (v_seq (v_asg (v_var (i := 0) (by rfl) (by first | exact Or.inl rfl | exact Or.inr (Or.inl rfl) | exact Or.inr (Or.inr rfl)) (by rfl) (by rfl)) (v_tgTup rfl rfl (v_tgCons (v_tgName (i := 2) sc__letter.nd (by rfl) (by first | exact Or.inl rfl | exact Or.inr rfl) (by first | exact Or.inl rfl | exact Or.inr rfl)) (v_tgCons (v_tgName (i := 3) sc__letter.nd (by rfl) (by first | exact Or.inl rfl | exact Or.inr rfl) (by first | exact Or.inl rfl | exact Or.inr rfl)) v_tgNil (by rfl)) (by rfl)) (cons_exc (fun _ _ _ _ _ => name_exc) (cons_exc (fun _ _ _ _ _ => name_exc) (fun _ h => nomatch h))) (by rfl) (by rfl)) (by rfl) (by rfl) (by rfl))
      (v_seq (v_if (v_testC op_lt (is_I0 (f := dB (fun i j => decide (i < j))) fun _ _ _ _ => .bl _) (v_var (i := 1) (by rfl) (by first | exact Or.inl rfl | exact Or.inr (Or.inl rfl) | exact Or.inr (Or.inr rfl)) (by rfl) (by rfl)) (v_callB call_lenX is_len (by rfl) T.z_len (by decide +kernel) (v_cons (v_var (i := 2) (by rfl) (by first | exact Or.inl rfl | exact Or.inr (Or.inl rfl) | exact Or.inr (Or.inr rfl)) (by rfl) (by rfl)) v_nil (by rfl)) (by decide) (by decide) (by rfl) (by rfl)) (by rfl)) (v_last (v_ret (v_ix rfl (v_var (i := 2) (by rfl) (by first | exact Or.inl rfl | exact Or.inr (Or.inl rfl) | exact Or.inr (Or.inr rfl)) (by rfl) (by rfl)) (v_var (i := 1) (by rfl) (by first | exact Or.inl rfl | exact Or.inr (Or.inl rfl) | exact Or.inr (Or.inr rfl)) (by rfl) (by rfl)) (fun _ _ => rfl)))) v_end)
      (v_last (v_ret (v_ix rfl (v_var (i := 3) (by rfl) (by first | exact Or.inl rfl | exact Or.inr (Or.inl rfl) | exact Or.inr (Or.inr rfl)) (by rfl) (by rfl)) (v_op op_mod (is_I (C := cMod) (f := dI (fun i j => i % j)) (fun _ _ h => of_decide_eq_true h) fun _ _ _ _ => .int _) (v_op op_sub (is_I0 (f := dI (fun i j => i - j)) fun _ _ _ _ => .int _) (v_var (i := 1) (by rfl) (by first | exact Or.inl rfl | exact Or.inr (Or.inl rfl) | exact Or.inr (Or.inr rfl)) (by rfl) (by rfl)) (v_callB call_lenX is_len (by rfl) T.z_len (by decide +kernel) (v_cons (v_var (i := 2) (by rfl) (by first | exact Or.inl rfl | exact Or.inr (Or.inl rfl) | exact Or.inr (Or.inr rfl)) (by rfl) (by rfl)) v_nil (by rfl)) (by decide) (by decide) (by rfl) (by rfl))) (v_callB call_lenX is_len (by rfl) T.z_len (by decide +kernel) (v_cons (v_var (i := 3) (by rfl) (by first | exact Or.inl rfl | exact Or.inr (Or.inl rfl) | exact Or.inr (Or.inr rfl)) (by rfl) (by rfl)) v_nil (by rfl)) (by decide) (by decide) (by rfl) (by rfl))) (fun _ _ => rfl)))))))
theorem ok_spelled (T : All G mg) : FnV P w G.K mg base false 9 T.d_spelled.f T.d_spelled.fd ["row", "many"] (spV G F_spelled 2) :=
  FnV.frame <| FnV.close <| okVL (G := G) (x := "spelled") (qual := "spelled") (st := s_spelled) (N := N_spelled) (ps := ["row", "many"]) (gd := false) (k := 8) (ss := f_spelled) T.d_spelled.lk T.d_spelled.cd sc_spelled (fun C κ A outer s H E hG hr => by
    unfold f_spelled
    exact (v_seq (v_drop (v_call (ok_check_row T) rfl (fun z => nomatch z) (hr.mono (by decide)) (L2N.takes_of rfl rfl rfl rfl) (by rfl) T.d_check_row.g T.d_check_row.kp T.d_check_row.b (by rfl) (v_cons (v_c (pe_glob (v := .int 4) (by rfl) T.c_MOST_LETTERS.choose_spec.1 T.c_MOST_LETTERS.choose_spec.2) fun _ _ => .int _) (v_cons (v_var (i := 0) (by rfl) (by first | exact Or.inl rfl | exact Or.inr (Or.inl rfl) | exact Or.inr (Or.inr rfl)) (by rfl) (by rfl)) v_nil (by rfl)) (by rfl)) (by rfl) (by rfl) (by rfl) (ls_cons (ls_cons ls_nil))) (by rfl))
      (v_seq (v_drop (v_call (ok_check_many T) rfl (fun z => nomatch z) (hr.mono (by decide)) (L2N.takes_of rfl rfl rfl rfl) (by rfl) T.d_check_many.g T.d_check_many.kp T.d_check_many.b (by rfl) (v_cons (v_var (i := 1) (by rfl) (by first | exact Or.inl rfl | exact Or.inr (Or.inl rfl) | exact Or.inr (Or.inr rfl)) (by rfl) (by rfl)) (v_cons (v_c (pe_glob (v := .int 400) (by rfl) T.c_MOST_SPELLED.choose_spec.1 T.c_MOST_SPELLED.choose_spec.2) fun _ _ => .int _) v_nil (by rfl)) (by rfl)) (by rfl) (by rfl) (by rfl) (ls_cons (ls_cons ls_nil))) (by rfl))
      (v_last (v_ret (v_lcC (own := [("place", 2)]) rfl sc_spelled.nd (v_wkRng1 (by rfl) T.z_range (v_cons (v_var (i := 1) (by rfl) (by first | exact Or.inl rfl | exact Or.inr (Or.inl rfl) | exact Or.inr (Or.inr rfl)) (by rfl) (by rfl)) v_nil (by rfl)) (by rfl)) (blkOk_by (N := N_spelled) (sc := defScope s_spelled) (by decide +kernel)) (fun _ _ _ _ _ => (v_pName (i := 2) (by decide) sc_spelled.nd (by rfl) (by first | exact Or.inl rfl | exact Or.inr rfl) (by first | exact Or.inl rfl | exact Or.inr rfl))) (fun _ _ _ _ _ => v_tNil) (fun _ _ _ _ _ => (v_call (ok__letter T) rfl (fun z => nomatch z) (hr.mono (by decide)) tk0 (by rfl) T.d__letter.g T.d__letter.kp T.d__letter.b (by rfl) (v_cons (v_var (i := 0) (by rfl) (by first | exact Or.inl rfl | exact Or.inr (Or.inl rfl) | exact Or.inr (Or.inr rfl)) (by rfl) (by rfl)) (v_cons (v_var (i := 2) (by rfl) (by first | exact Or.inl rfl | exact Or.inr (Or.inl rfl) | exact Or.inr (Or.inr rfl)) (by rfl) (by rfl)) v_nil (by rfl)) (by rfl)) (by rfl) (by rfl) (by rfl) (ls_cons (ls_cons ls_nil)))) (by intro _; rfl)))))))
theorem ok__shortest_round (T : All G mg) : FnV P w G.K mg base false 3 T.d__shortest_round.f T.d__shortest_round.fd ["again"] (spV G F__shortest_round 1) :=
  FnV.frame <| FnV.close <| okVL (G := G) (x := "_shortest_round") (qual := "_shortest_round") (st := s__shortest_round) (N := N__shortest_round) (ps := ["again"]) (gd := false) (k := 2) (ss := f__shortest_round) T.d__shortest_round.lk T.d__shortest_round.cd sc__shortest_round (fun C κ A outer s H E hG hr => by
    unfold f__shortest_round
    exact (v_seq (v_for PassesOwn.leaving rfl (v_wkRng2 (by rfl) T.z_range (v_cons (v_c pe_int fun _ _ => .int _) (v_cons (v_op op_plus is_plus (v_callB call_lenX is_len (by rfl) T.z_len (by decide +kernel) (v_cons (v_var (i := 0) (by rfl) (by first | exact Or.inl rfl | exact Or.inr (Or.inl rfl) | exact Or.inr (Or.inr rfl)) (by rfl) (by rfl)) v_nil (by rfl)) (by decide) (by decide) (by rfl) (by rfl)) (v_c pe_int fun _ _ => .int _)) v_nil (by rfl)) (by rfl)) (by rfl) (by rfl)) (v_tgName (i := 1) sc__shortest_round.nd (by rfl) (by first | exact Or.inl rfl | exact Or.inr rfl) (by first | exact Or.inl rfl | exact Or.inr rfl)) (v_last (v_if (v_pt (v_andT (v_testC (op_eqD hr.units) is_eq (v_op op_mod (is_I (C := cMod) (f := dI (fun i j => i % j)) (fun _ _ h => of_decide_eq_true h) fun _ _ _ _ => .int _) (v_callB call_lenX is_len (by rfl) T.z_len (by decide +kernel) (v_cons (v_var (i := 0) (by rfl) (by first | exact Or.inl rfl | exact Or.inr (Or.inl rfl) | exact Or.inr (Or.inr rfl)) (by rfl) (by rfl)) v_nil (by rfl)) (by decide) (by decide) (by rfl) (by rfl)) (v_var (i := 1) (by rfl) (by first | exact Or.inl rfl | exact Or.inr (Or.inl rfl) | exact Or.inr (Or.inr rfl)) (by rfl) (by rfl))) (v_c pe_int fun _ _ => .int _) (by rfl)) (v_and1 (v_testC (op_eqD hr.units) is_eq (v_op op_times is_times (v_sl rfl (v_var (i := 0) (by rfl) (by first | exact Or.inl rfl | exact Or.inr (Or.inl rfl) | exact Or.inr (Or.inr rfl)) (by rfl) (by rfl)) v_noPart (v_part (v_var (i := 1) (by rfl) (by first | exact Or.inl rfl | exact Or.inr (Or.inl rfl) | exact Or.inr (Or.inr rfl)) (by rfl) (by rfl)))) (v_op op_fdiv (is_I (C := cDiv) (f := dI (fun i j => i / j)) (fun _ _ => cDiv_of) fun _ _ _ _ => .int _) (v_callB call_lenX is_len (by rfl) T.z_len (by decide +kernel) (v_cons (v_var (i := 0) (by rfl) (by first | exact Or.inl rfl | exact Or.inr (Or.inl rfl) | exact Or.inr (Or.inr rfl)) (by rfl) (by rfl)) v_nil (by rfl)) (by decide) (by decide) (by rfl) (by rfl)) (v_var (i := 1) (by rfl) (by first | exact Or.inl rfl | exact Or.inr (Or.inl rfl) | exact Or.inr (Or.inr rfl)) (by rfl) (by rfl)))) (v_var (i := 0) (by rfl) (by first | exact Or.inl rfl | exact Or.inr (Or.inl rfl) | exact Or.inr (Or.inr rfl)) (by rfl) (by rfl)) (by rfl))))) (v_last (v_ret (v_sl rfl (v_var (i := 0) (by rfl) (by first | exact Or.inl rfl | exact Or.inr (Or.inl rfl) | exact Or.inr (Or.inr rfl)) (by rfl) (by rfl)) v_noPart (v_part (v_var (i := 1) (by rfl) (by first | exact Or.inl rfl | exact Or.inr (Or.inl rfl) | exact Or.inr (Or.inr rfl)) (by rfl) (by rfl)))))) v_end)) (by intro _; rfl))
      (v_last (v_ret (v_var (i := 0) (by rfl) (by first | exact Or.inl rfl | exact Or.inr (Or.inl rfl) | exact Or.inr (Or.inr rfl)) (by rfl) (by rfl))))))
theorem ok_normal_of (T : All G mg) : FnV P w G.K mg base false 4 T.d_normal_of.f T.d_normal_of.fd ["row"] (spV G F_normal_of 1) :=
  FnV.frame <| FnV.close <| okVL (G := G) (x := "normal_of") (qual := "normal_of") (st := s_normal_of) (N := N_normal_of) (ps := ["row"]) (gd := false) (k := 3) (ss := f_normal_of) T.d_normal_of.lk T.d_normal_of.cd sc_normal_of (fun C κ A outer s H E hG hr => by
    unfold f_normal_of
    exact (v_seq (v_asg (v_var (i := 0) (by rfl) (by first | exact Or.inl rfl | exact Or.inr (Or.inl rfl) | exact Or.inr (Or.inr rfl)) (by rfl) (by rfl)) (v_tgTup rfl rfl (v_tgCons (v_tgName (i := 1) sc_normal_of.nd (by rfl) (by first | exact Or.inl rfl | exact Or.inr rfl) (by first | exact Or.inl rfl | exact Or.inr rfl)) (v_tgCons (v_tgName (i := 2) sc_normal_of.nd (by rfl) (by first | exact Or.inl rfl | exact Or.inr rfl) (by first | exact Or.inl rfl | exact Or.inr rfl)) v_tgNil (by rfl)) (by rfl)) (cons_exc (fun _ _ _ _ _ => name_exc) (cons_exc (fun _ _ _ _ _ => name_exc) (fun _ h => nomatch h))) (by rfl) (by rfl)) (by rfl) (by rfl) (by rfl))
      (v_seq (v_set (i := 2) sc_normal_of.nd (by rfl) (by first | exact Or.inl rfl | exact Or.inr rfl) (v_call (ok__shortest_round T) rfl (fun z => nomatch z) (hr.mono (by decide)) (L2N.takes_of rfl rfl rfl rfl) (by rfl) T.d__shortest_round.g T.d__shortest_round.kp T.d__shortest_round.b (by rfl) (v_cons (v_var (i := 2) (by rfl) (by first | exact Or.inl rfl | exact Or.inr (Or.inl rfl) | exact Or.inr (Or.inr rfl)) (by rfl) (by rfl)) v_nil (by rfl)) (by rfl) (by rfl) (by rfl) (ls_cons ls_nil)) (by rfl) (by first | exact Or.inl rfl | exact Or.inr rfl))
      (v_seq (v_set (i := 3) sc_normal_of.nd (by rfl) (by first | exact Or.inl rfl | exact Or.inr rfl) (v_c pe_int fun _ _ => .int _) (by rfl) (by first | exact Or.inl rfl | exact Or.inr rfl))
      (v_seq (v_while PassesOwn.leaving (v_pt (v_andT (v_testC op_lt (is_I0 (f := dB (fun i j => decide (i < j))) fun _ _ _ _ => .bl _) (v_var (i := 3) (by rfl) (by first | exact Or.inl rfl | exact Or.inr (Or.inl rfl) | exact Or.inr (Or.inr rfl)) (by rfl) (by rfl)) (v_callB call_lenX is_len (by rfl) T.z_len (by decide +kernel) (v_cons (v_var (i := 1) (by rfl) (by first | exact Or.inl rfl | exact Or.inr (Or.inl rfl) | exact Or.inr (Or.inr rfl)) (by rfl) (by rfl)) v_nil (by rfl)) (by decide) (by decide) (by rfl) (by rfl)) (by rfl)) (v_and1 (v_testC (op_eqD hr.units) is_eq (v_ix rfl (v_var (i := 1) (by rfl) (by first | exact Or.inl rfl | exact Or.inr (Or.inl rfl) | exact Or.inr (Or.inr rfl)) (by rfl) (by rfl)) (v_op op_sub (is_I0 (f := dI (fun i j => i - j)) fun _ _ _ _ => .int _) (v_neg (v_c pe_int fun _ _ => .int _)) (v_var (i := 3) (by rfl) (by first | exact Or.inl rfl | exact Or.inr (Or.inl rfl) | exact Or.inr (Or.inr rfl)) (by rfl) (by rfl))) (fun _ _ => rfl)) (v_ix rfl (v_var (i := 2) (by rfl) (by first | exact Or.inl rfl | exact Or.inr (Or.inl rfl) | exact Or.inr (Or.inr rfl)) (by rfl) (by rfl)) (v_op op_sub (is_I0 (f := dI (fun i j => i - j)) fun _ _ _ _ => .int _) (v_neg (v_c pe_int fun _ _ => .int _)) (v_op op_mod (is_I (C := cMod) (f := dI (fun i j => i % j)) (fun _ _ h => of_decide_eq_true h) fun _ _ _ _ => .int _) (v_var (i := 3) (by rfl) (by first | exact Or.inl rfl | exact Or.inr (Or.inl rfl) | exact Or.inr (Or.inr rfl)) (by rfl) (by rfl)) (v_callB call_lenX is_len (by rfl) T.z_len (by decide +kernel) (v_cons (v_var (i := 2) (by rfl) (by first | exact Or.inl rfl | exact Or.inr (Or.inl rfl) | exact Or.inr (Or.inr rfl)) (by rfl) (by rfl)) v_nil (by rfl)) (by decide) (by decide) (by rfl) (by rfl)))) (fun _ _ => rfl)) (by rfl))))) (v_last (v_aug (i := 3) sc_normal_of.nd (by rfl) (by first | exact Or.inl rfl | exact Or.inr rfl) (v_c pe_int fun _ _ => .int _) ip_add (by first | exact Or.inl rfl | exact Or.inr rfl))))
      (v_seq (v_set (i := 4) sc_normal_of.nd (by rfl) (by first | exact Or.inl rfl | exact Or.inr rfl) (v_op op_mod (is_I (C := cMod) (f := dI (fun i j => i % j)) (fun _ _ h => of_decide_eq_true h) fun _ _ _ _ => .int _) (v_var (i := 3) (by rfl) (by first | exact Or.inl rfl | exact Or.inr (Or.inl rfl) | exact Or.inr (Or.inr rfl)) (by rfl) (by rfl)) (v_callB call_lenX is_len (by rfl) T.z_len (by decide +kernel) (v_cons (v_var (i := 2) (by rfl) (by first | exact Or.inl rfl | exact Or.inr (Or.inl rfl) | exact Or.inr (Or.inr rfl)) (by rfl) (by rfl)) v_nil (by rfl)) (by decide) (by decide) (by rfl) (by rfl))) (by rfl) (by first | exact Or.inl rfl | exact Or.inr rfl))
      (v_last (v_ret (v_tup (v_cons (v_sl rfl (v_var (i := 1) (by rfl) (by first | exact Or.inl rfl | exact Or.inr (Or.inl rfl) | exact Or.inr (Or.inr rfl)) (by rfl) (by rfl)) v_noPart (v_part (v_op op_sub (is_I0 (f := dI (fun i j => i - j)) fun _ _ _ _ => .int _) (v_callB call_lenX is_len (by rfl) T.z_len (by decide +kernel) (v_cons (v_var (i := 1) (by rfl) (by first | exact Or.inl rfl | exact Or.inr (Or.inl rfl) | exact Or.inr (Or.inr rfl)) (by rfl) (by rfl)) v_nil (by rfl)) (by decide) (by decide) (by rfl) (by rfl)) (v_var (i := 3) (by rfl) (by first | exact Or.inl rfl | exact Or.inr (Or.inl rfl) | exact Or.inr (Or.inr rfl)) (by rfl) (by rfl))))) (v_cons (v_op op_plus is_plus (v_sl rfl (v_var (i := 2) (by rfl) (by first | exact Or.inl rfl | exact Or.inr (Or.inl rfl) | exact Or.inr (Or.inr rfl)) (by rfl) (by rfl)) (v_part (v_op op_sub (is_I0 (f := dI (fun i j => i - j)) fun _ _ _ _ => .int _) (v_callB call_lenX is_len (by rfl) T.z_len (by decide +kernel) (v_cons (v_var (i := 2) (by rfl) (by first | exact Or.inl rfl | exact Or.inr (Or.inl rfl) | exact Or.inr (Or.inr rfl)) (by rfl) (by rfl)) v_nil (by rfl)) (by decide) (by decide) (by rfl) (by rfl)) (v_var (i := 4) (by rfl) (by first | exact Or.inl rfl | exact Or.inr (Or.inl rfl) | exact Or.inr (Or.inr rfl)) (by rfl) (by rfl)))) v_noPart) (v_sl rfl (v_var (i := 2) (by rfl) (by first | exact Or.inl rfl | exact Or.inr (Or.inl rfl) | exact Or.inr (Or.inr rfl)) (by rfl) (by rfl)) v_noPart (v_part (v_op op_sub (is_I0 (f := dI (fun i j => i - j)) fun _ _ _ _ => .int _) (v_callB call_lenX is_len (by rfl) T.z_len (by decide +kernel) (v_cons (v_var (i := 2) (by rfl) (by first | exact Or.inl rfl | exact Or.inr (Or.inl rfl) | exact Or.inr (Or.inr rfl)) (by rfl) (by rfl)) v_nil (by rfl)) (by decide) (by decide) (by rfl) (by rfl)) (v_var (i := 4) (by rfl) (by first | exact Or.inl rfl | exact Or.inr (Or.inl rfl) | exact Or.inr (Or.inr rfl)) (by rfl) (by rfl)))))) v_nil (by rfl)) (by rfl)))))))))))
theorem ok_normal_row (T : All G mg) : FnV P w G.K mg base false 9 T.d_normal_row.f T.d_normal_row.fd ["row"] (spV G F_normal_row 1) :=
  FnV.frame <| FnV.close <| okVL (G := G) (x := "normal_row") (qual := "normal_row") (st := s_normal_row) (N := N_normal_row) (ps := ["row"]) (gd := false) (k := 8) (ss := f_normal_row) T.d_normal_row.lk T.d_normal_row.cd sc_normal_row (fun C κ A outer s H E hG hr => by
    unfold f_normal_row
    exact (v_seq (v_drop (v_call (ok_check_row T) rfl (fun z => nomatch z) (hr.mono (by decide)) (L2N.takes_of rfl rfl rfl rfl) (by rfl) T.d_check_row.g T.d_check_row.kp T.d_check_row.b (by rfl) (v_cons (v_c (pe_glob (v := .int 4) (by rfl) T.c_MOST_LETTERS.choose_spec.1 T.c_MOST_LETTERS.choose_spec.2) fun _ _ => .int _) (v_cons (v_var (i := 0) (by rfl) (by first | exact Or.inl rfl | exact Or.inr (Or.inl rfl) | exact Or.inr (Or.inr rfl)) (by rfl) (by rfl)) v_nil (by rfl)) (by rfl)) (by rfl) (by rfl) (by rfl) (ls_cons (ls_cons ls_nil))) (by rfl))
      (v_last (v_ret (v_call (ok_normal_of T) rfl (fun z => nomatch z) (hr.mono (by decide)) (L2N.takes_of rfl rfl rfl rfl) (by rfl) T.d_normal_of.g T.d_normal_of.kp T.d_normal_of.b (by rfl) (v_cons (v_var (i := 0) (by rfl) (by first | exact Or.inl rfl | exact Or.inr (Or.inl rfl) | exact Or.inr (Or.inr rfl)) (by rfl) (by rfl)) v_nil (by rfl)) (by rfl) (by rfl) (by rfl) (ls_cons ls_nil))))))
theorem ok_turned_on (T : All G mg) : FnV P w G.K mg base false 9 T.d_turned_on.f T.d_turned_on.fd ["row", "many"] (spV G F_turned_on 2) :=
  FnV.frame <| FnV.close <| okVL (G := G) (x := "turned_on") (qual := "turned_on") (st := s_turned_on) (N := N_turned_on) (ps := ["row", "many"]) (gd := false) (k := 8) (ss := f_turned_on) T.d_turned_on.lk T.d_turned_on.cd sc_turned_on (fun C κ A outer s H E hG hr => by
    unfold f_turned_on
    exact (v_seq (v_drop (v_call (ok_check_row T) rfl (fun z => nomatch z) (hr.mono (by decide)) (L2N.takes_of rfl rfl rfl rfl) (by rfl) T.d_check_row.g T.d_check_row.kp T.d_check_row.b (by rfl) (v_cons (v_c (pe_glob (v := .int 4) (by rfl) T.c_MOST_LETTERS.choose_spec.1 T.c_MOST_LETTERS.choose_spec.2) fun _ _ => .int _) (v_cons (v_var (i := 0) (by rfl) (by first | exact Or.inl rfl | exact Or.inr (Or.inl rfl) | exact Or.inr (Or.inr rfl)) (by rfl) (by rfl)) v_nil (by rfl)) (by rfl)) (by rfl) (by rfl) (by rfl) (ls_cons (ls_cons ls_nil))) (by rfl))
      (v_seq (v_drop (v_call (ok_check_many T) rfl (fun z => nomatch z) (hr.mono (by decide)) (L2N.takes_of rfl rfl rfl rfl) (by rfl) T.d_check_many.g T.d_check_many.kp T.d_check_many.b (by rfl) (v_cons (v_var (i := 1) (by rfl) (by first | exact Or.inl rfl | exact Or.inr (Or.inl rfl) | exact Or.inr (Or.inr rfl)) (by rfl) (by rfl)) (v_cons (v_c (pe_glob (v := .int 999999) (by rfl) T.c_FARTHEST.choose_spec.1 T.c_FARTHEST.choose_spec.2) fun _ _ => .int _) v_nil (by rfl)) (by rfl)) (by rfl) (by rfl) (by rfl) (ls_cons (ls_cons ls_nil))) (by rfl))
      (v_seq (v_asg (v_var (i := 0) (by rfl) (by first | exact Or.inl rfl | exact Or.inr (Or.inl rfl) | exact Or.inr (Or.inr rfl)) (by rfl) (by rfl)) (v_tgTup rfl rfl (v_tgCons (v_tgName (i := 2) sc_turned_on.nd (by rfl) (by first | exact Or.inl rfl | exact Or.inr rfl) (by first | exact Or.inl rfl | exact Or.inr rfl)) (v_tgCons (v_tgName (i := 3) sc_turned_on.nd (by rfl) (by first | exact Or.inl rfl | exact Or.inr rfl) (by first | exact Or.inl rfl | exact Or.inr rfl)) v_tgNil (by rfl)) (by rfl)) (cons_exc (fun _ _ _ _ _ => name_exc) (cons_exc (fun _ _ _ _ _ => name_exc) (fun _ h => nomatch h))) (by rfl) (by rfl)) (by rfl) (by rfl) (by rfl))
      (v_seq (v_if (v_testC op_le (is_I0 (f := dB (fun i j => decide (i ≤ j))) fun _ _ _ _ => .bl _) (v_var (i := 1) (by rfl) (by first | exact Or.inl rfl | exact Or.inr (Or.inl rfl) | exact Or.inr (Or.inr rfl)) (by rfl) (by rfl)) (v_callB call_lenX is_len (by rfl) T.z_len (by decide +kernel) (v_cons (v_var (i := 2) (by rfl) (by first | exact Or.inl rfl | exact Or.inr (Or.inl rfl) | exact Or.inr (Or.inr rfl)) (by rfl) (by rfl)) v_nil (by rfl)) (by decide) (by decide) (by rfl) (by rfl)) (by rfl)) (v_last (v_ret (v_call (ok_normal_of T) rfl (fun z => nomatch z) (hr.mono (by decide)) (L2N.takes_of rfl rfl rfl rfl) (by rfl) T.d_normal_of.g T.d_normal_of.kp T.d_normal_of.b (by rfl) (v_cons (v_tup (v_cons (v_sl rfl (v_var (i := 2) (by rfl) (by first | exact Or.inl rfl | exact Or.inr (Or.inl rfl) | exact Or.inr (Or.inr rfl)) (by rfl) (by rfl)) (v_part (v_var (i := 1) (by rfl) (by first | exact Or.inl rfl | exact Or.inr (Or.inl rfl) | exact Or.inr (Or.inr rfl)) (by rfl) (by rfl))) v_noPart) (v_cons (v_var (i := 3) (by rfl) (by first | exact Or.inl rfl | exact Or.inr (Or.inl rfl) | exact Or.inr (Or.inr rfl)) (by rfl) (by rfl)) v_nil (by rfl)) (by rfl))) v_nil (by rfl)) (by rfl) (by rfl) (by rfl) (ls_cons ls_nil)))) v_end)
      (v_seq (v_set (i := 4) sc_turned_on.nd (by rfl) (by first | exact Or.inl rfl | exact Or.inr rfl) (v_op op_mod (is_I (C := cMod) (f := dI (fun i j => i % j)) (fun _ _ h => of_decide_eq_true h) fun _ _ _ _ => .int _) (v_op op_sub (is_I0 (f := dI (fun i j => i - j)) fun _ _ _ _ => .int _) (v_var (i := 1) (by rfl) (by first | exact Or.inl rfl | exact Or.inr (Or.inl rfl) | exact Or.inr (Or.inr rfl)) (by rfl) (by rfl)) (v_callB call_lenX is_len (by rfl) T.z_len (by decide +kernel) (v_cons (v_var (i := 2) (by rfl) (by first | exact Or.inl rfl | exact Or.inr (Or.inl rfl) | exact Or.inr (Or.inr rfl)) (by rfl) (by rfl)) v_nil (by rfl)) (by decide) (by decide) (by rfl) (by rfl))) (v_callB call_lenX is_len (by rfl) T.z_len (by decide +kernel) (v_cons (v_var (i := 3) (by rfl) (by first | exact Or.inl rfl | exact Or.inr (Or.inl rfl) | exact Or.inr (Or.inr rfl)) (by rfl) (by rfl)) v_nil (by rfl)) (by decide) (by decide) (by rfl) (by rfl))) (by rfl) (by first | exact Or.inl rfl | exact Or.inr rfl))
      (v_last (v_ret (v_call (ok_normal_of T) rfl (fun z => nomatch z) (hr.mono (by decide)) (L2N.takes_of rfl rfl rfl rfl) (by rfl) T.d_normal_of.g T.d_normal_of.kp T.d_normal_of.b (by rfl) (v_cons (v_tup (v_cons (v_tup v_nil) (v_cons (v_op op_plus is_plus (v_sl rfl (v_var (i := 3) (by rfl) (by first | exact Or.inl rfl | exact Or.inr (Or.inl rfl) | exact Or.inr (Or.inr rfl)) (by rfl) (by rfl)) (v_part (v_var (i := 4) (by rfl) (by first | exact Or.inl rfl | exact Or.inr (Or.inl rfl) | exact Or.inr (Or.inr rfl)) (by rfl) (by rfl))) v_noPart) (v_sl rfl (v_var (i := 3) (by rfl) (by first | exact Or.inl rfl | exact Or.inr (Or.inl rfl) | exact Or.inr (Or.inr rfl)) (by rfl) (by rfl)) v_noPart (v_part (v_var (i := 4) (by rfl) (by first | exact Or.inl rfl | exact Or.inr (Or.inl rfl) | exact Or.inr (Or.inr rfl)) (by rfl) (by rfl))))) v_nil (by rfl)) (by rfl))) v_nil (by rfl)) (by rfl) (by rfl) (by rfl) (ls_cons ls_nil))))))))))
theorem ok_short_enough (T : All G mg) : FnV P w G.K mg base false 3 T.d_short_enough.f T.d_short_enough.fd ["row"] (spV G F_short_enough 1) :=
  FnV.frame <| FnV.close <| okVL (G := G) (x := "short_enough") (qual := "short_enough") (st := s_short_enough) (N := N_short_enough) (ps := ["row"]) (gd := false) (k := 2) (ss := f_short_enough) T.d_short_enough.lk T.d_short_enough.cd sc_short_enough (fun C κ A outer s H E hG hr => by
    unfold f_short_enough
    exact (v_seq (v_if (v_pt (v_orT (v_testC op_gt (is_I0 (f := dB (fun i j => decide (j < i))) fun _ _ _ _ => .bl _) (v_callB call_lenX is_len (by rfl) T.z_len (by decide +kernel) (v_cons (v_ix rfl (v_var (i := 0) (by rfl) (by first | exact Or.inl rfl | exact Or.inr (Or.inl rfl) | exact Or.inr (Or.inr rfl)) (by rfl) (by rfl)) (v_c pe_int fun _ _ => .int _) (fun _ _ => rfl)) v_nil (by rfl)) (by decide) (by decide) (by rfl) (by rfl)) (v_c (pe_glob (v := .int 40) (by rfl) T.c_LONGEST.choose_spec.1 T.c_LONGEST.choose_spec.2) fun _ _ => .int _) (by rfl)) (v_or1 (v_testC op_gt (is_I0 (f := dB (fun i j => decide (j < i))) fun _ _ _ _ => .bl _) (v_callB call_lenX is_len (by rfl) T.z_len (by decide +kernel) (v_cons (v_ix rfl (v_var (i := 0) (by rfl) (by first | exact Or.inl rfl | exact Or.inr (Or.inl rfl) | exact Or.inr (Or.inr rfl)) (by rfl) (by rfl)) (v_c pe_int fun _ _ => .int _) (fun _ _ => rfl)) v_nil (by rfl)) (by decide) (by decide) (by rfl) (by rfl)) (v_c (pe_glob (v := .int 40) (by rfl) T.c_LONGEST.choose_spec.1 T.c_LONGEST.choose_spec.2) fun _ _ => .int _) (by rfl))))) (v_last (v_raise (C := 0) (ns := ["what", "limit"]) rfl T.x_TooMany.nm rfl rfl (L2N.takes_of rfl rfl rfl rfl) (pmk_oexG T.x_TooMany.T T.x_TooMany.iC T.x_TooMany.tI (init_TooMany T) (hr.mono (by decide)) T.x_TooMany.b (by rfl) T.x_TooMany.g (v_cons (v_c pe_str fun _ _ => .str _) (v_cons (v_c (pe_glob (v := .int 40) (by rfl) T.c_LONGEST.choose_spec.1 T.c_LONGEST.choose_spec.2) fun _ _ => .int _) v_nil (by rfl)) (by rfl)) (by rfl) (by rfl) (by rfl)))) v_end)
      (v_last (v_ret (v_var (i := 0) (by rfl) (by first | exact Or.inl rfl | exact Or.inr (Or.inl rfl) | exact Or.inr (Or.inr rfl)) (by rfl) (by rfl))))))
theorem ok_put_ahead (T : All G mg) : FnV P w G.K mg base false 9 T.d_put_ahead.f T.d_put_ahead.fd ["word", "row"] (spV G F_put_ahead 2) :=
  FnV.frame <| FnV.close <| okVL (G := G) (x := "put_ahead") (qual := "put_ahead") (st := s_put_ahead) (N := N_put_ahead) (ps := ["word", "row"]) (gd := false) (k := 8) (ss := f_put_ahead) T.d_put_ahead.lk T.d_put_ahead.cd sc_put_ahead (fun C κ A outer s H E hG hr => by
    unfold f_put_ahead
    exact (v_seq (v_drop (v_call (ok_check_word T) rfl (fun z => nomatch z) (hr.mono (by decide)) (L2N.takes_of rfl rfl rfl rfl) (by rfl) T.d_check_word.g T.d_check_word.kp T.d_check_word.b (by rfl) (v_cons (v_c (pe_glob (v := .int 4) (by rfl) T.c_MOST_LETTERS.choose_spec.1 T.c_MOST_LETTERS.choose_spec.2) fun _ _ => .int _) (v_cons (v_var (i := 0) (by rfl) (by first | exact Or.inl rfl | exact Or.inr (Or.inl rfl) | exact Or.inr (Or.inr rfl)) (by rfl) (by rfl)) v_nil (by rfl)) (by rfl)) (by rfl) (by rfl) (by rfl) (ls_cons (ls_cons ls_nil))) (by rfl))
      (v_seq (v_drop (v_call (ok_check_row T) rfl (fun z => nomatch z) (hr.mono (by decide)) (L2N.takes_of rfl rfl rfl rfl) (by rfl) T.d_check_row.g T.d_check_row.kp T.d_check_row.b (by rfl) (v_cons (v_c (pe_glob (v := .int 4) (by rfl) T.c_MOST_LETTERS.choose_spec.1 T.c_MOST_LETTERS.choose_spec.2) fun _ _ => .int _) (v_cons (v_var (i := 1) (by rfl) (by first | exact Or.inl rfl | exact Or.inr (Or.inl rfl) | exact Or.inr (Or.inr rfl)) (by rfl) (by rfl)) v_nil (by rfl)) (by rfl)) (by rfl) (by rfl) (by rfl) (ls_cons (ls_cons ls_nil))) (by rfl))
      (v_last (v_ret (v_call (ok_short_enough T) rfl (fun z => nomatch z) (hr.mono (by decide)) (L2N.takes_of rfl rfl rfl rfl) (by rfl) T.d_short_enough.g T.d_short_enough.kp T.d_short_enough.b (by rfl) (v_cons (v_call (ok_normal_of T) rfl (fun z => nomatch z) (hr.mono (by decide)) (L2N.takes_of rfl rfl rfl rfl) (by rfl) T.d_normal_of.g T.d_normal_of.kp T.d_normal_of.b (by rfl) (v_cons (v_tup (v_cons (v_op op_plus is_plus (v_callT call_tupOf is_tuple (by rfl) T.z_tuple (by decide +kernel) (v_cons (v_var (i := 0) (by rfl) (by first | exact Or.inl rfl | exact Or.inr (Or.inl rfl) | exact Or.inr (Or.inr rfl)) (by rfl) (by rfl)) v_nil (by rfl)) (by decide) (by decide) (by rfl) (by rfl)) (v_ix rfl (v_var (i := 1) (by rfl) (by first | exact Or.inl rfl | exact Or.inr (Or.inl rfl) | exact Or.inr (Or.inr rfl)) (by rfl) (by rfl)) (v_c pe_int fun _ _ => .int _) (fun _ _ => rfl))) (v_cons (v_ix rfl (v_var (i := 1) (by rfl) (by first | exact Or.inl rfl | exact Or.inr (Or.inl rfl) | exact Or.inr (Or.inr rfl)) (by rfl) (by rfl)) (v_c pe_int fun _ _ => .int _) (fun _ _ => rfl)) v_nil (by rfl)) (by rfl))) v_nil (by rfl)) (by rfl) (by rfl) (by rfl) (ls_cons ls_nil)) v_nil (by rfl)) (by rfl) (by rfl) (by rfl) (ls_cons ls_nil)))))))
theorem ok_woven (T : All G mg) : FnV P w G.K mg base false 9 T.d_woven.f T.d_woven.fd ["row", "other"] (spV G F_woven 2) :=
  FnV.frame <| FnV.close <| okVL (G := G) (x := "woven") (qual := "woven") (st := s_woven) (N := N_woven) (ps := ["row", "other"]) (gd := false) (k := 8) (ss := f_woven) T.d_woven.lk T.d_woven.cd sc_woven (fun C κ A outer s H E hG hr => by
    unfold f_woven
    exact (v_seq (v_drop (v_call (ok_check_row T) rfl (fun z => nomatch z) (hr.mono (by decide)) (L2N.takes_of rfl rfl rfl rfl) (by rfl) T.d_check_row.g T.d_check_row.kp T.d_check_row.b (by rfl) (v_cons (v_c (pe_glob (v := .int 4) (by rfl) T.c_MOST_LETTERS.choose_spec.1 T.c_MOST_LETTERS.choose_spec.2) fun _ _ => .int _) (v_cons (v_var (i := 0) (by rfl) (by first | exact Or.inl rfl | exact Or.inr (Or.inl rfl) | exact Or.inr (Or.inr rfl)) (by rfl) (by rfl)) v_nil (by rfl)) (by rfl)) (by rfl) (by rfl) (by rfl) (ls_cons (ls_cons ls_nil))) (by rfl))
      (v_seq (v_drop (v_call (ok_check_row T) rfl (fun z => nomatch z) (hr.mono (by decide)) (L2N.takes_of rfl rfl rfl rfl) (by rfl) T.d_check_row.g T.d_check_row.kp T.d_check_row.b (by rfl) (v_cons (v_c (pe_glob (v := .int 4) (by rfl) T.c_MOST_LETTERS.choose_spec.1 T.c_MOST_LETTERS.choose_spec.2) fun _ _ => .int _) (v_cons (v_var (i := 1) (by rfl) (by first | exact Or.inl rfl | exact Or.inr (Or.inl rfl) | exact Or.inr (Or.inr rfl)) (by rfl) (by rfl)) v_nil (by rfl)) (by rfl)) (by rfl) (by rfl) (by rfl) (ls_cons (ls_cons ls_nil))) (by rfl))
      (v_seq (v_set (i := 2) sc_woven.nd (by rfl) (by first | exact Or.inl rfl | exact Or.inr rfl) (v_callB (call_max2' rfl) is_max2 (by rfl) T.z_max (by decide +kernel) (v_cons (v_callB call_lenX is_len (by rfl) T.z_len (by decide +kernel) (v_cons (v_ix rfl (v_var (i := 0) (by rfl) (by first | exact Or.inl rfl | exact Or.inr (Or.inl rfl) | exact Or.inr (Or.inr rfl)) (by rfl) (by rfl)) (v_c pe_int fun _ _ => .int _) (fun _ _ => rfl)) v_nil (by rfl)) (by decide) (by decide) (by rfl) (by rfl)) (v_cons (v_callB call_lenX is_len (by rfl) T.z_len (by decide +kernel) (v_cons (v_ix rfl (v_var (i := 1) (by rfl) (by first | exact Or.inl rfl | exact Or.inr (Or.inl rfl) | exact Or.inr (Or.inr rfl)) (by rfl) (by rfl)) (v_c pe_int fun _ _ => .int _) (fun _ _ => rfl)) v_nil (by rfl)) (by decide) (by decide) (by rfl) (by rfl)) v_nil (by rfl)) (by rfl)) (by decide) (by decide) (by rfl) (by rfl)) (by rfl) (by first | exact Or.inl rfl | exact Or.inr rfl))
      (v_seq (v_set (i := 3) sc_woven.nd (by rfl) (by first | exact Or.inl rfl | exact Or.inr rfl) (v_op op_times is_times (v_callB call_lenX is_len (by rfl) T.z_len (by decide +kernel) (v_cons (v_ix rfl (v_var (i := 0) (by rfl) (by first | exact Or.inl rfl | exact Or.inr (Or.inl rfl) | exact Or.inr (Or.inr rfl)) (by rfl) (by rfl)) (v_c pe_int fun _ _ => .int _) (fun _ _ => rfl)) v_nil (by rfl)) (by decide) (by decide) (by rfl) (by rfl)) (v_callB call_lenX is_len (by rfl) T.z_len (by decide +kernel) (v_cons (v_ix rfl (v_var (i := 1) (by rfl) (by first | exact Or.inl rfl | exact Or.inr (Or.inl rfl) | exact Or.inr (Or.inr rfl)) (by rfl) (by rfl)) (v_c pe_int fun _ _ => .int _) (fun _ _ => rfl)) v_nil (by rfl)) (by decide) (by decide) (by rfl) (by rfl))) (by rfl) (by first | exact Or.inl rfl | exact Or.inr rfl))
      (v_seq (v_set (i := 4) sc_woven.nd (by rfl) (by first | exact Or.inl rfl | exact Or.inr rfl) (v_lstC v_nil) (by rfl) (by first | exact Or.inl rfl | exact Or.inr rfl))
      (v_seq (v_for PassesOwn.leaving rfl (v_wkRng1 (by rfl) T.z_range (v_cons (v_op op_plus is_plus (v_var (i := 2) (by rfl) (by first | exact Or.inl rfl | exact Or.inr (Or.inl rfl) | exact Or.inr (Or.inr rfl)) (by rfl) (by rfl)) (v_var (i := 3) (by rfl) (by first | exact Or.inl rfl | exact Or.inr (Or.inl rfl) | exact Or.inr (Or.inr rfl)) (by rfl) (by rfl))) v_nil (by rfl)) (by rfl)) (v_tgName (i := 5) sc_woven.nd (by rfl) (by first | exact Or.inl rfl | exact Or.inr rfl) (by first | exact Or.inl rfl | exact Or.inr rfl)) (v_seq (v_drop (PE.weak (pe_bm PySem.F.plainAttrs_list PySem.F.slot_list_append PySem.F.type_list_append mt_append (v_var (i := 4) (by rfl) (by first | exact Or.inl rfl | exact Or.inr (Or.inl rfl) | exact Or.inr (Or.inr rfl)) (by rfl) (by rfl)) (v_cons (v_call (ok__letter T) rfl (fun z => nomatch z) (hr.mono (by decide)) (L2N.takes_of rfl rfl rfl rfl) (by rfl) T.d__letter.g T.d__letter.kp T.d__letter.b (by rfl) (v_cons (v_var (i := 0) (by rfl) (by first | exact Or.inl rfl | exact Or.inr (Or.inl rfl) | exact Or.inr (Or.inr rfl)) (by rfl) (by rfl)) (v_cons (v_var (i := 5) (by rfl) (by first | exact Or.inl rfl | exact Or.inr (Or.inl rfl) | exact Or.inr (Or.inr rfl)) (by rfl) (by rfl)) v_nil (by rfl)) (by rfl)) (by rfl) (by rfl) (by rfl) (ls_cons (ls_cons ls_nil))) v_nil (by rfl))) fun _ _ _ q => app_run q) (by rfl))
      (v_last (v_drop (PE.weak (pe_bm PySem.F.plainAttrs_list PySem.F.slot_list_append PySem.F.type_list_append mt_append (v_var (i := 4) (by rfl) (by first | exact Or.inl rfl | exact Or.inr (Or.inl rfl) | exact Or.inr (Or.inr rfl)) (by rfl) (by rfl)) (v_cons (v_call (ok__letter T) rfl (fun z => nomatch z) (hr.mono (by decide)) (L2N.takes_of rfl rfl rfl rfl) (by rfl) T.d__letter.g T.d__letter.kp T.d__letter.b (by rfl) (v_cons (v_var (i := 1) (by rfl) (by first | exact Or.inl rfl | exact Or.inr (Or.inl rfl) | exact Or.inr (Or.inr rfl)) (by rfl) (by rfl)) (v_cons (v_var (i := 5) (by rfl) (by first | exact Or.inl rfl | exact Or.inr (Or.inl rfl) | exact Or.inr (Or.inr rfl)) (by rfl) (by rfl)) v_nil (by rfl)) (by rfl)) (by rfl) (by rfl) (by rfl) (ls_cons (ls_cons ls_nil))) v_nil (by rfl))) fun _ _ _ q => app_run q) (by rfl)))) (by intro _; rfl))
      (v_last (v_ret (v_call (ok_short_enough T) rfl (fun z => nomatch z) (hr.mono (by decide)) (L2N.takes_of rfl rfl rfl rfl) (by rfl) T.d_short_enough.g T.d_short_enough.kp T.d_short_enough.b (by rfl) (v_cons (v_call (ok_normal_of T) rfl (fun z => nomatch z) (hr.mono (by decide)) (L2N.takes_of rfl rfl rfl rfl) (by rfl) T.d_normal_of.g T.d_normal_of.kp T.d_normal_of.b (by rfl) (v_cons (v_tup (v_cons (v_callT call_tupOf is_tuple (by rfl) T.z_tuple (by decide +kernel) (v_cons (v_sl rfl (v_var (i := 4) (by rfl) (by first | exact Or.inl rfl | exact Or.inr (Or.inl rfl) | exact Or.inr (Or.inr rfl)) (by rfl) (by rfl)) v_noPart (v_part (v_op op_times is_times (v_c pe_int fun _ _ => .int _) (v_var (i := 2) (by rfl) (by first | exact Or.inl rfl | exact Or.inr (Or.inl rfl) | exact Or.inr (Or.inr rfl)) (by rfl) (by rfl))))) v_nil (by rfl)) (by decide) (by decide) (by rfl) (by rfl)) (v_cons (v_callT call_tupOf is_tuple (by rfl) T.z_tuple (by decide +kernel) (v_cons (v_sl rfl (v_var (i := 4) (by rfl) (by first | exact Or.inl rfl | exact Or.inr (Or.inl rfl) | exact Or.inr (Or.inr rfl)) (by rfl) (by rfl)) (v_part (v_op op_times is_times (v_c pe_int fun _ _ => .int _) (v_var (i := 2) (by rfl) (by first | exact Or.inl rfl | exact Or.inr (Or.inl rfl) | exact Or.inr (Or.inr rfl)) (by rfl) (by rfl)))) v_noPart) v_nil (by rfl)) (by decide) (by decide) (by rfl) (by rfl)) v_nil (by rfl)) (by rfl))) v_nil (by rfl)) (by rfl) (by rfl) (by rfl) (ls_cons ls_nil)) v_nil (by rfl)) (by rfl) (by rfl) (by rfl) (ls_cons ls_nil)))))))))))
theorem ok__law_pot (T : All G mg) : FnV P w G.K mg base false 3 T.d__law_pot.f T.d__law_pot.fd ["_law_script", "_law_k"] (spV G F__law_pot 2) :=
  FnV.close <| okVL (G := G) (x := "_law_pot") (qual := "_law_pot") (st := s__law_pot) (N := N__law_pot) (ps := ["_law_script", "_law_k"]) (gd := false) (k := 2) (ss := f__law_pot) T.d__law_pot.lk T.d__law_pot.cd sc__law_pot (fun C κ A outer s H E hG hr => by
    unfold f__law_pot
    exact (v_seq (v_set (i := 2) sc__law_pot.nd (by rfl) (by first | exact Or.inl rfl | exact Or.inr rfl) (v_op op_plus is_plus (v_op op_times is_times (v_c pe_int fun _ _ => .int _) (v_var (i := 1) (by rfl) (by first | exact Or.inl rfl | exact Or.inr (Or.inl rfl) | exact Or.inr (Or.inr rfl)) (by rfl) (by rfl))) (v_c pe_int fun _ _ => .int _)) (by rfl) (by first | exact Or.inl rfl | exact Or.inr rfl))
      (v_seq (v_if (v_testC op_lt (is_I0 (f := dB (fun i j => decide (i < j))) fun _ _ _ _ => .bl _) (v_var (i := 1) (by rfl) (by first | exact Or.inl rfl | exact Or.inr (Or.inl rfl) | exact Or.inr (Or.inr rfl)) (by rfl) (by rfl)) (v_callB call_lenX is_len (by rfl) T.z_len (by decide +kernel) (v_cons (v_var (i := 0) (by rfl) (by first | exact Or.inl rfl | exact Or.inr (Or.inl rfl) | exact Or.inr (Or.inr rfl)) (by rfl) (by rfl)) v_nil (by rfl)) (by decide) (by decide) (by rfl) (by rfl)) (by rfl)) (v_last (v_set (i := 2) sc__law_pot.nd (by rfl) (by first | exact Or.inl rfl | exact Or.inr rfl) (v_callB call_abs' is_abs (by rfl) T.z_abs (by decide +kernel) (v_cons (v_ix rfl (v_var (i := 0) (by rfl) (by first | exact Or.inl rfl | exact Or.inr (Or.inl rfl) | exact Or.inr (Or.inr rfl)) (by rfl) (by rfl)) (v_var (i := 1) (by rfl) (by first | exact Or.inl rfl | exact Or.inr (Or.inl rfl) | exact Or.inr (Or.inr rfl)) (by rfl) (by rfl)) (fun _ _ => rfl)) v_nil (by rfl)) (by decide) (by decide) (by rfl) (by rfl)) (by rfl) (by first | exact Or.inl rfl | exact Or.inr rfl))) v_end)
      (v_last (v_ret (v_lstC (v_cons (v_callB (call_max2' rfl) is_max2 (by rfl) T.z_max (by decide +kernel) (v_cons (v_c pe_int fun _ _ => .int _) (v_cons (v_op op_sub (is_I0 (f := dI (fun i j => i - j)) fun _ _ _ _ => .int _) (v_var (i := 2) (by rfl) (by first | exact Or.inl rfl | exact Or.inr (Or.inl rfl) | exact Or.inr (Or.inr rfl)) (by rfl) (by rfl)) (v_op op_pow (is_I (C := cPow) (f := dI (fun i j => i ^ j.toNat)) (fun _ _ => cPow_of) fun _ _ _ _ => .int _) (v_c pe_int fun _ _ => .int _) (v_c pe_int fun _ _ => .int _))) v_nil (by rfl)) (by rfl)) (by decide) (by decide) (by rfl) (by rfl)) (v_cons (v_op op_plus is_plus (v_op op_mod (is_I (C := cMod) (f := dI (fun i j => i % j)) (fun _ _ h => of_decide_eq_true h) fun _ _ _ _ => .int _) (v_callT call_int1' is_int1 (by rfl) T.z_int (by decide +kernel) (v_cons (v_op op_plus is_plus (v_op op_times is_times (v_op op_mod (is_I (C := cMod) (f := dI (fun i j => i % j)) (fun _ _ h => of_decide_eq_true h) fun _ _ _ _ => .int _) (v_callT call_int1' is_int1 (by rfl) T.z_int (by decide +kernel) (v_cons (v_var (i := 2) (by rfl) (by first | exact Or.inl rfl | exact Or.inr (Or.inl rfl) | exact Or.inr (Or.inr rfl)) (by rfl) (by rfl)) v_nil (by rfl)) (by decide) (by decide) (by rfl) (by rfl)) (v_c pe_int fun _ _ => .int _)) (v_op op_plus is_plus (v_op op_times is_times (v_c pe_int fun _ _ => .int _) (v_var (i := 1) (by rfl) (by first | exact Or.inl rfl | exact Or.inr (Or.inl rfl) | exact Or.inr (Or.inr rfl)) (by rfl) (by rfl))) (v_c pe_int fun _ _ => .int _))) (v_c pe_int fun _ _ => .int _)) v_nil (by rfl)) (by decide) (by decide) (by rfl) (by rfl)) (v_c pe_int fun _ _ => .int _)) (v_c pe_int fun _ _ => .int _)) v_nil (by rfl)) (by rfl))))))))
theorem ok__law_draw (T : All G mg) : FnV P w G.K mg base false 3 T.d__law_draw.f T.d__law_draw.fd ["_law_pot_here", "_law_size"] (spV G F__law_draw 2) :=
  FnV.close <| okVL (G := G) (x := "_law_draw") (qual := "_law_draw") (st := s__law_draw) (N := N__law_draw) (ps := ["_law_pot_here", "_law_size"]) (gd := false) (k := 2) (ss := f__law_draw) T.d__law_draw.lk T.d__law_draw.cd sc__law_draw (fun C κ A outer s H E hG hr => by
    unfold f__law_draw
    exact (v_seq (v_if (v_testC op_gt (is_I0 (f := dB (fun i j => decide (j < i))) fun _ _ _ _ => .bl _) (v_ix rfl (v_var (i := 0) (by rfl) (by first | exact Or.inl rfl | exact Or.inr (Or.inl rfl) | exact Or.inr (Or.inr rfl)) (by rfl) (by rfl)) (v_c pe_int fun _ _ => .int _) (fun _ _ => rfl)) (v_c pe_int fun _ _ => .int _) (by rfl)) (v_seq (v_asg (v_callB call_dm is_dm (by rfl) T.z_divmod (by decide +kernel) (v_cons (v_ix rfl (v_var (i := 0) (by rfl) (by first | exact Or.inl rfl | exact Or.inr (Or.inl rfl) | exact Or.inr (Or.inr rfl)) (by rfl) (by rfl)) (v_c pe_int fun _ _ => .int _) (fun _ _ => rfl)) (v_cons (v_var (i := 1) (by rfl) (by first | exact Or.inl rfl | exact Or.inr (Or.inl rfl) | exact Or.inr (Or.inr rfl)) (by rfl) (by rfl)) v_nil (by rfl)) (by rfl)) (by decide) (by decide) (by rfl) (by rfl)) (v_tgTup rfl rfl (v_tgCons (v_tgSub (v_var (i := 0) (by rfl) (by first | exact Or.inl rfl | exact Or.inr (Or.inl rfl) | exact Or.inr (Or.inr rfl)) (by rfl) (by rfl)) (v_c pe_int fun _ _ => .int _) (fun _ => rfl)) (v_tgCons (v_tgName (i := 2) sc__law_draw.nd (by rfl) (by first | exact Or.inl rfl | exact Or.inr rfl) (by first | exact Or.inl rfl | exact Or.inr rfl)) v_tgNil (by rfl)) (by rfl)) (cons_exc (fun _ _ _ _ _ => tgSub_exc) (cons_exc (fun _ _ _ _ _ => name_exc) (fun _ h => nomatch h))) (by rfl) (by rfl)) (by rfl) (by rfl) (by rfl))
      (v_last (v_ret (v_var (i := 2) (by rfl) (by first | exact Or.inl rfl | exact Or.inr (Or.inl rfl) | exact Or.inr (Or.inr rfl)) (by rfl) (by rfl))))) v_end)
      (v_seq (v_asg (v_op op_mod (is_I (C := cMod) (f := dI (fun i j => i % j)) (fun _ _ h => of_decide_eq_true h) fun _ _ _ _ => .int _) (v_callT call_int1' is_int1 (by rfl) T.z_int (by decide +kernel) (v_cons (v_op op_plus is_plus (v_op op_times is_times (v_ix rfl (v_var (i := 0) (by rfl) (by first | exact Or.inl rfl | exact Or.inr (Or.inl rfl) | exact Or.inr (Or.inr rfl)) (by rfl) (by rfl)) (v_c pe_int fun _ _ => .int _) (fun _ _ => rfl)) (v_c pe_int fun _ _ => .int _)) (v_c pe_int fun _ _ => .int _)) v_nil (by rfl)) (by decide) (by decide) (by rfl) (by rfl)) (v_c pe_int fun _ _ => .int _)) (v_tgSub (v_var (i := 0) (by rfl) (by first | exact Or.inl rfl | exact Or.inr (Or.inl rfl) | exact Or.inr (Or.inr rfl)) (by rfl) (by rfl)) (v_c pe_int fun _ _ => .int _) (fun _ => rfl)) (by rfl) (by rfl) (by rfl))
      (v_last (v_ret (v_op op_mod (is_I (C := cMod) (f := dI (fun i j => i % j)) (fun _ _ h => of_decide_eq_true h) fun _ _ _ _ => .int _) (v_callT call_int1' is_int1 (by rfl) T.z_int (by decide +kernel) (v_cons (v_op op_fdiv (is_I (C := cDiv) (f := dI (fun i j => i / j)) (fun _ _ => cDiv_of) fun _ _ _ _ => .int _) (v_op op_mod (is_I (C := cMod) (f := dI (fun i j => i % j)) (fun _ _ h => of_decide_eq_true h) fun _ _ _ _ => .int _) (v_callT call_int1' is_int1 (by rfl) T.z_int (by decide +kernel) (v_cons (v_op op_times is_times (v_ix rfl (v_var (i := 0) (by rfl) (by first | exact Or.inl rfl | exact Or.inr (Or.inl rfl) | exact Or.inr (Or.inr rfl)) (by rfl) (by rfl)) (v_c pe_int fun _ _ => .int _) (fun _ _ => rfl)) (v_ix rfl (v_var (i := 0) (by rfl) (by first | exact Or.inl rfl | exact Or.inr (Or.inl rfl) | exact Or.inr (Or.inr rfl)) (by rfl) (by rfl)) (v_c pe_int fun _ _ => .int _) (fun _ _ => rfl))) v_nil (by rfl)) (by decide) (by decide) (by rfl) (by rfl)) (v_c pe_int fun _ _ => .int _)) (v_c pe_int fun _ _ => .int _)) v_nil (by rfl)) (by decide) (by decide) (by rfl) (by rfl)) (v_var (i := 1) (by rfl) (by first | exact Or.inl rfl | exact Or.inr (Or.inl rfl) | exact Or.inr (Or.inr rfl)) (by rfl) (by rfl))))))))
theorem ok__law_word (T : All G mg) : FnV P w G.K mg base false 4 T.d__law_word.f T.d__law_word.fd ["_law_pot_here", "_law_letters", "_law_least", "_law_most"] (spV G F__law_word 4) :=
  okVL (G := G) (x := "_law_word") (qual := "_law_word") (st := s__law_word) (N := N__law_word) (ps := ["_law_pot_here", "_law_letters", "_law_least", "_law_most"]) (gd := false) (k := 3) (ss := f__law_word) T.d__law_word.lk T.d__law_word.cd sc__law_word (fun C κ A outer s H E hG hr => by
    unfold f__law_word
    exact (v_seq (v_set (i := 4) sc__law_word.nd (by rfl) (by first | exact Or.inl rfl | exact Or.inr rfl) (v_tup v_nil) (by rfl) (by first | exact Or.inl rfl | exact Or.inr rfl))
      (v_seq (v_for PassesOwn.leaving rfl (v_wkRng1 (by rfl) T.z_range (v_cons (v_op op_plus is_plus (v_var (i := 2) (by rfl) (by first | exact Or.inl rfl | exact Or.inr (Or.inl rfl) | exact Or.inr (Or.inr rfl)) (by rfl) (by rfl)) (v_call (ok__law_draw T) rfl (fun z => nomatch z) (hr.mono (by decide)) (L2N.takes_of rfl rfl rfl rfl) (by rfl) T.d__law_draw.g T.d__law_draw.kp T.d__law_draw.b (by rfl) (v_cons (v_var (i := 0) (by rfl) (by first | exact Or.inl rfl | exact Or.inr (Or.inl rfl) | exact Or.inr (Or.inr rfl)) (by rfl) (by rfl)) (v_cons (v_op op_plus is_plus (v_op op_sub (is_I0 (f := dI (fun i j => i - j)) fun _ _ _ _ => .int _) (v_var (i := 3) (by rfl) (by first | exact Or.inl rfl | exact Or.inr (Or.inl rfl) | exact Or.inr (Or.inr rfl)) (by rfl) (by rfl)) (v_var (i := 2) (by rfl) (by first | exact Or.inl rfl | exact Or.inr (Or.inl rfl) | exact Or.inr (Or.inr rfl)) (by rfl) (by rfl))) (v_c pe_int fun _ _ => .int _)) v_nil (by rfl)) (by rfl)) (by rfl) (by rfl) (by rfl) (ls_cons (ls_cons ls_nil)))) v_nil (by rfl)) (by rfl)) (v_tgName (i := 5) sc__law_word.nd (by rfl) (by first | exact Or.inl rfl | exact Or.inr rfl) (by first | exact Or.inl rfl | exact Or.inr rfl)) (v_last (v_set (i := 4) sc__law_word.nd (by rfl) (by first | exact Or.inl rfl | exact Or.inr rfl) (v_op op_plus is_plus (v_var (i := 4) (by rfl) (by first | exact Or.inl rfl | exact Or.inr (Or.inl rfl) | exact Or.inr (Or.inr rfl)) (by rfl) (by rfl)) (v_tup (v_cons (v_call (ok__law_draw T) rfl (fun z => nomatch z) (hr.mono (by decide)) (L2N.takes_of rfl rfl rfl rfl) (by rfl) T.d__law_draw.g T.d__law_draw.kp T.d__law_draw.b (by rfl) (v_cons (v_var (i := 0) (by rfl) (by first | exact Or.inl rfl | exact Or.inr (Or.inl rfl) | exact Or.inr (Or.inr rfl)) (by rfl) (by rfl)) (v_cons (v_var (i := 1) (by rfl) (by first | exact Or.inl rfl | exact Or.inr (Or.inl rfl) | exact Or.inr (Or.inr rfl)) (by rfl) (by rfl)) v_nil (by rfl)) (by rfl)) (by rfl) (by rfl) (by rfl) (ls_cons (ls_cons ls_nil))) v_nil (by rfl)))) (by rfl) (by first | exact Or.inl rfl | exact Or.inr rfl))) (by intro _; rfl))
      (v_last (v_ret (v_var (i := 4) (by rfl) (by first | exact Or.inl rfl | exact Or.inr (Or.inl rfl) | exact Or.inr (Or.inr rfl)) (by rfl) (by rfl)))))))
theorem ok__law_row (T : All G mg) : FnV P w G.K mg base false 5 T.d__law_row.f T.d__law_row.fd ["_law_pot_here", "_law_letters", "_law_most"] (spV G F__law_row 3) :=
  okVL (G := G) (x := "_law_row") (qual := "_law_row") (st := s__law_row) (N := N__law_row) (ps := ["_law_pot_here", "_law_letters", "_law_most"]) (gd := false) (k := 4) (ss := f__law_row) T.d__law_row.lk T.d__law_row.cd sc__law_row (fun C κ A outer s H E hG hr => by
    unfold f__law_row
    exact (v_seq (v_par (i := 3) (j := 4) rfl sc__law_row.nd (by rfl) (by rfl) (by decide) (by rfl) (by rfl) (v_cons (v_call (ok__law_word T) rfl (fun z => nomatch z) (hr.mono (by decide)) (L2N.takes_of rfl rfl rfl rfl) (by rfl) T.d__law_word.g T.d__law_word.kp T.d__law_word.b (by rfl) (v_cons (v_var (i := 0) (by rfl) (by first | exact Or.inl rfl | exact Or.inr (Or.inl rfl) | exact Or.inr (Or.inr rfl)) (by rfl) (by rfl)) (v_cons (v_var (i := 1) (by rfl) (by first | exact Or.inl rfl | exact Or.inr (Or.inl rfl) | exact Or.inr (Or.inr rfl)) (by rfl) (by rfl)) (v_cons (v_c pe_int fun _ _ => .int _) (v_cons (v_var (i := 2) (by rfl) (by first | exact Or.inl rfl | exact Or.inr (Or.inl rfl) | exact Or.inr (Or.inr rfl)) (by rfl) (by rfl)) v_nil (by rfl)) (by rfl)) (by rfl)) (by rfl)) (by rfl) (by rfl) (by rfl) (ls_cons (ls_cons (ls_cons (ls_cons ls_nil))))) (v_cons (v_call (ok__law_word T) rfl (fun z => nomatch z) (hr.mono (by decide)) (L2N.takes_of rfl rfl rfl rfl) (by rfl) T.d__law_word.g T.d__law_word.kp T.d__law_word.b (by rfl) (v_cons (v_var (i := 0) (by rfl) (by first | exact Or.inl rfl | exact Or.inr (Or.inl rfl) | exact Or.inr (Or.inr rfl)) (by rfl) (by rfl)) (v_cons (v_var (i := 1) (by rfl) (by first | exact Or.inl rfl | exact Or.inr (Or.inl rfl) | exact Or.inr (Or.inr rfl)) (by rfl) (by rfl)) (v_cons (v_c pe_int fun _ _ => .int _) (v_cons (v_var (i := 2) (by rfl) (by first | exact Or.inl rfl | exact Or.inr (Or.inl rfl) | exact Or.inr (Or.inr rfl)) (by rfl) (by rfl)) v_nil (by rfl)) (by rfl)) (by rfl)) (by rfl)) (by rfl) (by rfl) (by rfl) (ls_cons (ls_cons (ls_cons (ls_cons ls_nil))))) v_nil (by rfl)) (by rfl)) (by rfl) (by rfl))
      (v_seq (v_set (i := 5) sc__law_row.nd (by rfl) (by first | exact Or.inl rfl | exact Or.inr rfl) (v_call (ok__law_draw T) rfl (fun z => nomatch z) (hr.mono (by decide)) (L2N.takes_of rfl rfl rfl rfl) (by rfl) T.d__law_draw.g T.d__law_draw.kp T.d__law_draw.b (by rfl) (v_cons (v_var (i := 0) (by rfl) (by first | exact Or.inl rfl | exact Or.inr (Or.inl rfl) | exact Or.inr (Or.inr rfl)) (by rfl) (by rfl)) (v_cons (v_c pe_int fun _ _ => .int _) v_nil (by rfl)) (by rfl)) (by rfl) (by rfl) (by rfl) (ls_cons (ls_cons ls_nil))) (by rfl) (by first | exact Or.inl rfl | exact Or.inr rfl))
      (v_seq (v_if (v_testC (op_eqD hr.units) is_eq (v_var (i := 5) (by rfl) (by first | exact Or.inl rfl | exact Or.inr (Or.inl rfl) | exact Or.inr (Or.inr rfl)) (by rfl) (by rfl)) (v_c pe_int fun _ _ => .int _) (by rfl)) (v_last (v_set (i := 4) sc__law_row.nd (by rfl) (by first | exact Or.inl rfl | exact Or.inr rfl) (v_op op_times is_times (v_var (i := 4) (by rfl) (by first | exact Or.inl rfl | exact Or.inr (Or.inl rfl) | exact Or.inr (Or.inr rfl)) (by rfl) (by rfl)) (v_op op_plus is_plus (v_c pe_int fun _ _ => .int _) (v_call (ok__law_draw T) rfl (fun z => nomatch z) (hr.mono (by decide)) (L2N.takes_of rfl rfl rfl rfl) (by rfl) T.d__law_draw.g T.d__law_draw.kp T.d__law_draw.b (by rfl) (v_cons (v_var (i := 0) (by rfl) (by first | exact Or.inl rfl | exact Or.inr (Or.inl rfl) | exact Or.inr (Or.inr rfl)) (by rfl) (by rfl)) (v_cons (v_c pe_int fun _ _ => .int _) v_nil (by rfl)) (by rfl)) (by rfl) (by rfl) (by rfl) (ls_cons (ls_cons ls_nil))))) (by rfl) (by first | exact Or.inl rfl | exact Or.inr rfl))) v_end)
      (v_seq (v_if (v_testC (op_eqD hr.units) is_eq (v_var (i := 5) (by rfl) (by first | exact Or.inl rfl | exact Or.inr (Or.inl rfl) | exact Or.inr (Or.inr rfl)) (by rfl) (by rfl)) (v_c pe_int fun _ _ => .int _) (by rfl)) (v_last (v_set (i := 3) sc__law_row.nd (by rfl) (by first | exact Or.inl rfl | exact Or.inr rfl) (v_op op_plus is_plus (v_var (i := 3) (by rfl) (by first | exact Or.inl rfl | exact Or.inr (Or.inl rfl) | exact Or.inr (Or.inr rfl)) (by rfl) (by rfl)) (v_var (i := 4) (by rfl) (by first | exact Or.inl rfl | exact Or.inr (Or.inl rfl) | exact Or.inr (Or.inr rfl)) (by rfl) (by rfl))) (by rfl) (by first | exact Or.inl rfl | exact Or.inr rfl))) v_end)
      (v_last (v_ret (v_tup (v_cons (v_var (i := 3) (by rfl) (by first | exact Or.inl rfl | exact Or.inr (Or.inl rfl) | exact Or.inr (Or.inr rfl)) (by rfl) (by rfl)) (v_cons (v_var (i := 4) (by rfl) (by first | exact Or.inl rfl | exact Or.inr (Or.inl rfl) | exact Or.inr (Or.inr rfl)) (by rfl) (by rfl)) v_nil (by rfl)) (by rfl))))))))))
theorem ok__law_at (T : All G mg) : FnV P w G.K mg base false 3 T.d__law_at.f T.d__law_at.fd ["_law_row_here", "_law_place"] (spV G F__law_at 2) :=
  FnV.frame <| FnV.close <| okVL (G := G) (x := "_law_at") (qual := "_law_at") (st := s__law_at) (N := N__law_at) (ps := ["_law_row_here", "_law_place"]) (gd := false) (k := 2) (ss := f__law_at) T.d__law_at.lk T.d__law_at.cd sc__law_at (fun C κ A outer s H E hG hr => by
    unfold f__law_at
    exact (v_seq (v_asg (v_var (i := 0) (by rfl) (by first | exact Or.inl rfl | exact Or.inr (Or.inl rfl) | exact Or.inr (Or.inr rfl)) (by rfl) (by rfl)) (v_tgTup rfl rfl (v_tgCons (v_tgName (i := 2) sc__law_at.nd (by rfl) (by first | exact Or.inl rfl | exact Or.inr rfl) (by first | exact Or.inl rfl | exact Or.inr rfl)) (v_tgCons (v_tgName (i := 3) sc__law_at.nd (by rfl) (by first | exact Or.inl rfl | exact Or.inr rfl) (by first | exact Or.inl rfl | exact Or.inr rfl)) v_tgNil (by rfl)) (by rfl)) (cons_exc (fun _ _ _ _ _ => name_exc) (cons_exc (fun _ _ _ _ _ => name_exc) (fun _ h => nomatch h))) (by rfl) (by rfl)) (by rfl) (by rfl) (by rfl))
      (v_seq (v_if (v_testC op_lt (is_I0 (f := dB (fun i j => decide (i < j))) fun _ _ _ _ => .bl _) (v_var (i := 1) (by rfl) (by first | exact Or.inl rfl | exact Or.inr (Or.inl rfl) | exact Or.inr (Or.inr rfl)) (by rfl) (by rfl)) (v_callB call_lenX is_len (by rfl) T.z_len (by decide +kernel) (v_cons (v_var (i := 2) (by rfl) (by first | exact Or.inl rfl | exact Or.inr (Or.inl rfl) | exact Or.inr (Or.inr rfl)) (by rfl) (by rfl)) v_nil (by rfl)) (by decide) (by decide) (by rfl) (by rfl)) (by rfl)) (v_last (v_ret (v_ix rfl (v_var (i := 2) (by rfl) (by first | exact Or.inl rfl | exact Or.inr (Or.inl rfl) | exact Or.inr (Or.inr rfl)) (by rfl) (by rfl)) (v_var (i := 1) (by rfl) (by first | exact Or.inl rfl | exact Or.inr (Or.inl rfl) | exact Or.inr (Or.inr rfl)) (by rfl) (by rfl)) (fun _ _ => rfl)))) v_end)
      (v_last (v_ret (v_ix rfl (v_var (i := 3) (by rfl) (by first | exact Or.inl rfl | exact Or.inr (Or.inl rfl) | exact Or.inr (Or.inr rfl)) (by rfl) (by rfl)) (v_op op_mod (is_I (C := cMod) (f := dI (fun i j => i % j)) (fun _ _ h => of_decide_eq_true h) fun _ _ _ _ => .int _) (v_op op_sub (is_I0 (f := dI (fun i j => i - j)) fun _ _ _ _ => .int _) (v_var (i := 1) (by rfl) (by first | exact Or.inl rfl | exact Or.inr (Or.inl rfl) | exact Or.inr (Or.inr rfl)) (by rfl) (by rfl)) (v_callB call_lenX is_len (by rfl) T.z_len (by decide +kernel) (v_cons (v_var (i := 2) (by rfl) (by first | exact Or.inl rfl | exact Or.inr (Or.inl rfl) | exact Or.inr (Or.inr rfl)) (by rfl) (by rfl)) v_nil (by rfl)) (by decide) (by decide) (by rfl) (by rfl))) (v_callB call_lenX is_len (by rfl) T.z_len (by decide +kernel) (v_cons (v_var (i := 3) (by rfl) (by first | exact Or.inl rfl | exact Or.inr (Or.inl rfl) | exact Or.inr (Or.inr rfl)) (by rfl) (by rfl)) v_nil (by rfl)) (by decide) (by decide) (by rfl) (by rfl))) (fun _ _ => rfl)))))))
theorem ok__law_spelled (T : All G mg) : FnV P w G.K mg base false 4 T.d__law_spelled.f T.d__law_spelled.fd ["_law_row_here", "_law_many"] (spV G F__law_spelled 2) :=
  FnV.frame <| FnV.close <| okVL (G := G) (x := "_law_spelled") (qual := "_law_spelled") (st := s__law_spelled) (N := N__law_spelled) (ps := ["_law_row_here", "_law_many"]) (gd := false) (k := 3) (ss := f__law_spelled) T.d__law_spelled.lk T.d__law_spelled.cd sc__law_spelled (fun C κ A outer s H E hG hr => by
    unfold f__law_spelled
    exact (v_last (v_ret (v_lcC (own := [("_law_place", 2)]) rfl sc__law_spelled.nd (v_wkRng1 (by rfl) T.z_range (v_cons (v_var (i := 1) (by rfl) (by first | exact Or.inl rfl | exact Or.inr (Or.inl rfl) | exact Or.inr (Or.inr rfl)) (by rfl) (by rfl)) v_nil (by rfl)) (by rfl)) (blkOk_by (N := N__law_spelled) (sc := defScope s__law_spelled) (by decide +kernel)) (fun _ _ _ _ _ => (v_pName (i := 2) (by decide) sc__law_spelled.nd (by rfl) (by first | exact Or.inl rfl | exact Or.inr rfl) (by first | exact Or.inl rfl | exact Or.inr rfl))) (fun _ _ _ _ _ => v_tNil) (fun _ _ _ _ _ => (v_call (ok__law_at T) rfl (fun z => nomatch z) (hr.mono (by decide)) tk0 (by rfl) T.d__law_at.g T.d__law_at.kp T.d__law_at.b (by rfl) (v_cons (v_var (i := 0) (by rfl) (by first | exact Or.inl rfl | exact Or.inr (Or.inl rfl) | exact Or.inr (Or.inr rfl)) (by rfl) (by rfl)) (v_cons (v_var (i := 2) (by rfl) (by first | exact Or.inl rfl | exact Or.inr (Or.inl rfl) | exact Or.inr (Or.inr rfl)) (by rfl) (by rfl)) v_nil (by rfl)) (by rfl)) (by rfl) (by rfl) (by rfl) (ls_cons (ls_cons ls_nil)))) (by intro _; rfl)))))
theorem ok__law_normal (T : All G mg) : FnV P w G.K mg base false 3 T.d__law_normal.f T.d__law_normal.fd ["_law_letters", "_law_begun", "_law_long"] (spV G F__law_normal 3) :=
  FnV.frame <| FnV.close <| okVL (G := G) (x := "_law_normal") (qual := "_law_normal") (st := s__law_normal) (N := N__law_normal) (ps := ["_law_letters", "_law_begun", "_law_long"]) (gd := false) (k := 2) (ss := f__law_normal) T.d__law_normal.lk T.d__law_normal.cd sc__law_normal (fun C κ A outer s H E hG hr => by
    unfold f__law_normal
    exact (v_seq (v_for PassesOwn.leaving rfl (v_wkRng1 (by rfl) T.z_range (v_cons (v_op op_plus is_plus (v_var (i := 1) (by rfl) (by first | exact Or.inl rfl | exact Or.inr (Or.inl rfl) | exact Or.inr (Or.inr rfl)) (by rfl) (by rfl)) (v_c pe_int fun _ _ => .int _)) v_nil (by rfl)) (by rfl)) (v_tgName (i := 3) sc__law_normal.nd (by rfl) (by first | exact Or.inl rfl | exact Or.inr rfl) (by first | exact Or.inl rfl | exact Or.inr rfl)) (v_last (v_for PassesOwn.leaving rfl (v_wkRng2 (by rfl) T.z_range (v_cons (v_c pe_int fun _ _ => .int _) (v_cons (v_op op_plus is_plus (v_var (i := 2) (by rfl) (by first | exact Or.inl rfl | exact Or.inr (Or.inl rfl) | exact Or.inr (Or.inr rfl)) (by rfl) (by rfl)) (v_c pe_int fun _ _ => .int _)) v_nil (by rfl)) (by rfl)) (by rfl) (by rfl)) (v_tgName (i := 4) sc__law_normal.nd (by rfl) (by first | exact Or.inl rfl | exact Or.inr rfl) (by first | exact Or.inl rfl | exact Or.inr rfl)) (v_last (v_if (v_testC (op_eqD hr.units) is_eq (v_sl rfl (v_var (i := 0) (by rfl) (by first | exact Or.inl rfl | exact Or.inr (Or.inl rfl) | exact Or.inr (Or.inr rfl)) (by rfl) (by rfl)) (v_part (v_var (i := 3) (by rfl) (by first | exact Or.inl rfl | exact Or.inr (Or.inl rfl) | exact Or.inr (Or.inr rfl)) (by rfl) (by rfl))) (v_part (v_op op_plus is_plus (v_op op_plus is_plus (v_var (i := 1) (by rfl) (by first | exact Or.inl rfl | exact Or.inr (Or.inl rfl) | exact Or.inr (Or.inr rfl)) (by rfl) (by rfl)) (v_var (i := 2) (by rfl) (by first | exact Or.inl rfl | exact Or.inr (Or.inl rfl) | exact Or.inr (Or.inr rfl)) (by rfl) (by rfl))) (v_c pe_int fun _ _ => .int _)))) (v_sl rfl (v_var (i := 0) (by rfl) (by first | exact Or.inl rfl | exact Or.inr (Or.inl rfl) | exact Or.inr (Or.inr rfl)) (by rfl) (by rfl)) (v_part (v_op op_plus is_plus (v_var (i := 3) (by rfl) (by first | exact Or.inl rfl | exact Or.inr (Or.inl rfl) | exact Or.inr (Or.inr rfl)) (by rfl) (by rfl)) (v_var (i := 4) (by rfl) (by first | exact Or.inl rfl | exact Or.inr (Or.inl rfl) | exact Or.inr (Or.inr rfl)) (by rfl) (by rfl)))) (v_part (v_op op_plus is_plus (v_op op_plus is_plus (v_op op_plus is_plus (v_var (i := 1) (by rfl) (by first | exact Or.inl rfl | exact Or.inr (Or.inl rfl) | exact Or.inr (Or.inr rfl)) (by rfl) (by rfl)) (v_var (i := 2) (by rfl) (by first | exact Or.inl rfl | exact Or.inr (Or.inl rfl) | exact Or.inr (Or.inr rfl)) (by rfl) (by rfl))) (v_c pe_int fun _ _ => .int _)) (v_var (i := 4) (by rfl) (by first | exact Or.inl rfl | exact Or.inr (Or.inl rfl) | exact Or.inr (Or.inr rfl)) (by rfl) (by rfl))))) (by rfl)) (v_last (v_ret (v_tup (v_cons (v_callT call_tupOf is_tuple (by rfl) T.z_tuple (by decide +kernel) (v_cons (v_sl rfl (v_var (i := 0) (by rfl) (by first | exact Or.inl rfl | exact Or.inr (Or.inl rfl) | exact Or.inr (Or.inr rfl)) (by rfl) (by rfl)) v_noPart (v_part (v_var (i := 3) (by rfl) (by first | exact Or.inl rfl | exact Or.inr (Or.inl rfl) | exact Or.inr (Or.inr rfl)) (by rfl) (by rfl)))) v_nil (by rfl)) (by decide) (by decide) (by rfl) (by rfl)) (v_cons (v_callT call_tupOf is_tuple (by rfl) T.z_tuple (by decide +kernel) (v_cons (v_sl rfl (v_var (i := 0) (by rfl) (by first | exact Or.inl rfl | exact Or.inr (Or.inl rfl) | exact Or.inr (Or.inr rfl)) (by rfl) (by rfl)) (v_part (v_var (i := 3) (by rfl) (by first | exact Or.inl rfl | exact Or.inr (Or.inl rfl) | exact Or.inr (Or.inr rfl)) (by rfl) (by rfl))) (v_part (v_op op_plus is_plus (v_var (i := 3) (by rfl) (by first | exact Or.inl rfl | exact Or.inr (Or.inl rfl) | exact Or.inr (Or.inr rfl)) (by rfl) (by rfl)) (v_var (i := 4) (by rfl) (by first | exact Or.inl rfl | exact Or.inr (Or.inl rfl) | exact Or.inr (Or.inr rfl)) (by rfl) (by rfl))))) v_nil (by rfl)) (by decide) (by decide) (by rfl) (by rfl)) v_nil (by rfl)) (by rfl))))) v_end)) (by intro _; rfl))) (by intro _; rfl))
      (v_last (v_ret (v_c pe_non fun _ _ => .non)))))
theorem lam_0 (T : All G mg) : LamF P w G.K mg base G false 9 lt_0 (lamB lx_0) (lf_0 []) where
  body := rfl
  kind := rfl
  co := rfl
  gen := rfl
  own := by decide +kernel
  free := by decide +kernel
  bind := fun _ _ _ _ => rfl
  run := fun A outer s H E f c' cl C hG hr => by
    unfold lf_0
    exact (v_call (ok_put_ahead T) rfl (fun z => nomatch z) (hr.mono (by decide)) (L2N.takes_of rfl rfl rfl rfl) (by rfl) T.d_put_ahead.g T.d_put_ahead.kp T.d_put_ahead.b (by rfl) (v_cons (v_var (i := 1) (by rfl) (by first | exact Or.inl rfl | exact Or.inr (Or.inl rfl) | exact Or.inr (Or.inr rfl)) (by rfl) (by rfl)) (v_cons (v_var (i := 0) (by rfl) (by first | exact Or.inl rfl | exact Or.inr (Or.inl rfl) | exact Or.inr (Or.inr rfl)) (by rfl) (by rfl)) v_nil (by rfl)) (by rfl)) (by rfl) (by rfl) (by rfl) (ls_cons (ls_cons ls_nil)))
theorem lam_1 (T : All G mg) : LamF P w G.K mg base G false 9 lt_1 (lamB lx_1) (lf_1 []) where
  body := rfl
  kind := rfl
  co := rfl
  gen := rfl
  own := by decide +kernel
  free := by decide +kernel
  bind := fun _ _ _ _ => rfl
  run := fun A outer s H E f c' cl C hG hr => by
    unfold lf_1
    exact (v_call (ok_woven T) rfl (fun z => nomatch z) (hr.mono (by decide)) (L2N.takes_of rfl rfl rfl rfl) (by rfl) T.d_woven.g T.d_woven.kp T.d_woven.b (by rfl) (v_cons (v_var (i := 0) (by rfl) (by first | exact Or.inl rfl | exact Or.inr (Or.inl rfl) | exact Or.inr (Or.inr rfl)) (by rfl) (by rfl)) (v_cons (v_var (i := 1) (by rfl) (by first | exact Or.inl rfl | exact Or.inr (Or.inl rfl) | exact Or.inr (Or.inr rfl)) (by rfl) (by rfl)) v_nil (by rfl)) (by rfl)) (by rfl) (by rfl) (by rfl) (ls_cons (ls_cons ls_nil)))
theorem lams_ok (T : All G mg) : ∀ l L, G.lam l = some L → ∃ e fl, LamF P w G.K mg base G false 9 L e fl ∧ ∀ caps m, LAM l caps m = fl caps m := fun l L h => by
  rw [T.lamE] at h
  unfold lamTab at h
  by_cases e0 : l = 0
  · subst e0
    rw [if_pos rfl] at h
    cases h
    exact ⟨_, _, lam_0 T, fun _ _ => rfl⟩
  by_cases e1 : l = 1
  · subst e1
    rw [if_neg (by decide), if_pos rfl] at h
    cases h
    exact ⟨_, _, lam_1 T, fun _ _ => rfl⟩
  rw [if_neg e0, if_neg e1] at h
  cases h
theorem ok__law_is_told (T : All G mg) : FnV P w G.K mg base false 11 T.d__law_is_told.f T.d__law_is_told.fd ["_law_call", "_law_letters", "_law_begun", "_law_long"] (spV G F__law_is_told 4) :=
  FnV.frame <| FnV.close <| okVL (G := G) (x := "_law_is_told") (qual := "_law_is_told") (st := s__law_is_told) (N := N__law_is_told) (ps := ["_law_call", "_law_letters", "_law_begun", "_law_long"]) (gd := false) (k := 10) (ss := f__law_is_told) T.d__law_is_told.lk T.d__law_is_told.cd sc__law_is_told (fun C κ A outer s H E hG hr => by
    unfold f__law_is_told
    exact (v_seq (v_set (i := 4) sc__law_is_told.nd (by rfl) (by first | exact Or.inl rfl | exact Or.inr rfl) (v_call (ok__law_normal T) rfl (fun z => nomatch z) (hr.mono (by decide)) (L2N.takes_of rfl rfl rfl rfl) (by rfl) T.d__law_normal.g T.d__law_normal.kp T.d__law_normal.b (by rfl) (v_cons (v_var (i := 1) (by rfl) (by first | exact Or.inl rfl | exact Or.inr (Or.inl rfl) | exact Or.inr (Or.inr rfl)) (by rfl) (by rfl)) (v_cons (v_var (i := 2) (by rfl) (by first | exact Or.inl rfl | exact Or.inr (Or.inl rfl) | exact Or.inr (Or.inr rfl)) (by rfl) (by rfl)) (v_cons (v_var (i := 3) (by rfl) (by first | exact Or.inl rfl | exact Or.inr (Or.inl rfl) | exact Or.inr (Or.inr rfl)) (by rfl) (by rfl)) v_nil (by rfl)) (by rfl)) (by rfl)) (by rfl) (by rfl) (by rfl) (ls_cons (ls_cons (ls_cons ls_nil)))) (by rfl) (by first | exact Or.inl rfl | exact Or.inr rfl))
      (v_seq (v_set (i := 5) sc__law_is_told.nd (by rfl) (by first | exact Or.inl rfl | exact Or.inr rfl) (v_c pe_str fun _ _ => .str _) (by rfl) (by first | exact Or.inl rfl | exact Or.inr rfl))
      (v_seq (v_tryAs (mt := only 0) (i := 6) rfl rfl sc__law_is_told.nd (by rfl) (by rfl) ⟨by rfl, by rfl, .inl T.x_TooMany.g⟩ (L2N.takes_of rfl rfl rfl rfl) (only_exm T.m_TooMany) (fun W pn xe tk po => (v_last (v_set (i := 5) sc__law_is_told.nd (by rfl) (by first | exact Or.inl rfl | exact Or.inr rfl) (v_act (G := G) (LAM := LAM) (gd := false) (k := 9) (lams_ok T) rfl rfl tk (fun z => nomatch z) (hr.mono (by decide)) (v_var (i := 0) (by rfl) (by first | exact Or.inl rfl | exact Or.inr (Or.inl rfl) | exact Or.inr (Or.inr rfl)) (by rfl) (by rfl))) (by rfl) (by first | exact Or.inl rfl | exact Or.inr rfl)))) (fun a oe cls d pn x hm hcl hz hd => by
      have hxC := only_eq hm
      exact (v_last (v_ret (v_and (v_cmp op_gt (is_I0 (f := dB (fun i j => decide (j < i))) fun _ _ _ _ => .bl _) (v_callB (call_maxH (hot_suite hz hd)) is_max2 (by rfl) T.z_max (by decide +kernel) (v_cons (v_callB call_lenX is_len (by rfl) T.z_len (by decide +kernel) (v_cons (v_ix rfl (v_var (i := 4) (by rfl) (by first | exact Or.inl rfl | exact Or.inr (Or.inl rfl) | exact Or.inr (Or.inr rfl)) (by rfl) (by rfl)) (v_c pe_int fun _ _ => .int _) (fun _ _ => rfl)) v_nil (by rfl)) (by decide) (by decide) (by rfl) (by rfl)) (v_cons (v_callB call_lenX is_len (by rfl) T.z_len (by decide +kernel) (v_cons (v_ix rfl (v_var (i := 4) (by rfl) (by first | exact Or.inl rfl | exact Or.inr (Or.inl rfl) | exact Or.inr (Or.inr rfl)) (by rfl) (by rfl)) (v_c pe_int fun _ _ => .int _) (fun _ _ => rfl)) v_nil (by rfl)) (by decide) (by decide) (by rfl) (by rfl)) v_nil (by rfl)) (by rfl)) (by decide) (by decide) (by rfl) (by rfl)) (v_c pe_int fun _ _ => .int _) (by rfl)) (v_one (v_cmp (op_eqD hr.units) is_eq (v_tup (v_cons (v_xf (C' := G.cls 0) (j := 1) (by rw [hxC]) (by rw [hxC, T.x_TooMany.nm]; rfl) rfl T.x_TooMany.xf (T.x_TooMany.no _ (by decide)) hz hd (by rfl) (by first | exact Or.inl rfl | exact Or.inr (Or.inl rfl) | exact Or.inr (Or.inr rfl)) (by rfl) (by rfl) (by rfl)) (v_cons (v_xf (C' := G.cls 0) (j := 0) (by rw [hxC]) (by rw [hxC, T.x_TooMany.nm]; rfl) rfl T.x_TooMany.xf (T.x_TooMany.no _ (by decide)) hz hd (by rfl) (by first | exact Or.inl rfl | exact Or.inr (Or.inl rfl) | exact Or.inr (Or.inr rfl)) (by rfl) (by rfl) (by rfl)) v_nil (by rfl)) (by rfl))) (v_tup (v_cons (v_c pe_str fun _ _ => .str _) (v_cons (v_c pe_int fun _ _ => .int _) v_nil (by rfl)) (by rfl))) (by rfl))))))))
      (v_last (v_ret (v_and (v_cmp (op_eqD hr.units) is_eq (v_var (i := 5) (by rfl) (by first | exact Or.inl rfl | exact Or.inr (Or.inl rfl) | exact Or.inr (Or.inr rfl)) (by rfl) (by rfl)) (v_var (i := 4) (by rfl) (by first | exact Or.inl rfl | exact Or.inr (Or.inl rfl) | exact Or.inr (Or.inr rfl)) (by rfl) (by rfl)) (by rfl)) (v_one (v_cmp op_le (is_I0 (f := dB (fun i j => decide (i ≤ j))) fun _ _ _ _ => .bl _) (v_callB (call_max2' rfl) is_max2 (by rfl) T.z_max (by decide +kernel) (v_cons (v_callB call_lenX is_len (by rfl) T.z_len (by decide +kernel) (v_cons (v_ix rfl (v_var (i := 4) (by rfl) (by first | exact Or.inl rfl | exact Or.inr (Or.inl rfl) | exact Or.inr (Or.inr rfl)) (by rfl) (by rfl)) (v_c pe_int fun _ _ => .int _) (fun _ _ => rfl)) v_nil (by rfl)) (by decide) (by decide) (by rfl) (by rfl)) (v_cons (v_callB call_lenX is_len (by rfl) T.z_len (by decide +kernel) (v_cons (v_ix rfl (v_var (i := 4) (by rfl) (by first | exact Or.inl rfl | exact Or.inr (Or.inl rfl) | exact Or.inr (Or.inr rfl)) (by rfl) (by rfl)) (v_c pe_int fun _ _ => .int _) (fun _ _ => rfl)) v_nil (by rfl)) (by decide) (by decide) (by rfl) (by rfl)) v_nil (by rfl)) (by rfl)) (by decide) (by decide) (by rfl) (by rfl)) (v_c pe_int fun _ _ => .int _) (by rfl))))))))))
theorem mk__law_ahead_right (C : List (List Addr)) (κ : Kp) (A : Around) (outer : List PySem.Env) (s : Shared) (H : Hp) (E : XK) (f : Addr) (cdv : Value) : MakesC (cxOf (L2N.CX P w) P w G.K mg base N__law_ahead_right "_law_ahead_right" (defScope s__law_ahead_right) f cdv A outer s H E) (eC (gmC G (lvls κ C ((["_law_row_here", "_law_word_here"] : List Str).map fun y => ((envOfC "_law_ahead_right" (defScope s__law_ahead_right) s.heap.objs.size f cdv).cells.lookup y).getD 0))) E κ) ["_law_row_here", "_law_word_here"] [2, 3] :=
  ⟨⟨_, by simp, rfl⟩, (show ∀ y ∈ (["_law_row_here", "_law_word_here"] : List Str), (defScope s__law_ahead_right).names.lookup y = some .cell by decide +kernel), fun _ _ => rfl, makes_at (N := N__law_ahead_right) (by decide), rfl⟩
theorem ok__law_ahead_right (T : All G mg) (TB : TBs T base) : FnV P w G.K mg base false 12 T.d__law_ahead_right.f T.d__law_ahead_right.fd ["_law_pot_here", "_law_letters", "_law_row_here"] (spV G F__law_ahead_right 3) :=
  okVLc (G := G) (x := "_law_ahead_right") (qual := "_law_ahead_right") (st := s__law_ahead_right) (N := N__law_ahead_right) (ps := ["_law_pot_here", "_law_letters", "_law_row_here"]) (gd := false) (k := 11) (ss := f__law_ahead_right) ["_law_row_here", "_law_word_here"] T.d__law_ahead_right.lk T.d__law_ahead_right.cd sc__law_ahead_right (fun C κ A outer s H E hG hr => by
    have hM := mk__law_ahead_right (P := P) (w := w) (G := G) (mg := mg) (base := base) C κ A outer s H E T.d__law_ahead_right.f T.d__law_ahead_right.cdv
    unfold f__law_ahead_right
    exact (v_seq (v_set (i := 3) sc__law_ahead_right.nd (by rfl) (by first | exact Or.inl rfl | exact Or.inr rfl) (v_call (ok__law_word T) rfl (fun z => nomatch z) (hr.mono (by decide)) (L2N.takes_of rfl rfl rfl rfl) (by rfl) T.d__law_word.g T.d__law_word.kp T.d__law_word.b (by rfl) (v_cons (v_var (i := 0) (by rfl) (by first | exact Or.inl rfl | exact Or.inr (Or.inl rfl) | exact Or.inr (Or.inr rfl)) (by rfl) (by rfl)) (v_cons (v_var (i := 1) (by rfl) (by first | exact Or.inl rfl | exact Or.inr (Or.inl rfl) | exact Or.inr (Or.inr rfl)) (by rfl) (by rfl)) (v_cons (v_c pe_int fun _ _ => .int _) (v_cons (v_c pe_int fun _ _ => .int _) v_nil (by rfl)) (by rfl)) (by rfl)) (by rfl)) (by rfl) (by rfl) (by rfl) (ls_cons (ls_cons (ls_cons (ls_cons ls_nil))))) (by rfl) (by first | exact Or.inl rfl | exact Or.inr rfl))
      (v_seq (v_if (v_testC (op_eqD hr.units) is_eq (v_call (ok__law_draw T) rfl (fun z => nomatch z) (hr.mono (by decide)) (L2N.takes_of rfl rfl rfl rfl) (by rfl) T.d__law_draw.g T.d__law_draw.kp T.d__law_draw.b (by rfl) (v_cons (v_var (i := 0) (by rfl) (by first | exact Or.inl rfl | exact Or.inr (Or.inl rfl) | exact Or.inr (Or.inr rfl)) (by rfl) (by rfl)) (v_cons (v_c pe_int fun _ _ => .int _) v_nil (by rfl)) (by rfl)) (by rfl) (by rfl) (by rfl) (ls_cons (ls_cons ls_nil))) (v_c pe_int fun _ _ => .int _) (by rfl)) (v_last (v_set (i := 3) sc__law_ahead_right.nd (by rfl) (by first | exact Or.inl rfl | exact Or.inr rfl) (v_op op_plus is_plus (v_var (i := 3) (by rfl) (by first | exact Or.inl rfl | exact Or.inr (Or.inl rfl) | exact Or.inr (Or.inr rfl)) (by rfl) (by rfl)) (v_ix rfl (v_var (i := 2) (by rfl) (by first | exact Or.inl rfl | exact Or.inr (Or.inl rfl) | exact Or.inr (Or.inr rfl)) (by rfl) (by rfl)) (v_c pe_int fun _ _ => .int _) (fun _ _ => rfl))) (by rfl) (by first | exact Or.inl rfl | exact Or.inr rfl))) v_end)
      (v_seq (v_par (i := 4) (j := 5) rfl sc__law_ahead_right.nd (by rfl) (by rfl) (by decide) (by rfl) (by rfl) (v_cons (v_op op_plus is_plus (v_callB call_lenX is_len (by rfl) T.z_len (by decide +kernel) (v_cons (v_var (i := 3) (by rfl) (by first | exact Or.inl rfl | exact Or.inr (Or.inl rfl) | exact Or.inr (Or.inr rfl)) (by rfl) (by rfl)) v_nil (by rfl)) (by decide) (by decide) (by rfl) (by rfl)) (v_callB call_lenX is_len (by rfl) T.z_len (by decide +kernel) (v_cons (v_ix rfl (v_var (i := 2) (by rfl) (by first | exact Or.inl rfl | exact Or.inr (Or.inl rfl) | exact Or.inr (Or.inr rfl)) (by rfl) (by rfl)) (v_c pe_int fun _ _ => .int _) (fun _ _ => rfl)) v_nil (by rfl)) (by decide) (by decide) (by rfl) (by rfl))) (v_cons (v_callB call_lenX is_len (by rfl) T.z_len (by decide +kernel) (v_cons (v_ix rfl (v_var (i := 2) (by rfl) (by first | exact Or.inl rfl | exact Or.inr (Or.inl rfl) | exact Or.inr (Or.inr rfl)) (by rfl) (by rfl)) (v_c pe_int fun _ _ => .int _) (fun _ _ => rfl)) v_nil (by rfl)) (by decide) (by decide) (by rfl) (by rfl)) v_nil (by rfl)) (by rfl)) (by rfl) (by rfl))
      (v_seq (v_set (i := 6) sc__law_ahead_right.nd (by rfl) (by first | exact Or.inl rfl | exact Or.inr rfl) (v_op op_plus is_plus (v_callT call_listOf is_list (by rfl) T.z_list (by decide +kernel) (v_cons (v_var (i := 3) (by rfl) (by first | exact Or.inl rfl | exact Or.inr (Or.inl rfl) | exact Or.inr (Or.inr rfl)) (by rfl) (by rfl)) v_nil (by rfl)) (by decide) (by decide) (by rfl) (by rfl)) (v_call (ok__law_spelled T) rfl (fun z => nomatch z) (hr.mono (by decide)) (L2N.takes_of rfl rfl rfl rfl) (by rfl) T.d__law_spelled.g T.d__law_spelled.kp T.d__law_spelled.b (by rfl) (v_cons (v_var (i := 2) (by rfl) (by first | exact Or.inl rfl | exact Or.inr (Or.inl rfl) | exact Or.inr (Or.inr rfl)) (by rfl) (by rfl)) (v_cons (v_op op_plus is_plus (v_op op_plus is_plus (v_callB call_lenX is_len (by rfl) T.z_len (by decide +kernel) (v_cons (v_ix rfl (v_var (i := 2) (by rfl) (by first | exact Or.inl rfl | exact Or.inr (Or.inl rfl) | exact Or.inr (Or.inr rfl)) (by rfl) (by rfl)) (v_c pe_int fun _ _ => .int _) (fun _ _ => rfl)) v_nil (by rfl)) (by decide) (by decide) (by rfl) (by rfl)) (v_op op_times is_times (v_c pe_int fun _ _ => .int _) (v_var (i := 5) (by rfl) (by first | exact Or.inl rfl | exact Or.inr (Or.inl rfl) | exact Or.inr (Or.inr rfl)) (by rfl) (by rfl)))) (v_c pe_int fun _ _ => .int _)) v_nil (by rfl)) (by rfl)) (by rfl) (by rfl) (by rfl) (ls_cons (ls_cons ls_nil)))) (by rfl) (by first | exact Or.inl rfl | exact Or.inr rfl))
      (v_seq (v_if (v_notT (v_testV rfl (v_callK hM (ok__law_is_told T) rfl (fun z => nomatch z) (hr.mono (by decide)) (L2N.takes_of rfl rfl rfl rfl) (by rfl) T.d__law_is_told.g T.d__law_is_told.kp T.d__law_is_told.b (by rfl) (v_cons (v_lam (ys := ["_law_row_here", "_law_word_here"]) (l := 0) (js := [0, 1]) (L := lt_0) hM.own T.lamE_0 rfl rfl (lam_js (by decide)) TB.t__law_ahead_right T.w__law_ahead_right.e T.w__law_ahead_right.m T.w__law_ahead_right.u rfl (show LamS (defScope s__law_ahead_right) _ from ⟨rfl, rfl, rfl, by decide +kernel, by decide +kernel⟩) (by decide +kernel) (by decide +kernel)) (v_cons (v_var (i := 6) (by rfl) (by first | exact Or.inl rfl | exact Or.inr (Or.inl rfl) | exact Or.inr (Or.inr rfl)) (by rfl) (by rfl)) (v_cons (v_var (i := 4) (by rfl) (by first | exact Or.inl rfl | exact Or.inr (Or.inl rfl) | exact Or.inr (Or.inr rfl)) (by rfl) (by rfl)) (v_cons (v_var (i := 5) (by rfl) (by first | exact Or.inl rfl | exact Or.inr (Or.inl rfl) | exact Or.inr (Or.inr rfl)) (by rfl) (by rfl)) v_nil (by rfl)) (by rfl)) (by rfl)) (by rfl)) (by rfl) (by rfl) (by rfl) (ls_cons (ls_cons (ls_cons (ls_cons ls_nil)))) (by rfl)) (by intro _; rfl))) (v_last (v_ret (v_c pe_bl fun _ _ => .bl _))) v_end)
      (v_seq (v_set (i := 7) sc__law_ahead_right.nd (by rfl) (by first | exact Or.inl rfl | exact Or.inr rfl) (v_callN0 (is := [1, 0]) (ok_put_ahead T) rfl (fun z => nomatch z) (hr.mono (by decide)) (L2N.takes_of rfl rfl rfl rfl) (by rfl) T.d_put_ahead.g T.d_put_ahead.kp (kb_put_ahead_row_word T.d_put_ahead) (v_kcons (v_var (i := 2) (by rfl) (by first | exact Or.inl rfl | exact Or.inr (Or.inl rfl) | exact Or.inr (Or.inr rfl)) (by rfl) (by rfl)) (v_kcons (v_callT call_listOf is_list (by rfl) T.z_list (by decide +kernel) (v_cons (v_var (i := 3) (by rfl) (by first | exact Or.inl rfl | exact Or.inr (Or.inl rfl) | exact Or.inr (Or.inr rfl)) (by rfl) (by rfl)) v_nil (by rfl)) (by decide) (by decide) (by rfl) (by rfl)) v_knil)) (by rfl) (by rfl) (by decide) (ls_cons (ls_cons ls_nil)) (by rfl) (by rfl) (by rfl) (by rfl)) (by rfl) (by first | exact Or.inl rfl | exact Or.inr rfl))
      (v_seq (v_if (v_testC (op_neD hr.units) is_ne (v_call (ok_spelled T) rfl (fun z => nomatch z) (hr.mono (by decide)) (L2N.takes_of rfl rfl rfl rfl) (by rfl) T.d_spelled.g T.d_spelled.kp T.d_spelled.b (by rfl) (v_cons (v_var (i := 7) (by rfl) (by first | exact Or.inl rfl | exact Or.inr (Or.inl rfl) | exact Or.inr (Or.inr rfl)) (by rfl) (by rfl)) (v_cons (v_c pe_int fun _ _ => .int _) v_nil (by rfl)) (by rfl)) (by rfl) (by rfl) (by rfl) (ls_cons (ls_cons ls_nil))) (v_sl rfl (v_op op_plus is_plus (v_callT call_listOf is_list (by rfl) T.z_list (by decide +kernel) (v_cons (v_var (i := 3) (by rfl) (by first | exact Or.inl rfl | exact Or.inr (Or.inl rfl) | exact Or.inr (Or.inr rfl)) (by rfl) (by rfl)) v_nil (by rfl)) (by decide) (by decide) (by rfl) (by rfl)) (v_call (ok__law_spelled T) rfl (fun z => nomatch z) (hr.mono (by decide)) (L2N.takes_of rfl rfl rfl rfl) (by rfl) T.d__law_spelled.g T.d__law_spelled.kp T.d__law_spelled.b (by rfl) (v_cons (v_var (i := 2) (by rfl) (by first | exact Or.inl rfl | exact Or.inr (Or.inl rfl) | exact Or.inr (Or.inr rfl)) (by rfl) (by rfl)) (v_cons (v_c pe_int fun _ _ => .int _) v_nil (by rfl)) (by rfl)) (by rfl) (by rfl) (by rfl) (ls_cons (ls_cons ls_nil)))) v_noPart (v_part (v_c pe_int fun _ _ => .int _))) (by rfl)) (v_last (v_ret (v_c pe_bl fun _ _ => .bl _))) v_end)
      (v_last (v_ret (v_cmp (op_eqD hr.units) is_eq (v_call (ok_turned_on T) rfl (fun z => nomatch z) (hr.mono (by decide)) (L2N.takes_of rfl rfl rfl rfl) (by rfl) T.d_turned_on.g T.d_turned_on.kp T.d_turned_on.b (by rfl) (v_cons (v_var (i := 7) (by rfl) (by first | exact Or.inl rfl | exact Or.inr (Or.inl rfl) | exact Or.inr (Or.inr rfl)) (by rfl) (by rfl)) (v_cons (v_callB call_lenX is_len (by rfl) T.z_len (by decide +kernel) (v_cons (v_var (i := 3) (by rfl) (by first | exact Or.inl rfl | exact Or.inr (Or.inl rfl) | exact Or.inr (Or.inr rfl)) (by rfl) (by rfl)) v_nil (by rfl)) (by decide) (by decide) (by rfl) (by rfl)) v_nil (by rfl)) (by rfl)) (by rfl) (by rfl) (by rfl) (ls_cons (ls_cons ls_nil))) (v_call (ok_normal_row T) rfl (fun z => nomatch z) (hr.mono (by decide)) (L2N.takes_of rfl rfl rfl rfl) (by rfl) T.d_normal_row.g T.d_normal_row.kp T.d_normal_row.b (by rfl) (v_cons (v_var (i := 2) (by rfl) (by first | exact Or.inl rfl | exact Or.inr (Or.inl rfl) | exact Or.inr (Or.inr rfl)) (by rfl) (by rfl)) v_nil (by rfl)) (by rfl) (by rfl) (by rfl) (ls_cons ls_nil)) (by rfl))))))))))))
theorem mk__law_woven_right (C : List (List Addr)) (κ : Kp) (A : Around) (outer : List PySem.Env) (s : Shared) (H : Hp) (E : XK) (f : Addr) (cdv : Value) : MakesC (cxOf (L2N.CX P w) P w G.K mg base N__law_woven_right "_law_woven_right" (defScope s__law_woven_right) f cdv A outer s H E) (eC (gmC G (lvls κ C ((["_law_row_here", "_law_other"] : List Str).map fun y => ((envOfC "_law_woven_right" (defScope s__law_woven_right) s.heap.objs.size f cdv).cells.lookup y).getD 0))) E κ) ["_law_row_here", "_law_other"] [0, 1] :=
  ⟨⟨_, by simp, rfl⟩, (show ∀ y ∈ (["_law_row_here", "_law_other"] : List Str), (defScope s__law_woven_right).names.lookup y = some .cell by decide +kernel), fun _ _ => rfl, makes_at (N := N__law_woven_right) (by decide), rfl⟩
theorem ok__law_woven_right (T : All G mg) (TB : TBs T base) : FnV P w G.K mg base false 12 T.d__law_woven_right.f T.d__law_woven_right.fd ["_law_row_here", "_law_other"] (spV G F__law_woven_right 2) :=
  FnV.frame <| okVLc (G := G) (x := "_law_woven_right") (qual := "_law_woven_right") (st := s__law_woven_right) (N := N__law_woven_right) (ps := ["_law_row_here", "_law_other"]) (gd := false) (k := 11) (ss := f__law_woven_right) ["_law_row_here", "_law_other"] T.d__law_woven_right.lk T.d__law_woven_right.cd sc__law_woven_right (fun C κ A outer s H E hG hr => by
    have hM := mk__law_woven_right (P := P) (w := w) (G := G) (mg := mg) (base := base) C κ A outer s H E T.d__law_woven_right.f T.d__law_woven_right.cdv
    unfold f__law_woven_right
    exact (v_seq (v_par (i := 2) (j := 3) rfl sc__law_woven_right.nd (by rfl) (by rfl) (by decide) (by rfl) (by rfl) (v_cons (v_callB (call_max2' rfl) is_max2 (by rfl) T.z_max (by decide +kernel) (v_cons (v_callB call_lenX is_len (by rfl) T.z_len (by decide +kernel) (v_cons (v_ix rfl (v_var (i := 0) (by rfl) (by first | exact Or.inl rfl | exact Or.inr (Or.inl rfl) | exact Or.inr (Or.inr rfl)) (by rfl) (by rfl)) (v_c pe_int fun _ _ => .int _) (fun _ _ => rfl)) v_nil (by rfl)) (by decide) (by decide) (by rfl) (by rfl)) (v_cons (v_callB call_lenX is_len (by rfl) T.z_len (by decide +kernel) (v_cons (v_ix rfl (v_var (i := 1) (by rfl) (by first | exact Or.inl rfl | exact Or.inr (Or.inl rfl) | exact Or.inr (Or.inr rfl)) (by rfl) (by rfl)) (v_c pe_int fun _ _ => .int _) (fun _ _ => rfl)) v_nil (by rfl)) (by decide) (by decide) (by rfl) (by rfl)) v_nil (by rfl)) (by rfl)) (by decide) (by decide) (by rfl) (by rfl)) (v_cons (v_op op_times is_times (v_callB call_lenX is_len (by rfl) T.z_len (by decide +kernel) (v_cons (v_ix rfl (v_var (i := 0) (by rfl) (by first | exact Or.inl rfl | exact Or.inr (Or.inl rfl) | exact Or.inr (Or.inr rfl)) (by rfl) (by rfl)) (v_c pe_int fun _ _ => .int _) (fun _ _ => rfl)) v_nil (by rfl)) (by decide) (by decide) (by rfl) (by rfl)) (v_callB call_lenX is_len (by rfl) T.z_len (by decide +kernel) (v_cons (v_ix rfl (v_var (i := 1) (by rfl) (by first | exact Or.inl rfl | exact Or.inr (Or.inl rfl) | exact Or.inr (Or.inr rfl)) (by rfl) (by rfl)) (v_c pe_int fun _ _ => .int _) (fun _ _ => rfl)) v_nil (by rfl)) (by decide) (by decide) (by rfl) (by rfl))) v_nil (by rfl)) (by rfl)) (by rfl) (by rfl))
      (v_seq (v_set (i := 4) sc__law_woven_right.nd (by rfl) (by first | exact Or.inl rfl | exact Or.inr rfl) (v_lstC v_nil) (by rfl) (by first | exact Or.inl rfl | exact Or.inr rfl))
      (v_seq (v_for PassesOwn.leaving rfl (v_wkRng1 (by rfl) T.z_range (v_cons (v_op op_plus is_plus (v_op op_plus is_plus (v_var (i := 2) (by rfl) (by first | exact Or.inl rfl | exact Or.inr (Or.inl rfl) | exact Or.inr (Or.inr rfl)) (by rfl) (by rfl)) (v_op op_times is_times (v_c pe_int fun _ _ => .int _) (v_var (i := 3) (by rfl) (by first | exact Or.inl rfl | exact Or.inr (Or.inl rfl) | exact Or.inr (Or.inr rfl)) (by rfl) (by rfl)))) (v_c pe_int fun _ _ => .int _)) v_nil (by rfl)) (by rfl)) (v_tgName (i := 5) sc__law_woven_right.nd (by rfl) (by first | exact Or.inl rfl | exact Or.inr rfl) (by first | exact Or.inl rfl | exact Or.inr rfl)) (v_last (v_drop (PE.weak (pe_bm PySem.F.plainAttrs_list PySem.F.slot_list_extend PySem.F.type_list_extend mt_extL (v_var (i := 4) (by rfl) (by first | exact Or.inl rfl | exact Or.inr (Or.inl rfl) | exact Or.inr (Or.inr rfl)) (by rfl) (by rfl)) (v_cons (v_lst (v_cons (v_call (ok__law_at T) rfl (fun z => nomatch z) (hr.mono (by decide)) (L2N.takes_of rfl rfl rfl rfl) (by rfl) T.d__law_at.g T.d__law_at.kp T.d__law_at.b (by rfl) (v_cons (v_var (i := 0) (by rfl) (by first | exact Or.inl rfl | exact Or.inr (Or.inl rfl) | exact Or.inr (Or.inr rfl)) (by rfl) (by rfl)) (v_cons (v_var (i := 5) (by rfl) (by first | exact Or.inl rfl | exact Or.inr (Or.inl rfl) | exact Or.inr (Or.inr rfl)) (by rfl) (by rfl)) v_nil (by rfl)) (by rfl)) (by rfl) (by rfl) (by rfl) (ls_cons (ls_cons ls_nil))) (v_cons (v_call (ok__law_at T) rfl (fun z => nomatch z) (hr.mono (by decide)) (L2N.takes_of rfl rfl rfl rfl) (by rfl) T.d__law_at.g T.d__law_at.kp T.d__law_at.b (by rfl) (v_cons (v_var (i := 1) (by rfl) (by first | exact Or.inl rfl | exact Or.inr (Or.inl rfl) | exact Or.inr (Or.inr rfl)) (by rfl) (by rfl)) (v_cons (v_var (i := 5) (by rfl) (by first | exact Or.inl rfl | exact Or.inr (Or.inl rfl) | exact Or.inr (Or.inr rfl)) (by rfl) (by rfl)) v_nil (by rfl)) (by rfl)) (by rfl) (by rfl) (by rfl) (ls_cons (ls_cons ls_nil))) v_nil (by rfl)) (by rfl))) v_nil (by rfl))) fun _ _ _ q => ext_run q) (by rfl))) (by intro _; rfl))
      (v_seq (v_par (i := 6) (j := 7) rfl sc__law_woven_right.nd (by rfl) (by rfl) (by decide) (by rfl) (by rfl) (v_cons (v_op op_times is_times (v_c pe_int fun _ _ => .int _) (v_var (i := 2) (by rfl) (by first | exact Or.inl rfl | exact Or.inr (Or.inl rfl) | exact Or.inr (Or.inr rfl)) (by rfl) (by rfl))) (v_cons (v_op op_times is_times (v_c pe_int fun _ _ => .int _) (v_var (i := 3) (by rfl) (by first | exact Or.inl rfl | exact Or.inr (Or.inl rfl) | exact Or.inr (Or.inr rfl)) (by rfl) (by rfl))) v_nil (by rfl)) (by rfl)) (by rfl) (by rfl))
      (v_seq (v_if (v_notT (v_testV rfl (v_callK hM (ok__law_is_told T) rfl (fun z => nomatch z) (hr.mono (by decide)) (L2N.takes_of rfl rfl rfl rfl) (by rfl) T.d__law_is_told.g T.d__law_is_told.kp T.d__law_is_told.b (by rfl) (v_cons (v_lam (ys := ["_law_row_here", "_law_other"]) (l := 1) (js := [0, 1]) (L := lt_1) hM.own T.lamE_1 rfl rfl (lam_js (by decide)) TB.t__law_woven_right T.w__law_woven_right.e T.w__law_woven_right.m T.w__law_woven_right.u rfl (show LamS (defScope s__law_woven_right) _ from ⟨rfl, rfl, rfl, by decide +kernel, by decide +kernel⟩) (by decide +kernel) (by decide +kernel)) (v_cons (v_var (i := 4) (by rfl) (by first | exact Or.inl rfl | exact Or.inr (Or.inl rfl) | exact Or.inr (Or.inr rfl)) (by rfl) (by rfl)) (v_cons (v_var (i := 6) (by rfl) (by first | exact Or.inl rfl | exact Or.inr (Or.inl rfl) | exact Or.inr (Or.inr rfl)) (by rfl) (by rfl)) (v_cons (v_var (i := 7) (by rfl) (by first | exact Or.inl rfl | exact Or.inr (Or.inl rfl) | exact Or.inr (Or.inr rfl)) (by rfl) (by rfl)) v_nil (by rfl)) (by rfl)) (by rfl)) (by rfl)) (by rfl) (by rfl) (by rfl) (ls_cons (ls_cons (ls_cons (ls_cons ls_nil)))) (by rfl)) (by intro _; rfl))) (v_last (v_ret (v_c pe_bl fun _ _ => .bl _))) v_end)
      (v_seq (v_set (i := 8) sc__law_woven_right.nd (by rfl) (by first | exact Or.inl rfl | exact Or.inr rfl) (v_call (ok__law_normal T) rfl (fun z => nomatch z) (hr.mono (by decide)) (L2N.takes_of rfl rfl rfl rfl) (by rfl) T.d__law_normal.g T.d__law_normal.kp T.d__law_normal.b (by rfl) (v_cons (v_var (i := 4) (by rfl) (by first | exact Or.inl rfl | exact Or.inr (Or.inl rfl) | exact Or.inr (Or.inr rfl)) (by rfl) (by rfl)) (v_cons (v_var (i := 6) (by rfl) (by first | exact Or.inl rfl | exact Or.inr (Or.inl rfl) | exact Or.inr (Or.inr rfl)) (by rfl) (by rfl)) (v_cons (v_var (i := 7) (by rfl) (by first | exact Or.inl rfl | exact Or.inr (Or.inl rfl) | exact Or.inr (Or.inr rfl)) (by rfl) (by rfl)) v_nil (by rfl)) (by rfl)) (by rfl)) (by rfl) (by rfl) (by rfl) (ls_cons (ls_cons (ls_cons ls_nil)))) (by rfl) (by first | exact Or.inl rfl | exact Or.inr rfl))
      (v_seq (v_if (v_testC op_gt (is_I0 (f := dB (fun i j => decide (j < i))) fun _ _ _ _ => .bl _) (v_callB (call_max2' rfl) is_max2 (by rfl) T.z_max (by decide +kernel) (v_cons (v_callB call_lenX is_len (by rfl) T.z_len (by decide +kernel) (v_cons (v_ix rfl (v_var (i := 8) (by rfl) (by first | exact Or.inl rfl | exact Or.inr (Or.inl rfl) | exact Or.inr (Or.inr rfl)) (by rfl) (by rfl)) (v_c pe_int fun _ _ => .int _) (fun _ _ => rfl)) v_nil (by rfl)) (by decide) (by decide) (by rfl) (by rfl)) (v_cons (v_callB call_lenX is_len (by rfl) T.z_len (by decide +kernel) (v_cons (v_ix rfl (v_var (i := 8) (by rfl) (by first | exact Or.inl rfl | exact Or.inr (Or.inl rfl) | exact Or.inr (Or.inr rfl)) (by rfl) (by rfl)) (v_c pe_int fun _ _ => .int _) (fun _ _ => rfl)) v_nil (by rfl)) (by decide) (by decide) (by rfl) (by rfl)) v_nil (by rfl)) (by rfl)) (by decide) (by decide) (by rfl) (by rfl)) (v_c pe_int fun _ _ => .int _) (by rfl)) (v_last (v_ret (v_c pe_bl fun _ _ => .bl _))) v_end)
      (v_seq (v_set (i := 9) sc__law_woven_right.nd (by rfl) (by first | exact Or.inl rfl | exact Or.inr rfl) (v_call (ok_spelled T) rfl (fun z => nomatch z) (hr.mono (by decide)) (L2N.takes_of rfl rfl rfl rfl) (by rfl) T.d_spelled.g T.d_spelled.kp T.d_spelled.b (by rfl) (v_cons (v_callN0 (is := [1, 0]) (ok_woven T) rfl (fun z => nomatch z) (hr.mono (by decide)) (L2N.takes_of rfl rfl rfl rfl) (by rfl) T.d_woven.g T.d_woven.kp (kb_woven_other_row T.d_woven) (v_kcons (v_var (i := 1) (by rfl) (by first | exact Or.inl rfl | exact Or.inr (Or.inl rfl) | exact Or.inr (Or.inr rfl)) (by rfl) (by rfl)) (v_kcons (v_var (i := 0) (by rfl) (by first | exact Or.inl rfl | exact Or.inr (Or.inl rfl) | exact Or.inr (Or.inr rfl)) (by rfl) (by rfl)) v_knil)) (by rfl) (by rfl) (by decide) (ls_cons (ls_cons ls_nil)) (by rfl) (by rfl) (by rfl) (by rfl)) (v_cons (v_c pe_int fun _ _ => .int _) v_nil (by rfl)) (by rfl)) (by rfl) (by rfl) (by rfl) (ls_cons (ls_cons ls_nil))) (by rfl) (by first | exact Or.inl rfl | exact Or.inr rfl))
      (v_last (v_ret (v_and (v_cmp (op_eqD hr.units) is_eq (v_slS rfl (v_var (i := 9) (by rfl) (by first | exact Or.inl rfl | exact Or.inr (Or.inl rfl) | exact Or.inr (Or.inr rfl)) (by rfl) (by rfl)) v_noPart v_noPart (v_part (v_c pe_int fun _ _ => .int _))) (v_call (ok__law_spelled T) rfl (fun z => nomatch z) (hr.mono (by decide)) (L2N.takes_of rfl rfl rfl rfl) (by rfl) T.d__law_spelled.g T.d__law_spelled.kp T.d__law_spelled.b (by rfl) (v_cons (v_var (i := 0) (by rfl) (by first | exact Or.inl rfl | exact Or.inr (Or.inl rfl) | exact Or.inr (Or.inr rfl)) (by rfl) (by rfl)) (v_cons (v_c pe_int fun _ _ => .int _) v_nil (by rfl)) (by rfl)) (by rfl) (by rfl) (by rfl) (ls_cons (ls_cons ls_nil))) (by rfl)) (v_one (v_cmp (op_eqD hr.units) is_eq (v_slS rfl (v_var (i := 9) (by rfl) (by first | exact Or.inl rfl | exact Or.inr (Or.inl rfl) | exact Or.inr (Or.inr rfl)) (by rfl) (by rfl)) (v_part (v_c pe_int fun _ _ => .int _)) v_noPart (v_part (v_c pe_int fun _ _ => .int _))) (v_call (ok__law_spelled T) rfl (fun z => nomatch z) (hr.mono (by decide)) (L2N.takes_of rfl rfl rfl rfl) (by rfl) T.d__law_spelled.g T.d__law_spelled.kp T.d__law_spelled.b (by rfl) (v_cons (v_var (i := 1) (by rfl) (by first | exact Or.inl rfl | exact Or.inr (Or.inl rfl) | exact Or.inr (Or.inr rfl)) (by rfl) (by rfl)) (v_cons (v_c pe_int fun _ _ => .int _) v_nil (by rfl)) (by rfl)) (by rfl) (by rfl) (by rfl) (ls_cons (ls_cons ls_nil))) (by rfl)))))))))))))))
theorem ok_law (T : All G mg) (TB : TBs T base) : FnV P w G.K mg base false 13 T.d_law.f T.d_law.fd ["_law_script"] (spV G F_law 1) :=
  okVL (G := G) (x := "law") (qual := "law") (st := s_law) (N := N_law) (ps := ["_law_script"]) (gd := false) (k := 12) (ss := f_law) T.d_law.lk T.d_law.cd sc_law (fun C κ A outer s H E hG hr => by
    unfold f_law
    exact (v_seq (v_set (i := 1) sc_law.nd (by rfl) (by first | exact Or.inl rfl | exact Or.inr rfl) (v_call (ok__law_pot T) rfl (fun z => nomatch z) (hr.mono (by decide)) (L2N.takes_of rfl rfl rfl rfl) (by rfl) T.d__law_pot.g T.d__law_pot.kp T.d__law_pot.b (by rfl) (v_cons (v_var (i := 0) (by rfl) (by first | exact Or.inl rfl | exact Or.inr (Or.inl rfl) | exact Or.inr (Or.inr rfl)) (by rfl) (by rfl)) (v_cons (v_c pe_int fun _ _ => .int _) v_nil (by rfl)) (by rfl)) (by rfl) (by rfl) (by rfl) (ls_cons (ls_cons ls_nil))) (by rfl) (by first | exact Or.inl rfl | exact Or.inr rfl))
      (v_seq (v_set (i := 2) sc_law.nd (by rfl) (by first | exact Or.inl rfl | exact Or.inr rfl) (v_op op_plus is_plus (v_c pe_int fun _ _ => .int _) (v_call (ok__law_draw T) rfl (fun z => nomatch z) (hr.mono (by decide)) (L2N.takes_of rfl rfl rfl rfl) (by rfl) T.d__law_draw.g T.d__law_draw.kp T.d__law_draw.b (by rfl) (v_cons (v_var (i := 1) (by rfl) (by first | exact Or.inl rfl | exact Or.inr (Or.inl rfl) | exact Or.inr (Or.inr rfl)) (by rfl) (by rfl)) (v_cons (v_c pe_int fun _ _ => .int _) v_nil (by rfl)) (by rfl)) (by rfl) (by rfl) (by rfl) (ls_cons (ls_cons ls_nil)))) (by rfl) (by first | exact Or.inl rfl | exact Or.inr rfl))
      (v_seq (v_par (i := 3) (j := 4) rfl sc_law.nd (by rfl) (by rfl) (by decide) (by rfl) (by rfl) (v_cons (v_call (ok__law_row T) rfl (fun z => nomatch z) (hr.mono (by decide)) (L2N.takes_of rfl rfl rfl rfl) (by rfl) T.d__law_row.g T.d__law_row.kp T.d__law_row.b (by rfl) (v_cons (v_var (i := 1) (by rfl) (by first | exact Or.inl rfl | exact Or.inr (Or.inl rfl) | exact Or.inr (Or.inr rfl)) (by rfl) (by rfl)) (v_cons (v_var (i := 2) (by rfl) (by first | exact Or.inl rfl | exact Or.inr (Or.inl rfl) | exact Or.inr (Or.inr rfl)) (by rfl) (by rfl)) (v_cons (v_c pe_int fun _ _ => .int _) v_nil (by rfl)) (by rfl)) (by rfl)) (by rfl) (by rfl) (by rfl) (ls_cons (ls_cons (ls_cons ls_nil)))) (v_cons (v_call (ok__law_row T) rfl (fun z => nomatch z) (hr.mono (by decide)) (L2N.takes_of rfl rfl rfl rfl) (by rfl) T.d__law_row.g T.d__law_row.kp T.d__law_row.b (by rfl) (v_cons (v_var (i := 1) (by rfl) (by first | exact Or.inl rfl | exact Or.inr (Or.inl rfl) | exact Or.inr (Or.inr rfl)) (by rfl) (by rfl)) (v_cons (v_var (i := 2) (by rfl) (by first | exact Or.inl rfl | exact Or.inr (Or.inl rfl) | exact Or.inr (Or.inr rfl)) (by rfl) (by rfl)) (v_cons (v_c pe_int fun _ _ => .int _) v_nil (by rfl)) (by rfl)) (by rfl)) (by rfl) (by rfl) (by rfl) (ls_cons (ls_cons (ls_cons ls_nil)))) v_nil (by rfl)) (by rfl)) (by rfl) (by rfl))
      (v_seq (v_if (v_notT (v_testV rfl (v_call (ok__law_woven_right T TB) rfl (fun z => nomatch z) (hr.mono (by decide)) (L2N.takes_of rfl rfl rfl rfl) (by rfl) T.d__law_woven_right.g T.d__law_woven_right.kp T.d__law_woven_right.b (by rfl) (v_cons (v_tup (v_cons (v_tup v_nil) (v_cons (v_op op_plus is_plus (v_op op_times is_times (v_tup (v_cons (v_c pe_int fun _ _ => .int _) v_nil (by rfl))) (v_c pe_int fun _ _ => .int _)) (v_tup (v_cons (v_c pe_int fun _ _ => .int _) v_nil (by rfl)))) v_nil (by rfl)) (by rfl))) (v_cons (v_tup (v_cons (v_tup v_nil) (v_cons (v_tup (v_cons (v_c pe_int fun _ _ => .int _) (v_cons (v_c pe_int fun _ _ => .int _) (v_cons (v_c pe_int fun _ _ => .int _) v_nil (by rfl)) (by rfl)) (by rfl))) v_nil (by rfl)) (by rfl))) v_nil (by rfl)) (by rfl)) (by rfl) (by rfl) (by rfl) (ls_cons (ls_cons ls_nil))) (by intro _; rfl))) (v_last (v_ret (v_c pe_bl fun _ _ => .bl _))) v_end)
      (v_last (v_ret (v_and (v_call (ok__law_ahead_right T TB) rfl (fun z => nomatch z) (hr.mono (by decide)) (L2N.takes_of rfl rfl rfl rfl) (by rfl) T.d__law_ahead_right.g T.d__law_ahead_right.kp T.d__law_ahead_right.b (by rfl) (v_cons (v_var (i := 1) (by rfl) (by first | exact Or.inl rfl | exact Or.inr (Or.inl rfl) | exact Or.inr (Or.inr rfl)) (by rfl) (by rfl)) (v_cons (v_var (i := 2) (by rfl) (by first | exact Or.inl rfl | exact Or.inr (Or.inl rfl) | exact Or.inr (Or.inr rfl)) (by rfl) (by rfl)) (v_cons (v_var (i := 3) (by rfl) (by first | exact Or.inl rfl | exact Or.inr (Or.inl rfl) | exact Or.inr (Or.inr rfl)) (by rfl) (by rfl)) v_nil (by rfl)) (by rfl)) (by rfl)) (by rfl) (by rfl) (by rfl) (ls_cons (ls_cons (ls_cons ls_nil)))) (v_and (v_call (ok__law_woven_right T TB) rfl (fun z => nomatch z) (hr.mono (by decide)) (L2N.takes_of rfl rfl rfl rfl) (by rfl) T.d__law_woven_right.g T.d__law_woven_right.kp T.d__law_woven_right.b (by rfl) (v_cons (v_var (i := 3) (by rfl) (by first | exact Or.inl rfl | exact Or.inr (Or.inl rfl) | exact Or.inr (Or.inr rfl)) (by rfl) (by rfl)) (v_cons (v_var (i := 4) (by rfl) (by first | exact Or.inl rfl | exact Or.inr (Or.inl rfl) | exact Or.inr (Or.inr rfl)) (by rfl) (by rfl)) v_nil (by rfl)) (by rfl)) (by rfl) (by rfl) (by rfl) (ls_cons (ls_cons ls_nil))) (v_one (v_call (ok__law_woven_right T TB) rfl (fun z => nomatch z) (hr.mono (by decide)) (L2N.takes_of rfl rfl rfl rfl) (by rfl) T.d__law_woven_right.g T.d__law_woven_right.kp T.d__law_woven_right.b (by rfl) (v_cons (v_var (i := 4) (by rfl) (by first | exact Or.inl rfl | exact Or.inr (Or.inl rfl) | exact Or.inr (Or.inr rfl)) (by rfl) (by rfl)) (v_cons (v_var (i := 3) (by rfl) (by first | exact Or.inl rfl | exact Or.inr (Or.inl rfl) | exact Or.inr (Or.inr rfl)) (by rfl) (by rfl)) v_nil (by rfl)) (by rfl)) (by rfl) (by rfl) (by rfl) (ls_cons (ls_cons ls_nil)))))))))))))
end
end VK12
namespace VK12
open PySem DL VM
section
variable {κ : Kp} {m : Mu}
theorem is_integer_ok (v : Int) : F_is_integer κ [.int v] m = .ok (.bl true) m := fr_run (m' := []) rfl (by kernel_rfl) rfl rfl
theorem call1 {φ : Fv} {f : Sm Dat} {ρ : Ro} {m m1 : Mu} {d : Dat} {r : R Dat} (h : f ρ m = .ok d m1) (h2 : φ κ [d] m1 = r) : sCall φ κ (sCons f sNil) ρ m = r := by
  unfold sCall sCons sNil
  rw [h]
  exact h2
theorem call2 {φ : Fv} {f g : Sm Dat} {ρ : Ro} {m m1 m2 : Mu} {d e : Dat} {r : R Dat} (h : f ρ m = .ok d m1) (h1 : g ρ m1 = .ok e m2) (h2 : φ κ [d, e] m2 = r) : sCall φ κ (sCons f (sCons g sNil)) ρ m = r := by
  unfold sCall sCons sNil
  rw [h]
  simp only [R.bind]
  rw [h1]
  exact h2
theorem is_count_ok (v : Int) (h : 0 ≤ v) : F_is_count κ [.int v] m = .ok (.bl true) m := by
  refine fr_run (m' := []) rfl ?_ rfl rfl
  simp [f_is_count, sRet, sAnd, sCall, sCons, sNil, is_integer_ok, sOp, sVar, sLit, fI, dB, startR, endO, R.bind, R.out, R.of2, asB, h]
theorem is_below_ok (v b : Int) (h : 0 ≤ v) (hb : v < b) : F_is_below κ [.int v, .int b] m = .ok (.bl true) m := by
  refine fr_run (m' := []) rfl ?_ rfl rfl
  simp [f_is_below, sRet, sAnd, sCall, sCons, sNil, is_count_ok v h, sOp, sVar, sLit, fI, dB, startR, endO, R.bind, R.out, R.of2, asB, hb]
theorem is_list_tz (xs : List Int) : F_is_list κ [tz xs] m = .ok (.bl true) m := fr_run (m' := []) (by rw [noCells, noC_tz]; rfl) (by kernel_rfl) rfl rfl
theorem is_list_lst (xs : List Int) : F_is_list κ [.lst (xs.map Dat.int)] m = .ok (.bl true) m := fr_run (m' := []) (by rw [noCells, noCell, noC_ints]; rfl) (by kernel_rfl) rfl rfl
theorem is_pair_rz (B A : List Int) : F_is_pair κ [rz B A] m = .ok (.bl true) m := fr_run (m' := []) (by rw [noCells, noC_rz]; rfl) (by kernel_rfl) rfl rfl
/-- a tuple or a list of ints, frozen -/
structure Ints (d : Dat) (xs : List Int) : Prop where
  sq : ∀ m, sq m d = some (xs.map Dat.int)
  len : ∀ m, fLen [d] m = some (.int (xs.length : Int), m)
  no : noCell d = true
  lst : ∀ κ m, F_is_list κ [d] m = .ok (.bl true) m
  wk : ∀ (ρ : Ro) (m : Mu) (f : Sm Dat), f ρ m = .ok d m → wkSeq f ρ m = .ok (.sq d) m
theorem ints_tz (xs : List Int) : Ints (tz xs) xs := ⟨fun _ => rfl, fun m => len_tz m xs, noC_tz xs, fun _ _ => is_list_tz xs, fun ρ m f h => by unfold wkSeq; rw [h]; rfl⟩
theorem ints_lst (xs : List Int) : Ints (.lst (xs.map Dat.int)) xs := ⟨fun _ => rfl, fun m => len_lst rfl, by rw [noCell]; exact noC_ints xs, fun _ _ => is_list_lst xs, fun ρ m f h => by unfold wkSeq; rw [h]; rfl⟩
theorem sq_wk {d : Dat} {xs : List Int} (h : Ints d xs) {i : Nat} (m : Mu) (hi : i < xs.length) : wkAt (.sq d) i m = some (some (.int (xs.getD i 0))) := by
  unfold wkAt
  simp only
  rw [h.sq m]
  simp only [Option.map_some, List.getElem?_map, List.getElem?_eq_getElem hi, List.getD_eq_getElem?_getD, Option.getD_some]
theorem sq_wkE {d : Dat} {xs : List Int} (h : Ints d xs) (m : Mu) : wkAt (.sq d) xs.length m = some none := by
  unfold wkAt
  simp only
  rw [h.sq m]
  simp only [Option.map_some, List.getElem?_map, List.getElem?_eq_none (Nat.le_refl _), Option.map_none]
theorem is_word_ok {L : Int} {d : Dat} {xs : List Int} (h : Ints d xs) (hl : xs.length ≤ 40) (ha : ∀ c ∈ xs, 0 ≤ c ∧ c < L) : F_is_word κ [.int L, d] m = .ok (.bl true) m := by
  have hlc : sLc (wkSeq (sVar 1)) [2] (tgName 2) sYes (sCall F_is_below [] (sCons (sVar 2) (sCons (sVar 0) sNil))) (startR 3 [.int L, d]) [] = .ok (.lst ((List.range xs.length).map fun _ => Dat.bl true)) ([] ++ [none]) := by
    refine lc_go (w := .sq d) (d := fun i => .int (xs.getD i 0)) (f := fun _ => .bl true) (h.wk _ _ _ (b_var rfl)) (by show xs.length < 1000000; omega) (fun i m hi => sq_wk h m hi) (fun m => sq_wkE h m) fun i m hi => ?_
    refine ⟨[some (.int L), some d, some (.int (xs.getD i 0))], rfl, ?_⟩
    exact b_call (b_two (b_var rfl) (b_var rfl)) (is_below_ok _ _ (KM.getD_ok ha hi).1 (KM.getD_ok ha hi).2)
  have hle : sOp (fI (fun _ _ => true) (dB (fun i j => decide (i ≤ j)))) (sCB fLen (sCons (sVar 1) sNil)) (sLit (.int 40)) (startR 3 [.int L, d]) [] = .ok (.bl true) [] := by
    have e : decide ((xs.length : Int) ≤ 40) = true := decide_eq_true (by omega)
    have := b_fI (C := fun _ _ => true) (G := dB (fun i j => decide (i ≤ j))) (f := sCB fLen (sCons (sVar 1) sNil)) (g := sLit (.int 40)) (ρ := startR 3 [.int L, d]) (m := []) (b_cb (b_one (b_var rfl)) (h.len [])) (y := 40) (m2 := []) rfl rfl
    rw [this]
    show R.ok (Dat.bl (decide ((xs.length : Int) ≤ 40))) [] = _
    rw [e]
  exact fr_run (m' := [none]) (by rw [noCells, noCells, h.no]; rfl) (body_rt (b_ret (b_and1 (b_call (b_one (b_var rfl)) (h.lst _ _)) (b_and1 hle (b_cb (b_one hlc) all_true))))) rfl rfl
/-- letters -/
abbrev Let (L : Int) (xs : List Int) : Prop := ∀ c ∈ xs, 0 ≤ c ∧ c < L
theorem is_row_ok {L : Int} {B A : List Int} (k : KM.Ok L B A) : F_is_row_of κ [.int L, rz B A] m = .ok (.bl true) m := by
  have hA : 0 < A.length := List.length_pos_iff.mpr k.ne
  have w0 : ∀ m, F_is_word [] [.int L, tz B] m = .ok (.bl true) m := fun m => is_word_ok (ints_tz B) k.lb k.b
  have w1 : ∀ m, F_is_word [] [.int L, tz A] m = .ok (.bl true) m := fun m => is_word_ok (ints_tz A) k.la k.a
  have hp : ∀ m, F_is_pair [] [rz B A] m = .ok (.bl true) m := fun m => is_pair_rz B A
  have x0 : sOp fIx (sVar 1) (sLit (.int 0)) (startR 2 [.int L, rz B A]) [] = .ok (tz B) [] := b_op (b_var rfl) rfl (ix_rz0 B A [])
  have x1 : sOp fIx (sVar 1) (sLit (.int 1)) (startR 2 [.int L, rz B A]) [] = .ok (tz A) [] := b_op (b_var rfl) rfl (ix_rz1 B A [])
  have t0 : sIsi .tuple (sOp fIx (sVar 1) (sLit (.int 0))) (startR 2 [.int L, rz B A]) [] = .ok (.bl true) [] := by unfold sIsi; rw [x0]; rfl
  have t1 : sIsi .tuple (sOp fIx (sVar 1) (sLit (.int 1))) (startR 2 [.int L, rz B A]) [] = .ok (.bl true) [] := by unfold sIsi; rw [x1]; rfl
  have hgt : sOp (fI (fun _ _ => true) (dB (fun i j => decide (j < i)))) (sCB fLen (sCons (sOp fIx (sVar 1) (sLit (.int 1))) sNil)) (sLit (.int 0)) (startR 2 [.int L, rz B A]) [] = .ok (.bl true) [] := by
    have e : decide ((0 : Int) < (A.length : Int)) = true := decide_eq_true (by omega)
    have := b_fI (C := fun _ _ => true) (G := dB (fun i j => decide (j < i))) (g := sLit (.int 0)) (b_cb (b_one x1) (len_tz [] A)) (y := 0) (m2 := []) rfl rfl
    rw [this]
    show R.ok (Dat.bl (decide ((0 : Int) < (A.length : Int)))) [] = _
    rw [e]
  refine fr_run (m' := []) (by rw [noCells, noCells, noC_rz]; rfl) (body_rt (b_seq (b_if0 (m1 := []) ?_ rfl) (b_ret (b_and1 (b_call (b_two (b_var rfl) x0) (w0 _)) (b_and1 (b_call (b_two (b_var rfl) x1) (w1 _)) hgt))))) rfl rfl
  exact b_orT0 (b_notT (b_tru (b_call (b_one (b_var rfl)) (hp _)))) (b_orT0 (b_notT (b_tru t0)) (b_notT (b_tru t1)))
theorem check_row_ok {B A : List Int} (k : KM.Ok 4 B A) : F_check_row κ [.int 4, rz B A] m = .ok .non m :=
  fr_run (m' := []) (by rw [noCells, noCells, noC_rz]; rfl) (body_nx (b_if0 (b_notT (b_tru (b_call (b_two (b_var rfl) (b_var rfl)) (is_row_ok k)))) rfl)) rfl rfl
theorem check_word_ok {d : Dat} {xs : List Int} (h : Ints d xs) (hl : xs.length ≤ 40) (ha : Let 4 xs) : F_check_word κ [.int 4, d] m = .ok .non m :=
  fr_run (m' := []) (by rw [noCells, noCells, h.no]; rfl) (body_nx (b_if0 (b_notT (b_tru (b_call (b_two (b_var rfl) (b_var rfl)) (is_word_ok h hl ha)))) rfl)) rfl rfl
theorem check_many_ok (n : Nat) (M : Int) (h : (n : Int) ≤ M) : F_check_many κ [.int n, .int M] m = .ok .non m :=
  fr_run (m' := []) rfl (body_nx (b_if0 (b_notT (b_tru (b_call (b_two (b_var rfl) (b_op (b_var rfl) rfl (add_int M 1 _))) (is_below_ok _ _ (by omega) (by omega))))) rfl)) rfl rfl
end
end VK12
namespace VK12
open PySem DL VM
section
variable {κ : Kp} {m : Mu}
theorem lt_lens {f g : Sm Dat} {ρ : Ro} {m m1 m2 : Mu} {x y : Int} (q : f ρ m = .ok (.int x) m1) (q2 : g ρ m1 = .ok (.int y) m2) : sTest (sOp (fI (fun _ _ => true) (dB (fun i j => decide (i < j)))) f g) ρ m = .ok (decide (x < y)) m2 := b_test (b_fI q q2 rfl)
theorem gt_lens {f g : Sm Dat} {ρ : Ro} {m m1 m2 : Mu} {x y : Int} (q : f ρ m = .ok (.int x) m1) (q2 : g ρ m1 = .ok (.int y) m2) : sTest (sOp (fI (fun _ _ => true) (dB (fun i j => decide (j < i)))) f g) ρ m = .ok (decide (y < x)) m2 := b_test (b_fI q q2 rfl)
theorem le_lens {f g : Sm Dat} {ρ : Ro} {m m1 m2 : Mu} {x y : Int} (q : f ρ m = .ok (.int x) m1) (q2 : g ρ m1 = .ok (.int y) m2) : sTest (sOp (fI (fun _ _ => true) (dB (fun i j => decide (i ≤ j)))) f g) ρ m = .ok (decide (x ≤ y)) m2 := b_test (b_fI q q2 rfl)
theorem b_sub {f g : Sm Dat} {ρ : Ro} {m m1 m2 : Mu} {x y : Int} (q : f ρ m = .ok (.int x) m1) (q2 : g ρ m1 = .ok (.int y) m2) : sOp (fI (fun _ _ => true) (dI (fun i j => i - j))) f g ρ m = .ok (.int (x - y)) m2 := b_fI q q2 rfl
theorem b_mod {f g : Sm Dat} {ρ : Ro} {m m1 m2 : Mu} {x y : Int} (q : f ρ m = .ok (.int x) m1) (q2 : g ρ m1 = .ok (.int y) m2) (h : 0 < y) : sOp (fI cMod (dI (fun i j => i % j))) f g ρ m = .ok (.int (x % y)) m2 := b_fI q q2 (decide_eq_true h)
theorem b_div {f g : Sm Dat} {ρ : Ro} {m m1 m2 : Mu} {x y : Int} (q : f ρ m = .ok (.int x) m1) (q2 : g ρ m1 = .ok (.int y) m2) (h : 0 < y) (h2 : y < 1000000) : sOp (fI cDiv (dI (fun i j => i / j))) f g ρ m = .ok (.int (x / y)) m2 := b_fI q q2 (by unfold cDiv; rw [decide_eq_true h, decide_eq_true (by omega : y < 1073741824)]; rfl)
theorem b_add {f g : Sm Dat} {ρ : Ro} {m m1 m2 : Mu} {x y : Int} (q : f ρ m = .ok (.int x) m1) (q2 : g ρ m1 = .ok (.int y) m2) : sOp fAdd f g ρ m = .ok (.int (x + y)) m2 := b_op q q2 (add_int x y m2)
theorem b_len {f : Sm Dat} {ρ : Ro} {m m1 : Mu} {xs : List Int} (q : f ρ m = .ok (tz xs) m1) : sCB fLen (sCons f sNil) ρ m = .ok (.int (xs.length : Int)) m1 := b_cb (b_one q) (len_tz m1 xs)
theorem mod_nat (a b : Nat) : ((a : Int) % (b : Int)) = ((a % b : Nat) : Int) := rfl
theorem letter_body (f : Kp → SS) (hf : ∀ κ, f κ = f__letter κ) (B A : List Int) (hA : A ≠ []) (n : Nat) : f [] (startR 4 [rz B A, .int n]) [] = .rt (.int (KM.seq B A n)) [] := by
  rw [hf]
  have hp : 0 < A.length := List.length_pos_iff.mpr hA
  refine b_seq (ρ1 := [some (rz B A), some (.int n), some (tz B), some (tz A)]) (m1 := []) rfl ?_
  unfold KM.seq
  by_cases c : n < B.length
  · rw [if_pos c]
    refine b_rt (b_if1 (m1 := []) ?_ (b_ret (b_op (b_var rfl) (b_var rfl) (ix_tz [] (L2_ixN c) c))))
    have := lt_lens (f := sVar 1) (g := sCB fLen (sCons (sVar 2) sNil)) (ρ := [some (rz B A), some (.int n), some (tz B), some (tz A)]) (m := []) (b_var rfl) (b_len (b_var rfl))
    rw [this, decide_eq_true (by omega)]
  · rw [if_neg c]
    have hm : (n - B.length) % A.length < A.length := Nat.mod_lt _ hp
    refine b_seq (ρ1 := [some (rz B A), some (.int n), some (tz B), some (tz A)]) (m1 := []) (b_if0 (m1 := []) ?_ rfl) ?_
    · have := lt_lens (f := sVar 1) (g := sCB fLen (sCons (sVar 2) sNil)) (ρ := [some (rz B A), some (.int n), some (tz B), some (tz A)]) (m := []) (b_var rfl) (b_len (b_var rfl))
      rw [this, decide_eq_false (by omega)]
    · refine b_ret (b_op (b_var rfl) (b_mod (b_sub (b_var rfl) (b_len (b_var rfl))) (b_len (b_var rfl)) (by omega)) (ix_tz [] ?_ hm))
      have e : ((n : Int) - (B.length : Int)) % (A.length : Int) = (((n - B.length) % A.length : Nat) : Int) := by
        rw [← mod_nat]
        congr 1
        omega
      rw [e]
      exact L2_ixN hm
where L2_ixN {n i : Nat} (h : i < n) : L2.ixN n (i : Int) = some i := ixN_nat h
theorem letter_ok {B A : List Int} (hA : A ≠ []) (n : Nat) : F__letter κ [rz B A, .int n] m = .ok (.int (KM.seq B A n)) m :=
  fr_run (m' := []) (by rw [noCells, noC_rz]; rfl) (body_rt (letter_body f__letter (fun _ => rfl) B A hA n)) rfl rfl
theorem law_at_ok {B A : List Int} (hA : A ≠ []) (n : Nat) : F__law_at κ [rz B A, .int n] m = .ok (.int (KM.seq B A n)) m :=
  fr_run (m' := []) (by rw [noCells, noC_rz]; rfl) (body_rt (letter_body f__law_at (fun _ => rfl) B A hA n)) rfl rfl
end
end VK12
namespace VK12
open PySem DL VM
section
variable {κ : Kp} {m : Mu}
theorem rng1_run {f : Sm Dat} {ρ : Ro} {m m1 : Mu} {n : Nat} (h : f ρ m = .ok (.int (n : Int)) m1) (hn : n < 100000) : wkRng1 f ρ m = .ok (.rng 0 n) m1 := by
  have h1 : -4611686018427387904 ≤ (n : Int) := by omega
  have h2 : (n : Int) < 4611686018427387904 := by omega
  simp [wkRng1, h, R.bind, h1, h2]
theorem rng2_run {f g : Sm Dat} {ρ : Ro} {m m1 m2 : Mu} {n : Nat} (h : f ρ m = .ok (.int 1) m1) (h2 : g ρ m1 = .ok (.int ((n : Int) + 1)) m2) (hn : n < 100000) : wkRng2 f g ρ m = .ok (.rng 1 n) m2 := by
  have h3 : -4611686018427387904 ≤ (n : Int) + 1 := by omega
  have h4 : (n : Int) + 1 < 4611686018427387904 := by omega
  simp [wkRng2, h, h2, R.bind, h3, h4]
theorem lets_cell {e : Sm Dat} {x : Nat → Int} {ρ : Ro} {n : Nat} (hn : n < 100000) (hit : sVar 1 ρ [] = .ok (.int (n : Int)) []) (step : ∀ (i : Nat) m, i < n → ∃ ρ1, tgName 2 (.int (0 + i)) (wipeR ρ [2]) m = .ok ρ1 m ∧ e ρ1 m = .ok (.int (x i)) m) : sLcC (wkRng1 (sVar 1)) [2] (tgName 2) sYes e ρ [] = .ok (.cell 0) [some ((KM.pre x n).map Dat.int)] := by
  have := lcC_go (m := []) (f := fun i => Dat.int (x i)) (rng1_run hit hn) (by show n < 1000000; omega) (fun i m hi => rng_at 0 m hi) (rng_end 0 n) step
  rw [this]
  unfold KM.pre
  rw [List.map_map]
  rfl
theorem fr_list {n : Nat} {ss : Kp → SS} {ds : List Dat} {xs : List Int} (hds : noCells ds = true) (h : ss [] (startR n ds) [] = .rt (.cell 0) [some (xs.map Dat.int)]) : frameV (closeV (bodyV n ss)) κ ds m = .ok (.cell m.length) (m ++ [some (xs.map Dat.int)]) :=
  fr_cell hds (body_rt h) rfl (noC_ints xs) (fre_ints xs)
theorem spelled_ok {B A : List Int} (k : KM.Ok 4 B A) {n : Nat} (hn : n ≤ 400) : F_spelled κ [rz B A, .int n] m = .ok (.cell m.length) (m ++ [some ((KM.pre (KM.seq B A) n).map Dat.int)]) := by
  refine fr_list (by rw [noCells, noC_rz]; rfl) ?_
  refine b_seq (b_drop (b_call (b_two rfl (b_var rfl)) (check_row_ok k))) (b_seq (b_drop (b_call (b_two (b_var rfl) rfl) (check_many_ok n 400 (by omega)))) (b_ret (lets_cell (by omega) (b_var rfl) fun i m hi => ?_)))
  refine ⟨[some (rz B A), some (.int n), some (.int (0 + (i : Int)))], rfl, b_call (b_two (b_var rfl) (b_var rfl)) ?_⟩
  rw [Int.zero_add]
  exact letter_ok k.ne i
theorem law_spelled_ok {B A : List Int} (hA : A ≠ []) {n : Nat} (hn : n < 100000) : F__law_spelled κ [rz B A, .int n] m = .ok (.cell m.length) (m ++ [some ((KM.pre (KM.seq B A) n).map Dat.int)]) := by
  refine fr_list (by rw [noCells, noC_rz]; rfl) (b_ret (lets_cell hn (b_var rfl) fun i m hi => ?_))
  refine ⟨[some (rz B A), some (.int n), some (.int (0 + (i : Int)))], rfl, b_call (b_two (b_var rfl) (b_var rfl)) ?_⟩
  rw [Int.zero_add]
  exact law_at_ok hA i
/-! ### the shortest round -/
theorem b_take {f g : Sm Dat} {ρ : Ro} {m : Mu} {xs : List Int} {n : Nat} (q : f ρ m = .ok (tz xs) m) (q2 : g ρ m = .ok (.int (n : Int)) m) : sSl f sNoPart (sPart g) ρ m = .ok (tz (xs.take n)) m :=
  b_sl q rfl (b_part q2) (by rw [sl_tz, cut_to])
theorem b_dropL {f g : Sm Dat} {ρ : Ro} {m : Mu} {xs : List Int} {n : Nat} (q : f ρ m = .ok (tz xs) m) (q2 : g ρ m = .ok (.int (n : Int)) m) : sSl f (sPart g) sNoPart ρ m = .ok (tz (xs.drop n)) m :=
  b_sl q (b_part q2) rfl (by rw [sl_tz, cut_from])
def shB : SS := (sIfS (sAndT (sTest (sOp fEq (sOp (fI cMod (dI (fun i j => i % j))) (sCB fLen (sCons (sVar 0) sNil)) (sVar 1)) (sLit (.int 0)))) (sTest (sOp fEq (sOp fMul (sSl (sVar 0) sNoPart (sPart (sVar 1))) (sOp (fI cDiv (dI (fun i j => i / j))) (sCB fLen (sCons (sVar 0) sNil)) (sVar 1))) (sVar 0)))) (sRet (sSl (sVar 0) sNoPart (sPart (sVar 1)))) sNext)
def shI : Sm Wk := (wkRng2 (sLit (.int 1)) (sOp fAdd (sCB fLen (sCons (sVar 0) sNil)) (sLit (.int 1))))
def shJ (A : List Int) (i : Nat) (ρ : Ro) (m : Mu) : Prop := m = [] ∧ (∃ x, ρ = [some (tz A), x]) ∧ ∀ l', l' ≤ i → ¬ KM.Rnd A l'
def shR (A : List Int) (d : Dat) (m : Mu) : Prop := m = [] ∧ ∃ l, d = tz (A.take l) ∧ l ≤ A.length ∧ KM.Rnd A l ∧ ∀ l', l' < l → ¬ KM.Rnd A l'
theorem OkO_of {I : Ro → Mu → Prop} {R : Dat → Mu → Prop} {o : Out} (h : OkO I R o) : OkO I R o := h
theorem short_step {A : List Int} (hA : A ≠ []) (hl : A.length ≤ 1000) : ∀ i ρ m, i < A.length → shJ A i ρ m → ∃ ρ1, tgName 1 (.int (1 + i)) ρ m = .ok ρ1 m ∧ OkO (shJ A (i + 1)) (shR A) (shB ρ1 m) := by
  have hp : 0 < A.length := List.length_pos_iff.mpr hA
  rintro i ρ m hi ⟨rfl, ⟨x, rfl⟩, hn⟩
  have hi1 : (1 + (i : Int)) = ((i + 1 : Nat) : Int) := by omega
  refine ⟨[some (tz A), some (.int ((i + 1 : Nat) : Int))], by rw [hi1]; rfl, ?_⟩
  show OkO _ _ (shB [some (tz A), some (.int ((i + 1 : Nat) : Int))] [])
  unfold shB
  have iff := KM.rnd_iff (A := A) (l := i + 1) (by omega) (by omega)
  have e1 : sTest (sOp fEq (sOp (fI cMod (dI (fun i j => i % j))) (sCB fLen (sCons (sVar 0) sNil)) (sVar 1)) (sLit (.int 0))) [some (tz A), some (.int ((i + 1 : Nat) : Int))] [] = .ok (decide (((A.length : Int) % ((i + 1 : Nat) : Int)) = 0)) [] :=
    b_test (b_op (b_mod (b_len (b_var rfl)) (b_var rfl) (by omega)) rfl (eq_int [] _ _))
  have ed : ((A.length : Int) / ((i + 1 : Nat) : Int)) = ((A.length / (i + 1) : Nat) : Int) := rfl
  have e2 : A.length % (i + 1) = 0 → sTest (sOp fEq (sOp fMul (sSl (sVar 0) sNoPart (sPart (sVar 1))) (sOp (fI cDiv (dI (fun i j => i / j))) (sCB fLen (sCons (sVar 0) sNil)) (sVar 1))) (sVar 0)) [some (tz A), some (.int ((i + 1 : Nat) : Int))] [] = .ok (decide ((List.replicate (A.length / (i + 1)) (A.take (i + 1))).flatten = A)) [] := fun hm =>
    b_test (b_op (b_op (b_take (b_var rfl) (b_var rfl)) (b_div (b_len (b_var rfl)) (b_var rfl) (by omega) (by omega)) (by
      rw [ed]
      refine rep_tz [] ?_ ?_ ?_ ?_
      · intro z
        have := congrArg List.length z
        rw [List.length_take, Nat.min_eq_left (by omega)] at this
        simp at this
      · exact Nat.div_pos (by omega) (by omega)
      · exact Nat.le_trans (Nat.div_le_self _ _) hl
      · rw [List.length_take]; omega)) (b_var rfl) (eq_tz [] _ _))
  by_cases c : A.length % (i + 1) = 0
  · have c1 : decide (((A.length : Int) % ((i + 1 : Nat) : Int)) = 0) = true := decide_eq_true (by rw [mod_nat, c]; rfl)
    rw [c1] at e1
    have e2 := e2 c
    by_cases c2 : (List.replicate (A.length / (i + 1)) (A.take (i + 1))).flatten = A
    · rw [decide_eq_true c2] at e2
      rw [b_if1 (b_andT1 e1 e2) (b_ret (b_take (b_var rfl) (b_var rfl)))]
      exact .rt ⟨rfl, i + 1, rfl, by omega, iff.mpr ⟨c, c2⟩, fun l' h => hn l' (by omega)⟩
    · rw [decide_eq_false c2] at e2
      rw [b_if0 (b_andT1 e1 e2) rfl]
      refine .nx ⟨rfl, ⟨_, rfl⟩, fun l' h q => ?_⟩
      by_cases z : l' = i + 1
      · subst z; exact c2 (iff.mp q).2
      · exact hn l' (by omega) q
  · have c1 : decide (((A.length : Int) % ((i + 1 : Nat) : Int)) = 0) = false := decide_eq_false (by rw [mod_nat]; omega)
    rw [c1] at e1
    rw [b_if0 (b_andT0 e1) rfl]
    refine .nx ⟨rfl, ⟨_, rfl⟩, fun l' h q => ?_⟩
    by_cases z : l' = i + 1
    · subst z; exact c (iff.mp q).1
    · exact hn l' (by omega) q
theorem short_ok {A : List Int} (hA : A ≠ []) (hl : A.length ≤ 1000) : ∃ l, KM.Rnd A l ∧ (∀ l', l' < l → ¬ KM.Rnd A l') ∧ l ≤ A.length ∧ ∀ κ m, F__shortest_round κ [tz A] m = .ok (tz (A.take l)) m := by
  have hI : shI [some (tz A), none] [] = .ok (.rng 1 A.length) [] := rng2_run rfl (b_add (b_len (b_var rfl)) rfl) (by omega)
  have h0 : ∀ l', l' ≤ 0 → ¬ KM.Rnd A l' := fun l' h q => by have := q.1; omega
  have hN : A.length < FUEL := Nat.lt_of_le_of_lt hl (by decide)
  have hJ : shJ A 0 [some (tz A), none] [] := ⟨rfl, ⟨none, rfl⟩, h0⟩
  have st := short_step hA hl
  have loop := @for_rng shI (tgName 1) shB [some (tz A), none] [] 1 A.length (shJ A) (shR A) hI hN hJ st
  generalize ho : (sFor shI (tgName 1) shB [some (tz A), none] []) = o at loop
  cases loop with
  | nx h => exact absurd (KM.rnd_self hA) (h.2.2 _ (Nat.le_refl _))
  | rt h =>
    obtain ⟨rfl, l, rfl, h1, h2, h3⟩ := h
    refine ⟨l, h2, h3, h1, fun κ m => fr_run (m' := []) (by rw [noCells, noC_tz]; rfl) (body_rt (b_rt ho)) (noC_tz _) (fre_tz _)⟩
end
end VK12
namespace VK12
open PySem DL VM
theorem while_run {t : Sm Bool} {b : SS} {N : Nat} {I : Nat → Ro → Mu → Prop} {J : Ro → Mu → Prop} (step : ∀ k ρ m, I k ρ m → (t ρ m = .ok false m ∧ J ρ m) ∨ (t ρ m = .ok true m ∧ k < N ∧ ∃ ρ2 m2, b ρ m = .nx ρ2 m2 ∧ I (k + 1) ρ2 m2)) :
    ∀ n k ρ m, I k ρ m → k ≤ N → N - k < n → ∃ ρ' m', whileL t b n ρ m = .nx ρ' m' ∧ J ρ' m'
  | 0, k, ρ, m, _, _, h => by omega
  | n + 1, k, ρ, m, hI, hk, hn => by
    unfold whileL
    rcases step k ρ m hI with ⟨h1, h2⟩ | ⟨h1, h2, ρ2, m2, h3, h4⟩
    · rw [h1]
      exact ⟨ρ, m, rfl, h2⟩
    · rw [h1]
      simp only [R.out]
      rw [h3]
      exact while_run step n (k + 1) ρ2 m2 h4 (by omega) (by omega)
theorem while_at {t : Sm Bool} {b : SS} {N : Nat} {I : Nat → Ro → Mu → Prop} {J : Ro → Mu → Prop} {ρ : Ro} {m : Mu} (step : ∀ k ρ m, I k ρ m → (t ρ m = .ok false m ∧ J ρ m) ∨ (t ρ m = .ok true m ∧ k < N ∧ ∃ ρ2 m2, b ρ m = .nx ρ2 m2 ∧ I (k + 1) ρ2 m2)) (h0 : I 0 ρ m) (hN : N < 1000000) : ∃ ρ' m', sWhile t b ρ m = .nx ρ' m' ∧ J ρ' m' := by
  unfold sWhile
  exact while_run step FUEL 0 ρ m h0 (Nat.zero_le _) (by rw [Nat.sub_zero]; exact hN)
def nwT : Sm Bool := (sAndT (sTest (sOp (fI (fun _ _ => true) (dB (fun i j => decide (i < j)))) (sVar 3) (sCB fLen (sCons (sVar 1) sNil)))) (sTest (sOp fEq (sOp fIx (sVar 1) (sOp (fI (fun _ _ => true) (dI (fun i j => i - j))) (sNeg (sLit (.int 1))) (sVar 3))) (sOp fIx (sVar 2) (sOp (fI (fun _ _ => true) (dI (fun i j => i - j))) (sNeg (sLit (.int 1))) (sOp (fI cMod (dI (fun i j => i % j))) (sVar 3) (sCB fLen (sCons (sVar 2) sNil))))))))
def nwB : SS := (sAug 3 (fun i j => i + j) (sLit (.int 1)))
def nwE : SS := (sSeq (sSet 4 (sOp (fI cMod (dI (fun i j => i % j))) (sVar 3) (sCB fLen (sCons (sVar 2) sNil)))) (sRet (sTup (sCons (sSl (sVar 1) sNoPart (sPart (sOp (fI (fun _ _ => true) (dI (fun i j => i - j))) (sCB fLen (sCons (sVar 1) sNil)) (sVar 3)))) (sCons (sOp fAdd (sSl (sVar 2) (sPart (sOp (fI (fun _ _ => true) (dI (fun i j => i - j))) (sCB fLen (sCons (sVar 2) sNil)) (sVar 4))) sNoPart) (sSl (sVar 2) sNoPart (sPart (sOp (fI (fun _ _ => true) (dI (fun i j => i - j))) (sCB fLen (sCons (sVar 2) sNil)) (sVar 4))))) sNil)))))
theorem normal_is : f_normal_of [] = sSeq (sAsg (sVar 0) (tgTup ((tgName 1) :: ((tgName 2) :: [])))) (sSeq (sSet 2 (sCall F__shortest_round [] (sCons (sVar 2) sNil))) (sSeq (sSet 3 (sLit (.int 0))) (sSeq (sWhile nwT nwB) nwE))) := rfl
section
variable {κ : Kp} {m : Mu}
abbrev alike (B A : List Int) (k : Nat) : Prop := ∀ j, j < k → B.getD (B.length - 1 - j) 0 = A.getD (A.length - 1 - j % A.length) 0
abbrev roN (B A A1 : List Int) (k : Nat) : Ro := [some (rz B A), some (tz B), some (tz A1), some (.int (k : Int)), none]
theorem nw_step {B A A1 : List Int} (na : A1 ≠ []) : ∀ k ρ m, (m = [] ∧ ρ = roN B A A1 k ∧ k ≤ B.length ∧ alike B A1 k) →
    (nwT ρ m = .ok false m ∧ (m = [] ∧ ∃ k, ρ = roN B A A1 k ∧ k ≤ B.length ∧ alike B A1 k ∧ ¬ (k < B.length ∧ B.getD (B.length - 1 - k) 0 = A1.getD (A1.length - 1 - k % A1.length) 0))) ∨
    (nwT ρ m = .ok true m ∧ k < B.length ∧ ∃ ρ2 m2, nwB ρ m = .nx ρ2 m2 ∧ (m2 = [] ∧ ρ2 = roN B A A1 (k + 1) ∧ k + 1 ≤ B.length ∧ alike B A1 (k + 1))) := by
  rintro k ρ m ⟨rfl, rfl, hk, al⟩
  have hp : 0 < A1.length := List.length_pos_iff.mpr na
  have hr := Nat.mod_lt k hp
  have t1 : sTest (sOp (fI (fun _ _ => true) (dB (fun i j => decide (i < j)))) (sVar 3) (sCB fLen (sCons (sVar 1) sNil))) (roN B A A1 k) [] = .ok (decide ((k : Int) < (B.length : Int))) [] := lt_lens (b_var rfl) (b_len (b_var rfl))
  by_cases c : k < B.length
  · have x1 : sOp fIx (sVar 1) (sOp (fI (fun _ _ => true) (dI (fun i j => i - j))) (sNeg (sLit (.int 1))) (sVar 3)) (roN B A A1 k) [] = .ok (.int (B.getD (B.length - 1 - k) 0)) [] :=
      b_op (b_var rfl) (b_sub (b_neg rfl) (b_var rfl)) (ix_tz [] (ixN_neg c) (by omega))
    have x2 : sOp fIx (sVar 2) (sOp (fI (fun _ _ => true) (dI (fun i j => i - j))) (sNeg (sLit (.int 1))) (sOp (fI cMod (dI (fun i j => i % j))) (sVar 3) (sCB fLen (sCons (sVar 2) sNil)))) (roN B A A1 k) [] = .ok (.int (A1.getD (A1.length - 1 - k % A1.length) 0)) [] :=
      b_op (b_var rfl) (b_sub (b_neg rfl) (b_mod (b_var rfl) (b_len (b_var rfl)) (by omega))) (ix_tz [] (by rw [mod_nat]; exact ixN_neg hr) (by omega))
    have t2 := b_test (b_op x1 x2 (eq_int [] _ _))
    rw [decide_eq_true (by omega)] at t1
    by_cases e : B.getD (B.length - 1 - k) 0 = A1.getD (A1.length - 1 - k % A1.length) 0
    · rw [decide_eq_true e] at t2
      refine .inr ⟨b_andT1 t1 t2, c, _, _, b_aug (x := (k : Int)) (y := 1) rfl rfl, rfl, ?_, c, fun j hj => ?_⟩
      · show [some (rz B A), some (tz B), some (tz A1), some (.int ((k : Int) + 1)), none] = _
        rfl
      · by_cases z : j = k
        · subst z; exact e
        · exact al j (by omega)
    · rw [decide_eq_false e] at t2
      exact .inl ⟨b_andT1 t1 t2, rfl, k, rfl, hk, al, fun z => e z.2⟩
  · rw [decide_eq_false (by omega)] at t1
    exact .inl ⟨b_andT0 t1, rfl, k, rfl, hk, al, fun z => c z.1⟩
theorem nw_end {B A A1 : List Int} {k : Nat} (na : A1 ≠ []) (hk : k ≤ B.length) (hz : A1.length ≤ 1000) : nwE (roN B A A1 k) [] = .rt (rz (KM.bkw B k) (KM.spn A1 k)) [] := by
  have hp : 0 < A1.length := List.length_pos_iff.mpr na
  have hr := Nat.mod_lt k hp
  refine b_seq (b_set (b_mod (b_var rfl) (b_len (b_var rfl)) (by omega))) ?_
  show sRet _ [some (rz B A), some (tz B), some (tz A1), some (.int (k : Int)), some (.int ((k % A1.length : Nat) : Int))] [] = _
  have e1 : ((B.length : Int) - (k : Int)) = ((B.length - k : Nat) : Int) := by omega
  have e2 : ((A1.length : Int) - ((k % A1.length : Nat) : Int)) = ((A1.length - k % A1.length : Nat) : Int) := by omega
  refine b_ret (b_tup (b_two (d := tz (KM.bkw B k)) (e := tz (KM.spn A1 k)) (b_take (b_var rfl) (by rw [← e1]; exact b_sub (b_len (b_var rfl)) (b_var rfl))) (b_op (b_dropL (b_var rfl) (by rw [← e2]; exact b_sub (b_len (b_var rfl)) (b_var rfl))) (b_take (b_var rfl) (by rw [← e2]; exact b_sub (b_len (b_var rfl)) (b_var rfl))) (add_tz [] ?_))) (by simp))
  rw [List.length_drop, List.length_take]
  omega
theorem normal_ok {B A : List Int} (hA : A ≠ []) (hl : A.length ≤ 1000) (hb : B.length ≤ 1000) : ∃ B' A', KM.NR (KM.seq B A) B' A' ∧ ∀ κ m, F_normal_of κ [rz B A] m = .ok (rz B' A') m := by
  obtain ⟨l, h2, h3, h1, hs⟩ := short_ok hA hl
  have hp : ∀ m' s', 1 ≤ s' → KM.Per (KM.seq B A) m' s' → l ≤ s' := fun m' s' hs h => KM.least_round hA h3 hs h
  have tl : (A.take l).length = l := by rw [List.length_take]; omega
  have e0 : KM.seq B (A.take l) = KM.seq B A := KM.seq_rnd h2 hA h1
  have na : A.take l ≠ [] := fun z => by rw [z] at tl; have := h2.1; simp at tl; omega
  obtain ⟨ρ', m', hw, rfl, k, rfl, hk, al, no⟩ := while_at (t := nwT) (b := nwB) (ρ := roN B A (A.take l) 0) (m := []) (I := fun k ρ m => m = [] ∧ ρ = roN B A (A.take l) k ∧ k ≤ B.length ∧ alike B (A.take l) k) (nw_step na) ⟨rfl, rfl, Nat.zero_le _, fun j h => absurd h (Nat.not_lt_zero j)⟩ (by omega)
  refine ⟨KM.bkw B k, KM.spn (A.take l) k, KM.back_nr na e0 (by rw [tl]; exact hp) hk al no, fun κ m => fr_run (m' := []) (by rw [noCells, noC_rz]; rfl) (body_rt ?_) (noC_rz _ _) (fre_rz _ _)⟩
  rw [normal_is]
  refine b_seq (ρ1 := [some (rz B A), some (tz B), some (tz A), none, none]) (m1 := []) rfl ?_
  refine b_seq (b_set (b_call (b_one (b_var rfl)) (hs [] []))) ?_
  refine b_seq (ρ1 := roN B A (A.take l) 0) (b_set rfl) ?_
  exact b_seq hw (nw_end na hk (by omega))
end
end VK12
namespace VK12
open PySem DL VM
section
variable {κ : Kp} {m : Mu}
def exTM : Ex := ⟨0, [.int 40, .str "letters"]⟩
theorem fr_exc {n : Nat} {ss : Kp → SS} {ds : List Dat} {ρ1 : Ro} {m' : Mu} (hds : noCells ds = true) (h : ss [] (startR n ds) [] = .exc exTM ρ1 m') : frameV (closeV (bodyV n ss)) κ ds m = .exc exTM m := by
  refine frame_exc hds ?_ rfl rfl
  unfold closeV bodyV
  rw [h]
  unfold endO closeR
  simp only [List.length_nil, List.take_zero, stb, Nat.zero_le, true_and]
  rfl
/-- both parts stand within the bound -/
abbrev fits (B A : List Int) : Prop := B.length ≤ 40 ∧ A.length ≤ 40
theorem se_test (B A : List Int) : sOrT (sTest (sOp (fI (fun _ _ => true) (dB (fun i j => decide (j < i)))) (sCB fLen (sCons (sOp fIx (sVar 0) (sLit (.int 0))) sNil)) (sLit (.int 40)))) (sTest (sOp (fI (fun _ _ => true) (dB (fun i j => decide (j < i)))) (sCB fLen (sCons (sOp fIx (sVar 0) (sLit (.int 1))) sNil)) (sLit (.int 40)))) (startR 1 [rz B A]) [] = .ok (decide (¬ fits B A)) [] := by
  have t0 := gt_lens (f := sCB fLen (sCons (sOp fIx (sVar 0) (sLit (.int 0))) sNil)) (g := sLit (.int 40)) (ρ := startR 1 [rz B A]) (m := []) (y := 40) (m2 := []) (b_len (b_op (b_var rfl) rfl (ix_rz0 B A []))) rfl
  have t1 := gt_lens (f := sCB fLen (sCons (sOp fIx (sVar 0) (sLit (.int 1))) sNil)) (g := sLit (.int 40)) (ρ := startR 1 [rz B A]) (m := []) (y := 40) (m2 := []) (b_len (b_op (b_var rfl) rfl (ix_rz1 B A []))) rfl
  by_cases c : 40 < B.length
  · rw [decide_eq_true (by omega)] at t0
    rw [b_orT1 t0, decide_eq_true (by unfold fits; omega)]
  · rw [decide_eq_false (by omega)] at t0
    rw [b_orT0 t0 t1]
    congr 1
    by_cases c2 : 40 < A.length
    · rw [decide_eq_true (by omega), decide_eq_true (by unfold fits; omega)]
    · rw [decide_eq_false (by omega), decide_eq_false (by unfold fits; omega)]
def shortR (B A : List Int) (m : Mu) : R Dat := if fits B A then .ok (rz B A) m else .exc exTM m
theorem short_enough_ok (B A : List Int) : F_short_enough κ [rz B A] m = shortR B A m := by
  have t := se_test B A
  unfold shortR
  by_cases c : fits B A
  · rw [decide_eq_false (fun z => z c)] at t
    rw [if_pos c]
    exact fr_run (m' := []) (by rw [noCells, noC_rz]; rfl) (body_rt (b_seq (b_if0 t rfl) (b_ret (b_var rfl)))) (noC_rz _ _) (fre_rz _ _)
  · rw [decide_eq_true c] at t
    rw [if_neg c]
    exact fr_exc (ρ1 := [some (rz B A)]) (m' := []) (by rw [noCells, noC_rz]; rfl) (b_exc (b_if1 t rfl))
theorem fr_short {n : Nat} {ss : Kp → SS} {ds : List Dat} {B A : List Int} {ρ : Ro} {m' : Mu} {f : Sm Dat} {s : SS} (hds : noCells ds = true) (hs : ss [] (startR n ds) [] = sRet f ρ m') (h : f ρ m' = shortR B A m') : frameV (closeV (bodyV n ss)) κ ds m = shortR B A m := by
  unfold shortR at h ⊢
  by_cases c : fits B A
  · rw [if_pos c] at h ⊢
    exact fr_run (m' := m') hds (body_rt (hs.trans (b_ret h))) (noC_rz _ _) (fre_rz _ _)
  · rw [if_neg c] at h ⊢
    exact fr_exc (ρ1 := ρ) (m' := m') hds (hs.trans (b_retX h))
theorem seq_run' {a b : SS} {ρ ρ1 : Ro} {m m1 : Mu} (h : a ρ m = .nx ρ1 m1) : sSeq a b ρ m = b ρ1 m1 := by unfold sSeq; rw [h]
theorem normal_row_ok {B A : List Int} (k : KM.Ok 4 B A) : ∃ B' A', KM.NR (KM.seq B A) B' A' ∧ ∀ κ m, F_normal_row κ [rz B A] m = .ok (rz B' A') m := by
  have := k.la
  have := k.lb
  obtain ⟨B', A', h1, h2⟩ := normal_ok k.ne (by omega) (B := B) (by omega)
  exact ⟨B', A', h1, fun κ m => fr_run (m' := []) (by rw [noCells, noC_rz]; rfl) (body_rt (b_seq (b_drop (b_call (b_two rfl (b_var rfl)) (check_row_ok k))) (b_ret (b_call (b_one (b_var rfl)) (h2 _ _))))) (noC_rz _ _) (fre_rz _ _)⟩
theorem put_ahead_ok {d : Dat} {W B A : List Int} (h : Ints d W) (hl : W.length ≤ 40) (ha : Let 4 W) (k : KM.Ok 4 B A) : ∃ B' A', KM.NR (KM.seq (W ++ B) A) B' A' ∧ ∀ κ m, F_put_ahead κ [d, rz B A] m = shortR B' A' m := by
  have := k.la
  have := k.lb
  obtain ⟨B', A', h1, h2⟩ := normal_ok k.ne (by omega) (B := W ++ B) (by rw [List.length_append]; omega)
  refine ⟨B', A', h1, fun κ m => fr_short (s := sNext) (by rw [noCells, noCells, noC_rz, h.no]; rfl) ((seq_run' (b_drop (b_call (b_two rfl (b_var rfl)) (check_word_ok h hl ha)))).trans (seq_run' (b_drop (b_call (b_two rfl (b_var rfl)) (check_row_ok k))))) ?_⟩
  refine b_call (b_one (b_call (b_one (b_tup (b_two (d := tz (W ++ B)) (e := tz A) (b_op (b_cb (b_one (b_var rfl)) (tuple_lst (h.sq []))) (b_op (b_var rfl) rfl (ix_rz0 B A [])) (add_tz [] (by omega))) (b_op (b_var rfl) rfl (ix_rz1 B A []))) (by simp))) (h2 [] []))) (short_enough_ok B' A')
/-- turned on within the begin -/
theorem turned_ok {B A : List Int} (k : KM.Ok 4 B A) {n : Nat} (hn : n ≤ 900000) : ∃ B' A', KM.NR (fun i => KM.seq B A (i + n)) B' A' ∧ ∀ κ m, F_turned_on κ [rz B A, .int n] m = .ok (rz B' A') m := by
  have la := k.la
  have lb := k.lb
  have hp : 0 < A.length := List.length_pos_iff.mpr k.ne
  have s0 : ∀ s, (sAsg (sVar 0) (tgTup ((tgName 2) :: ((tgName 3) :: [])))) (startR 5 [rz B A, .int n]) [] = s → s = .nx [some (rz B A), some (.int n), some (tz B), some (tz A), none] [] := fun s h => h.symm
  have hd : noCells [rz B A, Dat.int n] = true := by rw [noCells, noC_rz]; rfl
  have t := le_lens (f := sVar 1) (g := sCB fLen (sCons (sVar 2) sNil)) (ρ := [some (rz B A), some (.int n), some (tz B), some (tz A), none]) (m := []) (b_var rfl) (b_len (b_var rfl))
  by_cases c : n ≤ B.length
  · rw [decide_eq_true (by omega)] at t
    obtain ⟨B', A', h1, h2⟩ := normal_ok k.ne (by omega) (B := B.drop n) (by rw [List.length_drop]; omega)
    refine ⟨B', A', by rw [KM.drop_seq B A n c] at h1; exact h1, fun κ m => fr_run (m' := []) hd (body_rt (b_seq (b_drop (b_call (b_two rfl (b_var rfl)) (check_row_ok k))) (b_seq (b_drop (b_call (b_two (b_var rfl) rfl) (check_many_ok n 999999 (by omega)))) (b_seq (s0 _ rfl) (b_rt (b_if1 t (b_ret (b_call (b_one (b_tup (b_two (b_dropL (b_var rfl) (b_var rfl)) (b_var rfl)) (by simp))) (h2 [] []))))))))) (noC_rz _ _) (fre_rz _ _)⟩
  · rw [decide_eq_false (by omega)] at t
    have hg : (n - B.length) % A.length ≤ A.length := Nat.le_of_lt (Nat.mod_lt _ hp)
    obtain ⟨B', A', h1, h2⟩ := normal_ok (A := A.drop ((n - B.length) % A.length) ++ A.take ((n - B.length) % A.length)) (by
      intro z
      have := congrArg List.length z
      rw [List.length_append, List.length_drop, List.length_take, Nat.min_eq_left hg, List.length_nil] at this
      omega) (by rw [List.length_append, List.length_drop, List.length_take]; omega) (B := []) (by simp)
    have e : ((n : Int) - (B.length : Int)) % (A.length : Int) = (((n - B.length) % A.length : Nat) : Int) := by
      rw [← mod_nat]
      congr 1
      omega
    refine ⟨B', A', by rw [KM.spin_seq B A n _ (by omega) k.ne rfl] at h1; exact h1, fun κ m => fr_run (m' := []) hd (body_rt (b_seq (b_drop (b_call (b_two rfl (b_var rfl)) (check_row_ok k))) (b_seq (b_drop (b_call (b_two (b_var rfl) rfl) (check_many_ok n 999999 (by omega)))) (b_seq (s0 _ rfl) (b_seq (b_if0 t rfl) (b_seq (b_set (b_mod (b_sub (b_var rfl) (b_len (b_var rfl))) (b_len (b_var rfl)) (by omega))) (b_ret (b_call (ds := [rz [] (A.drop ((n - B.length) % A.length) ++ A.take ((n - B.length) % A.length))]) (m1 := []) ?_ (h2 [] [])))))))))  (noC_rz _ _) (fre_rz _ _)⟩
    rw [e]
    refine b_one (b_tup (b_two rfl (b_op (b_dropL (b_var rfl) (b_var rfl)) (b_take (b_var rfl) (b_var rfl)) (add_tz [] ?_))) (by simp))
    rw [List.length_drop, List.length_take]
    omega
end
end VK12
namespace KM
/-- two rows, letter by letter in turn -/
def mix (x y : Nat → Int) (j : Nat) : Int := if j % 2 = 0 then x (j / 2) else y (j / 2)
theorem per_mixed {x y : Nat → Int} {m s : Nat} (h : Per x m s) (g : Per y m s) : Per (mix x y) (2 * m) (2 * s) := fun j hj => by
  unfold mix
  have e1 : (j + 2 * s) % 2 = j % 2 := by omega
  have e2 : (j + 2 * s) / 2 = j / 2 + s := by omega
  rw [e1, e2, h (j / 2) (by omega), g (j / 2) (by omega)]
theorem pre_mix (x y : Nat → Int) (i : Nat) : pre (mix x y) (2 * (i + 1)) = pre (mix x y) (2 * i) ++ [x i, y i] := by
  unfold pre
  have e : 2 * (i + 1) = 2 * i + 1 + 1 := by omega
  rw [e, List.range_succ, List.range_succ, List.map_append, List.map_append, List.append_assoc]
  congr 1
  have a1 : mix x y (2 * i) = x i := by unfold mix; rw [if_pos (by omega)]; congr 1; omega
  have a2 : mix x y (2 * i + 1) = y i := by unfold mix; rw [if_neg (by omega)]; congr 1; omega
  rw [List.map_cons, List.map_nil, List.map_cons, List.map_nil, a1, a2]
  rfl
theorem pre_take (x : Nat → Int) {a n : Nat} (h : a ≤ n) : (pre x n).take a = pre x a := by
  unfold pre
  rw [← List.map_take, List.take_range, Nat.min_eq_left h]
theorem pre_drop (x : Nat → Int) (a n : Nat) : (pre x (a + n)).drop a = cyc x a n := by
  unfold pre cyc
  apply List.ext_getElem
  · simp
  · intro i h1 h2
    simp
theorem seq_pc {x : Nat → Int} {m s : Nat} (h : Per x m s) (hs : 1 ≤ s) : seq (pre x m) (cyc x m s) = x := by
  funext i
  have l1 : (pre x m).length = m := by simp [pre]
  have l2 : (cyc x m s).length = s := by simp [cyc]
  unfold seq
  rw [l1, l2]
  by_cases c : i < m
  · rw [if_pos c, List.getD_eq_getElem?_getD]
    simp [pre, c]
  · rw [if_neg c, List.getD_eq_getElem?_getD]
    have hm : (i - m) % s < s := Nat.mod_lt _ hs
    have e : (cyc x m s)[(i - m) % s]? = some (x (m + (i - m) % s)) := by
      unfold cyc
      rw [List.getElem?_map, List.getElem?_range hm]
      rfl
    rw [e]
    have q := per_mul h ((i - m) / s) (m + (i - m) % s) (by omega)
    have e2 : m + (i - m) % s + s * ((i - m) / s) = i := by
      have := Nat.mod_add_div (i - m) s
      omega
    rw [e2] at q
    exact q.symm
end KM
namespace VK12
open PySem DL VM
section
variable {κ : Kp} {m : Mu}
def wvB : SS := (sSeq (sDrop (sApp (sVar 4) (sCall F__letter [] (sCons (sVar 0) (sCons (sVar 5) sNil))))) (sDrop (sApp (sVar 4) (sCall F__letter [] (sCons (sVar 1) (sCons (sVar 5) sNil))))))
def wvI : Sm Wk := (wkRng1 (sOp fAdd (sVar 2) (sVar 3)))
def wvF : Sm Dat := (sCall F_short_enough [] (sCons (sCall F_normal_of [] (sCons (sTup (sCons (sCB fTuple (sCons (sSl (sVar 4) sNoPart (sPart (sOp fMul (sLit (.int 2)) (sVar 2)))) sNil)) (sCons (sCB fTuple (sCons (sSl (sVar 4) (sPart (sOp fMul (sLit (.int 2)) (sVar 2))) sNoPart) sNil)) sNil))) sNil)) sNil))
def wvE : SS := sRet wvF
theorem woven_is : f_woven [] = (sSeq (sDrop (sCall F_check_row [] (sCons (sLit (.int 4)) (sCons (sVar 0) sNil)))) (sSeq (sDrop (sCall F_check_row [] (sCons (sLit (.int 4)) (sCons (sVar 1) sNil)))) (sSeq (sSet 2 (sCB fMax2 (sCons (sCB fLen (sCons (sOp fIx (sVar 0) (sLit (.int 0))) sNil)) (sCons (sCB fLen (sCons (sOp fIx (sVar 1) (sLit (.int 0))) sNil)) sNil)))) (sSeq (sSet 3 (sOp fMul (sCB fLen (sCons (sOp fIx (sVar 0) (sLit (.int 1))) sNil)) (sCB fLen (sCons (sOp fIx (sVar 1) (sLit (.int 1))) sNil)))) (sSeq (sSet 4 (sLstC sNil)) (sSeq (sFor wvI (tgName 5) wvB) wvE)))))) := rfl
abbrev roV (B A B2 A2 : List Int) (a r : Nat) (x : Option Dat) : Ro := [some (rz B A), some (rz B2 A2), some (.int (a : Int)), some (.int (r : Int)), some (.cell 0), x]
abbrev stV (B A B2 A2 : List Int) (i : Nat) : Mu := [some ((KM.pre (KM.mix (KM.seq B A) (KM.seq B2 A2)) (2 * i)).map Dat.int)]
theorem mul_int {i j : Int} (m : Mu) (h : -1000000 < i ∧ i < 1000000) : fMul (.int i) (.int j) m = some (.int (i * j), m) := by
  unfold fMul
  simp only
  unfold fI
  simp only
  rw [if_pos]
  unfold cMul
  rw [decide_eq_true (by omega : -(2 ^ 64) < i), decide_eq_true (by omega : i < 2 ^ 64)]
  rfl
theorem wv_loop {B A B2 A2 : List Int} (hA : A ≠ []) (hA2 : A2 ≠ []) {a r : Nat} (hn : a + r < 100000) : ∃ x, sFor wvI (tgName 5) wvB (roV B A B2 A2 a r none) (stV B A B2 A2 0) = .nx (roV B A B2 A2 a r x) (stV B A B2 A2 (a + r)) := by
  have hI : wvI (roV B A B2 A2 a r none) (stV B A B2 A2 0) = .ok (.rng 0 (a + r)) (stV B A B2 A2 0) := rng1_run (by rw [Int.natCast_add]; exact b_add (b_var rfl) (b_var rfl)) hn
  have st : ∀ i ρ m, i < a + r → ((∃ x, ρ = roV B A B2 A2 a r x) ∧ m = stV B A B2 A2 i) → ∃ ρ1, tgName 5 (.int (0 + i)) ρ m = .ok ρ1 m ∧ OkO (fun ρ m => (∃ x, ρ = roV B A B2 A2 a r x) ∧ m = stV B A B2 A2 (i + 1)) (fun _ _ => False) (wvB ρ1 m) := by
    rintro i ρ m hi ⟨⟨x, rfl⟩, rfl⟩
    refine ⟨roV B A B2 A2 a r (some (.int (i : Int))), by rw [Int.zero_add]; rfl, ?_⟩
    have l0 : lv (stV B A B2 A2 i) (.cell 0) = some ((KM.pre (KM.mix (KM.seq B A) (KM.seq B2 A2)) (2 * i)).map Dat.int) := rfl
    have ln : ((KM.pre (KM.mix (KM.seq B A) (KM.seq B2 A2)) (2 * i)).map Dat.int).length = 2 * i := by simp [KM.pre]
    have s1 : sDrop (sApp (sVar 4) (sCall F__letter [] (sCons (sVar 0) (sCons (sVar 5) sNil)))) (roV B A B2 A2 a r (some (.int (i : Int)))) (stV B A B2 A2 i) = .nx (roV B A B2 A2 a r (some (.int (i : Int)))) [some ((KM.pre (KM.mix (KM.seq B A) (KM.seq B2 A2)) (2 * i)).map Dat.int ++ [.int (KM.seq B A i)])] :=
      b_drop (b_app (b_var rfl) l0 (b_call (b_two (b_var rfl) (b_var rfl)) (letter_ok hA i)) (by rw [ln]; omega))
    have l2 : ((KM.pre (KM.mix (KM.seq B A) (KM.seq B2 A2)) (2 * i)).map Dat.int ++ [Dat.int (KM.seq B A i)]).length < 1000000 := by
      rw [List.length_append, ln]
      show 2 * i + 1 < 1000000
      omega
    have s2 : sDrop (sApp (sVar 4) (sCall F__letter [] (sCons (sVar 1) (sCons (sVar 5) sNil)))) (roV B A B2 A2 a r (some (.int (i : Int)))) [some ((KM.pre (KM.mix (KM.seq B A) (KM.seq B2 A2)) (2 * i)).map Dat.int ++ [.int (KM.seq B A i)])] = .nx (roV B A B2 A2 a r (some (.int (i : Int)))) [some ((KM.pre (KM.mix (KM.seq B A) (KM.seq B2 A2)) (2 * i)).map Dat.int ++ [.int (KM.seq B A i)] ++ [.int (KM.seq B2 A2 i)])] :=
      b_drop (b_app (k := 0) (xs := (KM.pre (KM.mix (KM.seq B A) (KM.seq B2 A2)) (2 * i)).map Dat.int ++ [Dat.int (KM.seq B A i)]) (b_var rfl) rfl (b_call (b_two (b_var rfl) (b_var rfl)) (letter_ok (B := B2) hA2 i)) l2)
    have e : wvB (roV B A B2 A2 a r (some (.int (i : Int)))) (stV B A B2 A2 i) = .nx (roV B A B2 A2 a r (some (.int (i : Int)))) (stV B A B2 A2 (i + 1)) := by
      refine (b_seq s1 s2).trans ?_
      unfold stV
      rw [KM.pre_mix, List.map_append, List.append_assoc]
      rfl
    rw [e]
    exact .nx ⟨⟨_, rfl⟩, rfl⟩
  have loop := @for_rng wvI (tgName 5) wvB (roV B A B2 A2 a r none) (stV B A B2 A2 0) 0 (a + r) (fun i ρ m => (∃ x, ρ = roV B A B2 A2 a r x) ∧ m = stV B A B2 A2 i) (fun _ _ => False) hI (Nat.lt_trans hn (by decide)) ⟨⟨none, rfl⟩, rfl⟩ st
  generalize ho : sFor wvI (tgName 5) wvB (roV B A B2 A2 a r none) (stV B A B2 A2 0) = o at loop
  cases loop with
  | nx h =>
    obtain ⟨⟨x, rfl⟩, rfl⟩ := h
    exact ⟨x, ho.symm ▸ rfl⟩
  | rt h => exact h.elim
theorem woven_ok {B A B2 A2 : List Int} (k : KM.Ok 4 B A) (k2 : KM.Ok 4 B2 A2) (hr : A.length * A2.length ≤ 400) : ∃ B' A', KM.NR (KM.mix (KM.seq B A) (KM.seq B2 A2)) B' A' ∧ ∀ κ m, F_woven κ [rz B A, rz B2 A2] m = shortR B' A' m := by
  have hb := k.lb
  have hb2 := k2.lb
  have hp : 0 < A.length := List.length_pos_iff.mpr k.ne
  have hp2 : 0 < A2.length := List.length_pos_iff.mpr k2.ne
  have hrp : 1 ≤ A.length * A2.length := Nat.mul_pos hp hp2
  generalize hrr : A.length * A2.length = r at hr hrp
  obtain ⟨a, ha1, ha2, ha3, ha4⟩ : ∃ a : Nat, B.length ≤ a ∧ B2.length ≤ a ∧ a ≤ 40 ∧ (if (B2.length : Int) > (B.length : Int) then (B2.length : Int) else (B.length : Int)) = (a : Int) := by
    by_cases c : B.length < B2.length
    · exact ⟨B2.length, by omega, by omega, by omega, by rw [if_pos (by omega)]⟩
    · exact ⟨B.length, by omega, by omega, by omega, by rw [if_neg (by omega)]⟩
  have P1 : KM.Per (KM.seq B A) a r := KM.per_more (by rw [← hrr]; exact KM.per_mul KM.per_seq _) ha1
  have P2 : KM.Per (KM.seq B2 A2) a r := KM.per_more (by rw [← hrr, Nat.mul_comm]; exact KM.per_mul KM.per_seq _) ha2
  have P := KM.per_mixed P1 P2
  have sp := KM.seq_pc P (by omega)
  generalize hx : KM.mix (KM.seq B A) (KM.seq B2 A2) = x at P sp
  have lc : (KM.cyc x (2 * a) (2 * r)).length = 2 * r := by simp [KM.cyc]
  have lp : (KM.pre x (2 * a)).length = 2 * a := by simp [KM.pre]
  obtain ⟨B', A', h1, h2⟩ := normal_ok (A := KM.cyc x (2 * a) (2 * r)) (by intro z; rw [z] at lc; simp at lc; omega) (by omega) (B := KM.pre x (2 * a)) (by omega)
  rw [sp] at h1
  obtain ⟨v5, hl⟩ := wv_loop (B := B) (A := A) (B2 := B2) (A2 := A2) k.ne k2.ne (a := a) (r := r) (by omega)
  refine ⟨B', A', h1, fun κ m => fr_short (s := sNext) (f := wvF) (ρ := roV B A B2 A2 a r v5) (m' := stV B A B2 A2 (a + r)) (by rw [noCells, noC_rz, noCells, noC_rz]; rfl) ?_ ?_⟩
  · rw [woven_is]
    refine (seq_run' (b_drop (b_call (b_two rfl (b_var rfl)) (check_row_ok k)))).trans ?_
    refine (seq_run' (b_drop (b_call (b_two rfl (b_var rfl)) (check_row_ok k2)))).trans ?_
    refine (seq_run' (ρ1 := [some (rz B A), some (rz B2 A2), some (.int (a : Int)), none, none, none]) (m1 := []) ?_).trans ?_
    · rw [← ha4]
      exact b_set (b_cb (b_two (b_len (b_op (b_var rfl) rfl (ix_rz0 B A []))) (b_len (b_op (b_var rfl) rfl (ix_rz0 B2 A2 [])))) rfl)
    refine (seq_run' (ρ1 := [some (rz B A), some (rz B2 A2), some (.int (a : Int)), some (.int (r : Int)), none, none]) (m1 := []) ?_).trans ?_
    · have e : ((A.length : Int) * (A2.length : Int)) = (r : Int) := by rw [← hrr]; rfl
      have la := k.la
      rw [← e]
      exact b_set (b_op (b_len (b_op (b_var rfl) rfl (ix_rz1 B A []))) (b_len (b_op (b_var rfl) rfl (ix_rz1 B2 A2 []))) (mul_int [] (by omega)))
    refine (seq_run' (ρ1 := roV B A B2 A2 a r none) (m1 := stV B A B2 A2 0) rfl).trans ?_
    exact (seq_run' hl).trans rfl
  · have l0 : lv (stV B A B2 A2 (a + r)) (.cell 0) = some ((KM.pre x (2 * (a + r))).map Dat.int) := by rw [← hx]; rfl
    have e2 : ((2 : Int) * (a : Int)) = ((2 * a : Nat) : Int) := by omega
    have m2 : sOp fMul (sLit (.int 2)) (sVar 2) (roV B A B2 A2 a r v5) (stV B A B2 A2 (a + r)) = .ok (.int ((2 * a : Nat) : Int)) (stV B A B2 A2 (a + r)) := by
      rw [← e2]
      exact b_op rfl (b_var rfl) (mul_int _ (by omega))
    have c1 : sCB fTuple (sCons (sSl (sVar 4) sNoPart (sPart (sOp fMul (sLit (.int 2)) (sVar 2)))) sNil) (roV B A B2 A2 a r v5) (stV B A B2 A2 (a + r)) = .ok (tz (KM.pre x (2 * a))) (stV B A B2 A2 (a + r)) :=
      b_cb (b_one (b_sl (b_var rfl) rfl (b_part m2) (sl_lst l0 _ _))) (tuple_lst (by rw [cut_to, KM.pre_take x (by omega)]; rfl))
    have c2 : sCB fTuple (sCons (sSl (sVar 4) (sPart (sOp fMul (sLit (.int 2)) (sVar 2))) sNoPart) sNil) (roV B A B2 A2 a r v5) (stV B A B2 A2 (a + r)) = .ok (tz (KM.cyc x (2 * a) (2 * r))) (stV B A B2 A2 (a + r)) :=
      b_cb (b_one (b_sl (b_var rfl) (b_part m2) rfl (sl_lst l0 _ _))) (tuple_lst (by rw [cut_from, show 2 * (a + r) = 2 * a + 2 * r by omega, KM.pre_drop]; rfl))
    have nf := h2 [] (stV B A B2 A2 (a + r))
    exact b_call (b_one (b_call (b_one (b_tup (b_two c1 c2) (by simp))) nf)) (short_enough_ok B' A')
end
end VK12
namespace VK12
open PySem DL VM
theorem mod_lo {a s : Int} (h : 0 < s) : 0 ≤ a % s := Int.emod_nonneg _ (by omega)
theorem mod_hi {a s : Int} (h : 0 < s) : a % s < s := Int.emod_lt_of_pos _ h
theorem draw_pos (κ : Kp) (a b s : Int) (rest : Mu) (ha : 0 < a) (hs : 0 < s ∧ s < 1073741824) (hst : stb (rest.length + 1) rest = true) :
    F__law_draw κ [.cell 0, .int s] (some [.int a, .int b] :: rest) = .ok (.int (a % s)) (some [.int (a / s), .int b] :: rest) := by
  have hc : cDiv a s = true := by simp [cDiv, hs]
  have h0 : decide ((0 : Int) < a) = true := decide_eq_true ha
  simp [F__law_draw, closeV, bodyV, f__law_draw, startR, sSeq, sIfS, sTest, sOp, sVar, sLit, fIx, fI, sCB, sCons, sNil, fDm, sAsg, R.bind, R.out, R.of2, asB, tgTup, tgs, tgSub, tgName, sRet, sNext, endO, closeR, hc, h0, lv, sq, L2.ixN, L2.atI, dB, cb, cbs, stb, hst, ha]

theorem draw_neg (κ : Kp) (a b s : Int) (rest : Mu) (ha : ¬ 0 < a) (hb : 0 ≤ b ∧ b < 2147483587) (hs : 0 < s ∧ s < 1073741824) (hst : stb (rest.length + 1) rest = true) :
    F__law_draw κ [.cell 0, .int s] (some [.int a, .int b] :: rest) = .ok (.int ((b * 48271 + 19087) % 2147483587 * ((b * 48271 + 19087) % 2147483587) % 2147483549 / 13 % s)) (some [.int a, .int ((b * 48271 + 19087) % 2147483587)] :: rest) := by
  have h1 : cMul b 48271 = true := by simp [cMul]
  have h2 : cMul ((b * 48271 + 19087) % 2147483587) ((b * 48271 + 19087) % 2147483587) = true := by
    have l := mod_lo (a := b * 48271 + 19087) (s := 2147483587) (by decide)
    have u := mod_hi (a := b * 48271 + 19087) (s := 2147483587) (by decide)
    simp only [cMul, Bool.or_eq_true, Bool.and_eq_true, decide_eq_true_eq]
    left; omega
  have h3 : cDiv ((b * 48271 + 19087) % 2147483587 * ((b * 48271 + 19087) % 2147483587) % 2147483549) 13 = true := by simp [cDiv]
  have h4 : ∀ x, cMod x 2147483587 = true := fun x => by simp [cMod]
  have h5 : ∀ x, cMod x 2147483549 = true := fun x => by simp [cMod]
  have h6 : ∀ x, cMod x s = true := fun x => by simp [cMod, hs]
  simp [F__law_draw, closeV, bodyV, f__law_draw, startR, sSeq, sIfS, sTest, sOp, sVar, sLit, fIx, fI, sCB, sCons, sNil, fInt1, fMul, fAdd, sAsg, R.bind, R.out, R.of2, asB, tgSub, sRet, sNext, endO, closeR, lv, sq, L2.ixN, L2.atI, dB, dI, cb, cbs, stb, hst, ha, h1, h2, h3, h4, h5, h6]
/-- a pot -/
def Pot (m : Mu) (rest : Mu) : Prop := ∃ a b : Int, m = some [.int a, .int b] :: rest ∧ 0 ≤ b ∧ b < 2147483587
theorem draw_ok (κ : Kp) {m rest : Mu} {s : Int} (p : Pot m rest) (hs : 0 < s ∧ s < 1073741824) (hst : stb (rest.length + 1) rest = true) : ∃ v m', F__law_draw κ [.cell 0, .int s] m = .ok (.int v) m' ∧ 0 ≤ v ∧ v < s ∧ Pot m' rest := by
  obtain ⟨a, b, rfl, h1, h2⟩ := p
  by_cases ha : 0 < a
  · exact ⟨_, _, draw_pos κ a b s rest ha hs hst, mod_lo hs.1, mod_hi hs.1, _, _, rfl, h1, h2⟩
  · exact ⟨_, _, draw_neg κ a b s rest ha ⟨h1, h2⟩ hs hst, mod_lo hs.1, mod_hi hs.1, _, _, rfl, mod_lo (by decide), mod_hi (by decide)⟩
theorem pot_ok (κ : Kp) (ns : List Int) (hl : ns.length ≤ 63) : ∃ m, F__law_pot κ [.lst (ns.map Dat.int), .int 0] [] = .ok (.cell 0) m ∧ Pot m [] := by
  cases ns with
  | nil => exact ⟨[some [.int 0, .int 731855]], by kernel_rfl, 0, 731855, rfl, by decide, by decide⟩
  | cons i ns =>
    have hz : (List.map Dat.int ns).length + 1 ≤ sizeLine := by rw [List.length_map, sizeLine_eq]; simp at hl; omega
    have hpos : (0 : Int) < (ns.length : Int) + 1 := by omega
    have h5 : ∀ x, cMod x 2147483549 = true := fun x => by simp [cMod]
    have h6 : ∀ x, cMod x 2147483543 = true := fun x => by simp [cMod]
    have h7 : ∀ x, cMul x 827 = true := fun x => by simp [cMul]
    have h8 : cPow 10 18 = true := by decide
    have h9 : 2 ≤ sizeLine := by decide
    generalize hj : (if i < 0 then -i else i) = j
    refine ⟨[some [.int (if j - 1000000000000000000 > 0 then j - 1000000000000000000 else 0), .int ((j % 2147483549 * 827 + 1613) % 2147483543 + 1)]], ?_, _, _, rfl, ?_, ?_⟩
    · simp [F__law_pot, closeV, bodyV, f__law_pot, startR, sSeq, sIfS, sTest, sOp, sVar, sLit, fIx, fI, sCB, sCons, sNil, fInt1, fMul, fAdd, fAbs, fMax2, fLen, sSet, R.bind, R.out, R.of2, asB, sRet, sNext, endO, closeR, lv, sq, L2.ixN, L2.atI, dB, dI, cb, cbs, stb, sLstC, hpos, h5, h6, h7, h8, h9, hj, cMul]
    · have := mod_lo (a := j % 2147483549 * 827 + 1613) (s := 2147483543) (by decide); omega
    · have := mod_hi (a := j % 2147483549 * 827 + 1613) (s := 2147483543) (by decide); omega
end VK12
namespace VK12
open PySem DL VM
section
variable {κ : Kp} {m : Mu}
theorem for_rngD {it : Sm Wk} {g : SG} {b : SS} {ρ : Ro} {m m1 : Mu} {lo : Int} {N : Nat} {I : Nat → Ro → Mu → Prop} {R : Dat → Mu → Prop} (hit : it ρ m = .ok (.rng lo N) m1) (hN : N < FUEL) (h0 : I 0 ρ m1)
    (step : ∀ i ρ m, i < N → I i ρ m → ∃ ρ1, g (.int (lo + i)) ρ m = .ok ρ1 m ∧ OkO (I (i + 1)) R (b ρ1 m)) : OkO (I N) R (sFor it g b ρ m) := by
  unfold sFor
  rw [hit]
  show OkO (I N) R (forL (.rng lo N) g b FUEL 0 ρ m1)
  exact forL_run (fun i m h => rng_at lo m h) (rng_end lo N) step FUEL 0 ρ m1 (Nat.zero_le _) (by omega) h0
theorem OkO.nx_only {I : Ro → Mu → Prop} {o : Out} (h : OkO I (fun _ _ => False) o) : ∃ ρ m, o = .nx ρ m ∧ I ρ m := by
  cases h with
  | nx h => exact ⟨_, _, rfl, h⟩
  | rt h => exact h.elim
theorem draw0 (κ : Kp) {m : Mu} {s : Int} (p : Pot m []) (hs : 0 < s ∧ s < 1000) : ∃ (v : Nat) (m' : Mu), F__law_draw κ [.cell 0, .int s] m = .ok (.int (v : Int)) m' ∧ (v : Int) < s ∧ Pot m' [] := by
  obtain ⟨v, m', h1, h2, h3, h4⟩ := draw_ok κ p (s := s) ⟨hs.1, by omega⟩ rfl
  exact ⟨v.toNat, m', by rw [Int.toNat_of_nonneg h2]; exact h1, by rw [Int.toNat_of_nonneg h2]; exact h3, h4⟩
def wdI (κ : Kp) : Sm Wk := (wkRng1 (sOp fAdd (sVar 2) (sCall F__law_draw κ (sCons (sVar 0) (sCons (sOp fAdd (sOp (fI (fun _ _ => true) (dI (fun i j => i - j))) (sVar 3) (sVar 2)) (sLit (.int 1))) sNil)))))
def wdB (κ : Kp) : SS := (sSet 4 (sOp fAdd (sVar 4) (sTup (sCons (sCall F__law_draw κ (sCons (sVar 0) (sCons (sVar 1) sNil))) sNil))))
theorem word_is (κ : Kp) : f__law_word κ = sSeq (sSet 4 (sTup sNil)) (sSeq (sFor (wdI κ) (tgName 5) (wdB κ)) (sRet (sVar 4))) := rfl
def wdJ (L : Int) (lo hi : Nat) (i : Nat) (ρ : Ro) (m : Mu) : Prop := Pot m [] ∧ ∃ (xs : List Int) (x : Option Dat), ρ = [some (.cell 0), some (.int L), some (.int (lo : Int)), some (.int (hi : Int)), some (tz xs), x] ∧ xs.length = i ∧ Let L xs
theorem wd_step {L : Int} (hL : 0 < L ∧ L < 1000) {lo hi N : Nat} (hN : N ≤ 1000) : ∀ i ρ m, i < N → wdJ L lo hi i ρ m → ∃ ρ1, tgName 5 (.int (0 + i)) ρ m = .ok ρ1 m ∧ OkO (wdJ L lo hi (i + 1)) (fun _ _ => False) (wdB κ ρ1 m) := by
  rintro i ρ m hi1 ⟨hp, xs, x, rfl, hx, ha⟩
  obtain ⟨v, m', h1, h2, h3⟩ := draw0 κ hp hL
  refine ⟨_, rfl, ?_⟩
  have e : wdB κ [some (.cell 0), some (.int L), some (.int (lo : Int)), some (.int (hi : Int)), some (tz xs), some (.int (0 + (i : Int)))] m = .nx [some (.cell 0), some (.int L), some (.int (lo : Int)), some (.int (hi : Int)), some (tz (xs ++ [(v : Int)])), some (.int (0 + (i : Int)))] m' :=
    b_set (b_op (e := tz [(v : Int)]) (b_var rfl) (b_tup (b_one (b_call (b_two (b_var rfl) (b_var rfl)) h1)) (by simp)) (add_tz m' (by simp; omega)))
  show OkO _ _ (wdB κ [some (.cell 0), some (.int L), some (.int (lo : Int)), some (.int (hi : Int)), some (tz xs), some (.int (0 + (i : Int)))] m)
  rw [e]
  refine .nx ⟨h3, _, _, rfl, by rw [List.length_append, hx]; rfl, fun c hc => ?_⟩
  rcases List.mem_append.mp hc with q | q
  · exact ha c q
  · rw [List.mem_singleton.mp q]; exact ⟨Int.natCast_nonneg v, h2⟩
theorem word_ok (κ : Kp) {L : Int} (hL : 0 < L ∧ L < 1000) {lo hi : Nat} (h : lo ≤ hi) (hh : hi ≤ 100) (hp : Pot m []) : ∃ (xs : List Int) (m' : Mu), F__law_word κ [.cell 0, .int L, .int (lo : Int), .int (hi : Int)] m = .ok (tz xs) m' ∧ Pot m' [] ∧ lo ≤ xs.length ∧ xs.length ≤ hi ∧ Let L xs := by
  obtain ⟨v, m1, h1, h2, h3⟩ := draw0 κ (s := (hi : Int) - lo + 1) hp (by omega)
  have hI : wdI κ [some (.cell 0), some (.int L), some (.int (lo : Int)), some (.int (hi : Int)), some (tz []), none] m = .ok (.rng 0 (lo + v)) m1 :=
    rng1_run (by rw [Int.natCast_add]; exact b_add (b_var rfl) (b_call (b_two (b_var rfl) (b_add (b_sub (b_var rfl) (b_var rfl)) rfl)) h1)) (by omega)
  have loop := @for_rngD (wdI κ) (tgName 5) (wdB κ) [some (.cell 0), some (.int L), some (.int (lo : Int)), some (.int (hi : Int)), some (tz []), none] m m1 0 (lo + v) (wdJ L lo hi) (fun _ _ => False) hI (Nat.lt_of_lt_of_le (show lo + v < 1000 by omega) (by decide)) ⟨h3, [], none, rfl, rfl, fun c hc => nomatch hc⟩ (wd_step hL (by omega))
  obtain ⟨ρ, m', ho, hq, xs, x, rfl, hx, ha⟩ := OkO.nx_only loop
  refine ⟨xs, m', ?_, hq, by omega, by omega, ha⟩
  show endO (f__law_word κ (startR 6 [.cell 0, .int L, .int (lo : Int), .int (hi : Int)]) m) = _
  rw [word_is]
  have e : sSeq (sSet 4 (sTup sNil)) (sSeq (sFor (wdI κ) (tgName 5) (wdB κ)) (sRet (sVar 4))) (startR 6 [.cell 0, .int L, .int (lo : Int), .int (hi : Int)]) m = .rt (tz xs) m' :=
    b_seq (ρ1 := [some (.cell 0), some (.int L), some (.int (lo : Int)), some (.int (hi : Int)), some (tz []), none]) (m1 := m) (b_set (b_tup b_nil (by simp))) (b_seq ho (b_ret (b_var rfl)))
  rw [e]
  rfl
theorem rep_let {L : Int} {A : List Int} (h : Let L A) (k : Nat) : Let L (List.replicate k A).flatten := fun c hc => by
  obtain ⟨l, hl, hc⟩ := List.mem_flatten.mp hc
  rw [List.eq_of_mem_replicate hl] at hc
  exact h c hc
theorem rep_length (A : List Int) : ∀ k : Nat, (List.replicate k A).flatten.length = k * A.length := KM.rep_len A
theorem row_ok (κ : Kp) {L : Int} (hL : 0 < L ∧ L < 1000) {Q : Nat} (h1Q : 1 ≤ Q) (hQ : Q ≤ 10) (hp : Pot m []) : ∃ (B A : List Int) (m' : Mu), F__law_row κ [.cell 0, .int L, .int (Q : Int)] m = .ok (rz B A) m' ∧ Pot m' [] ∧ B.length ≤ 2 * Q ∧ 1 ≤ A.length ∧ A.length ≤ 2 * Q ∧ Let L B ∧ Let L A := by
  obtain ⟨B, m1, w1, p1, b1, b2, b3⟩ := word_ok κ hL (Nat.zero_le Q) (by omega) hp
  obtain ⟨A, m2, w2, p2, a1, a2, a3⟩ := word_ok κ hL h1Q (by omega) p1
  obtain ⟨v, m3, d1, d2, p3⟩ := draw0 κ (s := 4) p2 (by decide)
  have s1 : sPar 3 4 (sCons (sCall F__law_word κ (sCons (sVar 0) (sCons (sVar 1) (sCons (sLit (.int 0)) (sCons (sVar 2) sNil))))) (sCons (sCall F__law_word κ (sCons (sVar 0) (sCons (sVar 1) (sCons (sLit (.int 1)) (sCons (sVar 2) sNil))))) sNil)) (startR 6 [.cell 0, .int L, .int (Q : Int)]) m = .nx [some (.cell 0), some (.int L), some (.int (Q : Int)), some (tz B), some (tz A), none] m2 := by
    have e1 : sCall F__law_word κ (sCons (sVar 0) (sCons (sVar 1) (sCons (sLit (.int 0)) (sCons (sVar 2) sNil)))) (startR 6 [.cell 0, .int L, .int (Q : Int)]) m = .ok (tz B) m1 := b_call (b_cons (b_var rfl) (b_cons (b_var rfl) (b_cons rfl (b_one (b_var rfl))))) w1
    have e2 : sCall F__law_word κ (sCons (sVar 0) (sCons (sVar 1) (sCons (sLit (.int 1)) (sCons (sVar 2) sNil)))) (startR 6 [.cell 0, .int L, .int (Q : Int)]) m1 = .ok (tz A) m2 := b_call (b_cons (b_var rfl) (b_cons (b_var rfl) (b_cons rfl (b_one (b_var rfl))))) w2
    have e := b_two e1 e2
    unfold sPar
    rw [e]
    rfl
  have s2 : sSet 5 (sCall F__law_draw κ (sCons (sVar 0) (sCons (sLit (.int 4)) sNil))) [some (.cell 0), some (.int L), some (.int (Q : Int)), some (tz B), some (tz A), none] m2 = .nx [some (.cell 0), some (.int L), some (.int (Q : Int)), some (tz B), some (tz A), some (.int (v : Int))] m3 := b_set (b_call (b_two (b_var rfl) rfl) d1)
  have fin : ∀ {o : Out} {B A : List Int} {m' : Mu}, f__law_row κ (startR 6 [.cell 0, .int L, .int (Q : Int)]) m = .rt (rz B A) m' → F__law_row κ [.cell 0, .int L, .int (Q : Int)] m = .ok (rz B A) m' := fun h => by
    show endO (f__law_row κ (startR 6 [.cell 0, .int L, .int (Q : Int)]) m) = _
    rw [h]
    rfl
  have t0 : ∀ (c : Int) {ρ : Ro} {m : Mu}, ρ[5]? = some (some (.int (v : Int))) → sTest (sOp fEq (sVar 5) (sLit (.int c))) ρ m = .ok (decide ((v : Int) = c)) m := fun c {ρ m} h => b_test (b_op (b_var h) rfl (eq_int m _ _))
  by_cases c0 : v = 0
  · obtain ⟨u, m4, e1, e2, p4⟩ := draw0 κ (s := 2) p3 (by decide)
    have k1 := t0 0 (ρ := [some (.cell 0), some (.int L), some (.int (Q : Int)), some (tz B), some (tz A), some (.int (v : Int))]) (m := m3) rfl
    rw [decide_eq_true (by omega)] at k1
    have k2 := t0 1 (ρ := [some (.cell 0), some (.int L), some (.int (Q : Int)), some (tz B), some (tz (List.replicate (u + 1) A).flatten), some (.int (v : Int))]) (m := m4) rfl
    rw [decide_eq_false (by omega)] at k2
    have hne : A ≠ [] := fun z => by rw [z] at a1; simp at a1
    have e3 : ((1 : Int) + (u : Int)) = ((u + 1 : Nat) : Int) := by omega
    have hu : u + 1 ≤ 2 := by omega
    have hle : (u + 1) * A.length ≤ 2 * A.length := Nat.mul_le_mul_right _ hu
    have hge : 1 * A.length ≤ (u + 1) * A.length := Nat.mul_le_mul_right _ (by omega)
    refine ⟨B, (List.replicate (u + 1) A).flatten, m4, fin (o := .no) (b_seq s1 (b_seq s2 (b_seq (b_if1 k1 (b_set (b_op (b_var rfl) (by rw [← e3]; exact b_add rfl (b_call (b_two (b_var rfl) rfl) e1)) (rep_tz m4 hne (by omega) (by omega) (by omega))))) (b_seq (b_if0 k2 rfl) (b_ret (b_tup (b_two (b_var rfl) (b_var rfl)) (by simp))))))), p4, by omega, by rw [rep_length]; omega, by rw [rep_length]; omega, b3, rep_let a3 _⟩
  · have k1 := t0 0 (ρ := [some (.cell 0), some (.int L), some (.int (Q : Int)), some (tz B), some (tz A), some (.int (v : Int))]) (m := m3) rfl
    rw [decide_eq_false (by omega)] at k1
    have k2 := t0 1 (ρ := [some (.cell 0), some (.int L), some (.int (Q : Int)), some (tz B), some (tz A), some (.int (v : Int))]) (m := m3) rfl
    by_cases c1 : v = 1
    · rw [decide_eq_true (by omega)] at k2
      refine ⟨B ++ A, A, m3, fin (o := .no) (b_seq s1 (b_seq s2 (b_seq (b_if0 k1 rfl) (b_seq (b_if1 k2 (b_set (b_op (b_var rfl) (b_var rfl) (add_tz m3 (by omega))))) (b_ret (b_tup (b_two (b_var rfl) (b_var rfl)) (by simp))))))), p3, by rw [List.length_append]; omega, a1, by omega, fun c hc => ?_, a3⟩
      rcases List.mem_append.mp hc with q | q
      · exact b3 c q
      · exact a3 c q
    · rw [decide_eq_false (by omega)] at k2
      exact ⟨B, A, m3, fin (o := .no) (b_seq s1 (b_seq s2 (b_seq (b_if0 k1 rfl) (b_seq (b_if0 k2 rfl) (b_ret (b_tup (b_two (b_var rfl) (b_var rfl)) (by simp))))))), p3, by omega, a1, by omega, b3, a3⟩
end
end VK12
namespace KM
theorem pre_mid (x : Nat → Int) {a c N : Nat} (h : a + c ≤ N) : ((pre x N).drop a).take c = cyc x a c := by
  have e : N = a + (N - a) := by omega
  rw [e, pre_drop]
  unfold cyc
  rw [← List.map_take, List.take_range, Nat.min_eq_left (by omega)]
theorem cyc_eq {x : Nat → Int} {a b c : Nat} : cyc x a c = cyc x b c ↔ ∀ i, i < c → x (a + i) = x (b + i) := by
  unfold cyc
  rw [List.map_inj_left]
  constructor
  · exact fun h i hi => h i (List.mem_range.mpr hi)
  · exact fun h i hi => h i (List.mem_range.mp hi)
end KM
namespace VK12
open PySem DL VM
section
variable {κ : Kp} {m : Mu}
theorem frz_ints (m : Mu) (n : Nat) : ∀ xs : List Int, optAll (frz m (n + 1)) (xs.map Dat.int) = some (xs.map Dat.int)
  | [] => rfl
  | x :: xs => by
    rw [List.map_cons]
    unfold optAll
    rw [frz_ints m n xs]
    rfl
/-- a list of ints, a cell or not, and two numbers: what the frame makes of them -/
theorem frA_list {d : Dat} {xs : List Int} {b n : Int} (h : lv m d = some (xs.map Dat.int)) : frA m [d, .int b, .int n] = some [.lst (xs.map Dat.int), .int b, .int n] := by
  cases d with
  | lst ys =>
    have : ys = xs.map Dat.int := Option.some.inj h
    subst this
    exact frA_no (by rw [noCells, noCell, noC_ints]; rfl)
  | cell k =>
    unfold frA
    have e : noCells [Dat.cell k, .int b, .int n] = false := rfl
    rw [e]
    simp only [optAll]
    have e2 : frz m 60 (.cell k) = some (.lst (xs.map Dat.int)) := by
      unfold frz
      simp only
      rw [h]
      simp only
      rw [frz_ints m 58 xs]
      rfl
    rw [e2]
    rfl
  | _ => cases h
theorem frame_okA {φ : Fv} {ds es : List Dat} {d : Dat} (hA : frA m ds = some es) (h : φ [] es [] = .ok d []) (hf : fre d = true) (hn : noCell d = true) : frameV φ κ ds m = .ok d m := by
  unfold frameV
  rw [hA]
  simp only
  rw [h]
  show (match fre d && frem [] with | true => _ | false => _) = _
  rw [hf]
  show R.ok (sh m.length d) (m ++ shm m.length []) = _
  rw [sh_no _ hn]
  show R.ok d (m ++ []) = _
  rw [List.append_nil]
def lnT : SS := (sIfS (sTest (sOp fEq (sSl (sVar 0) (sPart (sVar 3)) (sPart (sOp fAdd (sOp fAdd (sVar 1) (sVar 2)) (sLit (.int 1))))) (sSl (sVar 0) (sPart (sOp fAdd (sVar 3) (sVar 4))) (sPart (sOp fAdd (sOp fAdd (sOp fAdd (sVar 1) (sVar 2)) (sLit (.int 1))) (sVar 4)))))) (sRet (sTup (sCons (sCB fTuple (sCons (sSl (sVar 0) sNoPart (sPart (sVar 3))) sNil)) (sCons (sCB fTuple (sCons (sSl (sVar 0) (sPart (sVar 3)) (sPart (sOp fAdd (sVar 3) (sVar 4)))) sNil)) sNil)))) sNext)
def lnI : Sm Wk := (wkRng2 (sLit (.int 1)) (sOp fAdd (sVar 2) (sLit (.int 1))))
def lnO : SS := sFor lnI (tgName 4) lnT
def lnJ : Sm Wk := (wkRng1 (sOp fAdd (sVar 1) (sLit (.int 1))))
theorem ln_is : f__law_normal [] = sSeq (sFor lnJ (tgName 3) lnO) (sRet (sLit .non)) := rfl
abbrev roL (w : List Int) (b n : Nat) (x3 x4 : Option Dat) : Ro := [some (.lst (w.map Dat.int)), some (.int (b : Int)), some (.int (n : Int)), x3, x4]
def lnR (x : Nat → Int) (d : Dat) (m : Mu) : Prop := m = [] ∧ ∃ B' A', d = rz B' A' ∧ KM.NR x B' A'
theorem slL {f : Sm Dat} {lo hi : Sm (Option Int)} {ρ : Ro} {m : Mu} {w : List Int} {p q : Option Int} (h : f ρ m = .ok (.lst (w.map Dat.int)) m) (h1 : lo ρ m = .ok p m) (h2 : hi ρ m = .ok q m) : sSl f lo hi ρ m = .ok (.lst ((DL.cut w p q).map Dat.int)) m := b_sl h h1 h2 (sl_lst rfl p q)
theorem ln_test {x : Nat → Int} {N b n m0 s : Nat} (hN : b + n + 1 + n ≤ N) (hm : m0 ≤ b) (hs : s ≤ n) (P : KM.Per x b n) (hn : 1 ≤ n) : sTest (sOp fEq (sSl (sVar 0) (sPart (sVar 3)) (sPart (sOp fAdd (sOp fAdd (sVar 1) (sVar 2)) (sLit (.int 1))))) (sSl (sVar 0) (sPart (sOp fAdd (sVar 3) (sVar 4))) (sPart (sOp fAdd (sOp fAdd (sOp fAdd (sVar 1) (sVar 2)) (sLit (.int 1))) (sVar 4))))) (roL (KM.pre x N) b n (some (.int (m0 : Int))) (some (.int (s : Int)))) [] = .ok (decide (KM.cyc x m0 (b + n + 1 - m0) = KM.cyc x (m0 + s) (b + n + 1 - m0))) [] := by
  have e1 : ((b : Int) + (n : Int) + 1) = ((b + n + 1 : Nat) : Int) := by omega
  have e2 : ((m0 : Int) + (s : Int)) = ((m0 + s : Nat) : Int) := by omega
  have e3 : ((b : Int) + (n : Int) + 1 + (s : Int)) = ((b + n + 1 + s : Nat) : Int) := by omega
  have s1 := slL (f := sVar 0) (lo := sPart (sVar 3)) (hi := sPart (sOp fAdd (sOp fAdd (sVar 1) (sVar 2)) (sLit (.int 1)))) (ρ := roL (KM.pre x N) b n (some (.int (m0 : Int))) (some (.int (s : Int)))) (m := []) (w := KM.pre x N) (b_var rfl) (b_part (b_var rfl)) (b_part (b_add (b_add (b_var rfl) (b_var rfl)) rfl))
  have s2 := slL (f := sVar 0) (lo := sPart (sOp fAdd (sVar 3) (sVar 4))) (hi := sPart (sOp fAdd (sOp fAdd (sOp fAdd (sVar 1) (sVar 2)) (sLit (.int 1))) (sVar 4))) (ρ := roL (KM.pre x N) b n (some (.int (m0 : Int))) (some (.int (s : Int)))) (m := []) (w := KM.pre x N) (b_var rfl) (b_part (b_add (b_var rfl) (b_var rfl))) (b_part (b_add (b_add (b_add (b_var rfl) (b_var rfl)) rfl) (b_var rfl)))
  rw [e1, cut_mid, KM.pre_mid x (by omega)] at s1
  rw [e2, e3, cut_mid, KM.pre_mid x (by omega), show b + n + 1 + s - (m0 + s) = b + n + 1 - m0 by omega] at s2
  exact b_test (b_op s1 s2 (eq_lst rfl rfl))
theorem ln_ret {x : Nat → Int} {N b n m0 s : Nat} (hN : b + n + 1 + n ≤ N) (hm : m0 ≤ b) (hs : s ≤ n) : sRet (sTup (sCons (sCB fTuple (sCons (sSl (sVar 0) sNoPart (sPart (sVar 3))) sNil)) (sCons (sCB fTuple (sCons (sSl (sVar 0) (sPart (sVar 3)) (sPart (sOp fAdd (sVar 3) (sVar 4)))) sNil)) sNil))) (roL (KM.pre x N) b n (some (.int (m0 : Int))) (some (.int (s : Int)))) [] = .rt (rz (KM.pre x m0) (KM.cyc x m0 s)) [] := by
  have e2 : ((m0 : Int) + (s : Int)) = ((m0 + s : Nat) : Int) := by omega
  have s1 := slL (f := sVar 0) (lo := sNoPart) (hi := sPart (sVar 3)) (ρ := roL (KM.pre x N) b n (some (.int (m0 : Int))) (some (.int (s : Int)))) (m := []) (w := KM.pre x N) (b_var rfl) rfl (b_part (b_var rfl))
  have s2 := slL (f := sVar 0) (lo := sPart (sVar 3)) (hi := sPart (sOp fAdd (sVar 3) (sVar 4))) (ρ := roL (KM.pre x N) b n (some (.int (m0 : Int))) (some (.int (s : Int)))) (m := []) (w := KM.pre x N) (b_var rfl) (b_part (b_var rfl)) (b_part (b_add (b_var rfl) (b_var rfl)))
  rw [cut_to, KM.pre_take x (by omega)] at s1
  rw [e2, cut_mid, KM.pre_mid x (by omega), show m0 + s - m0 = s by omega] at s2
  exact b_ret (b_tup (b_two (b_cb (b_one s1) (tuple_lst rfl)) (b_cb (b_one s2) (tuple_lst rfl))) (by simp))
def lnQ (x : Nat → Int) (N b n m0 : Nat) (j : Nat) (ρ : Ro) (m : Mu) : Prop := m = [] ∧ (∃ x4, ρ = roL (KM.pre x N) b n (some (.int (m0 : Int))) x4) ∧ ∀ s', 1 ≤ s' → s' ≤ j → ¬ KM.Per x m0 s'
def lnP (x : Nat → Int) (N b n : Nat) (j : Nat) (ρ : Ro) (m : Mu) : Prop := m = [] ∧ (∃ x3 x4, ρ = roL (KM.pre x N) b n x3 x4) ∧ ∀ m' s', m' < j → 1 ≤ s' → s' ≤ n → ¬ KM.Per x m' s'
theorem ln_in {x : Nat → Int} {N b n m0 : Nat} (hN : b + n + 1 + n ≤ N) (hm : m0 ≤ b) (P : KM.Per x b n) (hn : 1 ≤ n) (h1 : ∀ m' s', m' < m0 → 1 ≤ s' → s' ≤ n → ¬ KM.Per x m' s') : ∀ i ρ m, i < n → lnQ x N b n m0 i ρ m → ∃ ρ1, tgName 4 (.int (1 + i)) ρ m = .ok ρ1 m ∧ OkO (lnQ x N b n m0 (i + 1)) (lnR x) (lnT ρ1 m) := by
  rintro i ρ m hi ⟨rfl, ⟨x4, rfl⟩, hno⟩
  have e : (1 + (i : Int)) = ((i + 1 : Nat) : Int) := by omega
  refine ⟨roL (KM.pre x N) b n (some (.int (m0 : Int))) (some (.int ((i + 1 : Nat) : Int))), by rw [e]; rfl, ?_⟩
  have t := ln_test (N := N) hN hm (s := i + 1) (by omega) P hn
  have w : KM.cyc x m0 (b + n + 1 - m0) = KM.cyc x (m0 + (i + 1)) (b + n + 1 - m0) ↔ KM.Per x m0 (i + 1) := KM.cyc_eq.trans (KM.win_per P hm hn)
  unfold lnT
  by_cases c : KM.Per x m0 (i + 1)
  · rw [decide_eq_true (w.mpr c)] at t
    rw [b_if1 t (ln_ret hN hm (by omega))]
    exact .rt ⟨rfl, _, _, rfl, m0, i + 1, KM.found P hn (by omega) hm c h1 (fun s' a b => hno s' a (by omega)), rfl, rfl⟩
  · rw [decide_eq_false (fun z => c (w.mp z))] at t
    rw [b_if0 t rfl]
    refine .nx ⟨rfl, ⟨_, rfl⟩, fun s' a b q => ?_⟩
    by_cases z : s' = i + 1
    · subst z; exact c q
    · exact hno s' a (by omega) q
theorem ln_out {x : Nat → Int} {N b n : Nat} (hN : b + n + 1 + n ≤ N) (hz : N < 10000) (P : KM.Per x b n) (hn : 1 ≤ n) : ∀ i ρ m, i < b + 1 → lnP x N b n i ρ m → ∃ ρ1, tgName 3 (.int (0 + i)) ρ m = .ok ρ1 m ∧ OkO (lnP x N b n (i + 1)) (lnR x) (lnO ρ1 m) := by
  rintro i ρ m hi ⟨rfl, ⟨x3, x4, rfl⟩, hno⟩
  refine ⟨roL (KM.pre x N) b n (some (.int (i : Int))) x4, by rw [Int.zero_add]; rfl, ?_⟩
  have hI : lnI (roL (KM.pre x N) b n (some (.int (i : Int))) x4) [] = .ok (.rng 1 n) [] := rng2_run rfl (b_add (b_var rfl) rfl) (by omega)
  have loop := @for_rng lnI (tgName 4) lnT (roL (KM.pre x N) b n (some (.int (i : Int))) x4) [] 1 n (lnQ x N b n i) (lnR x) hI (Nat.lt_of_lt_of_le (show n < 10000 by omega) (by decide)) ⟨rfl, ⟨x4, rfl⟩, fun s' a b => by omega⟩ (ln_in hN (by omega) P hn hno)
  generalize ho : sFor lnI (tgName 4) lnT (roL (KM.pre x N) b n (some (.int (i : Int))) x4) [] = o at loop
  have e : lnO (roL (KM.pre x N) b n (some (.int (i : Int))) x4) [] = o := ho
  rw [e]
  cases loop with
  | nx h =>
    obtain ⟨rfl, ⟨x5, rfl⟩, h3⟩ := h
    refine .nx ⟨rfl, ⟨_, _, rfl⟩, fun m' s' a b c => ?_⟩
    by_cases z : m' = i
    · subst z; exact h3 s' b c
    · exact hno m' s' (by omega) b c
  | rt h => exact .rt h
theorem law_normal_ok {x : Nat → Int} {N b n : Nat} (hN : b + n + 1 + n ≤ N) (hz : N < 10000) (P : KM.Per x b n) (hn : 1 ≤ n) : ∃ B' A', KM.NR x B' A' ∧ ∀ (κ : Kp) (m : Mu) (d : Dat), lv m d = some ((KM.pre x N).map Dat.int) → F__law_normal κ [d, .int (b : Int), .int (n : Int)] m = .ok (rz B' A') m := by
  have hJ : lnJ (roL (KM.pre x N) b n none none) [] = .ok (.rng 0 (b + 1)) [] := rng1_run (by rw [Int.natCast_add]; exact b_add (b_var rfl) rfl) (by omega)
  have loop := @for_rng lnJ (tgName 3) lnO (roL (KM.pre x N) b n none none) [] 0 (b + 1) (lnP x N b n) (lnR x) hJ (Nat.lt_of_lt_of_le (show b + 1 < 10000 by omega) (by decide)) ⟨rfl, ⟨none, none, rfl⟩, fun m' s' a => absurd a (Nat.not_lt_zero m')⟩ (ln_out hN hz P hn)
  generalize ho : sFor lnJ (tgName 3) lnO (roL (KM.pre x N) b n none none) [] = o at loop
  cases loop with
  | nx h => exact absurd P (h.2.2 b n (by omega) hn (Nat.le_refl n))
  | rt h =>
    obtain ⟨rfl, B', A', rfl, hq⟩ := h
    refine ⟨B', A', hq, fun κ m d hd => frame_okA (frA_list hd) (close_ok (m' := []) ?_ (noC_rz _ _)) (fre_rz _ _) (noC_rz _ _)⟩
    show endO (f__law_normal [] (startR 5 [.lst ((KM.pre x N).map Dat.int), .int (b : Int), .int (n : Int)]) []) = _
    rw [ln_is]
    have e : sSeq (sFor lnJ (tgName 3) lnO) (sRet (sLit .non)) (startR 5 [.lst ((KM.pre x N).map Dat.int), .int (b : Int), .int (n : Int)]) [] = .rt (rz B' A') [] := b_rt ho
    rw [e]
    rfl
end
end VK12
namespace VK12
open PySem DL VM
section
variable {κ : Kp} {m : Mu}
def itA (κ : Kp) : SS := (sSet 5 (sAct LAM κ (sVar 0)))
def itH (x : Ex) : SS := (sRet (sAnd (sOp (fI (fun _ _ => true) (dB (fun i j => decide (j < i)))) (sCB fMax2 (sCons (sCB fLen (sCons (sOp fIx (sVar 4) (sLit (.int 0))) sNil)) (sCons (sCB fLen (sCons (sOp fIx (sVar 4) (sLit (.int 1))) sNil)) sNil))) (sLit (.int 40))) (sOp fEq (sTup (sCons (sXf x 1) (sCons (sXf x 0) sNil))) (sTup (sCons (sLit (.str "letters")) (sCons (sLit (.int 40)) sNil))))))
def itE : SS := (sRet (sAnd (sOp fEq (sVar 5) (sVar 4)) (sOp (fI (fun _ _ => true) (dB (fun i j => decide (i ≤ j)))) (sCB fMax2 (sCons (sCB fLen (sCons (sOp fIx (sVar 4) (sLit (.int 0))) sNil)) (sCons (sCB fLen (sCons (sOp fIx (sVar 4) (sLit (.int 1))) sNil)) sNil))) (sLit (.int 40)))))
def itN (κ : Kp) : SS := (sSet 4 (sCall F__law_normal κ (sCons (sVar 1) (sCons (sVar 2) (sCons (sVar 3) sNil)))))
theorem it_is (κ : Kp) : f__law_is_told κ = sSeq (itN κ) (sSeq (sSet 5 (sLit (.str "many"))) (sSeq (sTryAs (only 0) 6 (itA κ) itH) itE)) := rfl
theorem max_due {B A : List Int} {ρ : Ro} (h : ρ[4]? = some (some (rz B A))) : sCB fMax2 (sCons (sCB fLen (sCons (sOp fIx (sVar 4) (sLit (.int 0))) sNil)) (sCons (sCB fLen (sCons (sOp fIx (sVar 4) (sLit (.int 1))) sNil)) sNil)) ρ m = .ok (.int (if (A.length : Int) > (B.length : Int) then (A.length : Int) else (B.length : Int))) m :=
  b_cb (b_two (b_len (b_op (b_var h) rfl (ix_rz0 B A m))) (b_len (b_op (b_var h) rfl (ix_rz1 B A m)))) rfl
theorem max_fits (B A : List Int) : ((if (A.length : Int) > (B.length : Int) then (A.length : Int) else (B.length : Int)) ≤ 40) ↔ fits B A := by
  unfold fits
  split <;> omega
theorem close_same {φ : Fv} {ds : List Dat} {b : Bool} (h : φ κ ds m = .ok (.bl b) m) : closeV φ κ ds m = .ok (.bl b) m := by
  unfold closeV
  rw [h]
  unfold closeR
  simp only
  split
  · rw [List.take_length]
  · rfl
theorem act_run {l : Nat} {ks : List (Nat × Nat)} {caps : List (Option Dat)} {ρ : Ro} {r : R Dat} (h0 : ρ[0]? = some (some (.clo l ks))) (h1 : capsOf κ ks = some caps) (h2 : LAM l caps m = r) : sAct LAM κ (sVar 0) ρ m = r := by
  unfold sAct
  rw [b_var h0]
  simp only [R.bind]
  rw [h1]
  exact h2
theorem try_nx {mt : Nat → Option Bool} {i : Nat} {f : SS} {su : Ex → SS} {ρ ρ1 : Ro} {m m1 : Mu} (h : f ρ m = .nx ρ1 m1) : sTryAs mt i f su ρ m = .nx ρ1 m1 := by unfold sTryAs; rw [h]
theorem try_exc {i : Nat} {f : SS} {su : Ex → SS} {ρ ρ1 : Ro} {m m1 : Mu} {d : Dat} {m2 : Mu} (h : f ρ m = .exc exTM ρ1 m1) (hi : i < ρ1.length) (h2 : su exTM (ρ1.set i none) m1 = .rt d m2) : sTryAs (only 0) i f su ρ m = .rt d m2 := by
  unfold sTryAs
  rw [h]
  have e : only 0 exTM.C = some true := rfl
  simp only [e, if_pos hi]
  rw [h2]
  rfl
theorem eq_what (m : Mu) : fEq (.tup [.str "letters", .int 40]) (.tup [.str "letters", .int 40]) m = some (.bl true, m) := by kernel_rfl
theorem told_body {l : Nat} {ks : List (Nat × Nat)} {caps : List (Option Dat)} {d : Dat} {b n : Int} {B A : List Int} (h1 : capsOf κ ks = some caps) (h2 : LAM l caps m = shortR B A m) (hn : F__law_normal κ [d, .int b, .int n] m = .ok (rz B A) m) : f__law_is_told κ (startR 7 [.clo l ks, d, .int b, .int n]) m = .rt (.bl true) m := by
  rw [it_is]
  have s1 : itN κ (startR 7 [.clo l ks, d, .int b, .int n]) m = .nx [some (.clo l ks), some d, some (.int b), some (.int n), some (rz B A), none, none] m := b_set (b_call (b_cons (b_var rfl) (b_two (b_var rfl) (b_var rfl))) hn)
  have s2 : sSet 5 (sLit (.str "many")) [some (.clo l ks), some d, some (.int b), some (.int n), some (rz B A), none, none] m = .nx [some (.clo l ks), some d, some (.int b), some (.int n), some (rz B A), some (.str "many"), none] m := b_set rfl
  refine b_seq s1 (b_seq s2 ?_)
  unfold shortR at h2
  by_cases c : fits B A
  · rw [if_pos c] at h2
    have s3 : itA κ [some (.clo l ks), some d, some (.int b), some (.int n), some (rz B A), some (.str "many"), none] m = .nx [some (.clo l ks), some d, some (.int b), some (.int n), some (rz B A), some (rz B A), none] m := b_set (act_run rfl h1 h2)
    refine b_seq (try_nx s3) ?_
    have e1 := eq_rz m B A B A
    rw [decide_eq_true ⟨rfl, rfl⟩] at e1
    have e2 := b_fI (C := fun _ _ => true) (G := dB (fun i j => decide (i ≤ j))) (g := sLit (.int 40)) (y := 40) (m2 := m) (max_due (m := m) (B := B) (A := A) (ρ := [some (.clo l ks), some d, some (.int b), some (.int n), some (rz B A), some (rz B A), none]) rfl) rfl rfl
    refine b_ret (b_and1 (b_op (b_var rfl) (b_var rfl) e1) (e2.trans ?_))
    show R.ok (Dat.bl (decide _)) m = _
    rw [decide_eq_true ((max_fits B A).mpr c)]
  · rw [if_neg c] at h2
    have s3 : itA κ [some (.clo l ks), some d, some (.int b), some (.int n), some (rz B A), some (.str "many"), none] m = .exc exTM [some (.clo l ks), some d, some (.int b), some (.int n), some (rz B A), some (.str "many"), none] m := by
      have a := act_run (ρ := [some (.clo l ks), some d, some (.int b), some (.int n), some (rz B A), some (.str "many"), none]) rfl h1 h2
      unfold itA sSet
      rw [a]
      rfl
    refine b_rt (try_exc s3 (show 6 < 7 by decide) ?_)
    have e2 := b_fI (C := fun _ _ => true) (G := dB (fun i j => decide (j < i))) (g := sLit (.int 40)) (y := 40) (m2 := m) (max_due (m := m) (B := B) (A := A) (ρ := [some (.clo l ks), some d, some (.int b), some (.int n), some (rz B A), some (.str "many"), none]) rfl) rfl rfl
    have z : ¬ (if (A.length : Int) > (B.length : Int) then (A.length : Int) else (B.length : Int)) ≤ 40 := fun z => c ((max_fits B A).mp z)
    have e3 : sOp (fI (fun _ _ => true) (dB (fun i j => decide (j < i)))) (sCB fMax2 (sCons (sCB fLen (sCons (sOp fIx (sVar 4) (sLit (.int 0))) sNil)) (sCons (sCB fLen (sCons (sOp fIx (sVar 4) (sLit (.int 1))) sNil)) sNil))) (sLit (.int 40)) [some (.clo l ks), some d, some (.int b), some (.int n), some (rz B A), some (.str "many"), none] m = .ok (.bl true) m := by
      refine e2.trans ?_
      show R.ok (Dat.bl (decide _)) m = _
      rw [decide_eq_true (by omega)]
    exact b_ret (b_and1 e3 (b_op (b_tup (b_two (d := .str "letters") (e := .int 40) rfl rfl) (by simp)) (b_tup (b_two rfl rfl) (by simp)) (eq_what m)))
theorem told_ok {l : Nat} {k : Nat × Nat} {ks : List (Nat × Nat)} {caps : List (Option Dat)} {x : Nat → Int} {N b n : Nat} {d : Dat} {B A : List Int} (hN : b + n + 1 + n ≤ N) (hz : N < 10000) (P : KM.Per x b n) (hn : 1 ≤ n) (hq : KM.NR x B A) (hd : lv m d = some ((KM.pre x N).map Dat.int)) (h1 : capsOf κ (k :: ks) = some caps) (h2 : LAM l caps m = shortR B A m) : F__law_is_told κ [.clo l (k :: ks), d, .int (b : Int), .int (n : Int)] m = .ok (.bl true) m := by
  obtain ⟨B', A', hq2, hF⟩ := law_normal_ok hN hz P hn
  obtain ⟨rfl, rfl⟩ := hq.unique hq2
  have body : closeV (bodyV 7 f__law_is_told) κ [.clo l (k :: ks), d, .int (b : Int), .int (n : Int)] m = .ok (.bl true) m := by
    refine close_same ?_
    unfold bodyV
    rw [told_body h1 h2 (hF κ m d hd)]
    rfl
  show frameV (closeV (bodyV 7 f__law_is_told)) κ [.clo l (k :: ks), d, .int (b : Int), .int (n : Int)] m = _
  unfold frameV
  cases d with
  | lst ys =>
    have e : frA m [Dat.clo l (k :: ks), .lst ys, .int (b : Int), .int (n : Int)] = none := rfl
    rw [e]
    exact body
  | cell j =>
    have e : frA m [Dat.clo l (k :: ks), .cell j, .int (b : Int), .int (n : Int)] = none := rfl
    rw [e]
    exact body
  | _ => cases hd
end
end VK12
namespace VK12
open PySem DL VM
section
variable {κ : Kp} {m : Mu}
theorem ncl_ints : ∀ xs : List Int, ncls (xs.map Dat.int) = true
  | [] => rfl
  | x :: xs => by rw [List.map_cons, ncls, ncl_ints xs]; rfl
theorem ncl_rz (B A : List Int) : ncl (rz B A) = true := by rw [ncl, ncls, ncl, ncl_ints, ncls, ncl, ncl_ints]; rfl
theorem b_lst {h : Sm (List Dat)} {ρ : Ro} {m m1 : Mu} {ds : List Dat} (q : h ρ m = .ok ds m1) (q2 : ds.length ≤ 1000000) : sLst h ρ m = .ok (.lst ds) m1 := by
  unfold sLst; rw [q]; simp only [R.bind]; rw [if_pos (by rw [sizeLine_eq]; omega)]
theorem b_par {i j : Nat} {fs : Sm (List Dat)} {ρ : Ro} {m m1 : Mu} {a b : Dat} (q : fs ρ m = .ok [a, b] m1) : sPar i j fs ρ m = .nx ((ρ.set i (some a)).set j (some b)) m1 := by
  unfold sPar; rw [q]; rfl
theorem b_pm {is : List Nat} {fs : Sm (List Dat)} {ρ : Ro} {m m1 : Mu} {ds : List Dat} (q : fs ρ m = .ok ds m1) : sPm is fs ρ m = .ok (pm is ds) m1 := by
  unfold sPm; rw [q]; rfl
theorem b_callK {φ : Fv} {is : List Nat} {h : Sm (List Dat)} {ρ : Ro} {m m1 : Mu} {ds : List Dat} {r : R Dat} (q : h ρ m = .ok ds m1) (q2 : φ (κ ++ [rowK is ρ]) ds m1 = r) : sCallK φ is κ h ρ m = r := by
  unfold sCallK; rw [q]; exact q2
theorem b_slS {f : Sm Dat} {lo hi st : Sm (Option Int)} {ρ : Ro} {m : Mu} {d z : Dat} {x y t : Option Int} (q : f ρ m = .ok d m) (q2 : lo ρ m = .ok x m) (q3 : hi ρ m = .ok y m) (q4 : st ρ m = .ok t m) (q5 : fSlS d x y t m = some (z, m)) : sSlS f lo hi st ρ m = .ok z m := by
  unfold sSlS; rw [q]; simp only [R.bind]; rw [q2]; simp only [R.bind]; rw [q3]; simp only [R.bind]; rw [q4]; simp only [R.bind]; rw [q5]; rfl
theorem pick_even (X Y : Nat → Int) : pick ((KM.pre (KM.mix X Y) 40).map Dat.int) none none (some 2) = (KM.pre X 20).map Dat.int := by kernel_rfl
theorem pick_odd (X Y : Nat → Int) : pick ((KM.pre (KM.mix X Y) 40).map Dat.int) (some 1) none (some 2) = (KM.pre Y 20).map Dat.int := by kernel_rfl
theorem ok_nr {x : Nat → Int} {B A : List Int} (hx : ∀ i, 0 ≤ x i ∧ x i < 4) (h : KM.NR x B A) (f : fits B A) : KM.Ok 4 B A := by
  obtain ⟨p, s, n, rfl, rfl⟩ := h
  refine ⟨f.1, f.2, fun z => ?_, fun c hc => ?_, fun c hc => ?_⟩
  · have := congrArg List.length z
    have l : (KM.cyc x p s).length = s := by simp [KM.cyc]
    rw [l] at this
    have := n.pos
    simp at *
    omega
  · obtain ⟨i, _, rfl⟩ := List.mem_map.mp hc
    exact hx i
  · obtain ⟨i, _, rfl⟩ := List.mem_map.mp hc
    exact hx _
def wrI : Sm Wk := (wkRng1 (sOp fAdd (sOp fAdd (sVar 2) (sOp fMul (sLit (.int 3)) (sVar 3))) (sLit (.int 1))))
def wrB : SS := (sDrop (sExt (sVar 4) (sLst (sCons (sCall F__law_at [] (sCons (sVar 0) (sCons (sVar 5) sNil))) (sCons (sCall F__law_at [] (sCons (sVar 1) (sCons (sVar 5) sNil))) sNil)))))
def wrP : SS := (sPar 2 3 (sCons (sCB fMax2 (sCons (sCB fLen (sCons (sOp fIx (sVar 0) (sLit (.int 0))) sNil)) (sCons (sCB fLen (sCons (sOp fIx (sVar 1) (sLit (.int 0))) sNil)) sNil))) (sCons (sOp fMul (sCB fLen (sCons (sOp fIx (sVar 0) (sLit (.int 1))) sNil)) (sCB fLen (sCons (sOp fIx (sVar 1) (sLit (.int 1))) sNil))) sNil)))
def wrQ : SS := (sPar 6 7 (sCons (sOp fMul (sLit (.int 2)) (sVar 2)) (sCons (sOp fMul (sLit (.int 2)) (sVar 3)) sNil)))
def wrK : Sm Dat := (sCallK F__law_is_told [0, 1] [] (sCons (sClo 1 [0, 1] []) (sCons (sVar 4) (sCons (sVar 6) (sCons (sVar 7) sNil)))))
def wrN : SS := (sSet 8 (sCall F__law_normal [] (sCons (sVar 4) (sCons (sVar 6) (sCons (sVar 7) sNil)))))
def wrT : Sm Bool := (sTest (sOp (fI (fun _ _ => true) (dB (fun i j => decide (j < i)))) (sCB fMax2 (sCons (sCB fLen (sCons (sOp fIx (sVar 8) (sLit (.int 0))) sNil)) (sCons (sCB fLen (sCons (sOp fIx (sVar 8) (sLit (.int 1))) sNil)) sNil))) (sLit (.int 40))))
def wrS : SS := (sSet 9 (sCall F_spelled [] (sCons (sCall F_woven [] (sPm [1, 0] (sCons (sVar 1) (sCons (sVar 0) sNil)))) (sCons (sLit (.int 40)) sNil))))
def wrE : SS := (sRet (sAnd (sOp fEq (sSlS (sVar 9) sNoPart sNoPart (sPart (sLit (.int 2)))) (sCall F__law_spelled [] (sCons (sVar 0) (sCons (sLit (.int 20)) sNil)))) (sOp fEq (sSlS (sVar 9) (sPart (sLit (.int 1))) sNoPart (sPart (sLit (.int 2)))) (sCall F__law_spelled [] (sCons (sVar 1) (sCons (sLit (.int 20)) sNil))))))
theorem wr_is : f__law_woven_right [] = sSeq wrP (sSeq (sSet 4 (sLstC sNil)) (sSeq (sFor wrI (tgName 5) wrB) (sSeq wrQ (sSeq (sIfS (sNotT (sTru wrK)) (sRet (sLit (.bl false))) sNext) (sSeq wrN (sSeq (sIfS wrT (sRet (sLit (.bl true))) sNext) (sSeq wrS wrE))))))) := rfl
abbrev roW (B A B2 A2 : List Int) (a r : Nat) (x5 x6 x7 x8 x9 : Option Dat) : Ro := [some (rz B A), some (rz B2 A2), some (.int (a : Int)), some (.int (r : Int)), some (.cell 0), x5, x6, x7, x8, x9]
theorem wr_loop {B A B2 A2 : List Int} (hA : A ≠ []) (hA2 : A2 ≠ []) {a r : Nat} (hn : a + 3 * r + 1 < 10000) : ∃ x, sFor wrI (tgName 5) wrB (roW B A B2 A2 a r none none none none none) (stV B A B2 A2 0) = .nx (roW B A B2 A2 a r x none none none none) (stV B A B2 A2 (a + 3 * r + 1)) := by
  have e3 : ((a : Int) + 3 * (r : Int) + 1) = ((a + 3 * r + 1 : Nat) : Int) := by omega
  have hI : wrI (roW B A B2 A2 a r none none none none none) (stV B A B2 A2 0) = .ok (.rng 0 (a + 3 * r + 1)) (stV B A B2 A2 0) := rng1_run (by rw [← e3]; exact b_add (b_add (b_var rfl) (b_op rfl (b_var rfl) (mul_int _ (by decide)))) rfl) (by omega)
  have st : ∀ i ρ m, i < a + 3 * r + 1 → ((∃ x, ρ = roW B A B2 A2 a r x none none none none) ∧ m = stV B A B2 A2 i) → ∃ ρ1, tgName 5 (.int (0 + i)) ρ m = .ok ρ1 m ∧ OkO (fun ρ m => (∃ x, ρ = roW B A B2 A2 a r x none none none none) ∧ m = stV B A B2 A2 (i + 1)) (fun _ _ => False) (wrB ρ1 m) := by
    rintro i ρ m hi ⟨⟨x, rfl⟩, rfl⟩
    refine ⟨roW B A B2 A2 a r (some (.int (i : Int))) none none none none, by rw [Int.zero_add]; rfl, ?_⟩
    have l0 : lv (stV B A B2 A2 i) (.cell 0) = some ((KM.pre (KM.mix (KM.seq B A) (KM.seq B2 A2)) (2 * i)).map Dat.int) := rfl
    have ln : ((KM.pre (KM.mix (KM.seq B A) (KM.seq B2 A2)) (2 * i)).map Dat.int).length = 2 * i := by simp [KM.pre]
    have s1 : wrB (roW B A B2 A2 a r (some (.int (i : Int))) none none none none) (stV B A B2 A2 i) = .nx (roW B A B2 A2 a r (some (.int (i : Int))) none none none none) [some ((KM.pre (KM.mix (KM.seq B A) (KM.seq B2 A2)) (2 * i)).map Dat.int ++ [.int (KM.seq B A i), .int (KM.seq B2 A2 i)])] :=
      b_drop (b_ext (k := 0) (b_var rfl) l0 (b_lst (b_two (b_call (b_two (b_var rfl) (b_var rfl)) (law_at_ok hA i)) (b_call (b_two (b_var rfl) (b_var rfl)) (law_at_ok hA2 i))) (by simp)) l0 rfl (by rw [ln]; show 2 * i + 2 ≤ 1000000; omega))
    have e : wrB (roW B A B2 A2 a r (some (.int (i : Int))) none none none none) (stV B A B2 A2 i) = .nx (roW B A B2 A2 a r (some (.int (i : Int))) none none none none) (stV B A B2 A2 (i + 1)) := by
      refine s1.trans ?_
      unfold stV
      rw [KM.pre_mix, List.map_append]
      rfl
    rw [e]
    exact .nx ⟨⟨_, rfl⟩, rfl⟩
  have loop := @for_rng wrI (tgName 5) wrB (roW B A B2 A2 a r none none none none none) (stV B A B2 A2 0) 0 (a + 3 * r + 1) (fun i ρ m => (∃ x, ρ = roW B A B2 A2 a r x none none none none) ∧ m = stV B A B2 A2 i) (fun _ _ => False) hI (Nat.lt_trans hn (by decide)) ⟨⟨none, rfl⟩, rfl⟩ st
  obtain ⟨ρ, m', ho, ⟨x, rfl⟩, rfl⟩ := OkO.nx_only loop
  exact ⟨x, ho⟩
theorem woven_right_ok {B A B2 A2 : List Int} (k : KM.Ok 4 B A) (k2 : KM.Ok 4 B2 A2) (hr : A.length * A2.length ≤ 400) : F__law_woven_right κ [rz B A, rz B2 A2] m = .ok (.bl true) m := by
  obtain ⟨B', A', hq, hW⟩ := woven_ok k k2 hr
  have hb := k.lb
  have hb2 := k2.lb
  have hp : 0 < A.length := List.length_pos_iff.mpr k.ne
  have hp2 : 0 < A2.length := List.length_pos_iff.mpr k2.ne
  have hrp : 1 ≤ A.length * A2.length := Nat.mul_pos hp hp2
  have hla := k.la
  have eR : ((A.length : Int) * (A2.length : Int)) = ((A.length * A2.length : Nat) : Int) := rfl
  have P1 : ∀ a, B.length ≤ a → KM.Per (KM.seq B A) a (A.length * A2.length) := fun a h => KM.per_more (KM.per_mul KM.per_seq _) h
  have P2 : ∀ a, B2.length ≤ a → KM.Per (KM.seq B2 A2) a (A.length * A2.length) := fun a h => KM.per_more (by rw [Nat.mul_comm]; exact KM.per_mul KM.per_seq _) h
  have mulE : sOp fMul (sCB fLen (sCons (sOp fIx (sVar 0) (sLit (.int 1))) sNil)) (sCB fLen (sCons (sOp fIx (sVar 1) (sLit (.int 1))) sNil)) (startR 10 [rz B A, rz B2 A2]) [] = .ok (.int ((A.length * A2.length : Nat) : Int)) [] := by
    rw [← eR]
    exact b_op (b_len (b_op (b_var rfl) rfl (ix_rz1 B A []))) (b_len (b_op (b_var rfl) rfl (ix_rz1 B2 A2 []))) (mul_int [] (by omega))
  generalize A.length * A2.length = r at hr hrp P1 P2 mulE
  obtain ⟨a, ha1, ha2, ha3, ha4⟩ : ∃ a : Nat, B.length ≤ a ∧ B2.length ≤ a ∧ a ≤ 40 ∧ (if (B2.length : Int) > (B.length : Int) then (B2.length : Int) else (B.length : Int)) = (a : Int) := by
    by_cases c : B.length < B2.length
    · exact ⟨B2.length, by omega, by omega, by omega, by rw [if_pos (by omega)]⟩
    · exact ⟨B.length, by omega, by omega, by omega, by rw [if_neg (by omega)]⟩
  have P := KM.per_mixed (P1 a ha1) (P2 a ha2)
  have s1 : wrP (startR 10 [rz B A, rz B2 A2]) [] = .nx [some (rz B A), some (rz B2 A2), some (.int (a : Int)), some (.int (r : Int)), none, none, none, none, none, none] [] := by
    have q1 : sCB fMax2 (sCons (sCB fLen (sCons (sOp fIx (sVar 0) (sLit (.int 0))) sNil)) (sCons (sCB fLen (sCons (sOp fIx (sVar 1) (sLit (.int 0))) sNil)) sNil)) (startR 10 [rz B A, rz B2 A2]) [] = .ok (.int (a : Int)) [] := by
      rw [← ha4]
      exact b_cb (b_two (b_len (b_op (b_var rfl) rfl (ix_rz0 B A []))) (b_len (b_op (b_var rfl) rfl (ix_rz0 B2 A2 [])))) rfl
    exact b_par (b_two q1 mulE)
  have s2 : sSet 4 (sLstC sNil) [some (rz B A), some (rz B2 A2), some (.int (a : Int)), some (.int (r : Int)), none, none, none, none, none, none] [] = .nx (roW B A B2 A2 a r none none none none none) (stV B A B2 A2 0) := rfl
  obtain ⟨x5, s3⟩ := wr_loop (B := B) (A := A) (B2 := B2) (A2 := A2) k.ne k2.ne (a := a) (r := r) (by omega)
  generalize hM : stV B A B2 A2 (a + 3 * r + 1) = M at s3
  have hl : lv M (.cell 0) = some ((KM.pre (KM.mix (KM.seq B A) (KM.seq B2 A2)) (2 * (a + 3 * r + 1))).map Dat.int) := by rw [← hM]; rfl
  have hML : M.length = 1 := by rw [← hM]; rfl
  have e2a : ((2 : Int) * (a : Int)) = ((2 * a : Nat) : Int) := by omega
  have e2r : ((2 : Int) * (r : Int)) = ((2 * r : Nat) : Int) := by omega
  have s4 : wrQ (roW B A B2 A2 a r x5 none none none none) M = .nx (roW B A B2 A2 a r x5 (some (.int ((2 * a : Nat) : Int))) (some (.int ((2 * r : Nat) : Int))) none none) M := by
    rw [← e2a, ← e2r]
    exact b_par (b_two (b_op rfl (b_var rfl) (mul_int _ (by decide))) (b_op rfl (b_var rfl) (mul_int _ (by decide))))
  have hk : wrK (roW B A B2 A2 a r x5 (some (.int ((2 * a : Nat) : Int))) (some (.int ((2 * r : Nat) : Int))) none none) M = .ok (.bl true) M := by
    refine b_callK (ds := [.clo 1 [(0, 0), (0, 1)], .cell 0, .int ((2 * a : Nat) : Int), .int ((2 * r : Nat) : Int)]) (m1 := M) (b_cons rfl (b_cons (b_var rfl) (b_two (b_var rfl) (b_var rfl)))) ?_
    refine told_ok (caps := [some (rz B A), some (rz B2 A2)]) (by omega) (by omega) P (by omega) hq hl rfl ?_
    show lf_1 [] [some (rz B A), some (rz B2 A2)] M = _
    exact b_call (b_two (b_var rfl) (b_var rfl)) (hW [] M)
  have hn : wrN (roW B A B2 A2 a r x5 (some (.int ((2 * a : Nat) : Int))) (some (.int ((2 * r : Nat) : Int))) none none) M = .nx (roW B A B2 A2 a r x5 (some (.int ((2 * a : Nat) : Int))) (some (.int ((2 * r : Nat) : Int))) (some (rz B' A')) none) M := by
    obtain ⟨B3, A3, hq3, hF⟩ := law_normal_ok (x := KM.mix (KM.seq B A) (KM.seq B2 A2)) (N := 2 * (a + 3 * r + 1)) (b := 2 * a) (n := 2 * r) (by omega) (by omega) P (by omega)
    obtain ⟨rfl, rfl⟩ := hq.unique hq3
    exact b_set (b_call (b_cons (b_var rfl) (b_two (b_var rfl) (b_var rfl))) (hF [] M _ hl))
  have ht : wrT (roW B A B2 A2 a r x5 (some (.int ((2 * a : Nat) : Int))) (some (.int ((2 * r : Nat) : Int))) (some (rz B' A')) none) M = .ok (decide (40 < (if (A'.length : Int) > (B'.length : Int) then (A'.length : Int) else (B'.length : Int)))) M :=
    gt_lens (b_cb (b_two (b_len (b_op (b_var rfl) rfl (ix_rz0 B' A' M))) (b_len (b_op (b_var rfl) rfl (ix_rz1 B' A' M)))) rfl) rfl
  have goal : ∃ mF, f__law_woven_right [] (startR 10 [rz B A, rz B2 A2]) [] = .rt (.bl true) mF := by
    rw [wr_is]
    by_cases c : fits B' A'
    · rw [decide_eq_false (by have := (max_fits B' A').mpr c; omega)] at ht
      have kw : KM.Ok 4 B' A' := ok_nr (fun i => by unfold KM.mix; split; exact k.at _; exact k2.at _) hq c
      have hsp := spelled_ok (κ := []) (m := M) kw (n := 40) (by decide)
      rw [KM.nr_seq hq, hML] at hsp
      have hs : wrS (roW B A B2 A2 a r x5 (some (.int ((2 * a : Nat) : Int))) (some (.int ((2 * r : Nat) : Int))) (some (rz B' A')) none) M = .nx (roW B A B2 A2 a r x5 (some (.int ((2 * a : Nat) : Int))) (some (.int ((2 * r : Nat) : Int))) (some (rz B' A')) (some (.cell 1))) (M ++ [some ((KM.pre (KM.mix (KM.seq B A) (KM.seq B2 A2)) 40).map Dat.int)]) := by
        refine b_set (b_call (b_two (b_call (b_pm (b_two (b_var rfl) (b_var rfl))) (r := .ok (rz B' A') M) ?_) rfl) hsp)
        have := hW [] M
        unfold shortR at this
        rw [if_pos c] at this
        exact this
      generalize hm2 : M ++ [some ((KM.pre (KM.mix (KM.seq B A) (KM.seq B2 A2)) 40).map Dat.int)] = M2 at hs
      have hl1 : ∀ tl, lv (M2 ++ tl) (.cell 1) = some ((KM.pre (KM.mix (KM.seq B A) (KM.seq B2 A2)) 40).map Dat.int) := fun tl => by
        rw [← hm2]
        obtain ⟨o, rfl⟩ := List.length_eq_one_iff.mp hML
        rfl
      have g1 := law_spelled_ok (κ := []) (m := M2) (B := B) (A := A) k.ne (n := 20) (by decide)
      generalize hm3 : M2 ++ [some ((KM.pre (KM.seq B A) 20).map Dat.int)] = M3 at g1
      have g2 := law_spelled_ok (κ := []) (m := M3) (B := B2) (A := A2) k2.ne (n := 20) (by decide)
      have p1 : fSlS (.cell 1) none none (some 2) M2 = some (.lst ((KM.pre (KM.seq B A) 20).map Dat.int), M2) := by
        unfold fSlS
        have := hl1 []
        rw [List.append_nil] at this
        rw [this]
        simp only
        rw [pick_even]
        rfl
      have p2 : fSlS (.cell 1) (some 1) none (some 2) M3 = some (.lst ((KM.pre (KM.seq B2 A2) 20).map Dat.int), M3) := by
        unfold fSlS
        rw [← hm3, hl1]
        simp only
        rw [pick_odd]
        rfl
      have q1 : fEq (.lst ((KM.pre (KM.seq B A) 20).map Dat.int)) (.cell M2.length) M3 = some (.bl true, M3) := by
        have := eq_lst (m := M3) (d := .lst ((KM.pre (KM.seq B A) 20).map Dat.int)) (e := .cell M2.length) (xs := KM.pre (KM.seq B A) 20) (ys := KM.pre (KM.seq B A) 20) rfl (by rw [← hm3]; simp [lv])
        rw [decide_eq_true rfl] at this
        exact this
      have q2 : fEq (.lst ((KM.pre (KM.seq B2 A2) 20).map Dat.int)) (.cell M3.length) (M3 ++ [some ((KM.pre (KM.seq B2 A2) 20).map Dat.int)]) = some (.bl true, M3 ++ [some ((KM.pre (KM.seq B2 A2) 20).map Dat.int)]) := by
        have := eq_lst (m := M3 ++ [some ((KM.pre (KM.seq B2 A2) 20).map Dat.int)]) (d := .lst ((KM.pre (KM.seq B2 A2) 20).map Dat.int)) (e := .cell M3.length) (xs := KM.pre (KM.seq B2 A2) 20) (ys := KM.pre (KM.seq B2 A2) 20) rfl (by simp [lv])
        rw [decide_eq_true rfl] at this
        exact this
      exact ⟨_, b_seq s1 (b_seq s2 (b_seq s3 (b_seq s4 (b_seq (b_if0 (b_notT (b_tru hk)) rfl) (b_seq hn (b_seq (b_if0 ht rfl) (b_seq hs (b_ret (b_and1 (b_op (b_slS (b_var rfl) rfl rfl (b_part rfl) p1) (b_call (b_two (b_var rfl) rfl) g1) q1) (b_op (b_slS (b_var rfl) (b_part rfl) rfl (b_part rfl) p2) (b_call (b_two (b_var rfl) rfl) g2) q2))))))))))⟩
    · rw [decide_eq_true (by have : ¬ _ := fun z => c ((max_fits B' A').mp z); omega)] at ht
      exact ⟨_, b_seq s1 (b_seq s2 (b_seq s3 (b_seq s4 (b_seq (b_if0 (b_notT (b_tru hk)) rfl) (b_seq hn (b_rt (b_if1 ht (b_ret rfl))))))))⟩
  obtain ⟨mF, hF⟩ := goal
  refine frame_ok (by rw [noCells, noC_rz, noCells, noC_rz]; rfl) ?_ rfl rfl
  have hc : closeV (bodyV 10 f__law_woven_right) [] [rz B A, rz B2 A2] [] = .ok (.bl true) [] := close_ok (m' := mF) (by unfold bodyV; rw [hF]; rfl) rfl
  unfold makeV
  have hnc : (ncls [rz B A, rz B2 A2] && (nclm [] && ([] : Kp).all nclr)) = true := by rw [ncls, ncl_rz, ncls, ncl_rz]; rfl
  rw [hnc]
  simp only
  rw [hc]
  rfl
end
end VK12
namespace KM
theorem app_seq (W B A : List Int) : (fun i => seq (W ++ B) A (i + W.length)) = seq B A := by
  rw [← drop_seq (W ++ B) A W.length (by simp)]
  rw [List.drop_left]
theorem app_pre (W B A : List Int) (n : Nat) : pre (seq (W ++ B) A) (W.length + n) = W ++ pre (seq B A) n := by
  have h1 : (pre (seq (W ++ B) A) (W.length + n)).take W.length = W := by
    rw [pre_take _ (by omega)]
    have := pre_seq (W ++ B) A
    have h2 : (pre (seq (W ++ B) A) (W ++ B).length).take W.length = W := by rw [this, List.take_left]
    rw [pre_take _ (by simp)] at h2
    exact h2
  have h3 : (pre (seq (W ++ B) A) (W.length + n)).drop W.length = pre (seq B A) n := by
    rw [pre_drop]
    unfold cyc pre
    have e := app_seq W B A
    apply List.map_congr_left
    intro i _
    have := congrFun e i
    rw [← this, Nat.add_comm]
  rw [← List.take_append_drop W.length (pre (seq (W ++ B) A) (W.length + n)), h1, h3]
end KM
namespace VK12
open PySem DL VM
section
def arK : Sm Dat := (sCallK F__law_is_told [2, 3] [] (sCons (sClo 0 [0, 1] []) (sCons (sVar 6) (sCons (sVar 4) (sCons (sVar 5) sNil)))))
def ar1 : SS := (sSet 3 (sCall F__law_word [] (sCons (sVar 0) (sCons (sVar 1) (sCons (sLit (.int 0)) (sCons (sLit (.int 6)) sNil))))))
def ar2 : SS := (sIfS (sTest (sOp fEq (sCall F__law_draw [] (sCons (sVar 0) (sCons (sLit (.int 2)) sNil))) (sLit (.int 0)))) (sSet 3 (sOp fAdd (sVar 3) (sOp fIx (sVar 2) (sLit (.int 1))))) sNext)
def ar3 : SS := (sPar 4 5 (sCons (sOp fAdd (sCB fLen (sCons (sVar 3) sNil)) (sCB fLen (sCons (sOp fIx (sVar 2) (sLit (.int 0))) sNil))) (sCons (sCB fLen (sCons (sOp fIx (sVar 2) (sLit (.int 1))) sNil)) sNil)))
def ar4 : SS := (sSet 6 (sOp fAdd (sCB fList (sCons (sVar 3) sNil)) (sCall F__law_spelled [] (sCons (sVar 2) (sCons (sOp fAdd (sOp fAdd (sCB fLen (sCons (sOp fIx (sVar 2) (sLit (.int 0))) sNil)) (sOp fMul (sLit (.int 3)) (sVar 5))) (sLit (.int 2))) sNil)))))
def ar6 : SS := (sSet 7 (sCall F_put_ahead [] (sPm [1, 0] (sCons (sVar 2) (sCons (sCB fList (sCons (sVar 3) sNil)) sNil)))))
def ar7 : Sm Bool := (sTest (sOp fNe (sCall F_spelled [] (sCons (sVar 7) (sCons (sLit (.int 30)) sNil))) (sSl (sOp fAdd (sCB fList (sCons (sVar 3) sNil)) (sCall F__law_spelled [] (sCons (sVar 2) (sCons (sLit (.int 30)) sNil)))) sNoPart (sPart (sLit (.int 30))))))
def ar8 : SS := (sRet (sOp fEq (sCall F_turned_on [] (sCons (sVar 7) (sCons (sCB fLen (sCons (sVar 3) sNil)) sNil))) (sCall F_normal_row [] (sCons (sVar 2) sNil))))
theorem ar_is : f__law_ahead_right [] = sSeq ar1 (sSeq ar2 (sSeq ar3 (sSeq ar4 (sSeq (sIfS (sNotT (sTru arK)) (sRet (sLit (.bl false))) sNext) (sSeq ar6 (sSeq (sIfS ar7 (sRet (sLit (.bl false))) sNext) ar8)))))) := rfl
abbrev roA (L : Int) (B A : List Int) (x3 x4 x5 x6 x7 : Option Dat) : Ro := [some (.cell 0), some (.int L), some (rz B A), x3, x4, x5, x6, x7]
theorem list_tz (m : Mu) (W : List Int) : fList [tz W] m = some (.lst (W.map Dat.int), m) := rfl
theorem add_lsts {m : Mu} {d e : Dat} {xs ys : List Int} (h1 : lv m d = some (xs.map Dat.int)) (h2 : lv m e = some (ys.map Dat.int)) (hd : ∀ zs, d ≠ .tup zs) (hl : xs.length + ys.length ≤ 100000) : fAdd d e m = some (.lst ((xs ++ ys).map Dat.int), m) := by
  have e0 : fAdd d e m = fCatL d e m := by
    cases d with
    | lst _ => rfl
    | cell _ => rfl
    | _ => cases h1
  rw [e0]
  unfold fCatL
  rw [h1, h2]
  simp only [List.length_map]
  rw [if_pos (by rw [sizeLine_eq]; omega), List.map_append]
theorem lv_new {m : Mu} {xs : List Dat} : lv (m ++ [some xs]) (.cell m.length) = some xs := by simp [lv]
theorem ahead_right_ok {L : Int} (hL : 0 < L ∧ L ≤ 4) {B A : List Int} (hb : B.length ≤ 10) (ha1 : 1 ≤ A.length) (ha : A.length ≤ 10) (lB : Let L B) (lA : Let L A) {m : Mu} (hp : Pot m []) : ∃ m', F__law_ahead_right [] [.cell 0, .int L, rz B A] m = .ok (.bl true) m' := by
  have l4 : ∀ {xs : List Int}, Let L xs → Let 4 xs := fun h c hc => ⟨(h c hc).1, Int.lt_of_lt_of_le (h c hc).2 hL.2⟩
  have hA : A ≠ [] := fun z => by rw [z] at ha1; simp at ha1
  have k : KM.Ok 4 B A := ⟨by omega, by omega, hA, l4 lB, l4 lA⟩
  obtain ⟨xs, m1, w1, p1, w2, w3, w4⟩ := word_ok [] (m := m) ⟨hL.1, by omega⟩ (lo := 0) (hi := 6) (by decide) (by decide) hp
  obtain ⟨v, m2, d1, d2, p2⟩ := draw0 [] (s := 2) p1 (by decide)
  have s1 : ar1 (roA L B A none none none none none) m = .nx (roA L B A (some (tz xs)) none none none none) m1 := b_set (b_call (b_cons (b_var rfl) (b_cons (b_var rfl) (b_two rfl rfl))) w1)
  obtain ⟨W, hW1, hW2, s2⟩ : ∃ W : List Int, W.length ≤ 16 ∧ Let L W ∧ ar2 (roA L B A (some (tz xs)) none none none none) m1 = .nx (roA L B A (some (tz W)) none none none none) m2 := by
    have t : sTest (sOp fEq (sCall F__law_draw [] (sCons (sVar 0) (sCons (sLit (.int 2)) sNil))) (sLit (.int 0))) (roA L B A (some (tz xs)) none none none none) m1 = .ok (decide ((v : Int) = 0)) m2 := b_test (b_op (b_call (b_two (b_var rfl) rfl) d1) rfl (eq_int m2 _ _))
    by_cases c : (v : Int) = 0
    · rw [decide_eq_true c] at t
      refine ⟨xs ++ A, by rw [List.length_append]; omega, fun z hz => ?_, b_if1 t (b_set (b_op (b_var rfl) (b_op (b_var rfl) rfl (ix_rz1 B A m2)) (add_tz m2 (by omega))))⟩
      rcases List.mem_append.mp hz with q | q
      · exact w4 z q
      · exact lA z q
    · rw [decide_eq_false c] at t
      exact ⟨xs, by omega, w4, b_if0 t rfl⟩
  have kW : KM.Ok 4 (W ++ B) A := ⟨by rw [List.length_append]; omega, by omega, hA, fun z hz => by
    rcases List.mem_append.mp hz with q | q
    · exact l4 hW2 z q
    · exact l4 lB z q, l4 lA⟩
  obtain ⟨B', A', hq, hF⟩ := put_ahead_ok (ints_tz W) (by omega) (l4 hW2) k
  obtain ⟨k', hl', ha'⟩ := kW.nr hq
  have hfit : fits B' A' := ⟨k'.lb, k'.la⟩
  have nrs := KM.nr_seq hq
  have e4 : ((W.length : Int) + (B.length : Int)) = ((W.length + B.length : Nat) : Int) := by omega
  have s3 : ar3 (roA L B A (some (tz W)) none none none none) m2 = .nx (roA L B A (some (tz W)) (some (.int ((W.length + B.length : Nat) : Int))) (some (.int (A.length : Int))) none none) m2 := by
    rw [← e4]
    exact b_par (b_two (b_add (b_len (b_var rfl)) (b_len (b_op (b_var rfl) rfl (ix_rz0 B A m2)))) (b_len (b_op (b_var rfl) rfl (ix_rz1 B A m2))))
  have eN : ((B.length : Int) + 3 * (A.length : Int) + 2) = ((B.length + 3 * A.length + 2 : Nat) : Int) := by omega
  have g1 := law_spelled_ok (κ := []) (m := m2) (B := B) (A := A) hA (n := B.length + 3 * A.length + 2) (by omega)
  have pl : ∀ (x : Nat → Int) n, (KM.pre x n).length = n := fun x n => by simp [KM.pre]
  have s4 : ar4 (roA L B A (some (tz W)) (some (.int ((W.length + B.length : Nat) : Int))) (some (.int (A.length : Int))) none none) m2 = .nx (roA L B A (some (tz W)) (some (.int ((W.length + B.length : Nat) : Int))) (some (.int (A.length : Int))) (some (.lst ((KM.pre (KM.seq (W ++ B) A) (W.length + (B.length + 3 * A.length + 2))).map Dat.int))) none) (m2 ++ [some ((KM.pre (KM.seq B A) (B.length + 3 * A.length + 2)).map Dat.int)]) := by
    rw [KM.app_pre]
    refine b_set (b_op (b_cb (b_one (b_var rfl)) (list_tz m2 W)) (b_call (b_two (b_var rfl) (d := rz B A) (e := .int ((B.length + 3 * A.length + 2 : Nat) : Int)) (m2 := m2) ?_) g1) (add_lsts rfl lv_new (fun zs z => by cases z) (by rw [pl]; omega)))
    rw [← eN]
    exact b_add (b_add (b_len (b_op (b_var rfl) rfl (ix_rz0 B A m2))) (b_op rfl (b_var rfl) (mul_int m2 (by decide)))) rfl
  generalize hm3 : m2 ++ [some ((KM.pre (KM.seq B A) (B.length + 3 * A.length + 2)).map Dat.int)] = m3 at s4
  generalize hw : (Dat.lst ((KM.pre (KM.seq (W ++ B) A) (W.length + (B.length + 3 * A.length + 2))).map Dat.int)) = wh at s4
  have hlv : lv m3 wh = some ((KM.pre (KM.seq (W ++ B) A) (W.length + (B.length + 3 * A.length + 2))).map Dat.int) := by rw [← hw]; rfl
  have P : KM.Per (KM.seq (W ++ B) A) (W.length + B.length) A.length := by
    have := KM.per_seq (B := W ++ B) (A := A)
    rw [List.length_append] at this
    exact this
  have s5 : arK (roA L B A (some (tz W)) (some (.int ((W.length + B.length : Nat) : Int))) (some (.int (A.length : Int))) (some wh) none) m3 = .ok (.bl true) m3 := by
    refine b_callK (ds := [.clo 0 [(0, 0), (0, 1)], wh, .int ((W.length + B.length : Nat) : Int), .int (A.length : Int)]) (m1 := m3) (b_cons rfl (b_cons (b_var rfl) (b_two (b_var rfl) (b_var rfl)))) ?_
    refine told_ok (caps := [some (rz B A), some (tz W)]) (by omega) (by omega) P ha1 hq hlv rfl ?_
    show lf_0 [] [some (rz B A), some (tz W)] m3 = _
    exact b_call (b_two (b_var rfl) (b_var rfl)) (hF [] m3)
  have s6 : ar6 (roA L B A (some (tz W)) (some (.int ((W.length + B.length : Nat) : Int))) (some (.int (A.length : Int))) (some wh) none) m3 = .nx (roA L B A (some (tz W)) (some (.int ((W.length + B.length : Nat) : Int))) (some (.int (A.length : Int))) (some wh) (some (rz B' A'))) m3 := by
    obtain ⟨B3, A3, hq3, hF3⟩ := put_ahead_ok (ints_lst W) (by omega) (l4 hW2) k
    obtain ⟨rfl, rfl⟩ := hq.unique hq3
    have := hF3 [] m3
    unfold shortR at this
    rw [if_pos hfit] at this
    exact b_set (b_call (b_pm (b_two (b_var rfl) (b_cb (b_one (b_var rfl)) (list_tz m3 W)))) this)
  have g2 := spelled_ok (κ := []) (m := m3) k' (n := 30) (by decide)
  rw [nrs] at g2
  generalize hm4 : m3 ++ [some ((KM.pre (KM.seq (W ++ B) A) 30).map Dat.int)] = m4 at g2
  have g3 := law_spelled_ok (κ := []) (m := m4) (B := B) (A := A) hA (n := 30) (by decide)
  have s7 : ar7 (roA L B A (some (tz W)) (some (.int ((W.length + B.length : Nat) : Int))) (some (.int (A.length : Int))) (some wh) (some (rz B' A'))) m3 = .ok false (m4 ++ [some ((KM.pre (KM.seq B A) 30).map Dat.int)]) := by
    have c1 : sSl (sOp fAdd (sCB fList (sCons (sVar 3) sNil)) (sCall F__law_spelled [] (sCons (sVar 2) (sCons (sLit (.int 30)) sNil)))) sNoPart (sPart (sLit (.int 30))) (roA L B A (some (tz W)) (some (.int ((W.length + B.length : Nat) : Int))) (some (.int (A.length : Int))) (some wh) (some (rz B' A'))) m4 = .ok (.lst ((KM.pre (KM.seq (W ++ B) A) 30).map Dat.int)) (m4 ++ [some ((KM.pre (KM.seq B A) 30).map Dat.int)]) := by
      have a1 : sOp fAdd (sCB fList (sCons (sVar 3) sNil)) (sCall F__law_spelled [] (sCons (sVar 2) (sCons (sLit (.int 30)) sNil))) (roA L B A (some (tz W)) (some (.int ((W.length + B.length : Nat) : Int))) (some (.int (A.length : Int))) (some wh) (some (rz B' A'))) m4 = .ok (.lst ((KM.pre (KM.seq (W ++ B) A) (W.length + 30)).map Dat.int)) (m4 ++ [some ((KM.pre (KM.seq B A) 30).map Dat.int)]) := by
        rw [KM.app_pre]
        exact b_op (b_cb (b_one (b_var rfl)) (list_tz m4 W)) (b_call (b_two (b_var rfl) rfl) g3) (add_lsts rfl lv_new (fun zs z => by cases z) (by rw [pl]; omega))
      unfold sSl
      rw [a1]
      simp only [R.bind]
      show R.of2 (fSl (.lst ((KM.pre (KM.seq (W ++ B) A) (W.length + 30)).map Dat.int)) none (some ((30 : Nat) : Int)) _) = _
      rw [sl_lst rfl, cut_to, KM.pre_take _ (by omega)]
      rfl
    have c2 := ne_lst (m := m4 ++ [some ((KM.pre (KM.seq B A) 30).map Dat.int)]) (d := .cell m3.length) (e := .lst ((KM.pre (KM.seq (W ++ B) A) 30).map Dat.int)) (xs := KM.pre (KM.seq (W ++ B) A) 30) (ys := KM.pre (KM.seq (W ++ B) A) 30) (by rw [← hm4]; simp [lv]) rfl
    rw [decide_eq_true rfl] at c2
    exact b_test (b_op (b_call (b_two (b_var rfl) rfl) g2) c1 c2)
  obtain ⟨B5, A5, q5, t5⟩ := turned_ok k' (n := W.length) (by omega)
  rw [nrs, KM.app_seq] at q5
  obtain ⟨B6, A6, q6, t6⟩ := normal_row_ok k
  obtain ⟨rfl, rfl⟩ := q5.unique q6
  generalize hm5 : m4 ++ [some ((KM.pre (KM.seq B A) 30).map Dat.int)] = m5 at s7
  have eqr := eq_rz m5 B5 A5 B5 A5
  rw [decide_eq_true ⟨rfl, rfl⟩] at eqr
  have s8 : ar8 (roA L B A (some (tz W)) (some (.int ((W.length + B.length : Nat) : Int))) (some (.int (A.length : Int))) (some wh) (some (rz B' A'))) m5 = .rt (.bl true) m5 := b_ret (b_op (b_call (b_two (b_var rfl) (b_len (b_var rfl))) (t5 [] m5)) (b_call (b_one (b_var rfl)) (t6 [] m5)) eqr)
  have body : bodyV 8 f__law_ahead_right [] [.cell 0, .int L, rz B A] m = .ok (.bl true) m5 := by
    have e : f__law_ahead_right [] (startR 8 [.cell 0, .int L, rz B A]) m = .rt (.bl true) m5 := by
      rw [ar_is]
      exact b_seq s1 (b_seq s2 (b_seq s3 (b_seq s4 (b_seq (b_if0 (b_notT (b_tru s5)) rfl) (b_seq s6 (b_seq (b_if0 s7 rfl) s8))))))
    unfold bodyV
    rw [e]
    rfl
  obtain ⟨a0, b0, rfl, _, _⟩ := hp
  obtain ⟨a2, b2, rfl, _, _⟩ := p2
  have et : m5.take 1 = [some [.int a2, .int b2]] := by rw [← hm5, ← hm4, ← hm3]; rfl
  have el : 1 ≤ m5.length := by rw [← hm5, ← hm4, ← hm3]; simp
  refine ⟨[some [.int a2, .int b2]], ?_⟩
  have hc : closeV (bodyV 8 f__law_ahead_right) [] [.cell 0, .int L, rz B A] [some [.int a0, .int b0]] = .ok (.bl true) [some [.int a2, .int b2]] := by
    unfold closeV
    rw [body]
    unfold closeR
    simp only [List.length_cons, List.length_nil, Nat.zero_add]
    rw [et, if_pos ⟨el, rfl, rfl⟩]
  show makeV (closeV (bodyV 8 f__law_ahead_right)) [] [.cell 0, .int L, rz B A] [some [.int a0, .int b0]] = _
  unfold makeV
  have hnc : (ncls [Dat.cell 0, .int L, rz B A] && (nclm [some [.int a0, .int b0]] && ([] : Kp).all nclr)) = true := by rw [ncls, ncls, ncls, ncl_rz]; rfl
  rw [hnc]
  simp only
  rw [hc]
  rfl
end
end VK12
namespace VK12
open PySem DL VM
def lw1 : SS := (sSet 1 (sCall F__law_pot [] (sCons (sVar 0) (sCons (sLit (.int 0)) sNil))))
def lw2 : SS := (sSet 2 (sOp fAdd (sLit (.int 1)) (sCall F__law_draw [] (sCons (sVar 1) (sCons (sLit (.int 3)) sNil)))))
def lw3 : SS := (sPar 3 4 (sCons (sCall F__law_row [] (sCons (sVar 1) (sCons (sVar 2) (sCons (sLit (.int 4)) sNil)))) (sCons (sCall F__law_row [] (sCons (sVar 1) (sCons (sVar 2) (sCons (sLit (.int 3)) sNil)))) sNil)))
def lwA : Sm Dat := (sTup (sCons (sTup sNil) (sCons (sOp fAdd (sOp fMul (sTup (sCons (sLit (.int 0)) sNil)) (sLit (.int 6))) (sTup (sCons (sLit (.int 1)) sNil))) sNil)))
def lwB : Sm Dat := (sTup (sCons (sTup sNil) (sCons (sTup (sCons (sLit (.int 0)) (sCons (sLit (.int 0)) (sCons (sLit (.int 1)) sNil)))) sNil)))
theorem law_is : f_law [] = sSeq lw1 (sSeq lw2 (sSeq lw3 (sSeq (sIfS (sNotT (sTru (sCall F__law_woven_right [] (sCons lwA (sCons lwB sNil))))) (sRet (sLit (.bl false))) sNext) (sRet (sAnd (sCall F__law_ahead_right [] (sCons (sVar 1) (sCons (sVar 2) (sCons (sVar 3) sNil)))) (sAnd (sCall F__law_woven_right [] (sCons (sVar 3) (sCons (sVar 4) sNil))) (sCall F__law_woven_right [] (sCons (sVar 4) (sCons (sVar 3) sNil))))))))) := rfl
theorem lwA_run (ρ : Ro) (m : Mu) : lwA ρ m = .ok (rz [] [0, 0, 0, 0, 0, 0, 1]) m :=
  b_tup (b_two (b_tup b_nil (by simp)) (b_op (b_op (b_tup (b_one rfl) (by simp)) rfl (rep_tz (xs := [0]) (k := 6) m (by simp) (by decide) (by decide) (by decide))) (b_tup (b_one rfl) (by simp)) (add_tz (ys := [1]) m (by decide)))) (by simp)
theorem lwB_run (ρ : Ro) (m : Mu) : lwB ρ m = .ok (rz [] [0, 0, 1]) m :=
  b_tup (b_two (b_tup b_nil (by simp)) (b_tup (b_cons rfl (b_two rfl rfl)) (by simp))) (by simp)
theorem law_true (ns : List Int) (hl : ns.length ≤ 63) : ∃ m, F_law [] [.lst (ns.map Dat.int)] [] = .ok (.bl true) m := by
  obtain ⟨m1, hpot, p1⟩ := pot_ok [] ns hl
  obtain ⟨v, m2, d1, d2, p2⟩ := draw0 [] (s := 3) p1 (by decide)
  have hL : 0 < (1 + (v : Int)) ∧ (1 + (v : Int)) < 1000 := by omega
  have hL4 : 0 < (1 + (v : Int)) ∧ (1 + (v : Int)) ≤ 4 := by omega
  obtain ⟨B, A, m3, r1, p3, b1, b2, b3, b4, b5⟩ := row_ok [] hL (Q := 4) (by decide) (by decide) p2
  obtain ⟨B2, A2, m4, r2, p4, c1, c2, c3, c4, c5⟩ := row_ok [] hL (Q := 3) (by decide) (by decide) p3
  obtain ⟨m5, ar⟩ := ahead_right_ok hL4 (B := B) (A := A) (by omega) b2 (by omega) b4 b5 p4
  have up : ∀ {xs : List Int}, Let (1 + (v : Int)) xs → Let 4 xs := fun h c hc => ⟨(h c hc).1, Int.lt_of_lt_of_le (h c hc).2 hL4.2⟩
  have k1 : KM.Ok 4 B A := ⟨by omega, by omega, fun z => by rw [z] at b2; simp at b2, up b4, up b5⟩
  have k2 : KM.Ok 4 B2 A2 := ⟨by omega, by omega, fun z => by rw [z] at c2; simp at c2, up c4, up c5⟩
  have q1 : A.length * A2.length ≤ 400 := Nat.le_trans (Nat.mul_le_mul b3 c3) (by decide)
  have q2 : A2.length * A.length ≤ 400 := Nat.le_trans (Nat.mul_le_mul c3 b3) (by decide)
  have kA : KM.Ok 4 [] [0, 0, 0, 0, 0, 0, 1] := ⟨by decide, by decide, by simp, fun c hc => (nomatch hc), by decide⟩
  have kB : KM.Ok 4 [] [0, 0, 1] := ⟨by decide, by decide, by simp, fun c hc => (nomatch hc), by decide⟩
  have s1 : lw1 (startR 5 [.lst (ns.map Dat.int)]) [] = .nx [some (.lst (ns.map Dat.int)), some (.cell 0), none, none, none] m1 := b_set (b_call (b_two (b_var rfl) rfl) hpot)
  have s2 : lw2 [some (.lst (ns.map Dat.int)), some (.cell 0), none, none, none] m1 = .nx [some (.lst (ns.map Dat.int)), some (.cell 0), some (.int (1 + (v : Int))), none, none] m2 := b_set (b_add rfl (b_call (b_two (b_var rfl) rfl) d1))
  have e1 : sCall F__law_row [] (sCons (sVar 1) (sCons (sVar 2) (sCons (sLit (.int 4)) sNil))) [some (.lst (ns.map Dat.int)), some (.cell 0), some (.int (1 + (v : Int))), none, none] m2 = .ok (rz B A) m3 := b_call (b_cons (b_var rfl) (b_two (b_var rfl) rfl)) r1
  have e2 : sCall F__law_row [] (sCons (sVar 1) (sCons (sVar 2) (sCons (sLit (.int 3)) sNil))) [some (.lst (ns.map Dat.int)), some (.cell 0), some (.int (1 + (v : Int))), none, none] m3 = .ok (rz B2 A2) m4 := b_call (b_cons (b_var rfl) (b_two (b_var rfl) rfl)) r2
  have s3 : lw3 [some (.lst (ns.map Dat.int)), some (.cell 0), some (.int (1 + (v : Int))), none, none] m2 = .nx [some (.lst (ns.map Dat.int)), some (.cell 0), some (.int (1 + (v : Int))), some (rz B A), some (rz B2 A2)] m4 := b_par (b_two e1 e2)
  have s4 : sCall F__law_woven_right [] (sCons lwA (sCons lwB sNil)) [some (.lst (ns.map Dat.int)), some (.cell 0), some (.int (1 + (v : Int))), some (rz B A), some (rz B2 A2)] m4 = .ok (.bl true) m4 := b_call (b_two (lwA_run _ m4) (lwB_run _ m4)) (woven_right_ok kA kB (by decide))
  have e : f_law [] (startR 5 [.lst (ns.map Dat.int)]) [] = .rt (.bl true) m5 := by
    rw [law_is]
    exact b_seq s1 (b_seq s2 (b_seq s3 (b_seq (b_if0 (b_notT (b_tru s4)) rfl) (b_ret (b_and1 (b_call (b_cons (b_var rfl) (b_two (b_var rfl) (b_var rfl))) ar) (b_and1 (b_call (b_two (b_var rfl) (b_var rfl)) (woven_right_ok k1 k2 q1)) (b_call (b_two (b_var rfl) (b_var rfl)) (woven_right_ok k2 k1 q2))))))))
  refine ⟨m5, ?_⟩
  show endO (f_law [] (startR 5 [.lst (ns.map Dat.int)]) []) = _
  rw [e]
  rfl
end VK12
namespace VK12
open PySem PySem.Spec PyProof.Rows L2 DL LamX VM
theorem hb_is_integer (kV doc pm : Value) (an : Option Addr) (cdv ct : Value) (us : List Value) (hl : us.length = (["value"] : List Str).length) : bindArgs (PySem.W.fnOf "is_integer" "is_integer" (defArgs s_is_integer) (defBody s_is_integer) (defScope s_is_integer) .none kV doc pm an cdv ct) ⟨us, []⟩ = pure ((["value"] : List Str).zip us) := match us, hl with
  | [_], _ => rfl
theorem hb_is_count (kV doc pm : Value) (an : Option Addr) (cdv ct : Value) (us : List Value) (hl : us.length = (["value"] : List Str).length) : bindArgs (PySem.W.fnOf "is_count" "is_count" (defArgs s_is_count) (defBody s_is_count) (defScope s_is_count) .none kV doc pm an cdv ct) ⟨us, []⟩ = pure ((["value"] : List Str).zip us) := match us, hl with
  | [_], _ => rfl
theorem hb_is_below (kV doc pm : Value) (an : Option Addr) (cdv ct : Value) (us : List Value) (hl : us.length = (["value", "bound"] : List Str).length) : bindArgs (PySem.W.fnOf "is_below" "is_below" (defArgs s_is_below) (defBody s_is_below) (defScope s_is_below) .none kV doc pm an cdv ct) ⟨us, []⟩ = pure ((["value", "bound"] : List Str).zip us) := match us, hl with
  | [_, _], _ => rfl
theorem hb_is_list (kV doc pm : Value) (an : Option Addr) (cdv ct : Value) (us : List Value) (hl : us.length = (["value"] : List Str).length) : bindArgs (PySem.W.fnOf "is_list" "is_list" (defArgs s_is_list) (defBody s_is_list) (defScope s_is_list) .none kV doc pm an cdv ct) ⟨us, []⟩ = pure ((["value"] : List Str).zip us) := match us, hl with
  | [_], _ => rfl
theorem hb_is_pair (kV doc pm : Value) (an : Option Addr) (cdv ct : Value) (us : List Value) (hl : us.length = (["value"] : List Str).length) : bindArgs (PySem.W.fnOf "is_pair" "is_pair" (defArgs s_is_pair) (defBody s_is_pair) (defScope s_is_pair) .none kV doc pm an cdv ct) ⟨us, []⟩ = pure ((["value"] : List Str).zip us) := match us, hl with
  | [_], _ => rfl
theorem hb_is_word (kV doc pm : Value) (an : Option Addr) (cdv ct : Value) (us : List Value) (hl : us.length = (["letters", "value"] : List Str).length) : bindArgs (PySem.W.fnOf "is_word" "is_word" (defArgs s_is_word) (defBody s_is_word) (defScope s_is_word) .none kV doc pm an cdv ct) ⟨us, []⟩ = pure ((["letters", "value"] : List Str).zip us) := match us, hl with
  | [_, _], _ => rfl
theorem hb_is_row_of (kV doc pm : Value) (an : Option Addr) (cdv ct : Value) (us : List Value) (hl : us.length = (["letters", "value"] : List Str).length) : bindArgs (PySem.W.fnOf "is_row_of" "is_row_of" (defArgs s_is_row_of) (defBody s_is_row_of) (defScope s_is_row_of) .none kV doc pm an cdv ct) ⟨us, []⟩ = pure ((["letters", "value"] : List Str).zip us) := match us, hl with
  | [_, _], _ => rfl
theorem hb_check_word (kV doc pm : Value) (an : Option Addr) (cdv ct : Value) (us : List Value) (hl : us.length = (["letters", "word"] : List Str).length) : bindArgs (PySem.W.fnOf "check_word" "check_word" (defArgs s_check_word) (defBody s_check_word) (defScope s_check_word) .none kV doc pm an cdv ct) ⟨us, []⟩ = pure ((["letters", "word"] : List Str).zip us) := match us, hl with
  | [_, _], _ => rfl
theorem hb_check_row (kV doc pm : Value) (an : Option Addr) (cdv ct : Value) (us : List Value) (hl : us.length = (["letters", "row"] : List Str).length) : bindArgs (PySem.W.fnOf "check_row" "check_row" (defArgs s_check_row) (defBody s_check_row) (defScope s_check_row) .none kV doc pm an cdv ct) ⟨us, []⟩ = pure ((["letters", "row"] : List Str).zip us) := match us, hl with
  | [_, _], _ => rfl
theorem hb_check_many (kV doc pm : Value) (an : Option Addr) (cdv ct : Value) (us : List Value) (hl : us.length = (["many", "most"] : List Str).length) : bindArgs (PySem.W.fnOf "check_many" "check_many" (defArgs s_check_many) (defBody s_check_many) (defScope s_check_many) .none kV doc pm an cdv ct) ⟨us, []⟩ = pure ((["many", "most"] : List Str).zip us) := match us, hl with
  | [_, _], _ => rfl
theorem hb_spelled (kV doc pm : Value) (an : Option Addr) (cdv ct : Value) (us : List Value) (hl : us.length = (["row", "many"] : List Str).length) : bindArgs (PySem.W.fnOf "spelled" "spelled" (defArgs s_spelled) (defBody s_spelled) (defScope s_spelled) .none kV doc pm an cdv ct) ⟨us, []⟩ = pure ((["row", "many"] : List Str).zip us) := match us, hl with
  | [_, _], _ => rfl
theorem hb_normal_row (kV doc pm : Value) (an : Option Addr) (cdv ct : Value) (us : List Value) (hl : us.length = (["row"] : List Str).length) : bindArgs (PySem.W.fnOf "normal_row" "normal_row" (defArgs s_normal_row) (defBody s_normal_row) (defScope s_normal_row) .none kV doc pm an cdv ct) ⟨us, []⟩ = pure ((["row"] : List Str).zip us) := match us, hl with
  | [_], _ => rfl
theorem hb_turned_on (kV doc pm : Value) (an : Option Addr) (cdv ct : Value) (us : List Value) (hl : us.length = (["row", "many"] : List Str).length) : bindArgs (PySem.W.fnOf "turned_on" "turned_on" (defArgs s_turned_on) (defBody s_turned_on) (defScope s_turned_on) .none kV doc pm an cdv ct) ⟨us, []⟩ = pure ((["row", "many"] : List Str).zip us) := match us, hl with
  | [_, _], _ => rfl
theorem hb_put_ahead (kV doc pm : Value) (an : Option Addr) (cdv ct : Value) (us : List Value) (hl : us.length = (["word", "row"] : List Str).length) : bindArgs (PySem.W.fnOf "put_ahead" "put_ahead" (defArgs s_put_ahead) (defBody s_put_ahead) (defScope s_put_ahead) .none kV doc pm an cdv ct) ⟨us, []⟩ = pure ((["word", "row"] : List Str).zip us) := match us, hl with
  | [_, _], _ => rfl
theorem hb_woven (kV doc pm : Value) (an : Option Addr) (cdv ct : Value) (us : List Value) (hl : us.length = (["row", "other"] : List Str).length) : bindArgs (PySem.W.fnOf "woven" "woven" (defArgs s_woven) (defBody s_woven) (defScope s_woven) .none kV doc pm an cdv ct) ⟨us, []⟩ = pure ((["row", "other"] : List Str).zip us) := match us, hl with
  | [_, _], _ => rfl
theorem hb__letter (kV doc pm : Value) (an : Option Addr) (cdv ct : Value) (us : List Value) (hl : us.length = (["row", "place"] : List Str).length) : bindArgs (PySem.W.fnOf "_letter" "_letter" (defArgs s__letter) (defBody s__letter) (defScope s__letter) .none kV doc pm an cdv ct) ⟨us, []⟩ = pure ((["row", "place"] : List Str).zip us) := match us, hl with
  | [_, _], _ => rfl
theorem hb__shortest_round (kV doc pm : Value) (an : Option Addr) (cdv ct : Value) (us : List Value) (hl : us.length = (["again"] : List Str).length) : bindArgs (PySem.W.fnOf "_shortest_round" "_shortest_round" (defArgs s__shortest_round) (defBody s__shortest_round) (defScope s__shortest_round) .none kV doc pm an cdv ct) ⟨us, []⟩ = pure ((["again"] : List Str).zip us) := match us, hl with
  | [_], _ => rfl
theorem hb_normal_of (kV doc pm : Value) (an : Option Addr) (cdv ct : Value) (us : List Value) (hl : us.length = (["row"] : List Str).length) : bindArgs (PySem.W.fnOf "normal_of" "normal_of" (defArgs s_normal_of) (defBody s_normal_of) (defScope s_normal_of) .none kV doc pm an cdv ct) ⟨us, []⟩ = pure ((["row"] : List Str).zip us) := match us, hl with
  | [_], _ => rfl
theorem hb_short_enough (kV doc pm : Value) (an : Option Addr) (cdv ct : Value) (us : List Value) (hl : us.length = (["row"] : List Str).length) : bindArgs (PySem.W.fnOf "short_enough" "short_enough" (defArgs s_short_enough) (defBody s_short_enough) (defScope s_short_enough) .none kV doc pm an cdv ct) ⟨us, []⟩ = pure ((["row"] : List Str).zip us) := match us, hl with
  | [_], _ => rfl
theorem hb__law_pot (kV doc pm : Value) (an : Option Addr) (cdv ct : Value) (us : List Value) (hl : us.length = (["_law_script", "_law_k"] : List Str).length) : bindArgs (PySem.W.fnOf "_law_pot" "_law_pot" (defArgs s__law_pot) (defBody s__law_pot) (defScope s__law_pot) .none kV doc pm an cdv ct) ⟨us, []⟩ = pure ((["_law_script", "_law_k"] : List Str).zip us) := match us, hl with
  | [_, _], _ => rfl
theorem hb__law_draw (kV doc pm : Value) (an : Option Addr) (cdv ct : Value) (us : List Value) (hl : us.length = (["_law_pot_here", "_law_size"] : List Str).length) : bindArgs (PySem.W.fnOf "_law_draw" "_law_draw" (defArgs s__law_draw) (defBody s__law_draw) (defScope s__law_draw) .none kV doc pm an cdv ct) ⟨us, []⟩ = pure ((["_law_pot_here", "_law_size"] : List Str).zip us) := match us, hl with
  | [_, _], _ => rfl
theorem hb__law_word (kV doc pm : Value) (an : Option Addr) (cdv ct : Value) (us : List Value) (hl : us.length = (["_law_pot_here", "_law_letters", "_law_least", "_law_most"] : List Str).length) : bindArgs (PySem.W.fnOf "_law_word" "_law_word" (defArgs s__law_word) (defBody s__law_word) (defScope s__law_word) .none kV doc pm an cdv ct) ⟨us, []⟩ = pure ((["_law_pot_here", "_law_letters", "_law_least", "_law_most"] : List Str).zip us) := match us, hl with
  | [_, _, _, _], _ => rfl
theorem hb__law_row (kV doc pm : Value) (an : Option Addr) (cdv ct : Value) (us : List Value) (hl : us.length = (["_law_pot_here", "_law_letters", "_law_most"] : List Str).length) : bindArgs (PySem.W.fnOf "_law_row" "_law_row" (defArgs s__law_row) (defBody s__law_row) (defScope s__law_row) .none kV doc pm an cdv ct) ⟨us, []⟩ = pure ((["_law_pot_here", "_law_letters", "_law_most"] : List Str).zip us) := match us, hl with
  | [_, _, _], _ => rfl
theorem hb__law_at (kV doc pm : Value) (an : Option Addr) (cdv ct : Value) (us : List Value) (hl : us.length = (["_law_row_here", "_law_place"] : List Str).length) : bindArgs (PySem.W.fnOf "_law_at" "_law_at" (defArgs s__law_at) (defBody s__law_at) (defScope s__law_at) .none kV doc pm an cdv ct) ⟨us, []⟩ = pure ((["_law_row_here", "_law_place"] : List Str).zip us) := match us, hl with
  | [_, _], _ => rfl
theorem hb__law_spelled (kV doc pm : Value) (an : Option Addr) (cdv ct : Value) (us : List Value) (hl : us.length = (["_law_row_here", "_law_many"] : List Str).length) : bindArgs (PySem.W.fnOf "_law_spelled" "_law_spelled" (defArgs s__law_spelled) (defBody s__law_spelled) (defScope s__law_spelled) .none kV doc pm an cdv ct) ⟨us, []⟩ = pure ((["_law_row_here", "_law_many"] : List Str).zip us) := match us, hl with
  | [_, _], _ => rfl
theorem hb__law_normal (kV doc pm : Value) (an : Option Addr) (cdv ct : Value) (us : List Value) (hl : us.length = (["_law_letters", "_law_begun", "_law_long"] : List Str).length) : bindArgs (PySem.W.fnOf "_law_normal" "_law_normal" (defArgs s__law_normal) (defBody s__law_normal) (defScope s__law_normal) .none kV doc pm an cdv ct) ⟨us, []⟩ = pure ((["_law_letters", "_law_begun", "_law_long"] : List Str).zip us) := match us, hl with
  | [_, _, _], _ => rfl
theorem hb__law_is_told (kV doc pm : Value) (an : Option Addr) (cdv ct : Value) (us : List Value) (hl : us.length = (["_law_call", "_law_letters", "_law_begun", "_law_long"] : List Str).length) : bindArgs (PySem.W.fnOf "_law_is_told" "_law_is_told" (defArgs s__law_is_told) (defBody s__law_is_told) (defScope s__law_is_told) .none kV doc pm an cdv ct) ⟨us, []⟩ = pure ((["_law_call", "_law_letters", "_law_begun", "_law_long"] : List Str).zip us) := match us, hl with
  | [_, _, _, _], _ => rfl
theorem hb__law_ahead_right (kV doc pm : Value) (an : Option Addr) (cdv ct : Value) (us : List Value) (hl : us.length = (["_law_pot_here", "_law_letters", "_law_row_here"] : List Str).length) : bindArgs (PySem.W.fnOf "_law_ahead_right" "_law_ahead_right" (defArgs s__law_ahead_right) (defBody s__law_ahead_right) (defScope s__law_ahead_right) .none kV doc pm an cdv ct) ⟨us, []⟩ = pure ((["_law_pot_here", "_law_letters", "_law_row_here"] : List Str).zip us) := match us, hl with
  | [_, _, _], _ => rfl
theorem hb__law_woven_right (kV doc pm : Value) (an : Option Addr) (cdv ct : Value) (us : List Value) (hl : us.length = (["_law_row_here", "_law_other"] : List Str).length) : bindArgs (PySem.W.fnOf "_law_woven_right" "_law_woven_right" (defArgs s__law_woven_right) (defBody s__law_woven_right) (defScope s__law_woven_right) .none kV doc pm an cdv ct) ⟨us, []⟩ = pure ((["_law_row_here", "_law_other"] : List Str).zip us) := match us, hl with
  | [_, _], _ => rfl
theorem hb_law (kV doc pm : Value) (an : Option Addr) (cdv ct : Value) (us : List Value) (hl : us.length = (["_law_script"] : List Str).length) : bindArgs (PySem.W.fnOf "law" "law" (defArgs s_law) (defBody s_law) (defScope s_law) .none kV doc pm an cdv ct) ⟨us, []⟩ = pure ((["_law_script"] : List Str).zip us) := match us, hl with
  | [_], _ => rfl
theorem hb_TooMany (kV doc pm : Value) (an : Option Addr) (cdv ct : Value) (us : List Value) (hl : us.length = (["self", "what", "limit"] : List Str).length) : bindArgs (PySem.W.fnOf "__init__" "TooMany.__init__" (defArgs s_TooMany) (defBody s_TooMany) (defScope s_TooMany) .none kV doc pm an cdv ct) ⟨us, []⟩ = pure ((["self", "what", "limit"] : List Str).zip us) := match us, hl with
  | [_, _, _], _ => rfl
noncomputable def all_mk {K : PySem.W.Frag} {mg : Str → Option Value} {h : Heap} {P__law_ahead_right cm__law_ahead_right P__law_woven_right cm__law_woven_right C_TooMany fi_TooMany f0 f1 f2 f3 f4 f5 f6 f7 f8 f9 f10 f11 f12 f13 f14 f15 f16 f17 f18 f19 f20 f21 f22 f23 f24 f25 f26 f27 f28 f29 : Addr}
    (KX : K.In h)
    (Gn : h.Ns mainGlobals mg)
    {ocx0 : Value} {odx0 anx0 : Option Addr} {slx0 : Array (Option Value)} {kVx0 docx0 pmx0 cdvx0 ctx0 : Value} {cdx0 : ClassData}
    (xa0 : PySem.W.nsIn K mainGlobals "TooMany" = some (some (.ref C_TooMany)))
    (xi0 : PySem.W.findIn K (.ref C_TooMany) "__init__" = some (some (.ref fi_TooMany)))
    (xl0 : K.lookup fi_TooMany = some ⟨ocx0, odx0, .func (PySem.W.fnOf "__init__" "TooMany.__init__" (defArgs s_TooMany) (defBody s_TooMany) (defScope s_TooMany) .none kVx0 docx0 pmx0 anx0 cdvx0 ctx0), slx0⟩)
    (xc0 : PySem.W.codeIn K cdvx0 "TooMany.__init__" = true)
    (xk0 : PySem.W.keepIn K (.ref fi_TooMany) = true)
    (xq0 : PySem.W.excInitIn K C_TooMany [.type "ArithmeticError", .type "Exception", .type "BaseException", .type "object"] "ArithmeticError.__new__" = true)
    (xo0 : PySem.W.excOver K C_TooMany [.type "ArithmeticError", .type "Exception", .type "BaseException", .type "object"] = true)
    (xh0 : PySem.W.hasDictIn K C_TooMany = true)
    (xs0 : PySem.W.findIn K (.ref C_TooMany) "__setattr__" = some (some (.builtin "object.__setattr__")))
    (xe0 : PySem.W.subIn K (.ref C_TooMany) (.type "BaseException") = some true)
    (xt0 : PySem.W.typeIn K (.ref C_TooMany) = some (.type "type"))
    (xp0 : PySem.W.keepIn K (.ref C_TooMany) = true)
    (xf0 : PySem.W.typeIn K (.ref fi_TooMany) = some (.type "function"))
    (xg0 : PySem.W.findIn K (.ref C_TooMany) "__getattribute__" = some (some (.builtin "BaseException.__getattribute__")))
    (xn0 : PySem.W.findIn K (.ref C_TooMany) "__getattr__" = some none)
    (xu0 : PySem.W.subIn K (.ref C_TooMany) (.ref C_TooMany) = some true)
    (xd0 : PySem.W.clsIn K C_TooMany = some cdx0)
    (xz1_0 : PySem.W.findIn K (.ref C_TooMany) "limit" = some none)
    (xz0_0 : PySem.W.findIn K (.ref C_TooMany) "what" = some none)
    {oc0 : Value} {od0 an0 : Option Addr} {sl0 : Array (Option Value)} {kV0 doc0 pm0 cdv0 ct0 : Value} (a0 : PySem.W.nsIn K mainGlobals "is_integer" = some (some (.ref f0))) (l0 : K.lookup f0 = some ⟨oc0, od0, .func (PySem.W.fnOf "is_integer" "is_integer" (defArgs s_is_integer) (defBody s_is_integer) (defScope s_is_integer) .none kV0 doc0 pm0 an0 cdv0 ct0), sl0⟩) (c0 : PySem.W.codeIn K cdv0 "is_integer" = true) (k0 : PySem.W.keepIn K (.ref f0) = true)
    {oc1 : Value} {od1 an1 : Option Addr} {sl1 : Array (Option Value)} {kV1 doc1 pm1 cdv1 ct1 : Value} (a1 : PySem.W.nsIn K mainGlobals "is_count" = some (some (.ref f1))) (l1 : K.lookup f1 = some ⟨oc1, od1, .func (PySem.W.fnOf "is_count" "is_count" (defArgs s_is_count) (defBody s_is_count) (defScope s_is_count) .none kV1 doc1 pm1 an1 cdv1 ct1), sl1⟩) (c1 : PySem.W.codeIn K cdv1 "is_count" = true) (k1 : PySem.W.keepIn K (.ref f1) = true)
    {oc2 : Value} {od2 an2 : Option Addr} {sl2 : Array (Option Value)} {kV2 doc2 pm2 cdv2 ct2 : Value} (a2 : PySem.W.nsIn K mainGlobals "is_below" = some (some (.ref f2))) (l2 : K.lookup f2 = some ⟨oc2, od2, .func (PySem.W.fnOf "is_below" "is_below" (defArgs s_is_below) (defBody s_is_below) (defScope s_is_below) .none kV2 doc2 pm2 an2 cdv2 ct2), sl2⟩) (c2 : PySem.W.codeIn K cdv2 "is_below" = true) (k2 : PySem.W.keepIn K (.ref f2) = true)
    {oc3 : Value} {od3 an3 : Option Addr} {sl3 : Array (Option Value)} {kV3 doc3 pm3 cdv3 ct3 : Value} (a3 : PySem.W.nsIn K mainGlobals "is_list" = some (some (.ref f3))) (l3 : K.lookup f3 = some ⟨oc3, od3, .func (PySem.W.fnOf "is_list" "is_list" (defArgs s_is_list) (defBody s_is_list) (defScope s_is_list) .none kV3 doc3 pm3 an3 cdv3 ct3), sl3⟩) (c3 : PySem.W.codeIn K cdv3 "is_list" = true) (k3 : PySem.W.keepIn K (.ref f3) = true)
    {oc4 : Value} {od4 an4 : Option Addr} {sl4 : Array (Option Value)} {kV4 doc4 pm4 cdv4 ct4 : Value} (a4 : PySem.W.nsIn K mainGlobals "is_pair" = some (some (.ref f4))) (l4 : K.lookup f4 = some ⟨oc4, od4, .func (PySem.W.fnOf "is_pair" "is_pair" (defArgs s_is_pair) (defBody s_is_pair) (defScope s_is_pair) .none kV4 doc4 pm4 an4 cdv4 ct4), sl4⟩) (c4 : PySem.W.codeIn K cdv4 "is_pair" = true) (k4 : PySem.W.keepIn K (.ref f4) = true)
    {oc5 : Value} {od5 an5 : Option Addr} {sl5 : Array (Option Value)} {kV5 doc5 pm5 cdv5 ct5 : Value} (a5 : PySem.W.nsIn K mainGlobals "is_word" = some (some (.ref f5))) (l5 : K.lookup f5 = some ⟨oc5, od5, .func (PySem.W.fnOf "is_word" "is_word" (defArgs s_is_word) (defBody s_is_word) (defScope s_is_word) .none kV5 doc5 pm5 an5 cdv5 ct5), sl5⟩) (c5 : PySem.W.codeIn K cdv5 "is_word" = true) (k5 : PySem.W.keepIn K (.ref f5) = true)
    {oc6 : Value} {od6 an6 : Option Addr} {sl6 : Array (Option Value)} {kV6 doc6 pm6 cdv6 ct6 : Value} (a6 : PySem.W.nsIn K mainGlobals "is_row_of" = some (some (.ref f6))) (l6 : K.lookup f6 = some ⟨oc6, od6, .func (PySem.W.fnOf "is_row_of" "is_row_of" (defArgs s_is_row_of) (defBody s_is_row_of) (defScope s_is_row_of) .none kV6 doc6 pm6 an6 cdv6 ct6), sl6⟩) (c6 : PySem.W.codeIn K cdv6 "is_row_of" = true) (k6 : PySem.W.keepIn K (.ref f6) = true)
    {oc7 : Value} {od7 an7 : Option Addr} {sl7 : Array (Option Value)} {kV7 doc7 pm7 cdv7 ct7 : Value} (a7 : PySem.W.nsIn K mainGlobals "check_word" = some (some (.ref f7))) (l7 : K.lookup f7 = some ⟨oc7, od7, .func (PySem.W.fnOf "check_word" "check_word" (defArgs s_check_word) (defBody s_check_word) (defScope s_check_word) .none kV7 doc7 pm7 an7 cdv7 ct7), sl7⟩) (c7 : PySem.W.codeIn K cdv7 "check_word" = true) (k7 : PySem.W.keepIn K (.ref f7) = true)
    {oc8 : Value} {od8 an8 : Option Addr} {sl8 : Array (Option Value)} {kV8 doc8 pm8 cdv8 ct8 : Value} (a8 : PySem.W.nsIn K mainGlobals "check_row" = some (some (.ref f8))) (l8 : K.lookup f8 = some ⟨oc8, od8, .func (PySem.W.fnOf "check_row" "check_row" (defArgs s_check_row) (defBody s_check_row) (defScope s_check_row) .none kV8 doc8 pm8 an8 cdv8 ct8), sl8⟩) (c8 : PySem.W.codeIn K cdv8 "check_row" = true) (k8 : PySem.W.keepIn K (.ref f8) = true)
    {oc9 : Value} {od9 an9 : Option Addr} {sl9 : Array (Option Value)} {kV9 doc9 pm9 cdv9 ct9 : Value} (a9 : PySem.W.nsIn K mainGlobals "check_many" = some (some (.ref f9))) (l9 : K.lookup f9 = some ⟨oc9, od9, .func (PySem.W.fnOf "check_many" "check_many" (defArgs s_check_many) (defBody s_check_many) (defScope s_check_many) .none kV9 doc9 pm9 an9 cdv9 ct9), sl9⟩) (c9 : PySem.W.codeIn K cdv9 "check_many" = true) (k9 : PySem.W.keepIn K (.ref f9) = true)
    {oc10 : Value} {od10 an10 : Option Addr} {sl10 : Array (Option Value)} {kV10 doc10 pm10 cdv10 ct10 : Value} (a10 : PySem.W.nsIn K mainGlobals "spelled" = some (some (.ref f10))) (l10 : K.lookup f10 = some ⟨oc10, od10, .func (PySem.W.fnOf "spelled" "spelled" (defArgs s_spelled) (defBody s_spelled) (defScope s_spelled) .none kV10 doc10 pm10 an10 cdv10 ct10), sl10⟩) (c10 : PySem.W.codeIn K cdv10 "spelled" = true) (k10 : PySem.W.keepIn K (.ref f10) = true)
    {oc11 : Value} {od11 an11 : Option Addr} {sl11 : Array (Option Value)} {kV11 doc11 pm11 cdv11 ct11 : Value} (a11 : PySem.W.nsIn K mainGlobals "normal_row" = some (some (.ref f11))) (l11 : K.lookup f11 = some ⟨oc11, od11, .func (PySem.W.fnOf "normal_row" "normal_row" (defArgs s_normal_row) (defBody s_normal_row) (defScope s_normal_row) .none kV11 doc11 pm11 an11 cdv11 ct11), sl11⟩) (c11 : PySem.W.codeIn K cdv11 "normal_row" = true) (k11 : PySem.W.keepIn K (.ref f11) = true)
    {oc12 : Value} {od12 an12 : Option Addr} {sl12 : Array (Option Value)} {kV12 doc12 pm12 cdv12 ct12 : Value} (a12 : PySem.W.nsIn K mainGlobals "turned_on" = some (some (.ref f12))) (l12 : K.lookup f12 = some ⟨oc12, od12, .func (PySem.W.fnOf "turned_on" "turned_on" (defArgs s_turned_on) (defBody s_turned_on) (defScope s_turned_on) .none kV12 doc12 pm12 an12 cdv12 ct12), sl12⟩) (c12 : PySem.W.codeIn K cdv12 "turned_on" = true) (k12 : PySem.W.keepIn K (.ref f12) = true)
    {oc13 : Value} {od13 an13 : Option Addr} {sl13 : Array (Option Value)} {kV13 doc13 pm13 cdv13 ct13 : Value} (a13 : PySem.W.nsIn K mainGlobals "put_ahead" = some (some (.ref f13))) (l13 : K.lookup f13 = some ⟨oc13, od13, .func (PySem.W.fnOf "put_ahead" "put_ahead" (defArgs s_put_ahead) (defBody s_put_ahead) (defScope s_put_ahead) .none kV13 doc13 pm13 an13 cdv13 ct13), sl13⟩) (c13 : PySem.W.codeIn K cdv13 "put_ahead" = true) (k13 : PySem.W.keepIn K (.ref f13) = true)
    {oc14 : Value} {od14 an14 : Option Addr} {sl14 : Array (Option Value)} {kV14 doc14 pm14 cdv14 ct14 : Value} (a14 : PySem.W.nsIn K mainGlobals "woven" = some (some (.ref f14))) (l14 : K.lookup f14 = some ⟨oc14, od14, .func (PySem.W.fnOf "woven" "woven" (defArgs s_woven) (defBody s_woven) (defScope s_woven) .none kV14 doc14 pm14 an14 cdv14 ct14), sl14⟩) (c14 : PySem.W.codeIn K cdv14 "woven" = true) (k14 : PySem.W.keepIn K (.ref f14) = true)
    {oc15 : Value} {od15 an15 : Option Addr} {sl15 : Array (Option Value)} {kV15 doc15 pm15 cdv15 ct15 : Value} (a15 : PySem.W.nsIn K mainGlobals "_letter" = some (some (.ref f15))) (l15 : K.lookup f15 = some ⟨oc15, od15, .func (PySem.W.fnOf "_letter" "_letter" (defArgs s__letter) (defBody s__letter) (defScope s__letter) .none kV15 doc15 pm15 an15 cdv15 ct15), sl15⟩) (c15 : PySem.W.codeIn K cdv15 "_letter" = true) (k15 : PySem.W.keepIn K (.ref f15) = true)
    {oc16 : Value} {od16 an16 : Option Addr} {sl16 : Array (Option Value)} {kV16 doc16 pm16 cdv16 ct16 : Value} (a16 : PySem.W.nsIn K mainGlobals "_shortest_round" = some (some (.ref f16))) (l16 : K.lookup f16 = some ⟨oc16, od16, .func (PySem.W.fnOf "_shortest_round" "_shortest_round" (defArgs s__shortest_round) (defBody s__shortest_round) (defScope s__shortest_round) .none kV16 doc16 pm16 an16 cdv16 ct16), sl16⟩) (c16 : PySem.W.codeIn K cdv16 "_shortest_round" = true) (k16 : PySem.W.keepIn K (.ref f16) = true)
    {oc17 : Value} {od17 an17 : Option Addr} {sl17 : Array (Option Value)} {kV17 doc17 pm17 cdv17 ct17 : Value} (a17 : PySem.W.nsIn K mainGlobals "normal_of" = some (some (.ref f17))) (l17 : K.lookup f17 = some ⟨oc17, od17, .func (PySem.W.fnOf "normal_of" "normal_of" (defArgs s_normal_of) (defBody s_normal_of) (defScope s_normal_of) .none kV17 doc17 pm17 an17 cdv17 ct17), sl17⟩) (c17 : PySem.W.codeIn K cdv17 "normal_of" = true) (k17 : PySem.W.keepIn K (.ref f17) = true)
    {oc18 : Value} {od18 an18 : Option Addr} {sl18 : Array (Option Value)} {kV18 doc18 pm18 cdv18 ct18 : Value} (a18 : PySem.W.nsIn K mainGlobals "short_enough" = some (some (.ref f18))) (l18 : K.lookup f18 = some ⟨oc18, od18, .func (PySem.W.fnOf "short_enough" "short_enough" (defArgs s_short_enough) (defBody s_short_enough) (defScope s_short_enough) .none kV18 doc18 pm18 an18 cdv18 ct18), sl18⟩) (c18 : PySem.W.codeIn K cdv18 "short_enough" = true) (k18 : PySem.W.keepIn K (.ref f18) = true)
    {oc19 : Value} {od19 an19 : Option Addr} {sl19 : Array (Option Value)} {kV19 doc19 pm19 cdv19 ct19 : Value} (a19 : PySem.W.nsIn K mainGlobals "_law_pot" = some (some (.ref f19))) (l19 : K.lookup f19 = some ⟨oc19, od19, .func (PySem.W.fnOf "_law_pot" "_law_pot" (defArgs s__law_pot) (defBody s__law_pot) (defScope s__law_pot) .none kV19 doc19 pm19 an19 cdv19 ct19), sl19⟩) (c19 : PySem.W.codeIn K cdv19 "_law_pot" = true) (k19 : PySem.W.keepIn K (.ref f19) = true)
    {oc20 : Value} {od20 an20 : Option Addr} {sl20 : Array (Option Value)} {kV20 doc20 pm20 cdv20 ct20 : Value} (a20 : PySem.W.nsIn K mainGlobals "_law_draw" = some (some (.ref f20))) (l20 : K.lookup f20 = some ⟨oc20, od20, .func (PySem.W.fnOf "_law_draw" "_law_draw" (defArgs s__law_draw) (defBody s__law_draw) (defScope s__law_draw) .none kV20 doc20 pm20 an20 cdv20 ct20), sl20⟩) (c20 : PySem.W.codeIn K cdv20 "_law_draw" = true) (k20 : PySem.W.keepIn K (.ref f20) = true)
    {oc21 : Value} {od21 an21 : Option Addr} {sl21 : Array (Option Value)} {kV21 doc21 pm21 cdv21 ct21 : Value} (a21 : PySem.W.nsIn K mainGlobals "_law_word" = some (some (.ref f21))) (l21 : K.lookup f21 = some ⟨oc21, od21, .func (PySem.W.fnOf "_law_word" "_law_word" (defArgs s__law_word) (defBody s__law_word) (defScope s__law_word) .none kV21 doc21 pm21 an21 cdv21 ct21), sl21⟩) (c21 : PySem.W.codeIn K cdv21 "_law_word" = true) (k21 : PySem.W.keepIn K (.ref f21) = true)
    {oc22 : Value} {od22 an22 : Option Addr} {sl22 : Array (Option Value)} {kV22 doc22 pm22 cdv22 ct22 : Value} (a22 : PySem.W.nsIn K mainGlobals "_law_row" = some (some (.ref f22))) (l22 : K.lookup f22 = some ⟨oc22, od22, .func (PySem.W.fnOf "_law_row" "_law_row" (defArgs s__law_row) (defBody s__law_row) (defScope s__law_row) .none kV22 doc22 pm22 an22 cdv22 ct22), sl22⟩) (c22 : PySem.W.codeIn K cdv22 "_law_row" = true) (k22 : PySem.W.keepIn K (.ref f22) = true)
    {oc23 : Value} {od23 an23 : Option Addr} {sl23 : Array (Option Value)} {kV23 doc23 pm23 cdv23 ct23 : Value} (a23 : PySem.W.nsIn K mainGlobals "_law_at" = some (some (.ref f23))) (l23 : K.lookup f23 = some ⟨oc23, od23, .func (PySem.W.fnOf "_law_at" "_law_at" (defArgs s__law_at) (defBody s__law_at) (defScope s__law_at) .none kV23 doc23 pm23 an23 cdv23 ct23), sl23⟩) (c23 : PySem.W.codeIn K cdv23 "_law_at" = true) (k23 : PySem.W.keepIn K (.ref f23) = true)
    {oc24 : Value} {od24 an24 : Option Addr} {sl24 : Array (Option Value)} {kV24 doc24 pm24 cdv24 ct24 : Value} (a24 : PySem.W.nsIn K mainGlobals "_law_spelled" = some (some (.ref f24))) (l24 : K.lookup f24 = some ⟨oc24, od24, .func (PySem.W.fnOf "_law_spelled" "_law_spelled" (defArgs s__law_spelled) (defBody s__law_spelled) (defScope s__law_spelled) .none kV24 doc24 pm24 an24 cdv24 ct24), sl24⟩) (c24 : PySem.W.codeIn K cdv24 "_law_spelled" = true) (k24 : PySem.W.keepIn K (.ref f24) = true)
    {oc25 : Value} {od25 an25 : Option Addr} {sl25 : Array (Option Value)} {kV25 doc25 pm25 cdv25 ct25 : Value} (a25 : PySem.W.nsIn K mainGlobals "_law_normal" = some (some (.ref f25))) (l25 : K.lookup f25 = some ⟨oc25, od25, .func (PySem.W.fnOf "_law_normal" "_law_normal" (defArgs s__law_normal) (defBody s__law_normal) (defScope s__law_normal) .none kV25 doc25 pm25 an25 cdv25 ct25), sl25⟩) (c25 : PySem.W.codeIn K cdv25 "_law_normal" = true) (k25 : PySem.W.keepIn K (.ref f25) = true)
    {oc26 : Value} {od26 an26 : Option Addr} {sl26 : Array (Option Value)} {kV26 doc26 pm26 cdv26 ct26 : Value} (a26 : PySem.W.nsIn K mainGlobals "_law_is_told" = some (some (.ref f26))) (l26 : K.lookup f26 = some ⟨oc26, od26, .func (PySem.W.fnOf "_law_is_told" "_law_is_told" (defArgs s__law_is_told) (defBody s__law_is_told) (defScope s__law_is_told) .none kV26 doc26 pm26 an26 cdv26 ct26), sl26⟩) (c26 : PySem.W.codeIn K cdv26 "_law_is_told" = true) (k26 : PySem.W.keepIn K (.ref f26) = true)
    {oc27 : Value} {od27 an27 : Option Addr} {sl27 : Array (Option Value)} {kV27 doc27 pm27 ct27 : Value} (a27 : PySem.W.nsIn K mainGlobals "_law_ahead_right" = some (some (.ref f27))) (l27 : K.lookup f27 = some ⟨oc27, od27, .func (PySem.W.fnOf "_law_ahead_right" "_law_ahead_right" (defArgs s__law_ahead_right) (defBody s__law_ahead_right) (defScope s__law_ahead_right) .none kV27 doc27 pm27 an27 (.ref cm__law_ahead_right) ct27), sl27⟩) (c27 : PySem.W.codeIn K (.ref cm__law_ahead_right) "_law_ahead_right" = true) (k27 : PySem.W.keepIn K (.ref f27) = true)
    {oc28 : Value} {od28 an28 : Option Addr} {sl28 : Array (Option Value)} {kV28 doc28 pm28 ct28 : Value} (a28 : PySem.W.nsIn K mainGlobals "_law_woven_right" = some (some (.ref f28))) (l28 : K.lookup f28 = some ⟨oc28, od28, .func (PySem.W.fnOf "_law_woven_right" "_law_woven_right" (defArgs s__law_woven_right) (defBody s__law_woven_right) (defScope s__law_woven_right) .none kV28 doc28 pm28 an28 (.ref cm__law_woven_right) ct28), sl28⟩) (c28 : PySem.W.codeIn K (.ref cm__law_woven_right) "_law_woven_right" = true) (k28 : PySem.W.keepIn K (.ref f28) = true)
    {oc29 : Value} {od29 an29 : Option Addr} {sl29 : Array (Option Value)} {kV29 doc29 pm29 cdv29 ct29 : Value} (a29 : PySem.W.nsIn K mainGlobals "law" = some (some (.ref f29))) (l29 : K.lookup f29 = some ⟨oc29, od29, .func (PySem.W.fnOf "law" "law" (defArgs s_law) (defBody s_law) (defScope s_law) .none kV29 doc29 pm29 an29 cdv29 ct29), sl29⟩) (c29 : PySem.W.codeIn K cdv29 "law" = true) (k29 : PySem.W.keepIn K (.ref f29) = true)
    (hnd : [P__law_ahead_right, P__law_woven_right].Nodup)
    (hd__law_ahead_right : CodeF K cm__law_ahead_right P__law_ahead_right)
    (hd__law_woven_right : CodeF K cm__law_woven_right P__law_woven_right)
    (x0c : ∃ u, mg "FARTHEST" = some u ∧ RelV (.int 999999) u)
    (x1c : ∃ u, mg "LONGEST" = some u ∧ RelV (.int 40) u)
    (x2c : ∃ u, mg "MOST_LETTERS" = some u ∧ RelV (.int 4) u)
    (x3c : ∃ u, mg "MOST_SPELLED" = some u ∧ RelV (.int 400) u)
    (z0 : mg "abs" = none)
    (z1 : mg "all" = none)
    (z2 : mg "bool" = none)
    (z3 : mg "divmod" = none)
    (z4 : mg "int" = none)
    (z5 : mg "isinstance" = none)
    (z6 : mg "len" = none)
    (z7 : mg "list" = none)
    (z8 : mg "max" = none)
    (z9 : mg "range" = none)
    (z10 : mg "tuple" = none) : All (gmkL K lamTab (fun i => if i = 0 then C_TooMany else 0) [(P__law_ahead_right, (("_law_ahead_right" : Str) ++ ".<locals>." ++ "<lambda>")), (P__law_woven_right, (("_law_woven_right" : Str) ++ ".<locals>." ++ "<lambda>"))] (fun _ => []) (fun i => if i = 0 then ["limit", "what"] else [])) mg :=
  All.mk (xv_mk (G := (gmkL K lamTab (fun i => if i = 0 then C_TooMany else 0) [(P__law_ahead_right, (("_law_ahead_right" : Str) ++ ".<locals>." ++ "<lambda>")), (P__law_woven_right, (("_law_woven_right" : Str) ++ ".<locals>." ++ "<lambda>"))] (fun _ => []) (fun i => if i = 0 then ["limit", "what"] else []))) (i := 0) KX Gn xa0 xl0 xc0 xk0 hb_TooMany ⟨⟨"ArithmeticError", _, _, _, PySem.F.excBase_ArithmeticError, PySem.F.store_ArithmeticError, xq0, xo0⟩, xh0, xs0, xe0, xt0, xp0⟩ xi0 xf0 ⟨xg0, xn0, xe0, xh0⟩ rfl (consL xz0_0 (consL xz1_0 noL)))
    (exm_mk xe0 xt0 xu0 xd0)
    (dv_mk (G := (gmkL K lamTab (fun i => if i = 0 then C_TooMany else 0) [(P__law_ahead_right, (("_law_ahead_right" : Str) ++ ".<locals>." ++ "<lambda>")), (P__law_woven_right, (("_law_woven_right" : Str) ++ ".<locals>." ++ "<lambda>"))] (fun _ => []) (fun i => if i = 0 then ["limit", "what"] else []))) KX Gn a0 l0 c0 k0 hb_is_integer)
    (dv_mk (G := (gmkL K lamTab (fun i => if i = 0 then C_TooMany else 0) [(P__law_ahead_right, (("_law_ahead_right" : Str) ++ ".<locals>." ++ "<lambda>")), (P__law_woven_right, (("_law_woven_right" : Str) ++ ".<locals>." ++ "<lambda>"))] (fun _ => []) (fun i => if i = 0 then ["limit", "what"] else []))) KX Gn a1 l1 c1 k1 hb_is_count)
    (dv_mk (G := (gmkL K lamTab (fun i => if i = 0 then C_TooMany else 0) [(P__law_ahead_right, (("_law_ahead_right" : Str) ++ ".<locals>." ++ "<lambda>")), (P__law_woven_right, (("_law_woven_right" : Str) ++ ".<locals>." ++ "<lambda>"))] (fun _ => []) (fun i => if i = 0 then ["limit", "what"] else []))) KX Gn a2 l2 c2 k2 hb_is_below)
    (dv_mk (G := (gmkL K lamTab (fun i => if i = 0 then C_TooMany else 0) [(P__law_ahead_right, (("_law_ahead_right" : Str) ++ ".<locals>." ++ "<lambda>")), (P__law_woven_right, (("_law_woven_right" : Str) ++ ".<locals>." ++ "<lambda>"))] (fun _ => []) (fun i => if i = 0 then ["limit", "what"] else []))) KX Gn a3 l3 c3 k3 hb_is_list)
    (dv_mk (G := (gmkL K lamTab (fun i => if i = 0 then C_TooMany else 0) [(P__law_ahead_right, (("_law_ahead_right" : Str) ++ ".<locals>." ++ "<lambda>")), (P__law_woven_right, (("_law_woven_right" : Str) ++ ".<locals>." ++ "<lambda>"))] (fun _ => []) (fun i => if i = 0 then ["limit", "what"] else []))) KX Gn a4 l4 c4 k4 hb_is_pair)
    (dv_mk (G := (gmkL K lamTab (fun i => if i = 0 then C_TooMany else 0) [(P__law_ahead_right, (("_law_ahead_right" : Str) ++ ".<locals>." ++ "<lambda>")), (P__law_woven_right, (("_law_woven_right" : Str) ++ ".<locals>." ++ "<lambda>"))] (fun _ => []) (fun i => if i = 0 then ["limit", "what"] else []))) KX Gn a5 l5 c5 k5 hb_is_word)
    (dv_mk (G := (gmkL K lamTab (fun i => if i = 0 then C_TooMany else 0) [(P__law_ahead_right, (("_law_ahead_right" : Str) ++ ".<locals>." ++ "<lambda>")), (P__law_woven_right, (("_law_woven_right" : Str) ++ ".<locals>." ++ "<lambda>"))] (fun _ => []) (fun i => if i = 0 then ["limit", "what"] else []))) KX Gn a6 l6 c6 k6 hb_is_row_of)
    (dv_mk (G := (gmkL K lamTab (fun i => if i = 0 then C_TooMany else 0) [(P__law_ahead_right, (("_law_ahead_right" : Str) ++ ".<locals>." ++ "<lambda>")), (P__law_woven_right, (("_law_woven_right" : Str) ++ ".<locals>." ++ "<lambda>"))] (fun _ => []) (fun i => if i = 0 then ["limit", "what"] else []))) KX Gn a7 l7 c7 k7 hb_check_word)
    (dv_mk (G := (gmkL K lamTab (fun i => if i = 0 then C_TooMany else 0) [(P__law_ahead_right, (("_law_ahead_right" : Str) ++ ".<locals>." ++ "<lambda>")), (P__law_woven_right, (("_law_woven_right" : Str) ++ ".<locals>." ++ "<lambda>"))] (fun _ => []) (fun i => if i = 0 then ["limit", "what"] else []))) KX Gn a8 l8 c8 k8 hb_check_row)
    (dv_mk (G := (gmkL K lamTab (fun i => if i = 0 then C_TooMany else 0) [(P__law_ahead_right, (("_law_ahead_right" : Str) ++ ".<locals>." ++ "<lambda>")), (P__law_woven_right, (("_law_woven_right" : Str) ++ ".<locals>." ++ "<lambda>"))] (fun _ => []) (fun i => if i = 0 then ["limit", "what"] else []))) KX Gn a9 l9 c9 k9 hb_check_many)
    (dv_mk (G := (gmkL K lamTab (fun i => if i = 0 then C_TooMany else 0) [(P__law_ahead_right, (("_law_ahead_right" : Str) ++ ".<locals>." ++ "<lambda>")), (P__law_woven_right, (("_law_woven_right" : Str) ++ ".<locals>." ++ "<lambda>"))] (fun _ => []) (fun i => if i = 0 then ["limit", "what"] else []))) KX Gn a10 l10 c10 k10 hb_spelled)
    (dv_mk (G := (gmkL K lamTab (fun i => if i = 0 then C_TooMany else 0) [(P__law_ahead_right, (("_law_ahead_right" : Str) ++ ".<locals>." ++ "<lambda>")), (P__law_woven_right, (("_law_woven_right" : Str) ++ ".<locals>." ++ "<lambda>"))] (fun _ => []) (fun i => if i = 0 then ["limit", "what"] else []))) KX Gn a11 l11 c11 k11 hb_normal_row)
    (dv_mk (G := (gmkL K lamTab (fun i => if i = 0 then C_TooMany else 0) [(P__law_ahead_right, (("_law_ahead_right" : Str) ++ ".<locals>." ++ "<lambda>")), (P__law_woven_right, (("_law_woven_right" : Str) ++ ".<locals>." ++ "<lambda>"))] (fun _ => []) (fun i => if i = 0 then ["limit", "what"] else []))) KX Gn a12 l12 c12 k12 hb_turned_on)
    (dv_mk (G := (gmkL K lamTab (fun i => if i = 0 then C_TooMany else 0) [(P__law_ahead_right, (("_law_ahead_right" : Str) ++ ".<locals>." ++ "<lambda>")), (P__law_woven_right, (("_law_woven_right" : Str) ++ ".<locals>." ++ "<lambda>"))] (fun _ => []) (fun i => if i = 0 then ["limit", "what"] else []))) KX Gn a13 l13 c13 k13 hb_put_ahead)
    (dv_mk (G := (gmkL K lamTab (fun i => if i = 0 then C_TooMany else 0) [(P__law_ahead_right, (("_law_ahead_right" : Str) ++ ".<locals>." ++ "<lambda>")), (P__law_woven_right, (("_law_woven_right" : Str) ++ ".<locals>." ++ "<lambda>"))] (fun _ => []) (fun i => if i = 0 then ["limit", "what"] else []))) KX Gn a14 l14 c14 k14 hb_woven)
    (dv_mk (G := (gmkL K lamTab (fun i => if i = 0 then C_TooMany else 0) [(P__law_ahead_right, (("_law_ahead_right" : Str) ++ ".<locals>." ++ "<lambda>")), (P__law_woven_right, (("_law_woven_right" : Str) ++ ".<locals>." ++ "<lambda>"))] (fun _ => []) (fun i => if i = 0 then ["limit", "what"] else []))) KX Gn a15 l15 c15 k15 hb__letter)
    (dv_mk (G := (gmkL K lamTab (fun i => if i = 0 then C_TooMany else 0) [(P__law_ahead_right, (("_law_ahead_right" : Str) ++ ".<locals>." ++ "<lambda>")), (P__law_woven_right, (("_law_woven_right" : Str) ++ ".<locals>." ++ "<lambda>"))] (fun _ => []) (fun i => if i = 0 then ["limit", "what"] else []))) KX Gn a16 l16 c16 k16 hb__shortest_round)
    (dv_mk (G := (gmkL K lamTab (fun i => if i = 0 then C_TooMany else 0) [(P__law_ahead_right, (("_law_ahead_right" : Str) ++ ".<locals>." ++ "<lambda>")), (P__law_woven_right, (("_law_woven_right" : Str) ++ ".<locals>." ++ "<lambda>"))] (fun _ => []) (fun i => if i = 0 then ["limit", "what"] else []))) KX Gn a17 l17 c17 k17 hb_normal_of)
    (dv_mk (G := (gmkL K lamTab (fun i => if i = 0 then C_TooMany else 0) [(P__law_ahead_right, (("_law_ahead_right" : Str) ++ ".<locals>." ++ "<lambda>")), (P__law_woven_right, (("_law_woven_right" : Str) ++ ".<locals>." ++ "<lambda>"))] (fun _ => []) (fun i => if i = 0 then ["limit", "what"] else []))) KX Gn a18 l18 c18 k18 hb_short_enough)
    (dv_mk (G := (gmkL K lamTab (fun i => if i = 0 then C_TooMany else 0) [(P__law_ahead_right, (("_law_ahead_right" : Str) ++ ".<locals>." ++ "<lambda>")), (P__law_woven_right, (("_law_woven_right" : Str) ++ ".<locals>." ++ "<lambda>"))] (fun _ => []) (fun i => if i = 0 then ["limit", "what"] else []))) KX Gn a19 l19 c19 k19 hb__law_pot)
    (dv_mk (G := (gmkL K lamTab (fun i => if i = 0 then C_TooMany else 0) [(P__law_ahead_right, (("_law_ahead_right" : Str) ++ ".<locals>." ++ "<lambda>")), (P__law_woven_right, (("_law_woven_right" : Str) ++ ".<locals>." ++ "<lambda>"))] (fun _ => []) (fun i => if i = 0 then ["limit", "what"] else []))) KX Gn a20 l20 c20 k20 hb__law_draw)
    (dv_mk (G := (gmkL K lamTab (fun i => if i = 0 then C_TooMany else 0) [(P__law_ahead_right, (("_law_ahead_right" : Str) ++ ".<locals>." ++ "<lambda>")), (P__law_woven_right, (("_law_woven_right" : Str) ++ ".<locals>." ++ "<lambda>"))] (fun _ => []) (fun i => if i = 0 then ["limit", "what"] else []))) KX Gn a21 l21 c21 k21 hb__law_word)
    (dv_mk (G := (gmkL K lamTab (fun i => if i = 0 then C_TooMany else 0) [(P__law_ahead_right, (("_law_ahead_right" : Str) ++ ".<locals>." ++ "<lambda>")), (P__law_woven_right, (("_law_woven_right" : Str) ++ ".<locals>." ++ "<lambda>"))] (fun _ => []) (fun i => if i = 0 then ["limit", "what"] else []))) KX Gn a22 l22 c22 k22 hb__law_row)
    (dv_mk (G := (gmkL K lamTab (fun i => if i = 0 then C_TooMany else 0) [(P__law_ahead_right, (("_law_ahead_right" : Str) ++ ".<locals>." ++ "<lambda>")), (P__law_woven_right, (("_law_woven_right" : Str) ++ ".<locals>." ++ "<lambda>"))] (fun _ => []) (fun i => if i = 0 then ["limit", "what"] else []))) KX Gn a23 l23 c23 k23 hb__law_at)
    (dv_mk (G := (gmkL K lamTab (fun i => if i = 0 then C_TooMany else 0) [(P__law_ahead_right, (("_law_ahead_right" : Str) ++ ".<locals>." ++ "<lambda>")), (P__law_woven_right, (("_law_woven_right" : Str) ++ ".<locals>." ++ "<lambda>"))] (fun _ => []) (fun i => if i = 0 then ["limit", "what"] else []))) KX Gn a24 l24 c24 k24 hb__law_spelled)
    (dv_mk (G := (gmkL K lamTab (fun i => if i = 0 then C_TooMany else 0) [(P__law_ahead_right, (("_law_ahead_right" : Str) ++ ".<locals>." ++ "<lambda>")), (P__law_woven_right, (("_law_woven_right" : Str) ++ ".<locals>." ++ "<lambda>"))] (fun _ => []) (fun i => if i = 0 then ["limit", "what"] else []))) KX Gn a25 l25 c25 k25 hb__law_normal)
    (dv_mk (G := (gmkL K lamTab (fun i => if i = 0 then C_TooMany else 0) [(P__law_ahead_right, (("_law_ahead_right" : Str) ++ ".<locals>." ++ "<lambda>")), (P__law_woven_right, (("_law_woven_right" : Str) ++ ".<locals>." ++ "<lambda>"))] (fun _ => []) (fun i => if i = 0 then ["limit", "what"] else []))) KX Gn a26 l26 c26 k26 hb__law_is_told)
    (dv_mk (G := (gmkL K lamTab (fun i => if i = 0 then C_TooMany else 0) [(P__law_ahead_right, (("_law_ahead_right" : Str) ++ ".<locals>." ++ "<lambda>")), (P__law_woven_right, (("_law_woven_right" : Str) ++ ".<locals>." ++ "<lambda>"))] (fun _ => []) (fun i => if i = 0 then ["limit", "what"] else []))) KX Gn a27 l27 c27 k27 hb__law_ahead_right)
    (dv_mk (G := (gmkL K lamTab (fun i => if i = 0 then C_TooMany else 0) [(P__law_ahead_right, (("_law_ahead_right" : Str) ++ ".<locals>." ++ "<lambda>")), (P__law_woven_right, (("_law_woven_right" : Str) ++ ".<locals>." ++ "<lambda>"))] (fun _ => []) (fun i => if i = 0 then ["limit", "what"] else []))) KX Gn a28 l28 c28 k28 hb__law_woven_right)
    (dv_mk (G := (gmkL K lamTab (fun i => if i = 0 then C_TooMany else 0) [(P__law_ahead_right, (("_law_ahead_right" : Str) ++ ".<locals>." ++ "<lambda>")), (P__law_woven_right, (("_law_woven_right" : Str) ++ ".<locals>." ++ "<lambda>"))] (fun _ => []) (fun i => if i = 0 then ["limit", "what"] else []))) KX Gn a29 l29 c29 k29 hb_law)
    rfl
    rfl
    rfl
    ⟨cm__law_ahead_right, P__law_ahead_right, rfl, List.mem_cons_self, uniqT hnd List.mem_cons_self, hd__law_ahead_right⟩
    ⟨cm__law_woven_right, P__law_woven_right, rfl, (List.mem_cons_of_mem _ List.mem_cons_self), uniqT hnd (List.mem_cons_of_mem _ List.mem_cons_self), hd__law_woven_right⟩
    x0c
    x1c
    x2c
    x3c
    z0
    z1
    z2
    z3
    z4
    z5
    z6
    z7
    z8
    z9
    z10
theorem fin {w : World} {G : Gm} {mg : Str → Option Value} {fa : Addr} {h : Heap} {q : Program} (T : All G mg) (X : G.K.In h) (hfa : mg "law" = some (.ref fa)) (own : TabsOwn G.K q mg h) (hGT : ∀ p ∈ G.T, p.1 ∈ ([(T.w__law_ahead_right.c, T.w__law_ahead_right.P), (T.w__law_woven_right.c, T.w__law_woven_right.P)] : List (Addr × Addr)).map (·.2)) (r__law_ahead_right : ((recsOf q).any fun e => e.name == "_law_ahead_right") = true) (r__law_woven_right : ((recsOf q).any fun e => e.name == "_law_woven_right") = true) : LawAtS PySem.Challenge.rw_tworivals_k12_whole_words_ahead_and_rows w G.K (L2N.CX PySem.Challenge.rw_tworivals_k12_whole_words_ahead_and_rows.prog w) 13 63 "_law_script" mg fa h :=
  law_atL T.d_law [(T.w__law_ahead_right.c, T.w__law_ahead_right.P), (T.w__law_woven_right.c, T.w__law_woven_right.P)] (consL T.w__law_ahead_right.hd (consL T.w__law_woven_right.hd noL)) (consL (own_tab rfl own T.d__law_ahead_right T.w__law_ahead_right r__law_ahead_right) (consL (own_tab rfl own T.d__law_woven_right T.w__law_woven_right r__law_woven_right) noL)) hGT X hfa (fun s u => .of_eq rfl) (fun ns hl => law_true ns hl) (fun base hk hn hT => ok_law T ⟨hT _ List.mem_cons_self, hT _ (List.mem_cons_of_mem _ List.mem_cons_self)⟩)
end VK12
open PySem PySem.W PyProof.Rows in
set_option maxRecDepth 100000 in
set_option maxHeartbeats 0 in
theorem PySem.Challenge.cw_tworivals_k12_whole_words_ahead_and_rows_holds : PySem.Challenge.rw_tworivals_k12_whole_words_ahead_and_rows.Holds := by
  w_on; o_law; k_head; (case hw => w_witness2)
  k_fill
  refine VM.walk_ofAll (l := PySem.Challenge.rw_tworivals_k12_whole_words_ahead_and_rows) (n := 63) (k := 13) (CX := fun w => L2N.CX PySem.Challenge.rw_tworivals_k12_whole_words_ahead_and_rows.prog w) (x := "_law_script") rfl (by decide) rfl ⟨rfl, by decide, by decide⟩ (fun w h Y => by first | exact PySem.W.kIn_of Y | exact PySem.W.km_in_of Y) ?F (fun w H s e s' z => VM.cx_no z)
  case F =>
    intro w mg fa h Y KX G hmg own
    refine' VK12.fin (VK12.all_mk
      KX
      G
      ?xa0
      ?xi0
      ?xl0
      ?xc0
      ?xk0
      ?xq0
      ?xo0
      ?xh0
      ?xs0
      ?xe0
      ?xt0
      ?xp0
      ?xf0
      ?xg0
      ?xn0
      ?xu0
      ?xd0
      ?xz1_0
      ?xz0_0
      ?a0
      ?l0
      ?c0
      ?k0
      ?a1
      ?l1
      ?c1
      ?k1
      ?a2
      ?l2
      ?c2
      ?k2
      ?a3
      ?l3
      ?c3
      ?k3
      ?a4
      ?l4
      ?c4
      ?k4
      ?a5
      ?l5
      ?c5
      ?k5
      ?a6
      ?l6
      ?c6
      ?k6
      ?a7
      ?l7
      ?c7
      ?k7
      ?a8
      ?l8
      ?c8
      ?k8
      ?a9
      ?l9
      ?c9
      ?k9
      ?a10
      ?l10
      ?c10
      ?k10
      ?a11
      ?l11
      ?c11
      ?k11
      ?a12
      ?l12
      ?c12
      ?k12
      ?a13
      ?l13
      ?c13
      ?k13
      ?a14
      ?l14
      ?c14
      ?k14
      ?a15
      ?l15
      ?c15
      ?k15
      ?a16
      ?l16
      ?c16
      ?k16
      ?a17
      ?l17
      ?c17
      ?k17
      ?a18
      ?l18
      ?c18
      ?k18
      ?a19
      ?l19
      ?c19
      ?k19
      ?a20
      ?l20
      ?c20
      ?k20
      ?a21
      ?l21
      ?c21
      ?k21
      ?a22
      ?l22
      ?c22
      ?k22
      ?a23
      ?l23
      ?c23
      ?k23
      ?a24
      ?l24
      ?c24
      ?k24
      ?a25
      ?l25
      ?c25
      ?k25
      ?a26
      ?l26
      ?c26
      ?k26
      ?a27
      ?l27
      ?c27
      ?k27
      ?a28
      ?l28
      ?c28
      ?k28
      ?a29
      ?l29
      ?c29
      ?k29
      ?hnd
      ?hd__law_ahead_right
      ?hd__law_woven_right
      ⟨_, PySem.W.mg_of KX G ?x0c, ?y0c⟩
      ⟨_, PySem.W.mg_of KX G ?x1c, ?y1c⟩
      ⟨_, PySem.W.mg_of KX G ?x2c, ?y2c⟩
      ⟨_, PySem.W.mg_of KX G ?x3c, ?y3c⟩
      (PySem.W.mg_none_of KX G ?z0)
      (PySem.W.mg_none_of KX G ?z1)
      (PySem.W.mg_none_of KX G ?z2)
      (PySem.W.mg_none_of KX G ?z3)
      (PySem.W.mg_none_of KX G ?z4)
      (PySem.W.mg_none_of KX G ?z5)
      (PySem.W.mg_none_of KX G ?z6)
      (PySem.W.mg_none_of KX G ?z7)
      (PySem.W.mg_none_of KX G ?z8)
      (PySem.W.mg_none_of KX G ?z9)
      (PySem.W.mg_none_of KX G ?z10)) KX hmg own (VM.hp_mem rfl) (by decide +kernel) (by decide +kernel)
    (case xa0 => k_is)
    (case xi0 => k_is)
    (case a0 => k_is)
    (case a1 => k_is)
    (case a2 => k_is)
    (case a3 => k_is)
    (case a4 => k_is)
    (case a5 => k_is)
    (case a6 => k_is)
    (case a7 => k_is)
    (case a8 => k_is)
    (case a9 => k_is)
    (case a10 => k_is)
    (case a11 => k_is)
    (case a12 => k_is)
    (case a13 => k_is)
    (case a14 => k_is)
    (case a15 => k_is)
    (case a16 => k_is)
    (case a17 => k_is)
    (case a18 => k_is)
    (case a19 => k_is)
    (case a20 => k_is)
    (case a21 => k_is)
    (case a22 => k_is)
    (case a23 => k_is)
    (case a24 => k_is)
    (case a25 => k_is)
    (case a26 => k_is)
    (case a27 => k_is)
    (case a28 => k_is)
    (case a29 => k_is)
    (case l29 => k_is)
    (case l28 => k_is)
    (case l27 => k_is)
    (case l26 => k_is)
    (case l25 => k_is)
    (case l24 => k_is)
    (case l23 => k_is)
    (case l22 => k_is)
    (case l21 => k_is)
    (case l20 => k_is)
    (case l19 => k_is)
    (case l18 => k_is)
    (case l17 => k_is)
    (case l16 => k_is)
    (case l15 => k_is)
    (case l14 => k_is)
    (case l13 => k_is)
    (case l12 => k_is)
    (case l11 => k_is)
    (case l10 => k_is)
    (case l9 => k_is)
    (case l8 => k_is)
    (case l7 => k_is)
    (case l6 => k_is)
    (case l5 => k_is)
    (case l4 => k_is)
    (case l3 => k_is)
    (case l2 => k_is)
    (case l1 => k_is)
    (case l0 => k_is)
    (case xl0 => k_is)
    (case xc0 => k_is)
    (case xk0 => k_is)
    (case xq0 => kx_is)
    (case xo0 => kx_is)
    (case xh0 => k_is)
    (case xs0 => k_is)
    (case xe0 => k_is)
    (case xt0 => k_is)
    (case xp0 => k_is)
    (case xf0 => k_is)
    (case xg0 => k_is)
    (case xn0 => k_is)
    (case xu0 => k_is)
    (case xd0 => k_is)
    (case xz1_0 => k_is)
    (case xz0_0 => k_is)
    (case c0 => k_is)
    (case k0 => k_is)
    (case c1 => k_is)
    (case k1 => k_is)
    (case c2 => k_is)
    (case k2 => k_is)
    (case c3 => k_is)
    (case k3 => k_is)
    (case c4 => k_is)
    (case k4 => k_is)
    (case c5 => k_is)
    (case k5 => k_is)
    (case c6 => k_is)
    (case k6 => k_is)
    (case c7 => k_is)
    (case k7 => k_is)
    (case c8 => k_is)
    (case k8 => k_is)
    (case c9 => k_is)
    (case k9 => k_is)
    (case c10 => k_is)
    (case k10 => k_is)
    (case c11 => k_is)
    (case k11 => k_is)
    (case c12 => k_is)
    (case k12 => k_is)
    (case c13 => k_is)
    (case k13 => k_is)
    (case c14 => k_is)
    (case k14 => k_is)
    (case c15 => k_is)
    (case k15 => k_is)
    (case c16 => k_is)
    (case k16 => k_is)
    (case c17 => k_is)
    (case k17 => k_is)
    (case c18 => k_is)
    (case k18 => k_is)
    (case c19 => k_is)
    (case k19 => k_is)
    (case c20 => k_is)
    (case k20 => k_is)
    (case c21 => k_is)
    (case k21 => k_is)
    (case c22 => k_is)
    (case k22 => k_is)
    (case c23 => k_is)
    (case k23 => k_is)
    (case c24 => k_is)
    (case k24 => k_is)
    (case c25 => k_is)
    (case k25 => k_is)
    (case c26 => k_is)
    (case k26 => k_is)
    (case c27 => k_is)
    (case k27 => k_is)
    (case c28 => k_is)
    (case k28 => k_is)
    (case c29 => k_is)
    (case k29 => k_is)
    (case x0c => k_is)
    (case y0c => exact ⟨_, rfl⟩)
    (case x1c => k_is)
    (case y1c => exact ⟨_, rfl⟩)
    (case x2c => k_is)
    (case y2c => exact ⟨_, rfl⟩)
    (case x3c => k_is)
    (case y3c => exact ⟨_, rfl⟩)
    (case z0 => k_is)
    (case z1 => k_is)
    (case z2 => k_is)
    (case z3 => k_is)
    (case z4 => k_is)
    (case z5 => k_is)
    (case z6 => k_is)
    (case z7 => k_is)
    (case z8 => k_is)
    (case z9 => k_is)
    (case z10 => k_is)
    (case hd__law_ahead_right => exact ⟨_, _, _, _, _, _, _, _, _, _, by k_is, rfl, rfl, rfl, rfl, rfl, rfl, by decide, by rfl⟩)
    (case hd__law_woven_right => exact ⟨_, _, _, _, _, _, _, _, _, _, by k_is, rfl, rfl, rfl, rfl, rfl, rfl, by decide, by rfl⟩)
    (case hnd => decide)
