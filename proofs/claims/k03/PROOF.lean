import PyProof.Rows.All
import Wide.All
import OpenK.AllK
import Wide.FinOn
import HandS.ForMost
import HandS.ForExc
import HandS.Lambda
import KE.KeyNested
import KE.KDictKeyed
import HandS.Conv
import HandS.TupAny
import HandS.IsInst
import HandS.Style
import HandS.MakeKwOnly
import HandS.ExcSuper
import HandS.TryOnly
import HandS.ExcField
import HandS.ExcIs
import HandS.OwnEq
import HandS.Dict
import KE.KEqSeq
import HandS.ExcOwn
import HandS.SortInts
import HandS.TupLen
import KE.SortData
import KE.SortLaws
import KE.KDictSum
import KE.KDictCopyH
import PyProof.WalkInts
import HandS.SortKw
import HandS.RevRange
import KE.KDictDisplayH
import HandS.Head0
import HandS.Head1
import HandS.Head2
import HandS.HeadEnd
import HandS.HeadHook1
import HandS.HeadHook2
import HandS.HeadWalk
import KE.GoesEnum
import KE.GoesEnumKw
import HandS.Iter
import HandS.Zip
import HandS.DictComp
import PyProof.EnumStmt
import PyProof.TupleOfSeq
import HandS.SetFor
import HandS.Strs
import KE.SortUse
import KE.KDictPairs
import HandS.TupMul
import HandS.DictTup
import KE.KEqDict
import HandS.Star
import KE.KIndexOf
import KE.KTupSum
import HandS.WideBits
import HandS.Head3
import PySem.Challenge.RW_offerstands_k03_sets_and_what_is_taken
set_option Elab.async false
set_option linter.all false
set_option maxRecDepth 100000
set_option maxHeartbeats 4000000
namespace Py
open PySem L2

/-- data: what a value is, its heap forgotten -/
inductive D where
  | non | bl (b : Bool) | int (i : Int) | str (x : Str)
  | tup (l : List D) | lst (l : List D)
  | dic (ks vs : List D) | dicN (ks vs : List D)
  | obj (c : Nat) (l : List D)
  | deck

/-- a run of plain Lean: a value, an error, an open draw below n, or no word -/
inductive T (α : Type) where
  | ret (a : α) | exc (c : Nat) (l : List D) | draw (n : Nat) (k : Nat → T α) | bad
namespace T
def bind {α β : Type} : T α → (α → T β) → T β
  | .ret a, f => f a
  | .exc c l, _ => .exc c l
  | .draw n k, f => .draw n fun i => bind (k i) f
  | .bad, _ => .bad
instance : Monad T where
  pure := .ret
  bind := bind
/-- b: how many draws are let -/
def wp {α : Type} : T α → Nat → (α → Nat → Prop) → (Nat → List D → Nat → Prop) → Prop
  | .ret a, b, Q, _ => Q a b
  | .exc c l, b, _, E => E c l b
  | .draw n k, b, Q, E => 0 < b ∧ ∀ i, i < n → wp (k i) (b - 1) Q E
  | .bad, _, _, _ => False
theorem wp_bind {α β : Type} (t : T α) (f : α → T β) (b : Nat) (Q : β → Nat → Prop) (E : Nat → List D → Nat → Prop) : (t.bind f).wp b Q E ↔ t.wp b (fun a b => (f a).wp b Q E) E := by
  induction t generalizing b with
  | ret a => exact Iff.rfl
  | exc c l => exact Iff.rfl
  | draw n k ih => exact and_congr_right fun _ => forall_congr' fun i => forall_congr' fun _ => ih i (b - 1)
  | bad => exact Iff.rfl
theorem wp_mono {α : Type} {Q Q' : α → Nat → Prop} {E E' : Nat → List D → Nat → Prop} : ∀ {t : T α} {b : Nat}, t.wp b Q E → (∀ a b, Q a b → Q' a b) → (∀ c l b, E c l b → E' c l b) → t.wp b Q' E'
  | .ret a, b, h, q, _ => q a b h
  | .exc c l, b, h, _, e => e c l b h
  | .draw n k, b, h, q, e => ⟨h.1, fun i hi => wp_mono (h.2 i hi) q e⟩
  | .bad, _, h, _, _ => h
theorem wp_imp {α : Type} {Q Q' : α → Nat → Prop} {E : Nat → List D → Nat → Prop} {t : T α} {b : Nat} (h : t.wp b Q E) (q : ∀ a b, Q a b → Q' a b) : t.wp b Q' E := wp_mono h q fun _ _ _ x => x
end T

def Ex (H H' : Hp) : Prop := ∀ a o, H a = some o → H' a = some o
/-- what holds of a heap holds of a wider one -/
abbrev Up := { Q : Hp → Prop // ∀ H H', Ex H H' → Q H → Q H' }
/-- what is fixed through a law: the classes' addresses and attributes by number, the deck's objects (they alone change for the callers), what holds of them -/
structure Gl where
  P : Program
  w : World
  K : PySem.W.Frag
  cls : Nat → Addr
  flds : Nat → List Str
  dk : Addr
  M : Addr → Prop
  /-- what holds of the deck's objects while so many draws are let -/
  J : Nat → Hp → Prop
  /-- the tables of code objects, each with the name of the lambdas that it tells -/
  tb : List (Addr × Str)
  /-- the error that an except clause holds: its address, its class, its dict -/
  ea : Option (Addr × Value × Option Addr)
  /-- the lambda that a def got: its address, what it wants of the heap -/
  fa : Option (Addr × Up)
  /-- the functions that a def got, by number: address, what they want of the heap -/
  fs : Nat → Option (Addr × Up) := fun _ => none
  /-- dicts may be locked, while they are walked over -/
  lk : Prop := True
  has : ∀ b H a, J b H → M a → H a ≠ none
  stays : ∀ b H H', J b H → (∀ a, M a → H' a = H a) → (∀ a c q, H a = some (LamX.CodeO c q) → H' a = some (LamX.CodeO c q)) → J b H'
  tabs : ∀ b H, J b H → LamX.Tabs tb H
  lam : ∀ b H H', J b H → LamX.ExtN H H' → LamX.Tabs tb H' → J b H'
  code : ∀ b H c q, J b H → H c = some (LamX.CodeO c q) → ¬ M c
/-- no table of code objects -/
def notT (o : HO) : Prop := ∀ ps, o ≠ .tbl ps
/-- no table, no code object -/
structure Plain (o : HO) : Prop where
  nt : notT o
  ne : ∀ c q, o ≠ LamX.CodeO c q
/-- a dict whose keys are tuples, nested: its entries by key, the key's object, value -/
def DN (P : Program) (w : World) (a : Addr) (ps : List (NestedKey × Addr × V)) : HO := .ext fun h => ps.length ≤ sizeLine ∧ (a == sysModules) = false ∧ ∃ xs : List (NestedKey × Addr × Value),
  Paired (fun (p : NestedKey × Addr × V) (q : NestedKey × Addr × Value) => p.1 = q.1 ∧ p.2.1 = q.2.1 ∧ RelV p.2.2 q.2.2) ps xs ∧
  ∃ o es ep, h.get? a = some o ∧ o.ExactDict ∧ o.data = .dict es ep ∧ es.toList = xs.map (entryOfKey (nestedKind P w)) ∧ (xs.map (·.1)).Nodup
theorem DN_ne {P : Program} {w : World} {a c : Addr} {q : Str} {ps : List (NestedKey × Addr × V)} : DN P w a ps ≠ LamX.CodeO c q := by
  intro z
  have z1 := HO.ext.inj z
  have oc : Obj := { cls := .none, data := .fields #[.none, .str q 0] }
  have h0 := congrFun z1 { objs := Array.replicate (c + 1) { cls := .none, data := .fields #[.none, .str q 0] } }
  have g : ∀ (b : Addr) (o : Obj), Heap.get? { objs := Array.replicate (c + 1) { cls := .none, data := .fields #[.none, .str q 0] } } b = some o → o.data = .fields #[.none, .str q 0] := fun b o e => by
    unfold Heap.get? at e
    by_cases hb : b < c + 1
    · simp [hb] at e
      rw [← e]
    · simp [hb] at e
  have r := h0.mpr ⟨{ cls := .none, data := .fields #[.none, .str q 0] }, _, 0, by simp [Heap.get?], rfl, rfl⟩
  obtain ⟨_, _, xs, _, o, es, ep, e1, _, e2, _⟩ := r
  rw [g _ _ e1] at e2
  cases e2

mutual
/-- data as a dict's key -/
def nk : D → Option NestedKey
  | .non => some .none
  | .bl b => some (.num (if b then 1 else 0))
  | .int i => some (.num i)
  | .str x => some (.text x)
  | .tup l => (nks l).map .tup
  | _ => none
def nks : List D → Option (List NestedKey)
  | [] => some []
  | d :: l => (nk d).bind fun k => (nks l).map (k :: ·)
end
/-- the keys ks are those of the entries ps -/
def KN (ks : List D) (ps : List (NestedKey × Addr × V)) : Prop := nks ks = some (ps.map (·.1)) ∧ ∀ p ∈ ps, p.1.depth ≤ 8
/-- the object at a is known, and has no dict of its own -/
def NoDi (K : PySem.W.Frag) (H : Hp) (a : Addr) : Prop := (∃ o u, H a = some (.frz o u) ∧ o.dict = none) ∨ ∃ o, K.lookup a = some o ∧ o.dict = none
/-- a tuple without a dict of its own -/
structure SqN (K : PySem.W.Frag) (H : Hp) (a : Addr) (xs : List V) : Prop where
  t : SqT K H a xs
  n : NoDi K H a
theorem SqN.new {K : PySem.W.Frag} {H : Hp} {a : Addr} {xs : List V} {o : Obj} (e : H a = some (.frz o (.tup xs))) (d : o.dict = none) : SqN K H a xs := ⟨.inl (.inr ⟨o, e⟩), .inl ⟨o, _, e, d⟩⟩
/-- the thing u at a, perhaps locked -/
def RdG (G : Gl) (H : Hp) (a : Addr) (u : HO) : Prop := H a = some u ∨ (G.lk ∧ ∃ o, H a = some (.frz o u))
theorem RdG.rd {G : Gl} {H : Hp} {a : Addr} {u : HO} (h : RdG G H a u) : Rd H a u := h.imp id fun z => z.2
mutual
/-- the value v of the heap H is the data d -/
inductive At (G : Gl) (H : Hp) : D → V → Prop
  | non : At G H .non .non
  | bl {b} : At G H (.bl b) (.bl b)
  | int {i} : At G H (.int i) (.int i)
  | str {x} : At G H (.str x) (.str x)
  | tup {l a xs} : SqN G.K H a xs → Ats G H l xs → At G H (.tup l) (.ref a)
  | lst {l a xs} : H a = some (.lst xs) → Ats G H l xs → At G H (.lst l) (.ref a)
  | dic {ks vs a kvs} : RdG G H a (.dK kvs) → Ats G H ks (kvs.map fun q => kV q.1) → Ats G H vs (kvs.map (·.2)) → At G H (.dic ks vs) (.ref a)
  | dicN {ks vs a ps} : H a = some (DN G.P G.w a ps) → KN ks ps → Ats G H ks (ps.map fun q => V.ref q.2.1) → Ats G H vs (ps.map fun q => q.2.2) → At G H (.dicN ks vs) (.ref a)
  | obj {c l a dx fs} : H a = some (.ins (G.cls c) dx fs) → fs.map (·.1) = G.flds c → Ats G H l (fs.map (·.2)) → At G H (.obj c l) (.ref a)
  | deck : At G H .deck (.ref G.dk)
inductive Ats (G : Gl) (H : Hp) : List D → List V → Prop
  | nil : Ats G H [] []
  | cons {d x l xs} : At G H d x → Ats G H l xs → Ats G H (d :: l) (x :: xs)
end

theorem Ex.refl (H : Hp) : Ex H H := fun _ _ h => h
theorem Ex.trans {H H1 H2 : Hp} (a : Ex H H1) (b : Ex H1 H2) : Ex H H2 := fun x o h => b x o (a x o h)
theorem Ex.new {H : Hp} {p : Addr} {o : HO} (h : H p = none) : Ex H (upd H p o) := fun a u e => by
  rw [upd_ne (ne_of_none e h)]
  exact e
theorem RdG.mono {G : Gl} {H H' : Hp} {a : Addr} {u : HO} (e : Ex H H') (h : RdG G H a u) : RdG G H' a u := h.imp (e a _) fun ⟨l, o, z⟩ => ⟨l, o, e a _ z⟩
theorem Ex.rd {H H' : Hp} {a : Addr} {u : HO} (e : Ex H H') (h : Rd H a u) : Rd H' a u := by
  rcases h with h | ⟨o, h⟩
  · exact .inl (e a _ h)
  · exact .inr ⟨o, e a _ h⟩
theorem Ex.sqL {K : PySem.W.Frag} {H H' : Hp} {a : Addr} {xs : List V} (e : Ex H H') (h : SqL K H a xs) : SqL K H' a xs := by
  rcases h with h | h
  · exact .inl (e.rd h)
  · exact .inr h
theorem Ex.sqT {K : PySem.W.Frag} {H H' : Hp} {a : Addr} {xs : List V} (e : Ex H H') (h : SqT K H a xs) : SqT K H' a xs := by
  rcases h with h | h
  · exact .inl (e.rd h)
  · exact .inr h

theorem Ex.sqN {K : PySem.W.Frag} {H H' : Hp} {a : Addr} {xs : List V} (e : Ex H H') (h : SqN K H a xs) : SqN K H' a xs := ⟨e.sqT h.t, by
  rcases h.n with ⟨o, u, h1, h2⟩ | h
  · exact .inl ⟨o, u, e _ _ h1, h2⟩
  · exact .inr h⟩
theorem Ex.sqM {K : PySem.W.Frag} {H H' : Hp} {a : Addr} {xs : List V} (e : Ex H H') (h : SqN K H a xs) : SqT K H' a xs := e.sqT h.t
mutual
theorem At.mono {G : Gl} {H H' : Hp} (e : Ex H H') : ∀ {d : D} {v : V}, At G H d v → At G H' d v
  | _, _, .non => .non
  | _, _, .bl => .bl
  | _, _, .int => .int
  | _, _, .str => .str
  | _, _, .tup h r => .tup (e.sqN h) (Ats.mono e r)
  | _, _, .lst h r => .lst (e _ _ h) (Ats.mono e r)
  | _, _, .dic h r q => .dic (h.mono e) (Ats.mono e r) (Ats.mono e q)
  | _, _, .dicN h n r q => .dicN (e _ _ h) n (Ats.mono e r) (Ats.mono e q)
  | _, _, .obj h n r => .obj (e _ _ h) n (Ats.mono e r)
  | _, _, .deck => .deck
theorem Ats.mono {G : Gl} {H H' : Hp} (e : Ex H H') : ∀ {l : List D} {xs : List V}, Ats G H l xs → Ats G H' l xs
  | _, _, .nil => .nil
  | _, _, .cons h r => .cons (At.mono e h) (Ats.mono e r)
end
theorem Ats.length {G : Gl} {H : Hp} : ∀ {l : List D} {xs : List V}, Ats G H l xs → l.length = xs.length
  | _, _, .nil => rfl
  | _, _, .cons _ r => by
    rw [List.length_cons, List.length_cons, Ats.length r]
theorem Ats.get {G : Gl} {H : Hp} : ∀ {l : List D} {xs : List V} {i : Nat} {x : V}, Ats G H l xs → xs[i]? = some x → ∃ d, l[i]? = some d ∧ At G H d x
  | _, _, _, _, .nil, e => by simp at e
  | _, _, 0, x, .cons h _, e => ⟨_, rfl, by
    have e1 := Option.some.inj e
    rw [← e1]
    exact h⟩
  | _, _, i + 1, x, .cons _ r, e => Ats.get (i := i) r (by simpa using e)
theorem Ats.get' {G : Gl} {H : Hp} : ∀ {l : List D} {xs : List V} {i : Nat} {d : D}, Ats G H l xs → l[i]? = some d → ∃ x, xs[i]? = some x ∧ At G H d x
  | _, _, _, _, .nil, e => by simp at e
  | _, _, 0, d, .cons h _, e => ⟨_, rfl, by
    have e1 := Option.some.inj e
    rw [← e1]
    exact h⟩
  | _, _, i + 1, d, .cons _ r, e => Ats.get' (i := i) r (by simpa using e)
theorem Ats.append {G : Gl} {H : Hp} : ∀ {l m : List D} {xs ys : List V}, Ats G H l xs → Ats G H m ys → Ats G H (l ++ m) (xs ++ ys)
  | _, _, _, _, .nil, q => q
  | _, _, _, _, .cons h r, q => .cons h (Ats.append r q)

/-! ### what is hidden -/
open Classical in
/-- what is hidden is not seen; tables of code objects are never seen -/
noncomputable def hide (h : Addr → Prop) (H : Hp) : Hp := fun a => if h a ∨ ∃ ps, H a = some (.tbl ps) then none else H a
theorem hide_all {h : Addr → Prop} {H : Hp} {a : Addr} {o : HO} : hide h H a = some o ↔ (¬ h a ∧ H a = some o) ∧ notT o := by
  unfold hide
  by_cases q : h a ∨ ∃ ps, H a = some (.tbl ps)
  · rw [if_pos q]
    refine ⟨fun z => (nomatch z), fun z => ?_⟩
    rcases q with q | ⟨ps, q⟩
    · exact absurd q z.1.1
    · rw [z.1.2] at q
      exact absurd (Option.some.inj q) (z.2 ps)
  · rw [if_neg q]
    refine ⟨fun z => ⟨⟨fun y => q (.inl y), z⟩, fun ps y => q (.inr ⟨ps, by rw [z, y]⟩)⟩, fun z => z.1.2⟩
theorem hide_get {h : Addr → Prop} {H : Hp} {a : Addr} {o : HO} (e : hide h H a = some o) : ¬ h a ∧ H a = some o := (hide_all.mp e).1
theorem hide_nt {h : Addr → Prop} {H : Hp} {a : Addr} {o : HO} (e : hide h H a = some o) : notT o := (hide_all.mp e).2
theorem hide_put {h : Addr → Prop} {H : Hp} {a : Addr} {o : HO} (n : ¬ h a) (e : H a = some o) (t : notT o) : hide h H a = some o := hide_all.mpr ⟨⟨n, e⟩, t⟩
theorem hide_sub {h : Addr → Prop} {H : Hp} : Ex (hide h H) H := fun a o e => (hide_get e).2
theorem hide_le {h h' : Addr → Prop} {H : Hp} (s : ∀ a, h' a → h a) : Ex (hide h H) (hide h' H) := fun a o e =>
  hide_put (fun z => (hide_get e).1 (s a z)) (hide_get e).2 (hide_nt e)
/-- all but the deck's objects stay, what holds of those holds -/
structure Lead (G : Gl) (b b' : Nat) (H H' : Hp) : Prop where
  ex : ∀ a o, ¬ G.M a → notT o → H a = some o → H' a = some o
  j : G.J b H → G.J b' H'
theorem Lead.refl {G : Gl} {b : Nat} (H : Hp) : Lead G b b H H := ⟨fun _ _ _ _ h => h, fun h => h⟩
theorem Lead.trans {G : Gl} {b b1 b2 : Nat} {H H1 H2 : Hp} (a : Lead G b b1 H H1) (c : Lead G b1 b2 H1 H2) : Lead G b b2 H H2 := ⟨fun x o m n h => c.ex x o m n (a.ex x o m n h), fun h => c.j (a.j h)⟩
theorem Lead.new {G : Gl} {b : Nat} {H : Hp} {p : Addr} {o : HO} (h : H p = none) : Lead G b b H (upd H p o) :=
  ⟨fun a u _ _ e => Ex.new h a u e, fun j => G.stays b H _ j (fun a m => upd_ne fun z => by
    rw [z] at m
    exact G.has b H p j m h) fun a _ _ e => Ex.new h a _ e⟩
theorem Lead.hide {G : Gl} {b b' : Nat} {H H' : Hp} {hd : Addr → Prop} (e : Lead G b b' H H') (s : ∀ a, G.M a → hd a) : Ex (hide hd H) (hide hd H') := fun a o q =>
  hide_put (hide_get q).1 (e.ex a o (fun m => (hide_get q).1 (s a m)) (hide_nt q) (hide_get q).2) (hide_nt q)

/-- an error: its class, its own fields -/
def ErrAt (G : Gl) (H : Hp) (c : Nat) (l : List D) (cls : Value) (dx : Option Addr) : Prop :=
  cls = .ref (G.cls c) ∧ ((G.flds c = [] ∧ l = []) ∨ ∃ d fs, dx = some d ∧ H d = some (.xd fs) ∧ fs.map (·.1) = G.flds c ∧ Ats G H l (fs.map (·.2)))
theorem ErrAt.mono {G : Gl} {H H' : Hp} (e : Ex H H') {c : Nat} {l : List D} {cls : Value} {dx : Option Addr} (h : ErrAt G H c l cls dx) : ErrAt G H' c l cls dx := by
  obtain ⟨h1, h2⟩ := h
  refine ⟨h1, ?_⟩
  rcases h2 with h2 | ⟨d, fs, a, b, n, r⟩
  · exact .inl h2
  · exact .inr ⟨d, fs, a, e _ _ b, n, r.mono e⟩

/-! ### slots -/
/-- a thing that a def makes for itself and changes: a list, an instance with the attributes that it has so far, a dict -/
inductive Ow where
  | lst (l : List D) | obj (c : Nat) (ns : List Str) (l : List D) | dic (ks vs : List D) | dicN (ks vs : List D)
def OwH (G : Gl) (H : Hp) (a : Addr) : Ow → HO → Prop
  | .lst l, u => ∃ xs, u = .lst xs ∧ Ats G H l xs
  | .obj c ns l, u => ∃ dx fs, u = .ins (G.cls c) dx fs ∧ fs.map (·.1) = ns ∧ Ats G H l (fs.map (·.2))
  | .dic ks vs, u => ∃ kvs, u = .dK kvs ∧ Ats G H ks (kvs.map fun q => kV q.1) ∧ Ats G H vs (kvs.map (·.2))
  | .dicN ks vs, u => ∃ ps, u = DN G.P G.w a ps ∧ KN ks ps ∧ Ats G H ks (ps.map fun q => V.ref q.2.1) ∧ Ats G H vs (ps.map fun q => q.2.2)
theorem OwH.mono {G : Gl} {H H' : Hp} {a : Addr} (e : Ex H H') : ∀ {o : Ow} {u : HO}, OwH G H a o u → OwH G H' a o u
  | .lst _, _, ⟨xs, e1, r⟩ => ⟨xs, e1, r.mono e⟩
  | .obj _ _ _, _, ⟨dx, fs, e1, n, r⟩ => ⟨dx, fs, e1, n, r.mono e⟩
  | .dic _ _, _, ⟨kvs, e1, r, q⟩ => ⟨kvs, e1, r.mono e, q.mono e⟩
  | .dicN _ _, _, ⟨ps, e1, n, r, q⟩ => ⟨ps, e1, n, r.mono e, q.mono e⟩
/-- the thing at a, hidden -/
def OwAt (G : Gl) (hd : Addr → Prop) (H : Hp) (o : Ow) (a : Addr) : Prop := hd a ∧ ¬ G.M a ∧ ∃ u, H a = some u ∧ OwH G (hide hd H) a o u
theorem OwH.plain {G : Gl} {H : Hp} {a : Addr} : ∀ {o : Ow} {u : HO}, OwH G H a o u → Plain u
  | .lst _, _, ⟨_, e, _⟩ => by
    rw [e]
    exact ⟨(fun _ z => nomatch z), (fun _ _ z => nomatch z)⟩
  | .obj _ _ _, _, ⟨_, _, e, _⟩ => by
    rw [e]
    exact ⟨(fun _ z => nomatch z), (fun _ _ z => nomatch z)⟩
  | .dic _ _, _, ⟨_, e, _⟩ => by
    rw [e]
    exact ⟨(fun _ z => nomatch z), (fun _ _ z => nomatch z)⟩
  | .dicN _ _, _, ⟨_, e, _⟩ => by
    rw [e]
    exact ⟨(fun _ z => nomatch z), (fun _ _ z => DN_ne z)⟩
theorem OwH.nt {G : Gl} {H : Hp} {a : Addr} {o : Ow} {u : HO} (h : OwH G H a o u) : notT u := h.plain.nt
inductive Slot where
  | none | val (d : D) | own (l : Ow) | err (c : Nat) (l : List D) | thk | fn (j : Nat)
abbrev Env := List Slot
/-- what a slot says of the value there -/
def SlotAt (G : Gl) (hd : Addr → Prop) (H : Hp) : Slot → Option V → Prop
  | .none, _ => True
  | .val d, v => ∃ x, v = some x ∧ At G (hide hd H) d x
  | .own l, v => ∃ a, v = some (.ref a) ∧ OwAt G hd H l a
  | .err c l, v => ∃ a cls dx, v = some (.ref a) ∧ G.ea = some (a, cls, dx) ∧ ErrAt G (hide hd H) c l cls dx
  | .thk, v => ∃ f Q, v = some (.ref f) ∧ G.fa = some (f, Q) ∧ Q.1 (hide hd H)
  | .fn j, v => ∃ f Q, v = some (.ref f) ∧ G.fs j = some (f, Q) ∧ Q.1 (hide hd H)
def isOwn : Slot → Bool
  | .own _ => true
  | _ => false
/-- what is hidden is there; of what is not the deck's it is no table -/
structure Live (G : Gl) (hd : Addr → Prop) (H : Hp) : Prop where
  ne : ∀ a, hd a → H a ≠ none
  nt : ∀ a o, hd a → ¬ G.M a → H a = some o → Plain o
theorem Live.lead {G : Gl} {b b' : Nat} {hd : Addr → Prop} {H H' : Hp} (L : Live G hd H) (e : Lead G b b' H H') (j : G.J b H) : Live G hd H' := by
  have key : ∀ a, hd a → ¬ G.M a → ∃ o, H a = some o ∧ H' a = some o ∧ Plain o := fun a h q => by
    cases z : H a with
    | none => exact absurd z (L.ne a h)
    | some o => exact ⟨o, rfl, e.ex a o q (L.nt a o h q z).nt z, L.nt a o h q z⟩
  refine ⟨fun a h => ?_, fun a o h q z => ?_⟩
  · by_cases q : G.M a
    · exact G.has b' H' a (e.j j) q
    · obtain ⟨o, _, z, _⟩ := key a h q
      rw [z]
      exact (fun y => nomatch y)
  · obtain ⟨o', _, z', n⟩ := key a h q
    rw [z] at z'
    cases z'
    exact n
structure Rep (G : Gl) (b : Nat) (hd : Addr → Prop) (σ : St) (ρ : Env) (H : Hp) : Prop where
  j : G.J b H
  m : ∀ a, G.M a → hd a
  live : Live G hd H
  len : ρ.length = σ.length
  at_ : ∀ (i : Nat) (s : Slot) (v : Option V), ρ[i]? = some s → σ[i]? = some v → SlotAt G hd H s v
  lone : ∀ (i k : Nat) (l : Ow) (v : Option V), ρ[i]? = some (.own l) → σ[i]? = some v → (∃ s, ρ[k]? = some s ∧ isOwn s = true) → σ[k]? = some v → i = k
theorem Rep.lead {G : Gl} {b b' : Nat} {hd : Addr → Prop} {σ : St} {ρ : Env} {H H' : Hp} (R : Rep G b hd σ ρ H) (e : Lead G b b' H H') : Rep G b' hd σ ρ H' := by
  have live := R.live.lead e R.j
  refine ⟨e.j R.j, R.m, live, R.len, fun i s v h1 h2 => ?_, R.lone⟩
  have := R.at_ i s v h1 h2
  cases s with
  | none => trivial
  | val d =>
    obtain ⟨x, e1, a⟩ := this
    exact ⟨x, e1, a.mono (e.hide R.m)⟩
  | own l =>
    obtain ⟨a, e1, h, nm, u, e2, r⟩ := this
    exact ⟨a, e1, h, nm, u, e.ex a _ nm r.nt e2, r.mono (e.hide R.m)⟩
  | err c l =>
    obtain ⟨a, cls, dx, e1, e2, r⟩ := this
    exact ⟨a, cls, dx, e1, e2, r.mono (e.hide R.m)⟩
  | thk =>
    obtain ⟨f, Q, e1, e2, r⟩ := this
    exact ⟨f, Q, e1, e2, Q.2 _ _ (e.hide R.m) r⟩
  | fn j =>
    obtain ⟨f, Q, e1, e2, r⟩ := this
    exact ⟨f, Q, e1, e2, Q.2 _ _ (e.hide R.m) r⟩
theorem Rep.fresh {G : Gl} {b : Nat} {hd : Addr → Prop} {σ : St} {ρ : Env} {H : Hp} (R : Rep G b hd σ ρ H) {p : Addr} (h : H p = Option.none) : ¬ hd p := fun z => R.live.ne p z h
/-- a new object is seen -/
theorem Rep.new {G : Gl} {b : Nat} {hd : Addr → Prop} {σ : St} {ρ : Env} {H : Hp} (R : Rep G b hd σ ρ H) {p : Addr} {o : HO} (h : H p = Option.none) (t : notT o) : hide hd (upd H p o) p = some o := hide_put (R.fresh h) upd_same t
end Py
set_option Elab.async false
set_option linter.all false
set_option maxRecDepth 100000
set_option maxHeartbeats 4000000
/-! tuples that are made: their one object is known -/
namespace Py
open PySem PySem.Spec PyProof.Rows L2
def tupO (us : List Value) : Obj := { cls := .type "tuple", data := .seq us.toArray }
/-- a new tuple -/
def NewT (H : Hp) (Q : VK) (xs : List V) : Prop := ∀ (p : Addr) (o : Obj), H p = none → o.dict = none → Q (.ref p) (upd H p (.frz o (.tup xs)))
section
variable {X : Cx} {pins : List (Addr × Obj)} {σ : L2.St} {H : Hp} {s : Shared}
theorem okT {P : Program} {w : World} {H : Hp} {h : Heap} {a : Addr} {us : List Value} {xs : List V} (r : Vals xs us) (hz : xs.length ≤ sizeLine) (e : h.get? a = some (tupO us)) : ObjOk P w H h a (.frz (tupO us) (.tup xs)) := ⟨e, hz, us, r, ⟨_, e, rfl, _, rfl⟩⟩
theorem newT {t' : Tok} {us : List Value} {xs : List V} {Q : VK} (I : Inv X pins σ H s) (r : Vals xs us) (hz : xs.length ≤ sizeLine) (q : NewT H Q xs) : EP X pins σ Q (.ref s.heap.objs.size) { s with heap := s.heap.push (tupO us), toks := t' } :=
  ⟨.ref s.heap.objs.size, _, I.laid (t' := t') (fun b u e => Heap.get?_push_of_some _ e) (Nat.le_refl _) (okT r hz (Heap.get?_push_size _ rfl)), rfl, q _ _ (I.hok.fresh (Nat.le_refl _)) rfl⟩
end
section
variable {X : Cx}
def tTupF (t : TA) : TE := fun σ H Q => t σ H fun xs H1 => xs.length ≤ sizeLine ∧ NewT H1 Q xs
theorem pf_tup {es : List Expr} {t : TA} {pos : Pos} {x1} (h : PA X es t) : PE X (.Tuple es x1 pos) (tTupF t) :=
  ⟨fun pins s σ H Q I hq => wpAny_Tuple_spliced (thn (h.run pos pins s σ H _ I hq) fun us s1 ⟨xs, H1, I1, r, z, q⟩ => ⟨by rw [← r.length]; exact z, newT I1 r z q⟩)⟩
theorem made_of_list {pins : List (Addr × Obj)} {σ : L2.St} {H : Hp} {s : Shared} {p : Addr} {ys : List V} {Q : VK} (I : Inv X pins σ H s) (hq : SqL X.K H p ys) (q : NewT H Q ys) : wpAny (model X.prog X.w) X.A (call (.type "tuple") [.ref p]) (EP X pins σ Q) X.xe s := by
  obtain ⟨its, r, pl, hz⟩ := I.list hq
  have hl := r.length
  refine call_tuple_list pl.isList (fun h' kp => ?_) (by simp only [List.size_toArray] <;> omega)
  exact newT (s := { s with heap := h' }) (t' := s.toks) (I.kept (t' := s.toks) kp) r hz q
theorem same_tup {pins : List (Addr × Obj)} {σ : L2.St} {H : Hp} {s : Shared} {p : Addr} {ys : List V} {Q : VK} (I : Inv X pins σ H s) (hq : SqT X.K H p ys) (q : Q (.ref p) H) : wpAny (model X.prog X.w) X.A (call (.type "tuple") [.ref p]) (EP X pins σ Q) X.xe s := by
  obtain ⟨its, r, pl, hz⟩ := I.tuple hq
  exact call_tuple_tup pl ⟨.ref p, H, I, rfl, q⟩
/-- tuple(x): a list, a tuple -/
def kTupF (K : PySem.W.Frag) (x : V) (H : Hp) (Q : VK) : Prop := ∃ p ys, x = .ref p ∧ ((SqL K H p ys ∧ NewT H Q ys) ∨ (SqT K H p ys ∧ Q (.ref p) H))
theorem run_tupF {pins : List (Addr × Obj)} {σ : L2.St} {H : Hp} {s : Shared} {x : V} {v : Value} {Q : VK} (I : Inv X pins σ H s) (r : RelV x v) (h : kTupF X.K x H Q) : wpAny (model X.prog X.w) X.A (call (.type "tuple") [v]) (EP X pins σ Q) X.xe s := by
  obtain ⟨p, ys, rfl, h⟩ := h
  cases r
  rcases h with ⟨h1, h2⟩ | ⟨h1, h2⟩
  · exact made_of_list I h1 h2
  · exact same_tup I h1 h2
theorem cf_tuple : CallR X (.type "tuple") (fun xs H Q => ∃ x, xs = [x] ∧ kTupF X.K x H Q) := by
  intro pins s σ H xs us Q I r h
  obtain ⟨x, rfl, h⟩ := h
  obtain ⟨u, rfl, rx⟩ := vals1 r
  exact run_tupF I rx h
def tTupRgF (te : L2.St → Hp → (Int → Int → Hp → Prop) → Prop) : TE := fun σ H Q => te σ H fun a b H1 => RgOk a b ∧ NewT H1 Q (rgV a b)
theorem pf_tupRg {e : Expr} {te : L2.St → Hp → (Int → Int → Hp → Prop) → Prop} {p pos : Pos} (hc : X.calm = true) (hg : L2.Gl X "tuple") (hm : X.mg "tuple" = none) (he : PRg X e te) (na : starEach [e] X.env = (false, eval e X.env) :: starEach [] X.env := by rfl) : PE X (.Call (.Name "tuple" p) [e] [] pos) (tTupRgF te) := by
  refine ⟨fun pins s σ H Q I h => ?_⟩
  refine Call_ (ld_blt I hg hm boot_tuple (PyProof.Rows.callWith_type1 (args_cons (thn (he pins s σ H _ I h) fun x s1 ⟨r, a, b, t, u, v, H1, ex, hr, I1, ok, q⟩ => args_nil ?_) na) na))
  subst ex
  obtain ⟨b1, b2, b3, b4, b5⟩ := ok
  refine call_tuple_range (n := (b - a).toNat) (I1.ok.hd hc) hr (small_one b1 b2 b3 b4) (rangeSize_nat a b) b5 fun h' tk acc hk hi => ?_
  have z : (rgV a b).length ≤ sizeLine := by
    rw [rgV_length, sizeLine_eq]
    omega
  have fin := newT (s := { s1 with heap := h', toks := tk }) (t' := tk) (I1.kept hk) (vals_rg hi) z q
  unfold tupO at fin
  rw [Array.toArray_toList] at fin
  exact fin
/-- t[lo:hi]: the whole of it is t itself -/
def rSlF (K : PySem.W.Frag) : V → Option Int → Option Int → Hp → VK → Prop := fun x lo hi H Q => ∃ a xs, x = .ref a ∧ SqT K H a xs ∧
  (HT.sIx xs.length 0 lo = 0 ∧ HT.sIx xs.length xs.length hi = xs.length → Q (.ref a) H) ∧ NewT H Q (cutV xs lo hi)
theorem sf_tup : SlR X (rSlF X.K) := by
  intro pins s σ H x v vl vu lo hi sl Q I rx hs pl pu h
  obtain ⟨a, xs, rfl, hx, q1, q2⟩ := h
  cases rx
  obtain ⟨its, r, ht, hz⟩ := I.tuple hx
  have hlen : its.toArray.size = xs.length := by rw [List.size_toArray]; exact r.length.symm
  refine ⟨"tuple", _, PyProof.Rows.slot_tuple_getitem.lookup, ht.typeIs, ?_⟩
  by_cases hw : HT.sIx xs.length 0 lo = 0 ∧ HT.sIx xs.length xs.length hi = xs.length
  · exact getItem_tuple_whole ht hs pl pu (by rw [hlen]; exact hw) ⟨.ref a, H, I, rfl, q1 hw⟩
  · refine HT.getItem_tuple_cut ht hs pl pu (by rw [hlen]; exact hw) ?_ (by rw [hlen]; exact hz)
    rw [hlen]
    exact newT (t' := s.toks) I ((r.drop (HT.sIx xs.length 0 lo)).take (HT.sIx xs.length xs.length hi - HT.sIx xs.length 0 lo)) (Nat.le_trans (cutV_length xs lo hi) hz) q2
/-- t + u -/
def rCatF (K : PySem.W.Frag) : R2 := fun x y H Q => ∃ a b xs ys, x = .ref a ∧ y = .ref b ∧ SqT K H a xs ∧ SqT K H b ys ∧ xs.length + ys.length ≤ sizeLine ∧
  (xs = [] → Q (.ref b) H) ∧ (ys = [] → Q (.ref a) H) ∧ NewT H Q (xs ++ ys)
theorem of_cat : OpR X (binaryOp .Add) (rCatF X.K) := by
  intro pins s σ H x y v u Q I rx ry h
  obtain ⟨a, b, xs, ys, rfl, rfl, ha, hb, hz, q0, q1, q2⟩ := h
  cases rx
  cases ry
  obtain ⟨its, r1, p1, _⟩ := I.tuple ha
  obtain ⟨its2, r2, p2, _⟩ := I.tuple hb
  by_cases hx : xs = []
  · subst hx
    cases r1
    exact cat_tup0 p1 p2 ⟨.ref b, H, I, rfl, q0 rfl⟩
  · refine HT.cat_tup p1 p2 (fun z => hx (r1.nil_iff.mp z)) (fun z => ⟨.ref a, H, I, rfl, q1 (r2.nil_iff.mp z)⟩) (fun _ => ?_) (by rw [← r1.length, ← r2.length]; exact hz)
    exact newT (t' := s.toks) I (r1.append r2) (by rw [List.length_append]; exact hz) q2
end
end Py
set_option Elab.async false
set_option linter.all false
set_option maxRecDepth 100000
set_option maxHeartbeats 4000000
namespace Py
open PySem L2

theorem PE_imp {X : Cx} {e : Expr} {t t' : TE} (h : PE X e t) (i : ∀ σ H Q, t' σ H Q → t σ H Q) : PE X e t' := ⟨fun pins s σ H Q I q => h.run pins s σ H Q I (i _ _ _ q)⟩
theorem PT_imp {X : Cx} {e : Expr} {t t' : TT} (h : PT X e t) (i : ∀ σ H Q, t' σ H Q → t σ H Q) : PT X e t' := ⟨fun pins s σ H Q I q => h.run pins s σ H Q I (i _ _ _ q)⟩
theorem PW_imp {X : Cx} {e : Expr} {t t' : TT} (h : PW X e t) (i : ∀ σ H Q, t' σ H Q → t σ H Q) : PW X e t' := ⟨fun wh pins s σ H Q I q => h.run wh pins s σ H Q I (i _ _ _ q)⟩
theorem PA_imp {X : Cx} {es : List Expr} {t t' : TA} (h : PA X es t) (i : ∀ σ H Q, t' σ H Q → t σ H Q) : PA X es t' := ⟨fun pos pins s σ H Q I q => h.run pos pins s σ H Q I (i _ _ _ q)⟩
theorem PS_imp {X : Cx} {e : Stmt} {t t' : TS} (h : PS X e t) (i : ∀ D σ H, t' D σ H → t D σ H) : PS X e t' := ⟨fun pins s σ H D I q => h.run pins s σ H D I (i _ _ _ q)⟩
theorem PSs_imp {X : Cx} {e : List Stmt} {t t' : TS} (h : PSs X e t) (i : ∀ D σ H, t' D σ H → t D σ H) : PSs X e t' := ⟨fun pins s σ H D I q => h.run pins s σ H D I (i _ _ _ q)⟩

/-! ### readings of plain functions -/
def xE (G : Gl) (W : WX) (hd : Addr → Prop) (σ : St) (b0 : Nat) (H : Hp) (c : Nat) (l : List D) (b : Nat) : Prop := ∀ cls dx H', Lead G b0 b H H' → ErrAt G (hide hd H') c l cls dx → W cls dx σ H'
def tEE (G : Gl) (W : WX) (f : Env → T D) : TE := fun σ H Q => ∃ b ρ hd, Rep G b hd σ ρ H ∧ (f ρ).wp b (fun d b' => ∀ v H', Lead G b b' H H' → At G (hide hd H') d v → Q v H') (xE G W hd σ b H)
def tET (G : Gl) (W : WX) (f : Env → T Bool) : TT := fun σ H Q => ∃ b ρ hd, Rep G b hd σ ρ H ∧ (f ρ).wp b (fun t b' => ∀ H', Lead G b b' H H' → Q t H') (xE G W hd σ b H)
def tEA (G : Gl) (W : WX) (f : Env → T (List D)) : TA := fun σ H Q => ∃ b ρ hd, Rep G b hd σ ρ H ∧ (f ρ).wp b (fun l b' => ∀ vs H', Lead G b b' H H' → Ats G (hide hd H') l vs → Q vs H') (xE G W hd σ b H)
theorem xE.lead {G : Gl} {W : WX} {hd : Addr → Prop} {σ : St} {b b1 b2 : Nat} {H H' : Hp} {c : Nat} {l : List D} (h : xE G W hd σ b H c l b2) (e : Lead G b b1 H H') : xE G W hd σ b1 H' c l b2 := fun cls dx H2 e2 => h cls dx H2 (e.trans e2)

/-- the frame's facts that every rule may use -/
structure Good (G : Gl) (b : Nat) (hd : Addr → Prop) (H : Hp) : Prop where
  j : G.J b H
  m : ∀ a, G.M a → hd a
  live : Live G hd H
theorem Rep.good {G : Gl} {b : Nat} {hd : Addr → Prop} {σ : St} {ρ : Env} {H : Hp} (R : Rep G b hd σ ρ H) : Good G b hd H := ⟨R.j, R.m, R.live⟩
theorem Good.lead {G : Gl} {b b' : Nat} {hd : Addr → Prop} {H H' : Hp} (R : Good G b hd H) (e : Lead G b b' H H') : Good G b' hd H' := ⟨e.j R.j, R.m, R.live.lead e R.j⟩
theorem Good.fresh {G : Gl} {b : Nat} {hd : Addr → Prop} {H : Hp} (R : Good G b hd H) {p : Addr} (h : H p = Option.none) : ¬ hd p := fun z => R.live.ne p z h
theorem Good.seen {G : Gl} {b : Nat} {hd : Addr → Prop} {H : Hp} (R : Good G b hd H) {p : Addr} {o : HO} (h : H p = Option.none) (t : notT o := by exact (fun _ z => nomatch z)) : hide hd (upd H p o) p = some o := hide_put (R.fresh h) upd_same t
theorem Good.old {G : Gl} {b : Nat} {hd : Addr → Prop} {H : Hp} (R : Good G b hd H) {p : Addr} {o : HO} (h : H p = Option.none) : Ex (hide hd H) (hide hd (upd H p o)) := (Lead.new (b := b) h).hide R.m

def opt {α : Type} : Option α → T α
  | some a => .ret a
  | none => .bad
theorem wp_opt {α : Type} {o : Option α} {b : Nat} {Q : α → Nat → Prop} {E : Nat → List D → Nat → Prop} (h : (opt o).wp b Q E) : ∃ a, o = some a ∧ Q a b := by
  cases o with
  | none => exact h.elim
  | some a => exact ⟨a, rfl, h⟩

section
variable {X : Cx} {G : Gl} {W : WX}
abbrev EE (X : Cx) (G : Gl) (W : WX) (e : Expr) (f : Env → T D) : Prop := PE X e (tEE G W f)
abbrev ET (X : Cx) (G : Gl) (W : WX) (e : Expr) (f : Env → T Bool) : Prop := PT X e (tET G W f)
abbrev EW (X : Cx) (G : Gl) (W : WX) (e : Expr) (f : Env → T Bool) : Prop := PW X e (tET G W f)
abbrev EA (X : Cx) (G : Gl) (W : WX) (es : List Expr) (f : Env → T (List D)) : Prop := PA X es (tEA G W f)

/-! ### names, constants -/
def gVar (i : Nat) : Env → T D := fun ρ => match ρ[i]? with
  | some (.val d) => .ret d
  | _ => .bad
def gC (d : D) : Env → T D := fun _ => .ret d
theorem ee_pv {e : Expr} {i : Nat} (h : PE X e (tVar i)) : EE X G W e (gVar i) := by
  refine PE_imp h fun σ H Q q => ?_
  obtain ⟨b, ρ, hd, R, q⟩ := q
  unfold gVar at q
  cases e1 : ρ[i]? with
  | none =>
    rw [e1] at q
    exact q.elim
  | some s =>
    rw [e1] at q
    cases s with
    | none => exact q.elim
    | own l => exact q.elim
    | err c l => exact q.elim
    | thk => exact q.elim
    | fn _ => exact q.elim
    | val d =>
      have hi : i < σ.length := by
        rw [← R.len]
        exact (List.getElem?_eq_some_iff.mp e1).1
      obtain ⟨x, e2, a⟩ := R.at_ i (.val d) _ e1 (List.getElem?_eq_getElem hi)
      refine ⟨x, ?_, q x H (Lead.refl H) a⟩
      rw [List.getElem?_eq_getElem hi, e2]
theorem ee_const {e : Expr} {v : V} {d : D} (h : PE X e (tC v)) (a : ∀ H, At G H d v) : EE X G W e (gC d) :=
  PE_imp h fun σ H Q ⟨b, ρ, hd, R, q⟩ => q v H (Lead.refl H) (a _)
theorem ee_int {i j pos} : EE X G W (.Constant (.int i) j pos) (gC (.int i)) := ee_const pe_int fun _ => .int
theorem ee_bl {b j pos} : EE X G W (.Constant (.bool b) j pos) (gC (.bl b)) := ee_const pe_bl fun _ => .bl
theorem ee_non {j pos} : EE X G W (.Constant .none j pos) (gC .non) := ee_const pe_non fun _ => .non
theorem ee_str {x j pos} : EE X G W (.Constant (.str x) j pos) (gC (.str x)) := ee_const pe_str fun _ => .str

/-! ### a call, an operator, by values -/
/-- r does what g says -/
def Does2 (G : Gl) (r : R2) (g : D → D → Option D) : Prop := ∀ {n : Nat} (hd : Addr → Prop) (H : Hp) (x y : V) (a b d : D) (Q : VK), Good G n hd H → At G (hide hd H) a x → At G (hide hd H) b y → g a b = some d → (∀ v H', Lead G n n H H' → At G (hide hd H') d v → Q v H') → r x y H Q
def DoesN (G : Gl) (r : List V → Hp → VK → Prop) (g : List D → Option D) : Prop := ∀ {n : Nat} (hd : Addr → Prop) (H : Hp) (xs : List V) (l : List D) (d : D) (Q : VK), Good G n hd H → Ats G (hide hd H) l xs → g l = some d → (∀ v H', Lead G n n H H' → At G (hide hd H') d v → Q v H') → r xs H Q
theorem Does2.or {r r' : R2} {g g' : D → D → Option D} (h : Does2 G r g) (h' : Does2 G r' g') : Does2 G (fun x y H Q => r x y H Q ∨ r' x y H Q) fun a b => (g a b).or (g' a b) := fun hd H x y a b d Q R h1 h2 e k => by
  have e : (g a b).or (g' a b) = some d := e
  cases q : g a b with
  | some d1 =>
    rw [q] at e
    have e1 : d1 = d := Option.some.inj e
    rw [e1] at q
    exact .inl (h hd H x y a b d Q R h1 h2 q k)
  | none =>
    rw [q] at e
    exact .inr (h' hd H x y a b d Q R h1 h2 e k)
theorem DoesN.or {r r' : List V → Hp → VK → Prop} {g g' : List D → Option D} (h : DoesN G r g) (h' : DoesN G r' g') : DoesN G (fun x H Q => r x H Q ∨ r' x H Q) fun a => (g a).or (g' a) := fun hd H x a d Q R h1 e k => by
  have e : (g a).or (g' a) = some d := e
  cases q : g a with
  | some d1 =>
    rw [q] at e
    have e1 : d1 = d := Option.some.inj e
    rw [e1] at q
    exact .inl (h hd H x a d Q R h1 q k)
  | none =>
    rw [q] at e
    exact .inr (h' hd H x a d Q R h1 e k)
theorem CallR_or {f : Value} {r r' : List V → Hp → VK → Prop} (h : CallR X f r) (h' : CallR X f r') : CallR X f (fun x H Q => r x H Q ∨ r' x H Q) := by
  intro pins s σ H x v Q I rx q
  rcases q with q | q
  · exact h pins s σ H x v Q I rx q
  · exact h' pins s σ H x v Q I rx q

/-- f and then g, by what is known behind f -/
theorem wp_then {α β : Type} {t : T α} {k : α → T β} {b : Nat} {Q : β → Nat → Prop} {E : Nat → List D → Nat → Prop} (h : (t >>= k).wp b Q E) : t.wp b (fun a b => (k a).wp b Q E) E := (T.wp_bind t k b Q E).mp h

def gOp (g : D → D → Option D) (f1 f2 : Env → T D) : Env → T D := fun ρ => f1 ρ >>= fun a => f2 ρ >>= fun b => opt (g a b)
theorem two {r : R2} {g : D → D → Option D} (hg : Does2 G r g) {f1 f2 : Env → T D} {σ : St} {H : Hp} {Q : VK} (q : tEE G W (gOp g f1 f2) σ H Q) : tEE G W f1 σ H fun x H1 => tEE G W f2 σ H1 fun y H2 => r x y H2 Q := by
  obtain ⟨n, ρ, hd, R, q⟩ := q
  refine ⟨n, ρ, hd, R, T.wp_imp (wp_then q) fun a n1 q1 x H1 e1 h1 => ?_⟩
  refine ⟨n1, ρ, hd, R.lead e1, T.wp_mono (wp_then q1) (fun b n2 q2 y H2 e2 h2 => ?_) fun c l n2 z => xE.lead z e1⟩
  obtain ⟨d, e3, q3⟩ := wp_opt q2
  exact hg hd H2 x y a b d Q (R.good.lead (e1.trans e2)) (h1.mono (e2.hide R.m)) h2 e3 fun v H' e4 h4 => q3 v H' ((e1.trans e2).trans e4) h4
theorem ee_op {a b : Expr} {op : Operator} {pos : Pos} {r : R2} {g : D → D → Option D} {f1 f2 : Env → T D} (ho : OpR X (binaryOp op) r) (hg : Does2 G r g) (ha : EE X G W a f1) (hb : EE X G W b f2) : EE X G W (.BinOp a op b pos) (gOp g f1 f2) :=
  PE_imp (pe_op ho ha hb) fun σ H Q q => two hg q
theorem ee_cmp {a b : Expr} {op : CmpOp} {pos : Pos} {r : R2} {g : D → D → Option D} {f1 f2 : Env → T D} (ho : OpR X (compareOp op) r) (hg : Does2 G r g) (ha : EE X G W a f1) (hb : EE X G W b f2) (hm : behindInMarks op b = false := by first | exact nomark _ | rfl) : EE X G W (.Compare a [op] [b] pos) (gOp g f1 f2) :=
  PE_imp (pe_cmpR ho ha hb hm) fun σ H Q q => two hg q
/-- a value's truth as a bool -/
def asB : D → T Bool
  | .bl b => .ret b
  | _ => .bad
theorem et_cmp {a b : Expr} {op : CmpOp} {pos : Pos} {r : R2} {g : D → D → Option D} {f1 f2 : Env → T D} (ho : OpR X (compareOp op) r) (hg : Does2 G r g) (ha : EE X G W a f1) (hb : EE X G W b f2) (hm : behindInMarks op b = false := by first | exact nomark _ | rfl) : ET X G W (.Compare a [op] [b] pos) (fun ρ => gOp g f1 f2 ρ >>= asB) := by
  refine PT_imp (pt_cmpR ho ha hb hm) fun σ H Q q => two hg ?_
  obtain ⟨n, ρ, hd, R, q⟩ := q
  refine ⟨n, ρ, hd, R, T.wp_imp (wp_then q) fun d n1 q1 v H' e h => ?_⟩
  cases d with
  | bl b =>
    cases h
    exact ⟨b, rfl, q1 H' e⟩
  | _ => exact q1.elim
/-! ### arguments, displays -/
def gNil : Env → T (List D) := fun _ => .ret []
def gCons (f : Env → T D) (r : Env → T (List D)) : Env → T (List D) := fun ρ => f ρ >>= fun d => r ρ >>= fun l => .ret (d :: l)
theorem ea_nil : EA X G W [] gNil := PA_imp pa_nil fun σ H Q ⟨n, ρ, hd, R, q⟩ => q [] H (Lead.refl H) .nil
theorem ea_cons {e : Expr} {es : List Expr} {f : Env → T D} {r : Env → T (List D)} (h : EE X G W e f) (hr : EA X G W es r) (hs : starEach (e :: es) X.env = (false, eval e X.env) :: starEach es X.env := by rfl) : EA X G W (e :: es) (gCons f r) := by
  refine PA_imp (pa_cons h hr hs) fun σ H Q q => ?_
  obtain ⟨n, ρ, hd, R, q⟩ := q
  refine ⟨n, ρ, hd, R, T.wp_imp (wp_then q) fun a n1 q1 x H1 e1 h1 => ?_⟩
  refine ⟨n1, ρ, hd, R.lead e1, T.wp_mono (wp_then q1) (fun l n2 q2 xs H2 e2 h2 => ?_) fun c l n2 z => xE.lead z e1⟩
  exact q2 (x :: xs) H2 (e1.trans e2) (.cons (h1.mono (e2.hide R.m)) h2)
/-- a display of at most a thousand items -/
def mkT (l : List D) : T D := if l.length ≤ 1000 then .ret (.tup l) else .bad
theorem wp_mkT {l : List D} {b : Nat} {Q : D → Nat → Prop} {E : Nat → List D → Nat → Prop} (h : (mkT l).wp b Q E) : l.length ≤ 1000 ∧ Q (.tup l) b := by
  unfold mkT at h
  by_cases q : l.length ≤ 1000
  · rw [if_pos q] at h
    exact ⟨q, h⟩
  · rw [if_neg q] at h
    exact h.elim
theorem line1000 {n : Nat} (h : n ≤ 1000) : n ≤ sizeLine := Nat.le_of_lt (small1000 h)
def gTup (r : Env → T (List D)) : Env → T D := fun ρ => r ρ >>= mkT
theorem ee_tup {es : List Expr} {pos : Pos} {x1} {r : Env → T (List D)} (h : EA X G W es r) : EE X G W (.Tuple es x1 pos) (gTup r) := by
  refine PE_imp (pf_tup h) fun σ H Q q => ?_
  obtain ⟨n, ρ, hd, R, q⟩ := q
  refine ⟨n, ρ, hd, R, T.wp_imp (wp_then q) fun l n1 q1 xs H1 e1 h1 => ?_⟩
  obtain ⟨hl, q2⟩ := wp_mkT q1
  refine ⟨line1000 (by rw [← h1.length]; exact hl), fun p o hp ho => q2 (.ref p) _ (e1.trans (Lead.new hp)) ?_⟩
  have g := R.good.lead e1
  exact .tup (.new (g.seen hp) ho) (h1.mono (g.old hp))
/-! ### built-ins by name -/
def gCall (g : List D → Option D) (r : Env → T (List D)) : Env → T D := fun ρ => r ρ >>= fun l => opt (g l)
theorem many {r : List V → Hp → VK → Prop} {g : List D → Option D} (hg : DoesN G r g) {fa : Env → T (List D)} {σ : St} {H : Hp} {Q : VK} (q : tEE G W (gCall g fa) σ H Q) : tEA G W fa σ H fun vs H1 => r vs H1 Q := by
  obtain ⟨n, ρ, hd, R, q⟩ := q
  refine ⟨n, ρ, hd, R, T.wp_imp (wp_then q) fun l n1 q1 xs H1 e1 h1 => ?_⟩
  obtain ⟨d, e3, q3⟩ := wp_opt q1
  exact hg hd H1 xs l d Q (R.good.lead e1) h1 e3 fun v H' e4 h4 => q3 v H' (e1.trans e4) h4
theorem ee_blt {id : String} {x : Str} {p pos : Pos} {e : Expr} {es : List Expr} {r : List V → Hp → VK → Prop} {g : List D → Option D} {fa : Env → T (List D)} (hc : CallR X (.builtin id) r) (hd : DoesN G r g) (hg : L2.Gl X x) (hm : X.mg x = none) (hv : bootBuiltins x = some (.builtin id)) (ha : EA X G W (e :: es) fa)
    (hn : x ≠ "__name__" := by decide) (hdb : (x == ("__debug__" : Str)) = false := by decide) (he : starEach (e :: es) X.env = (false, eval e X.env) :: starEach es X.env := by rfl) (hpl : (backTo pos (starEach es X.env)).any (·.1) = false := by rfl) :
    EE X G W (.Call (.Name x p) (e :: es) [] pos) (gCall g fa) := PE_imp (pe_callB hc hg hm hv ha hn hdb he hpl) fun σ H Q q => many hd q
theorem ee_bty {ty : String} {x : Str} {p pos : Pos} {e : Expr} {es : List Expr} {r : List V → Hp → VK → Prop} {g : List D → Option D} {fa : Env → T (List D)} (hc : CallR X (.type ty) r) (hd : DoesN G r g) (hg : L2.Gl X x) (hm : X.mg x = none) (hv : bootBuiltins x = some (.type ty)) (ha : EA X G W (e :: es) fa)
    (hn : x ≠ "__name__" := by decide) (hdb : (x == ("__debug__" : Str)) = false := by decide) (he : starEach (e :: es) X.env = (false, eval e X.env) :: starEach es X.env := by rfl) (hpl : (backTo pos (starEach es X.env)).any (·.1) = false := by rfl) :
    EE X G W (.Call (.Name x p) (e :: es) [] pos) (gCall g fa) := PE_imp (pe_callTy hc hg hm hv ha hn hdb he hpl) fun σ H Q q => many hd q
end
end Py
set_option Elab.async false
set_option linter.all false
set_option maxRecDepth 100000
set_option maxHeartbeats 4000000
namespace Py
open PySem L2

/-! ### tests -/
def truthS (x : Str) : T Bool := if x.length ≤ 1000 then .ret ((x.length : Int) != 0) else .bad
def truth : D → T Bool
  | .non => .ret false
  | .bl b => .ret b
  | .int i => .ret (i != 0)
  | .str x => truthS x
  | .tup l => .ret !l.isEmpty
  | .lst l => .ret !l.isEmpty
  | .dic ks _ => .ret !ks.isEmpty
  | _ => .bad
theorem isEmpty_ats {G : Gl} {H : Hp} {l : List D} {xs : List V} (h : Ats G H l xs) : l.isEmpty = xs.isEmpty := by
  cases h <;> rfl
section
variable {X : Cx} {G : Gl} {W : WX}
/-- a value's truth; dicts may be locked -/
def TruL (K : PySem.W.Frag) (x : V) (H : Hp) (k : Bool) : Prop := TruV K x H k ∨ ∃ p kvs, x = .ref p ∧ Rd H p (.dK kvs) ∧ k = !kvs.isEmpty
theorem pt_truthL {a : Expr} {ta : TE} (ha : PE X a ta) (he : ∀ whole, isTrue a X.env whole = (do let v ← whole; standAt a.pos; holding [v] (truthy v))) : PT X a (fun σ H Q => ta σ H fun x H' => ∃ k, TruL X.K x H' k ∧ Q k H') := by
  refine ⟨fun pins s σ H Q I h => PyProof.Rows.isTrue_plain (thn (ha.run pins s σ H _ I h) fun v s1 ⟨x, H1, I1, r1, k, tv, q⟩ => ?_) (he _)⟩
  rcases tv with tv | ⟨p, kvs, rfl, rd, rfl⟩
  · exact tru_ok pins s1 σ H1 x v Q I1 r1 ⟨k, tv, q⟩
  · cases r1
    exact d_truth I1 rd fun s' I' => ⟨H1, I', q⟩
theorem tru_of (hK : G.K = X.K) {H : Hp} {d : D} {v : V} {b : Bool} {hd : Addr → Prop} (a : At G (hide hd H) d v) (e : (truth d).wp 0 (fun c _ => c = b) (fun _ _ _ => False)) : TruL X.K v H b := by
  cases a with
  | non => exact .inl e.symm
  | bl => exact .inl e.symm
  | int => exact .inl e.symm
  | @str x =>
    have e1 : (truthS x).wp 0 (fun c _ => c = b) (fun _ _ _ => False) := e
    unfold truthS at e1
    by_cases q : x.length ≤ 1000
    · rw [if_pos q] at e1
      exact .inl ⟨line1000 q, e1.symm⟩
    · rw [if_neg q] at e1
      exact e1.elim
  | tup h1 h2 =>
    refine .inl (.inr (.inl ⟨_, by rw [← hK]; exact hide_sub.sqM h1, ?_⟩))
    rw [← isEmpty_ats h2]
    exact e.symm
  | lst h1 h2 =>
    refine .inl (.inl ⟨_, .inl (.inl (hide_sub _ _ h1)), ?_⟩)
    rw [← isEmpty_ats h2]
    exact e.symm
  | @dic ks vs a kvs h1 h2 h3 =>
    refine .inr ⟨_, kvs, rfl, (h1.mono hide_sub).rd, ?_⟩
    have e1 : ks.isEmpty = kvs.isEmpty := by
      rw [isEmpty_ats h2]
      cases kvs <;> rfl
    rw [← e1]
    exact e.symm
  | obj h1 h2 h3 => exact e.elim
  | dicN h1 h2 h3 h4 => exact e.elim
  | deck => exact e.elim
/-- no error in a truth -/
theorem truth_wp {d : D} {n : Nat} {Q : Bool → Nat → Prop} {E : Nat → List D → Nat → Prop} (h : (truth d).wp n Q E) : ∃ b, truth d = .ret b ∧ Q b n := by
  cases d with
  | str x =>
    have h1 : (truthS x).wp n Q E := h
    show ∃ b, truthS x = .ret b ∧ Q b n
    unfold truthS at h1 ⊢
    by_cases q : x.length ≤ 1000
    · rw [if_pos q] at h1 ⊢
      exact ⟨_, rfl, h1⟩
    · rw [if_neg q] at h1
      exact h1.elim
  | obj c l => exact h.elim
  | dicN ks vs => exact h.elim
  | deck => exact h.elim
  | _ => exact ⟨_, rfl, h⟩
theorem et_tru (hK : G.K = X.K) {a : Expr} {f : Env → T D} (ha : EE X G W a f) (he : ∀ whole, isTrue a X.env whole = (do let v ← whole; standAt a.pos; holding [v] (truthy v)) := by intro _; rfl) : ET X G W a (fun ρ => f ρ >>= truth) := by
  refine PT_imp (pt_truthL ha he) fun σ H Q q => ?_
  obtain ⟨n, ρ, hd, R, q⟩ := q
  refine ⟨_, ρ, hd, R, T.wp_imp (wp_then q) fun d _ q1 v H' e h => ?_⟩
  obtain ⟨b, eb, q2⟩ := truth_wp q1
  exact ⟨b, tru_of hK h (by rw [eb]; rfl), q2 H' e⟩
def gNotT (f : Env → T Bool) : Env → T Bool := fun ρ => f ρ >>= fun b => .ret !b
theorem et_not {a : Expr} {pos : Pos} {f : Env → T Bool} (ha : ET X G W a f) : ET X G W (.UnaryOp .Not a pos) (gNotT f) := by
  refine PT_imp (pt_not ha) fun σ H Q q => ?_
  obtain ⟨n, ρ, hd, R, q⟩ := q
  exact ⟨_, ρ, hd, R, T.wp_imp (wp_then q) fun b _ q1 H' e => q1 H' e⟩
def gAndT (f g : Env → T Bool) : Env → T Bool := fun ρ => f ρ >>= fun b => if b = true then g ρ else .ret false
def gOrT (f g : Env → T Bool) : Env → T Bool := fun ρ => f ρ >>= fun b => if b = true then .ret true else g ρ
theorem ew_and1 {a : Expr} {pos : Pos} {f : Env → T Bool} (ha : ET X G W a f) : EW X G W (.BoolOp .And [a] pos) f := pw_and1 ha
theorem ew_or1 {a : Expr} {pos : Pos} {f : Env → T Bool} (ha : ET X G W a f) : EW X G W (.BoolOp .Or [a] pos) f := pw_or1 ha
theorem ew_and {a b : Expr} {rest : List Expr} {pos : Pos} {f g : Env → T Bool} (ha : ET X G W a f) (hb : EW X G W (.BoolOp .And (b :: rest) pos) g) : EW X G W (.BoolOp .And (a :: b :: rest) pos) (gAndT f g) := by
  refine PW_imp (pw_and ha hb) fun σ H Q q => ?_
  obtain ⟨n, ρ, hd, R, q⟩ := q
  refine ⟨_, ρ, hd, R, T.wp_imp (wp_then q) fun c _ q1 H' e => ?_⟩
  cases c with
  | true =>
    rw [if_pos rfl]
    exact ⟨_, ρ, hd, R.lead e, T.wp_mono q1 (fun b _ q2 H2 e2 => q2 H2 (e.trans e2)) fun c l _ z => xE.lead z e⟩
  | false =>
    rw [if_neg Bool.false_ne_true]
    exact q1 H' e
theorem ew_or {a b : Expr} {rest : List Expr} {pos : Pos} {f g : Env → T Bool} (ha : ET X G W a f) (hb : EW X G W (.BoolOp .Or (b :: rest) pos) g) : EW X G W (.BoolOp .Or (a :: b :: rest) pos) (gOrT f g) := by
  refine PW_imp (pw_or ha hb) fun σ H Q q => ?_
  obtain ⟨n, ρ, hd, R, q⟩ := q
  refine ⟨_, ρ, hd, R, T.wp_imp (wp_then q) fun c _ q1 H' e => ?_⟩
  cases c with
  | false =>
    rw [if_neg Bool.false_ne_true]
    exact ⟨_, ρ, hd, R.lead e, T.wp_mono q1 (fun b _ q2 H2 e2 => q2 H2 (e.trans e2)) fun c l _ z => xE.lead z e⟩
  | true =>
    rw [if_pos rfl]
    exact q1 H' e
/-! ### and, or, not of bools as values; a if t else b; two comparisons -/
def gAndV (f g : Env → T D) : Env → T D := fun ρ => f ρ >>= fun d => match d with
  | .bl true => g ρ
  | .bl false => .ret (.bl false)
  | _ => .bad
def gOrV (f g : Env → T D) : Env → T D := fun ρ => f ρ >>= fun d => match d with
  | .bl true => .ret (.bl true)
  | .bl false => g ρ
  | _ => .bad
theorem ee_one {a : Expr} {op : BoolOp} {pos : Pos} {f : Env → T D} (ha : EE X G W a f) : EE X G W (.BoolOp op [a] pos) f := pe_one ha
theorem ee_and {a b : Expr} {rest : List Expr} {pos : Pos} {f g : Env → T D} (ha : EE X G W a f) (hb : EE X G W (.BoolOp .And (b :: rest) pos) g) : EE X G W (.BoolOp .And (a :: b :: rest) pos) (gAndV f g) := by
  refine PE_imp (pe_and ha hb) fun σ H Q q => ?_
  obtain ⟨n, ρ, hd, R, q⟩ := q
  refine ⟨_, ρ, hd, R, T.wp_imp (wp_then q) fun d _ q1 v H' e h => ?_⟩
  cases d with
  | bl c =>
    cases h
    refine ⟨c, rfl, ?_⟩
    cases c with
    | true =>
      rw [if_pos rfl]
      exact ⟨_, ρ, hd, R.lead e, T.wp_mono q1 (fun b _ q2 v H2 e2 => q2 v H2 (e.trans e2)) fun c l _ z => xE.lead z e⟩
    | false =>
      rw [if_neg Bool.false_ne_true]
      exact q1 _ H' e .bl
  | _ => exact q1.elim
def gNotV (f : Env → T D) : Env → T D := fun ρ => f ρ >>= fun d => match d with
  | .bl b => .ret (.bl !b)
  | _ => .bad
theorem ee_not {a : Expr} {pos : Pos} {f : Env → T D} (ha : EE X G W a f) : EE X G W (.UnaryOp .Not a pos) (gNotV f) := by
  refine PE_imp (pe_not ha) fun σ H Q q => ?_
  obtain ⟨n, ρ, hd, R, q⟩ := q
  refine ⟨_, ρ, hd, R, T.wp_imp (wp_then q) fun d _ q1 v H' e h => ?_⟩
  cases d with
  | bl c =>
    cases h
    exact ⟨c, rfl, q1 _ H' e .bl⟩
  | _ => exact q1.elim
def gIf (t : Env → T Bool) (f g : Env → T D) : Env → T D := fun ρ => t ρ >>= fun b => if b = true then f ρ else g ρ
theorem ee_if {c a b : Expr} {pos : Pos} {t : Env → T Bool} {f g : Env → T D} (hc : ET X G W c t) (ha : EE X G W a f) (hb : EE X G W b g) : EE X G W (.IfExp c a b pos) (gIf t f g) := by
  refine PE_imp (pe_ifExp hc ha hb) fun σ H Q q => ?_
  obtain ⟨n, ρ, hd, R, q⟩ := q
  refine ⟨_, ρ, hd, R, T.wp_imp (wp_then q) fun c _ q1 H' e => ?_⟩
  cases c with
  | true =>
    rw [if_pos rfl] at q1 ⊢
    exact ⟨_, ρ, hd, R.lead e, T.wp_mono q1 (fun b _ q2 v H2 e2 => q2 v H2 (e.trans e2)) fun c l _ z => xE.lead z e⟩
  | false =>
    rw [if_neg Bool.false_ne_true] at q1 ⊢
    exact ⟨_, ρ, hd, R.lead e, T.wp_mono q1 (fun b _ q2 v H2 e2 => q2 v H2 (e.trans e2)) fun c l _ z => xE.lead z e⟩
def gChain (g g' : D → D → Option D) (f1 f2 f3 : Env → T D) : Env → T D := fun ρ => f1 ρ >>= fun a => f2 ρ >>= fun b => opt (g a b) >>= fun c => match c with
  | .bl true => f3 ρ >>= fun d => opt (g' b d)
  | .bl false => .ret (.bl false)
  | _ => .bad
theorem chain_imp {r r' : R2} {g g' : D → D → Option D} (hg : Does2 G r g) (hg' : Does2 G r' g') {f1 f2 f3 : Env → T D} {σ : St} {H : Hp} {Q : VK} (q : tEE G W (gChain g g' f1 f2 f3) σ H Q) : tChain r r' (tEE G W f1) (tEE G W f2) (tEE G W f3) σ H Q := by
  obtain ⟨n, ρ, hd, R, q⟩ := q
  refine ⟨_, ρ, hd, R, T.wp_imp (wp_then q) fun a _ q1 x H1 e1 h1 => ?_⟩
  refine ⟨_, ρ, hd, R.lead e1, T.wp_mono (wp_then q1) (fun b _ q2 y H2 e2 h2 => ?_) fun c l _ z => xE.lead z e1⟩
  obtain ⟨d, e3, q3⟩ := wp_opt (wp_then q2)
  refine hg hd H2 x y a b d _ (R.good.lead (e1.trans e2)) (h1.mono (e2.hide R.m)) h2 e3 fun v H3 e4 h4 => ?_
  cases d with
  | bl c =>
    cases h4
    refine ⟨c, rfl, ?_⟩
    cases c with
    | true =>
      rw [if_pos rfl]
      refine ⟨_, ρ, hd, R.lead ((e1.trans e2).trans e4), T.wp_mono (wp_then q3) (fun w _ q4 z H4 e5 h5 => ?_) fun c l _ z => xE.lead z ((e1.trans e2).trans e4)⟩
      obtain ⟨d', e6, q6⟩ := wp_opt q4
      exact hg' hd H4 y z b w d' Q (R.good.lead (((e1.trans e2).trans e4).trans e5)) (h2.mono ((e4.trans e5).hide R.m)) h5 e6 fun v H' e7 h7 => q6 v H' ((((e1.trans e2).trans e4).trans e5).trans e7) h7
    | false =>
      rw [if_neg Bool.false_ne_true]
      exact q3 _ H3 ((e1.trans e2).trans e4) .bl
  | _ => exact q3.elim
theorem ee_chain {a b c : Expr} {op op' : CmpOp} {pos : Pos} {r r' : R2} {g g' : D → D → Option D} {f1 f2 f3 : Env → T D} (ho : OpR X (compareOp op) r) (hg : Does2 G r g) (ho' : OpR X (compareOp op') r') (hg' : Does2 G r' g') (ha : EE X G W a f1) (hb : EE X G W b f2) (hc : EE X G W c f3)
    (hm : lastMarks [op, op'] [b, c] = false := by with_unfolding_all rfl) : EE X G W (.Compare a [op, op'] [b, c] pos) (gChain g g' f1 f2 f3) :=
  PE_imp (pe_chain ho ho' ha hb hc hm) fun σ H Q q => chain_imp hg hg' q
end
end Py
set_option Elab.async false
set_option linter.all false
set_option maxRecDepth 100000
set_option maxHeartbeats 4000000
namespace Py
open PySem PySem.Spec L2

/-! ### statements -/
inductive Out where
  | nx (ρ : Env) | ret (d : D) | brk (ρ : Env) | ct (ρ : Env) | rz (c : Nat) (l : List D) (ρ : Env)
/-- an expression's run within a statement: an error is told with the slots -/
def bindS {α : Type} (t : T α) (ρ : Env) (k : α → T Out) : T Out := match t with
  | .ret a => k a
  | .exc c l => .ret (.rz c l ρ)
  | .draw n f => .draw n fun i => bindS (f i) ρ k
  | .bad => .bad
theorem wp_bindS {α : Type} (t : T α) (ρ : Env) (k : α → T Out) (n : Nat) (Q : Out → Nat → Prop) (E : Nat → List D → Nat → Prop) : (bindS t ρ k).wp n Q E ↔ t.wp n (fun a n => (k a).wp n Q E) (fun c l n => Q (.rz c l ρ) n) := by
  induction t generalizing n with
  | ret a => exact Iff.rfl
  | exc c l => exact Iff.rfl
  | draw m k ih => exact and_congr_right fun _ => forall_congr' fun i => forall_congr' fun _ => ih i _
  | bad => exact Iff.rfl
theorem bindS_then {α : Type} {t : T α} {ρ : Env} {k : α → T Out} {n : Nat} {Q : Out → Nat → Prop} {E : Nat → List D → Nat → Prop} (h : (bindS t ρ k).wp n Q E) : t.wp n (fun a n => (k a).wp n Q E) (fun c l n => Q (.rz c l ρ) n) := (wp_bindS t ρ k n Q E).mp h
abbrev Sm := Env → T Out

/-- of a def's callers: what is hidden of theirs; the instance that it is to fill (of an __init__ alone) -/
structure Hid where
  h : Addr → Prop
  self : Addr → Prop
  /-- how many draws are let at its entry -/
  b : Nat
/-- all stays but the deck's objects and the instance that is being filled -/
structure LeadS (G : Gl) (sf : Addr → Prop) (b b' : Nat) (H H' : Hp) : Prop where
  ex : ∀ a o, ¬ G.M a → ¬ sf a → notT o → H a = some o → H' a = some o
  j : G.J b H → G.J b' H'
theorem LeadS.trans {G : Gl} {sf : Addr → Prop} {b b1 b2 : Nat} {H H1 H2 : Hp} (a : LeadS G sf b b1 H H1) (c : Lead G b1 b2 H1 H2) : LeadS G sf b b2 H H2 := ⟨fun x o m n t h => c.ex x o m t (a.ex x o m n t h), fun h => c.j (a.j h)⟩
theorem LeadS.refl {G : Gl} {sf : Addr → Prop} {b : Nat} (H : Hp) : LeadS G sf b b H H := ⟨fun _ _ _ _ _ h => h, fun h => h⟩
/-- nothing stood there but perhaps a table -/
def newIn (H : Hp) (a : Addr) : Prop := ∀ o, H a = some o → ¬ notT o
theorem Live.some {G : Gl} {hd : Addr → Prop} {H : Hp} (L : Live G hd H) : ∀ a, hd a → G.M a ∨ ∃ o, H a = some o ∧ notT o := fun a h => by
  by_cases m : G.M a
  · exact .inl m
  · cases z : H a with
    | none => exact absurd z (L.ne a h)
    | some o => exact .inr ⟨o, rfl, (L.nt a o h m z).nt⟩
def mineO (X : Cx) (hs : Hid) : Ow → Addr → Prop
  | .obj _ _ _, a => hs.self a
  | _, a => newIn X.H_0 a
structure SRep (X : Cx) (G : Gl) (hs : Hid) (n : Nat) (hd : Addr → Prop) (σ : St) (ρ : Env) (H : Hp) : Prop where
  rep : Rep G n hd σ ρ H
  lead : LeadS G hs.self hs.b n X.H_0 H
  sub : ∀ a, hs.h a → hd a
  old : ∀ a, hs.h a → G.M a ∨ ∃ o, X.H_0 a = some o ∧ notT o
  selfs : ∀ a, hs.self a → ¬ G.M a ∧ ∃ o, H a = some o ∧ notT o
  mine : ∀ (k : Nat) (l : Ow) (a : Addr), ρ[k]? = some (.own l) → σ[k]? = some (some (.ref a)) → mineO X hs l a
theorem SRep.self_to {X : Cx} {G : Gl} {hs : Hid} {n n' : Nat} {hd : Addr → Prop} {σ : St} {ρ : Env} {H H' : Hp} (R : SRep X G hs n hd σ ρ H) (e : Lead G n n' H H') : ∀ a, hs.self a → ¬ G.M a ∧ ∃ o, H' a = some o ∧ notT o := fun a h => by
  obtain ⟨h1, o, h2, h3⟩ := R.selfs a h
  exact ⟨h1, o, e.ex a o h1 h3 h2, h3⟩
theorem SRep.to {X : Cx} {G : Gl} {hs : Hid} {n n' : Nat} {hd : Addr → Prop} {σ : St} {ρ : Env} {H H' : Hp} (R : SRep X G hs n hd σ ρ H) (e : Lead G n n' H H') : SRep X G hs n' hd σ ρ H' := ⟨R.rep.lead e, R.lead.trans e, R.sub, R.old, R.self_to e, R.mine⟩
/-- own lists are as they were -/
def Kp (ρ : Env) (σ : St) (ρ' : Env) (σ' : St) : Prop := ∀ (k : Nat) (l : Ow), ρ'[k]? = some (.own l) → ρ[k]? = some (.own l) ∧ σ'[k]? = σ[k]?
theorem Kp.refl {ρ : Env} {σ : St} : Kp ρ σ ρ σ := fun _ _ h => ⟨h, rfl⟩
theorem Kp.trans {ρ ρ1 ρ2 : Env} {σ σ1 σ2 : St} (a : Kp ρ σ ρ1 σ1) (b : Kp ρ1 σ1 ρ2 σ2) : Kp ρ σ ρ2 σ2 := fun k l h => ⟨(a k l (b k l h).1).1, (b k l h).2.trans (a k l (b k l h).1).2⟩
theorem Kp.set {ρ : Env} {σ : St} {i : Nat} {d : D} {v : Option V} : Kp ρ σ (ρ.set i (.val d)) (σ.set i v) := fun k l h => by
  by_cases hk : i = k
  · rw [hk] at h
    by_cases hi : k < ρ.length
    · rw [List.getElem?_set_self hi] at h
      cases h
    · rw [List.getElem?_eq_none (by rw [List.length_set]; omega)] at h
      cases h
  · rw [List.getElem?_set_ne hk] at h
    exact ⟨h, List.getElem?_set_ne hk⟩
theorem SRep.by {X : Cx} {G : Gl} {hs : Hid} {n n' : Nat} {hd : Addr → Prop} {σ σ' : St} {ρ ρ' : Env} {H H' : Hp} (R : SRep X G hs n hd σ ρ H) (e : Lead G n n' H H') (R' : Rep G n' hd σ' ρ' H') (k : Kp ρ σ ρ' σ') : SRep X G hs n' hd σ' ρ' H' :=
  ⟨R', R.lead.trans e, R.sub, R.old, R.self_to e, fun i l a h1 h2 => R.mine i l a (k i l h1).1 (by rw [← (k i l h1).2]; exact h2)⟩
/-- what is wanted of an outcome, from where the hidden things are h0, the heap H0 -/
def oQ (X : Cx) (G : Gl) (W : WX) (hs : Hid) (Dn : Ends) (h0 : Addr → Prop) (H0 : Hp) : Out → Nat → Prop
  | .nx ρ, n => ∀ hd σ H, SRep X G hs n hd σ ρ H → Ex (hide h0 H0) (hide hd H) → Dn.nx σ H
  | .ret d, n => ∀ v H, G.J n H → LeadS G hs.self hs.b n X.H_0 H → At G (hide hs.h H) d v → Dn.rt v H
  | .brk ρ, n => ∀ hd σ H, SRep X G hs n hd σ ρ H → Ex (hide h0 H0) (hide hd H) → Dn.bk σ H
  | .ct ρ, n => ∀ hd σ H, SRep X G hs n hd σ ρ H → Ex (hide h0 H0) (hide hd H) → Dn.ct σ H
  | .rz c l ρ, n => ∀ hd cls dx σ H, SRep X G hs n hd σ ρ H → Ex (hide h0 H0) (hide hd H) → ErrAt G (hide hd H) c l cls dx → W cls dx σ H
theorem oQ.to {X : Cx} {G : Gl} {W : WX} {hs : Hid} {Dn : Ends} {h0 h1 : Addr → Prop} {H0 H1 : Hp} (x : Ex (hide h0 H0) (hide h1 H1)) : ∀ {o : Out} {n : Nat}, oQ X G W hs Dn h0 H0 o n → oQ X G W hs Dn h1 H1 o n
  | .nx _, _, h => fun hd σ H R e => h hd σ H R (x.trans e)
  | .ret _, _, h => h
  | .brk _, _, h => fun hd σ H R e => h hd σ H R (x.trans e)
  | .ct _, _, h => fun hd σ H R e => h hd σ H R (x.trans e)
  | .rz _ _ _, _, h => fun hd cls dx σ H R e => h hd cls dx σ H R (x.trans e)
def tSS (X : Cx) (G : Gl) (W : WX) (hs : Hid) (s : Sm) : TS := fun Dn σ H => ∃ n ρ hd, SRep X G hs n hd σ ρ H ∧ (s ρ).wp n (oQ X G W hs Dn hd H) (fun _ _ _ => False)

section
variable {X : Cx} {G : Gl} {W : WX} {hs : Hid}
abbrev SS (X : Cx) (G : Gl) (W : WX) (hs : Hid) (st : Stmt) (s : Sm) : Prop := PS X st (tSS X G W hs s)
abbrev SSs (X : Cx) (G : Gl) (W : WX) (hs : Hid) (st : List Stmt) (s : Sm) : Prop := PSs X st (tSS X G W hs s)
/-- the errors of an expression at these slots -/
theorem rz_of {Dn : Ends} {n n' : Nat} {hd : Addr → Prop} {σ : St} {ρ : Env} {H : Hp} (R : SRep X G hs n hd σ ρ H) {c : Nat} {l : List D} (h : oQ X G W hs Dn hd H (.rz c l ρ) n') : xE G W hd σ n H c l n' := fun cls dx H' e a => h hd cls dx σ H' (R.to e) (e.hide R.rep.m) a

def sSeq (s t : Sm) : Sm := fun ρ => s ρ >>= fun o => match o with
  | .nx ρ' => t ρ'
  | o => .ret o
def sNext : Sm := fun ρ => .ret (.nx ρ)
theorem ss_nil : SSs X G W hs [] sNext := PSs_imp pss_nil fun Dn σ H ⟨n, ρ, hd, R, q⟩ => q hd σ H R (Ex.refl _)
theorem ss_cons {st : Stmt} {rest : List Stmt} {s t : Sm} (h1 : SS X G W hs st s) (h2 : SSs X G W hs rest t) : SSs X G W hs (st :: rest) (sSeq s t) := by
  refine PSs_imp (pss_cons h1 h2) fun Dn σ H q => ?_
  obtain ⟨n, ρ, hd, R, q⟩ := q
  refine ⟨_, ρ, hd, R, T.wp_imp (wp_then q) fun o _ q1 => ?_⟩
  cases o with
  | nx ρ' => exact fun hd' σ' H' R' x => ⟨_, ρ', hd', R', T.wp_imp q1 fun o _ z => oQ.to x z⟩
  | ret d => exact q1
  | brk ρ' => exact q1
  | ct ρ' => exact q1
  | rz c l ρ' => exact q1
theorem ss_one {st : Stmt} {s : Sm} (h1 : SS X G W hs st s) : SSs X G W hs [st] s := pss_one h1
def sExpr (f : Env → T D) : Sm := fun ρ => bindS (f ρ) ρ fun _ => .ret (.nx ρ)
def sRet (f : Env → T D) : Sm := fun ρ => bindS (f ρ) ρ fun d => .ret (.ret d)
def sIf (t : Env → T Bool) (s u : Sm) : Sm := fun ρ => bindS (t ρ) ρ fun b => if b = true then s ρ else u ρ
theorem ss_expr {e : Expr} {f : Env → T D} {pos : Pos} (he : EE X G W e f) (h : swapsWith e none pos.line X.env = pure false := by rfl) : SS X G W hs (.Expr e pos) (sExpr f) := by
  refine PS_imp (ps_expr he h) fun Dn σ H q => ?_
  obtain ⟨n, ρ, hd, R, q⟩ := q
  exact ⟨_, ρ, hd, R.rep, T.wp_mono (bindS_then q) (fun d _ q1 v H' e h => q1 hd σ H' (R.to e) (e.hide R.rep.m)) fun c l _ z => rz_of R z⟩
theorem ss_ret {e : Expr} {f : Env → T D} {pos : Pos} (he : EE X G W e f) : SS X G W hs (.Return (some e) pos) (sRet f) := by
  refine PS_imp (ps_ret he) fun Dn σ H q => ?_
  obtain ⟨n, ρ, hd, R, q⟩ := q
  exact ⟨_, ρ, hd, R.rep, T.wp_mono (bindS_then q) (fun d _ q1 v H' e h => q1 v H' (e.j R.rep.j) (R.lead.trans e) (h.mono (hide_le R.sub))) fun c l _ z => rz_of R z⟩
theorem ss_if {c : Expr} {a b : List Stmt} {t : Env → T Bool} {s u : Sm} {pos : Pos} (hc : ET X G W c t) (ha : SSs X G W hs a s) (hb : SSs X G W hs b u) : SS X G W hs (.If c a b pos) (sIf t s u) := by
  refine PS_imp (ps_if hc ha hb) fun Dn σ H q => ?_
  obtain ⟨n, ρ, hd, R, q⟩ := q
  refine ⟨_, ρ, hd, R.rep, T.wp_mono (bindS_then q) (fun c _ q1 H' e => ?_) fun c l _ z => rz_of R z⟩
  cases c with
  | true =>
    rw [if_pos rfl] at q1 ⊢
    exact ⟨_, ρ, hd, R.to e, T.wp_imp q1 fun o _ z => oQ.to (e.hide R.rep.m) z⟩
  | false =>
    rw [if_neg Bool.false_ne_true] at q1 ⊢
    exact ⟨_, ρ, hd, R.to e, T.wp_imp q1 fun o _ z => oQ.to (e.hide R.rep.m) z⟩

/-! ### slots are set -/
theorem Rep.set {hd : Addr → Prop} {σ : St} {ρ : Env} {H : Hp} {i : Nat} {d : D} {v : V} (R : Rep G n hd σ ρ H) (a : At G (hide hd H) d v) : Rep G n hd (σ.set i (some v)) (ρ.set i (.val d)) H := by
  have hl := R.len
  refine ⟨R.j, R.m, R.live, by rw [List.length_set, List.length_set]; exact R.len, fun k s v' h1 h2 => ?_, fun k m l v' h1 h2 h3 h4 => ?_⟩
  · by_cases hk : i = k
    · rw [← hk] at h1 h2
      by_cases hi : i < ρ.length
      · rw [List.getElem?_set_self hi] at h1
        rw [List.getElem?_set_self (by omega)] at h2
        cases h1
        cases h2
        exact ⟨v, rfl, a⟩
      · rw [List.getElem?_eq_none (by rw [List.length_set]; omega)] at h1
        cases h1
    · rw [List.getElem?_set_ne hk] at h1 h2
      exact R.at_ k s v' h1 h2
  · obtain ⟨s, h3, h5⟩ := h3
    have k1 : i ≠ k := fun z => by
      rw [z] at h1
      by_cases hi : k < ρ.length
      · rw [List.getElem?_set_self hi] at h1
        cases h1
      · rw [List.getElem?_eq_none (by rw [List.length_set]; omega)] at h1
        cases h1
    have k2 : i ≠ m := fun z => by
      rw [z] at h3
      by_cases hi : m < ρ.length
      · rw [List.getElem?_set_self hi] at h3
        cases h3
        cases h5
      · rw [List.getElem?_eq_none (by rw [List.length_set]; omega)] at h3
        cases h3
    rw [List.getElem?_set_ne k1] at h1 h2
    rw [List.getElem?_set_ne k2] at h3 h4
    exact R.lone k m l v' h1 h2 ⟨s, h3, h5⟩ h4
theorem SRep.set {hd : Addr → Prop} {σ : St} {ρ : Env} {H : Hp} {i : Nat} {d : D} {v : V} (R : SRep X G hs n hd σ ρ H) (a : At G (hide hd H) d v) : SRep X G hs n hd (σ.set i (some v)) (ρ.set i (.val d)) H := R.by (Lead.refl H) (R.rep.set a) Kp.set
def sSet (i : Nat) (f : Env → T D) : Sm := fun ρ => bindS (f ρ) ρ fun d => .ret (.nx (ρ.set i (.val d)))
theorem ss_set {i : Nat} {x : Str} {e : Expr} {f : Env → T D} {pos pos' : Pos} (hN : X.N.Nodup) (hi : X.N[i]? = some x) (hx : Loc X.env.scope x) (he : EE X G W e f) (h : swapsWith e (some (.Name x pos')) pos.line X.env = pure false := by rfl) (hf : X.fn x = true ∨ X.env.scope.names.lookup x = some .local := by first | exact .inl rfl | exact .inr rfl | assumption) :
    SS X G W hs (.Assign [.Name x pos'] e pos) (sSet i f) := by
  refine PS_imp (ps_set (i := i) hN hi hx he h hf) fun Dn σ H q => ?_
  obtain ⟨n, ρ, hd, R, q⟩ := q
  exact ⟨_, ρ, hd, R.rep, T.wp_mono (bindS_then q) (fun d _ q1 v H' e h => q1 hd _ H' ((R.to e).set h) (e.hide R.rep.m)) fun c l _ z => rz_of R z⟩
end

/-! ### a def's promise -/
def outD : Out → T D
  | .nx _ => .ret .non
  | .ret d => .ret d
  | .rz c l _ => .exc c l
  | _ => .bad
def runS : T Out → T D
  | .ret o => outD o
  | .exc _ _ => .bad
  | .draw n k => .draw n fun i => runS (k i)
  | .bad => .bad
theorem runS_wp {Q : D → Nat → Prop} {E : Nat → List D → Nat → Prop} : ∀ {t : T Out} {n : Nat}, (runS t).wp n Q E → t.wp n (fun o n => (outD o).wp n Q E) (fun _ _ _ => False)
  | .ret o, _, h => h
  | .exc _ _, _, h => h
  | .draw n k, _, h => ⟨h.1, fun i hi => runS_wp (h.2 i hi)⟩
  | .bad, _, h => h
/-- the slots at a def's entry -/
def env0 (n : Nat) (l : List D) : Env := l.map Slot.val ++ List.replicate (n - l.length) Slot.none
/-- a def by its body -/
def fn (n : Nat) (s : Sm) : List D → T D := fun l => runS (s (env0 n l))
def spD (G : Gl) (k : Nat) (m : List D → T D) : Sp := fun vs H Q E => vs.length = k ∧ ∃ (n : Nat) (l : List D) (hs : Addr → Prop), Good G n hs H ∧ Ats G (hide hs H) l vs ∧
  (m l).wp n (fun d n' => ∀ v H', G.J n' H' → Lead G n n' H H' → At G (hide hs H') d v → Q v H') (fun c es n' => ∀ cls dx H', Lead G n n' H H' → ErrAt G (hide hs H') c es cls dx → E cls dx H')
theorem no_own {n : Nat} {l : List D} {k : Nat} {s : Slot} (e : (env0 n l)[k]? = some s) : isOwn s = false := by
  unfold env0 at e
  by_cases hk : k < l.length
  · rw [List.getElem?_append_left (by rw [List.length_map]; exact hk), List.getElem?_map] at e
    cases q : l[k]? with
    | none =>
      rw [q] at e
      cases e
    | some d =>
      rw [q] at e
      cases e
      rfl
  · rw [List.getElem?_append_right (by rw [List.length_map]; omega)] at e
    have := List.mem_of_getElem? e
    rw [List.mem_replicate] at this
    rw [this.2]
    rfl
theorem rep_start {G : Gl} {hs : Addr → Prop} {H : Hp} {N : List Str} {l : List D} {vs : List V} (g : Good G n hs H) (h : Ats G (hide hs H) l vs) (hn : vs.length ≤ N.length) : Rep G n hs (L2.start N vs) (env0 N.length l) H := by
  have hl := h.length
  refine ⟨g.j, g.m, g.live, ?_, fun i s v h1 h2 => ?_, fun i k l' v h1 _ _ _ => ?_⟩
  · unfold env0 L2.start
    rw [List.length_append, List.length_append, List.length_map, List.length_map, List.length_replicate, List.length_replicate, hl]
  · unfold env0 at h1
    unfold L2.start at h2
    by_cases hk : i < l.length
    · rw [List.getElem?_append_left (by rw [List.length_map]; exact hk), List.getElem?_map] at h1
      rw [List.getElem?_append_left (by rw [List.length_map]; omega), List.getElem?_map] at h2
      cases q : l[i]? with
      | none =>
        rw [q] at h1
        cases h1
      | some d =>
        rw [q] at h1
        cases h1
        obtain ⟨x, e1, a⟩ := h.get' q
        rw [e1] at h2
        cases h2
        exact ⟨x, rfl, a⟩
    · rw [List.getElem?_append_right (by rw [List.length_map]; omega)] at h1
      have := List.mem_of_getElem? h1
      rw [List.mem_replicate] at this
      rw [this.2]
      trivial
  · have := no_own h1
    cases this
section
variable {P : Program} {w : World} {K : PySem.W.Frag} {mg : Str → Option Value} {base : Heap} {G : Gl}
theorem toLead {n n' : Nat} {H H' : Hp} (e : LeadS G (fun _ => False) n n' H H') : Lead G n n' H H' := ⟨fun a o m t h => e.ex a o m (fun z => z) t h, e.j⟩
/-- THE RULE for a def -/
theorem fn_ok {x qual : Str} {st : Stmt} {f : Addr} {fd : FuncData} {N ps : List Str} {k : Nat} {s : Sm} (F : Fun K x qual st f fd) (S : FnScope N ps (defScope st)) (hN : ps.length ≤ N.length)
    (hbody : ∀ (cdv : Value) (A : Around) (outer : List PySem.Env) (s0 : Shared) (H : Hp) (hs : Hid) (E : XK), Room k (A.deeper (PyProof.Rows.envOfC qual (defScope st) s0.heap.objs.size f cdv)) →
      SSs (cxOf (L2.CX P w) P w K mg base N qual (defScope st) f cdv A outer s0 H E) G (fun cls dx _ H' => E cls dx H') hs (defBody st) s) : FnOk P w K mg base (L2.CX P w) (k + 1) f fd ps (spD G ps.length (fn N.length s)) := by
  refine F.okX S (fun vs H Q E h => h.1) fun cdv A outer s0 H vs Q E hr h => ?_
  obtain ⟨hl, n, l, hs, g, hv, q⟩ := h
  refine ⟨_, hbody cdv A outer s0 H ⟨hs, fun _ => False, n⟩ E hr, n, env0 N.length l, hs, ⟨rep_start g hv (by rw [hl]; exact hN), LeadS.refl H, fun _ z => z, g.live.some, fun _ z => z.elim, fun k l' a h1 _ => absurd (no_own h1) (fun z => nomatch z)⟩, T.wp_imp (runS_wp q) fun o _ q1 => ?_⟩
  cases o with
  | nx ρ => exact fun hd σ H' R _ => q1 _ H' R.rep.j (toLead R.lead) .non
  | ret d => exact fun v H' j e a => q1 v H' j (toLead e) a
  | brk ρ => exact q1.elim
  | ct ρ => exact q1.elim
  | rz c l ρ => exact fun hd cls dx σ H' R _ a => q1 cls dx H' (toLead R.lead) (a.mono (hide_le R.sub))
end
section
variable {X : Cx} {G : Gl} {W : WX}
/-- f(e, ..) -/
theorem ee_call {k n : Nat} {f : Addr} {fd : FuncData} {ps : List Str} {x : Str} {p pos : Pos} {e : Expr} {es : List Expr} {m : List D → T D} {fa : Env → T (List D)} (F : FnOk X.prog X.w X.K X.mg X.base (L2.CX X.prog X.w) k f fd ps (spD G n m)) (hr : Room k X.A) (hg : L2.Gl X x) (hm : X.mg x = some (.ref f)) (hk : PySem.W.keepIn X.K (.ref f) = true)
    (hb : Binds X.K fd ps []) (tk : Takes X W) (ha : EA X G W (e :: es) fa)
    (hdb : (x == ("__debug__" : Str)) = false := by decide) (he : starEach (e :: es) X.env = (false, eval e X.env) :: starEach es X.env := by rfl) (hpl : (backTo pos (starEach es X.env)).any (·.1) = false := by rfl) :
    EE X G W (.Call (.Name x p) (e :: es) [] pos) (fun ρ => fa ρ >>= fun l => if l.length = n then m l else .bad) := by
  refine PE_imp (pe_callS F hr hg hm hk hb (fun σ => passAt tk σ) ha hdb he hpl) fun σ H Q q => ?_
  obtain ⟨nb, ρ, hd, R, q⟩ := q
  refine ⟨_, ρ, hd, R, T.wp_imp (wp_then q) fun l _ q1 vs H1 e1 h1 => ?_⟩
  by_cases hl : l.length = n
  · rw [if_pos hl] at q1
    refine ⟨by rw [← h1.length]; exact hl, _, l, hd, R.good.lead e1, h1, T.wp_mono q1 (fun d _ q2 v H' j e2 a => q2 v H' (e1.trans e2) a) fun c es _ z cls dx H' e2 a => z cls dx H' (e1.trans e2) a⟩
  · rw [if_neg hl] at q1
    exact q1.elim
end
end Py
set_option Elab.async false
set_option linter.all false
set_option maxRecDepth 100000
set_option maxHeartbeats 4000000
namespace Py
open PySem PySem.Spec L2

/-! ### what is walked -/
/-- J yields the data ds, whatever else changes -/
def ItRep (G : Gl) (hd : Addr → Prop) (J : It) (ds : List D) (H0 : Hp) : Prop := ∀ (i nb : Nat) (hd' : Addr → Prop) (H : Hp), Ex (hide hd H0) (hide hd' H) → Good G nb hd' H →
  (i < ds.length → J.go i H ∧ ∀ x H', J.yld i H x H' → Lead G nb nb H H' ∧ ∃ d, ds[i]? = some d ∧ At G (hide hd' H') d x) ∧ (ds.length ≤ i → J.stop i H)
def tEI (G : Gl) (W : WX) (f : Env → T (List D)) : TI := fun σ H R => ∃ nb ρ hd, Rep G nb hd σ ρ H ∧ (f ρ).wp nb (fun ds n' => ∀ J H', Lead G nb n' H H' → ItRep G hd J ds H' → R J H') (xE G W hd σ nb H)
theorem PI_imp {X : Cx} {tg e : Expr} {t t' : TI} (h : PI X tg e t) (i : ∀ σ H Q, t' σ H Q → t σ H Q) : PI X tg e t' := ⟨fun pins s σ H Q I q => h.run pins s σ H Q I (i _ _ _ q)⟩
abbrev EI (X : Cx) (G : Gl) (W : WX) (tg e : Expr) (f : Env → T (List D)) : Prop := PI X tg e (tEI G W f)
def seqD : D → T (List D)
  | .tup l => .ret l
  | .lst l => .ret l
  | _ => .bad
section
variable {X : Cx} {G : Gl} {W : WX} {tg : Expr}
/-- an iterator at the next free place comes over a list, over a tuple -/
theorem come_list {pins : List (Addr × Obj)} {σ : L2.St} {H : Hp} {s : Shared} {a : Addr} {xs : List V} {R : It → Hp → Prop} (I : Inv X pins σ H s) (h : SqL X.K H a xs) (q : R (Itl X.K a) H) : wpAny (model X.prog X.w) X.A (pyIter (.ref a)) (PIE X pins σ tg R) X.xe s := by
  obtain ⟨vs, _, pl, _⟩ := I.list h
  have fresh : FpOk X pins H s.heap.objs.size := I.fpOk (Nat.le_refl _) (I.hok.fresh (Nat.le_refl _))
  refine wpAny_pyIter_list pl.isList ⟨_, [s.heap.objs.size], _, _, H, rfl, ?_, turn_list a _, ⟨_, Heap.get?_push_size _ rfl, rfl, rfl⟩, fun b hb => ?_, q⟩
  · exact I.kept (t' := s.toks) fun b o e => Heap.get?_push_of_some _ e
  · rw [List.mem_singleton.mp hb]
    exact fresh
theorem come_tup {pins : List (Addr × Obj)} {σ : L2.St} {H : Hp} {s : Shared} {a : Addr} {xs : List V} {R : It → Hp → Prop} (I : Inv X pins σ H s) (h : SqT X.K H a xs) (q : R (Itt X.K a) H) : wpAny (model X.prog X.w) X.A (pyIter (.ref a)) (PIE X pins σ tg R) X.xe s := by
  obtain ⟨vs, _, pl, _⟩ := I.tuple h
  have fresh : FpOk X pins H s.heap.objs.size := I.fpOk (Nat.le_refl _) (I.hok.fresh (Nat.le_refl _))
  have isT : s.heap.IsTuple a vs.toArray := pl
  refine wpAny_pyIter_tuple isT ⟨_, [s.heap.objs.size], _, _, H, rfl, ?_, turn_tuple a _, ⟨_, Heap.get?_push_size _ rfl, rfl, rfl⟩, fun b hb => ?_, q⟩
  · exact I.kept (t' := s.toks) fun b o e => Heap.get?_push_of_some _ e
  · rw [List.mem_singleton.mp hb]
    exact fresh
theorem pi_seq {l : Expr} {tl : TE} (hl : PE X l tl) : PI X tg l (fun σ H R => tl σ H fun x H1 => (∃ a, x = .ref a ∧ (∃ xs, SqL X.K H1 a xs) ∧ R (Itl X.K a) H1) ∨ (∃ a, x = .ref a ∧ (∃ xs, SqT X.K H1 a xs) ∧ R (Itt X.K a) H1)) := by
  refine ⟨fun pins s σ H R I h => thn (hl.run pins s σ H _ I h) fun v s1 y => ?_⟩
  obtain ⟨x, H1, I1, r1, q1⟩ := y
  rcases q1 with ⟨a, rfl, ⟨xs, hq⟩, q⟩ | ⟨a, rfl, ⟨xs, hq⟩, q⟩
  · cases r1
    exact come_list I1 hq q
  · cases r1
    exact come_tup I1 hq q
theorem itl_rep (hK : G.K = X.K) {hd : Addr → Prop} {H : Hp} {a : Addr} {xs : List V} {ds : List D} (h : hide hd H a = some (.lst xs)) (r : Ats G (hide hd H) ds xs) : ItRep G hd (Itl X.K a) ds H := fun i nb hd' H1 e g => by
  have h1 : H1 a = some (.lst xs) := hide_sub _ _ (e _ _ h)
  have r1 : Ats G (hide hd' H1) ds xs := r.mono e
  refine ⟨fun hi => ?_, fun hi => ⟨xs, .inl (.inl h1), by rw [← r1.length]; exact hi⟩⟩
  obtain ⟨x, hx, ax⟩ := r1.get' (List.getElem?_eq_getElem hi)
  refine ⟨⟨xs, x, .inl (.inl h1), hx⟩, fun y H2 q => ?_⟩
  obtain ⟨e2, q⟩ := q
  rw [e2]
  refine ⟨Lead.refl _, _, List.getElem?_eq_getElem hi, ?_⟩
  have z := q xs (.inl (.inl h1))
  rw [hx] at z
  cases z
  exact ax
theorem itt_rep (hK : G.K = X.K) {hd : Addr → Prop} {H : Hp} {a : Addr} {xs : List V} {ds : List D} (h : SqT G.K (hide hd H) a xs) (r : Ats G (hide hd H) ds xs) : ItRep G hd (Itt X.K a) ds H := fun i nb hd' H1 e g => by
  have h1 : SqT X.K H1 a xs := by
    rw [← hK]
    exact hide_sub.sqT (e.sqT h)
  have r1 : Ats G (hide hd' H1) ds xs := r.mono e
  refine ⟨fun hi => ?_, fun hi => ⟨xs, h1, by rw [← r1.length]; exact hi⟩⟩
  obtain ⟨x, hx, ax⟩ := r1.get' (List.getElem?_eq_getElem hi)
  refine ⟨⟨xs, x, h1, hx⟩, fun y H2 q => ?_⟩
  obtain ⟨e2, q⟩ := q
  rw [e2]
  refine ⟨Lead.refl _, _, List.getElem?_eq_getElem hi, ?_⟩
  have z := q xs h1
  rw [hx] at z
  cases z
  exact ax
theorem seqD_wp {d : D} {nb : Nat} {Q : List D → Nat → Prop} {E : Nat → List D → Nat → Prop} (h : (seqD d).wp nb Q E) : ∃ l, (d = .tup l ∨ d = .lst l) ∧ Q l nb := by
  cases d with
  | tup l => exact ⟨l, .inl rfl, h⟩
  | lst l => exact ⟨l, .inr rfl, h⟩
  | _ => exact h.elim
/-- over a list or a tuple -/
theorem ei_seq (hK : G.K = X.K) {l : Expr} {f : Env → T D} (hl : EE X G W l f) : EI X G W tg l (fun ρ => f ρ >>= seqD) := by
  refine PI_imp (pi_seq hl) fun σ H R q => ?_
  obtain ⟨nb, ρ, hd, Rp, q⟩ := q
  refine ⟨_, ρ, hd, Rp, T.wp_imp (wp_then q) fun d _ q1 v H1 e h => ?_⟩
  obtain ⟨ds, hds, q2⟩ := seqD_wp q1
  rcases hds with rfl | rfl
  · cases h with
    | tup h1 h2 => exact .inr ⟨_, rfl, ⟨_, by rw [← hK]; exact hide_sub.sqM h1⟩, q2 _ _ e (itt_rep hK h1.t h2)⟩
  · cases h with
    | lst h1 h2 => exact .inl ⟨_, rfl, ⟨_, .inl (.inl (hide_sub _ _ h1))⟩, q2 _ _ e (itl_rep hK h1 h2)⟩
/-- lo, lo + 1, .. -/
def rngD (lo hi : Int) : List D := (List.range (hi - lo).toNat).map fun i : Nat => D.int (lo + (i : Int))
theorem itr_rep {hd : Addr → Prop} {H : Hp} (lo : Int) (n : Nat) : ItRep G hd (Itr lo n) ((List.range n).map fun i : Nat => D.int (lo + (i : Int))) H := fun i nb hd' H1 e g => by
  refine ⟨fun hi => ?_, fun hi => ?_⟩
  · rw [List.length_map, List.length_range] at hi
    refine ⟨hi, fun x H' q => ?_⟩
    obtain ⟨e2, e3⟩ := q
    rw [e2, e3]
    refine ⟨Lead.refl _, .int (lo + (i : Int)), ?_, .int⟩
    rw [List.getElem?_map, List.getElem?_range hi]
    rfl
  · rw [List.length_map, List.length_range] at hi
    exact hi
def rng1 : List D → T (List D)
  | [.int j] => if -100000 ≤ j ∧ j ≤ 100000 then .ret (rngD 0 j) else .bad
  | _ => .bad
theorem wp_if {α : Type} {c : Prop} [Decidable c] {t : T α} {nb : Nat} {Q : α → Nat → Prop} {E : Nat → List D → Nat → Prop} (h : (if c then t else .bad).wp nb Q E) : c ∧ t.wp nb Q E := by
  by_cases q : c
  · rw [if_pos q] at h
    exact ⟨q, h⟩
  · rw [if_neg q] at h
    exact h.elim
theorem rng1_wp {l : List D} {nb : Nat} {Q : List D → Nat → Prop} {E : Nat → List D → Nat → Prop} (h : (rng1 l).wp nb Q E) : ∃ j : Int, l = [.int j] ∧ (-100000 ≤ j ∧ j ≤ 100000) ∧ Q (rngD 0 j) nb := by
  unfold rng1 at h
  split at h
  · obtain ⟨a, b⟩ := wp_if h
    exact ⟨_, rfl, a, b⟩
  · exact h.elim
theorem ei_range1 {a : Expr} {p pos : Pos} {fa : Env → T (List D)} (hg : L2.Gl X "range") (hm : X.mg "range" = none) (ha : EA X G W [a] fa) (hs : starEach [a] X.env = [(false, eval a X.env)] := by rfl) : EI X G W tg (.Call (.Name "range" p) [a] [] pos) (fun ρ => fa ρ >>= rng1) := by
  refine PI_imp (pi_range1 hg hm ha hs) fun σ H R q => ?_
  obtain ⟨nb, ρ, hd, Rp, q⟩ := q
  refine ⟨_, ρ, hd, Rp, T.wp_imp (wp_then q) fun l _ q1 vs H1 e h => ?_⟩
  obtain ⟨j, rfl, b, q2⟩ := rng1_wp q1
  cases h with
  | cons h1 h2 =>
    cases h1
    cases h2
    refine ⟨j, rfl, by omega, by omega, q2 _ _ e ?_⟩
    have z := itr_rep (G := G) (hd := hd) (H := H1) 0 j.toNat
    unfold rngD
    rw [Int.sub_zero]
    exact z
/-! ### targets -/
/-- what a target makes of the slots -/
abbrev Tg := D → Env → Option Env
abbrev Tgs := List D → Env → Option Env
def Tgt (G : Gl) (g : TG) (b : Tg) (vs : List Nat) : Prop := ∀ {nb : Nat} (hd : Addr → Prop) (σ : L2.St) (ρ ρ' : Env) (H : Hp) (v : V) (d : D) (Q : L2.St → Hp → Prop), Rep G nb hd σ ρ H → At G (hide hd H) d v → b d ρ = some ρ' → (∀ σ', Rep G nb hd σ' ρ' H → wipe σ' vs = wipe σ vs → Kp ρ σ ρ' σ' → Q σ' H) → g v σ H Q
def Tgts' (G : Gl) (g : TGs) (b : Tgs) (vs : List Nat) : Prop := ∀ {nb : Nat} (hd : Addr → Prop) (σ : L2.St) (ρ ρ' : Env) (H : Hp) (xs : List V) (l : List D) (Q : L2.St → Hp → Prop), Rep G nb hd σ ρ H → Ats G (hide hd H) l xs → b l ρ = some ρ' → (∀ σ', Rep G nb hd σ' ρ' H → wipe σ' vs = wipe σ vs → Kp ρ σ ρ' σ' → Q σ' H) → g xs σ H Q
def bName (i : Nat) : Tg := fun d ρ => some (ρ.set i (.val d))
theorem wipe_get {σ τ : L2.St} {vs : List Nat} (hl : σ.length = τ.length) (h : ∀ k, k ∉ vs → σ[k]? = τ[k]?) : wipe σ vs = wipe τ vs := by
  have key : ∀ (us : List Nat) (k : Nat), (wipe σ us)[k]? = if k ∈ us ∧ k < σ.length then some none else σ[k]? := by
    intro us
    induction us with
    | nil =>
      intro k
      show σ[k]? = _
      rw [if_neg (fun z => by simp at z)]
    | cons u us ih =>
      intro k
      show ((wipe σ us).set u none)[k]? = _
      by_cases hk : u = k
      · rw [hk]
        by_cases hi : k < σ.length
        · rw [List.getElem?_set_self (by rw [wipe_length]; exact hi), if_pos ⟨by simp, hi⟩]
        · rw [List.getElem?_eq_none (by rw [List.length_set, wipe_length]; omega), if_neg (fun z => hi z.2), List.getElem?_eq_none (by omega)]
      · rw [List.getElem?_set_ne hk, ih k]
        by_cases c : k ∈ us ∧ k < σ.length
        · rw [if_pos c, if_pos ⟨List.mem_cons_of_mem _ c.1, c.2⟩]
        · rw [if_neg c, if_neg (fun z => c ⟨(List.mem_cons.mp z.1).resolve_left (fun y => hk y.symm), z.2⟩)]
  have key2 : ∀ (us : List Nat) (k : Nat), (wipe τ us)[k]? = if k ∈ us ∧ k < τ.length then some none else τ[k]? := by
    intro us
    induction us with
    | nil =>
      intro k
      show τ[k]? = _
      rw [if_neg (fun z => by simp at z)]
    | cons u us ih =>
      intro k
      show ((wipe τ us).set u none)[k]? = _
      by_cases hk : u = k
      · rw [hk]
        by_cases hi : k < τ.length
        · rw [List.getElem?_set_self (by rw [wipe_length]; exact hi), if_pos ⟨by simp, hi⟩]
        · rw [List.getElem?_eq_none (by rw [List.length_set, wipe_length]; omega), if_neg (fun z => hi z.2), List.getElem?_eq_none (by omega)]
      · rw [List.getElem?_set_ne hk, ih k]
        by_cases c : k ∈ us ∧ k < τ.length
        · rw [if_pos c, if_pos ⟨List.mem_cons_of_mem _ c.1, c.2⟩]
        · rw [if_neg c, if_neg (fun z => c ⟨(List.mem_cons.mp z.1).resolve_left (fun y => hk y.symm), z.2⟩)]
  refine List.ext_getElem? fun k => ?_
  rw [key, key2, hl]
  by_cases c : k ∈ vs ∧ k < τ.length
  · rw [if_pos c, if_pos c]
  · rw [if_neg c, if_neg c]
    by_cases hk : k ∈ vs
    · have hn : ¬ k < τ.length := fun z => c ⟨hk, z⟩
      rw [List.getElem?_eq_none (by omega), List.getElem?_eq_none (by omega)]
    · exact h k hk
theorem wipe_set {σ : L2.St} {i : Nat} {v : Option V} {vs : List Nat} (h : i ∈ vs) : wipe (σ.set i v) vs = wipe σ vs :=
  wipe_get (List.length_set ..) fun k hk => List.getElem?_set_ne fun z => hk (by rw [← z]; exact h)
theorem tgt_name (i : Nat) {vs : List Nat} (h : i ∈ vs) : Tgt G (gName i) (bName i) vs := fun {nb} hd σ ρ ρ' H v d Q R a e k => by
  have e1 : ρ.set i (.val d) = ρ' := Option.some.inj e
  rw [← e1] at k
  exact k _ (R.set a) (wipe_set h) Kp.set
def bNil : Tgs := fun l ρ => match l with
  | [] => some ρ
  | _ => none
def bCons (b : Tg) (r : Tgs) : Tgs := fun l ρ => match l with
  | d :: l => (b d ρ).bind (r l)
  | [] => none
theorem tgts_nil {vs : List Nat} : Tgts' G L2.gNil bNil vs := fun {nb} hd σ ρ ρ' H xs l Q R a e k => by
  cases a with
  | nil =>
    have e1 : ρ = ρ' := Option.some.inj e
    rw [← e1] at k
    exact ⟨rfl, k σ R rfl Kp.refl⟩
  | cons _ _ => cases e
theorem tgts_cons {g : TG} {gs : TGs} {b : Tg} {bs : Tgs} {vs : List Nat} (h : Tgt G g b vs) (hr : Tgts' G gs bs vs) : Tgts' G (L2.gCons g gs) (bCons b bs) vs := fun {nb} hd σ ρ ρ' H xs l Q R a e k => by
  cases a with
  | nil => cases e
  | @cons d x l' xs' a1 a2 =>
    have e1 : (b d ρ).bind (bs l') = some ρ' := e
    cases q : b d ρ with
    | none =>
      rw [q] at e1
      cases e1
    | some ρ1 =>
      rw [q] at e1
      exact ⟨x, xs', rfl, h hd σ ρ ρ1 H x d _ R a1 q fun σ1 R1 w1 k1 => hr hd σ1 ρ1 ρ' H xs' l' Q R1 a2 e1 fun σ2 R2 w2 k2 => k σ2 R2 (w2.trans w1) (k1.trans k2)⟩
def bTup (n : Nat) (b : Tgs) : Tg := fun d ρ => match d with
  | .tup l => if l.length = n then b l ρ else none
  | _ => none
theorem tgt_tup (hK : G.K = X.K) {n : Nat} {g : TGs} {b : Tgs} {vs : List Nat} (h : Tgts' G g b vs) : Tgt G (L2.gTup X.K n g) (bTup n b) vs := fun {nb} hd σ ρ ρ' H v d Q R a e k => by
  cases a with
  | @tup l p xs h1 h2 =>
    have e1 : (if l.length = n then b l ρ else none) = some ρ' := e
    by_cases q : l.length = n
    · rw [if_pos q] at e1
      exact ⟨p, xs, rfl, by rw [← hK]; exact hide_sub.sqM h1, by rw [← h2.length]; exact q, h hd σ ρ ρ' H xs l Q R h2 e1 k⟩
    · rw [if_neg q] at e1
      cases e1
  | _ => cases e
/-! ### for -/
def forL (b : Tg) (body : Sm) : List D → Sm
  | [] => fun ρ => .ret (.nx ρ)
  | d :: ds => fun ρ => opt (b d ρ) >>= fun ρ1 => body ρ1 >>= fun o => match o with
    | .nx ρ2 => forL b body ds ρ2
    | .ct ρ2 => forL b body ds ρ2
    | .brk ρ2 => .ret (.nx ρ2)
    | o => .ret o
def sFor (it : Env → T (List D)) (b : Tg) (body : Sm) : Sm := fun ρ => bindS (it ρ) ρ fun ds => forL b body ds ρ
theorem ss_for {hs : Hid} {t iter : Expr} {body : List Stmt} {it : Env → T (List D)} {g : TG} {b : Tg} {vs : List Nat} {s : Sm} {pos : Pos} (hp : PassesOwn (model X.prog X.w) X.A X.env X.xe) (hc : X.calm = true) (hi : EI X G W t iter it) (hg : PG X t g) (ht : Tgt G g b vs) (hb : SSs X G W hs body s)
    (hq : ∀ x, foldedSetIterable iter X.env x = pure x := by intro _; rfl) : SS X G W hs (.For t iter body [] pos) (sFor it b s) := by
  refine PS_imp (ps_for hp hc hi hg hb hq) fun Dn σ H q => ?_
  obtain ⟨nb, ρ, hd, R, q⟩ := q
  refine ⟨_, ρ, hd, R.rep, T.wp_mono (bindS_then q) (fun ds _ q1 J H1 e1 hJ => ?_) fun c l _ z => rz_of R z⟩
  have x0 : Ex (hide hd H) (hide hd H1) := e1.hide R.rep.m
  refine ⟨fun i m σ' H' => m = ds.length - i ∧ i ≤ ds.length ∧ ∃ n ρ hd', SRep X G hs n hd' σ' ρ H' ∧ Ex (hide hd H1) (hide hd' H') ∧ (forL b s (ds.drop i) ρ).wp n (oQ X G W hs Dn hd H) (fun _ _ _ => False), ⟨ds.length, rfl, Nat.zero_le _, _, ρ, hd, R.to e1, Ex.refl _, q1⟩, ?_⟩
  rintro i m σ2 H2 ⟨rfl, hi2, n2, ρ2, hd2, R2, x2, q2⟩
  obtain ⟨h1, h2⟩ := hJ i n2 hd2 H2 x2 R2.rep.good
  by_cases hlt : i < ds.length
  · obtain ⟨go, yl⟩ := h1 hlt
    refine .inr ⟨go, fun σ' H' => i + 1 ≤ ds.length ∧ ∃ n ρ hd', SRep X G hs n hd' σ' ρ H' ∧ Ex (hide hd H1) (hide hd' H') ∧ (forL b s (ds.drop (i + 1)) ρ).wp n (oQ X G W hs Dn hd H) (fun _ _ _ => False), fun σ' H' z => ⟨ds.length - (i + 1), by omega, rfl, z.1, z.2⟩, fun x H3 y => ?_⟩
    obtain ⟨e3, d, hd3, ax⟩ := yl x H3 y
    have ed : ds.drop i = d :: ds.drop (i + 1) := by
      have z := List.getElem?_eq_some_iff.mp hd3
      rw [← z.2]
      exact List.drop_eq_getElem_cons hlt
    rw [ed] at q2
    obtain ⟨ρ3, eb, q3⟩ := wp_opt (wp_then q2)
    refine ht hd2 σ2 ρ2 ρ3 H3 x d _ (R2.rep.lead e3) ax eb fun σ4 R4 _ kp => ?_
    refine ⟨_, ρ3, hd2, R2.by e3 R4 kp, T.wp_imp (wp_then q3) fun o _ q4 => ?_⟩
    have x3 : Ex (hide hd H1) (hide hd2 H3) := x2.trans (e3.hide R2.rep.m)
    cases o with
    | nx ρ5 => exact fun hd5 σ5 H5 R5 x5 => ⟨by omega, _, ρ5, hd5, R5, x3.trans x5, q4⟩
    | ct ρ5 => exact fun hd5 σ5 H5 R5 x5 => ⟨by omega, _, ρ5, hd5, R5, x3.trans x5, q4⟩
    | brk ρ5 => exact fun hd5 σ5 H5 R5 x5 => q4 hd5 σ5 H5 R5 ((x0.trans x3).trans x5)
    | ret d5 => exact q4
    | rz c l ρ5 => exact fun hd5 cls dx σ5 H5 R5 x5 => q4 hd5 cls dx σ5 H5 R5 ((x0.trans x3).trans x5)
  · exact .inl ⟨h2 (by omega), by
      rw [List.drop_eq_nil_of_le (by omega)] at q2
      exact q2 hd2 σ2 H2 R2 (x0.trans x2)⟩
end
end Py
set_option Elab.async false
set_option linter.all false
set_option maxRecDepth 100000
set_option maxHeartbeats 4000000
namespace Py
open PySem PySem.Spec L2

def noexc {α : Type} : T α → T α
  | .ret a => .ret a
  | .exc _ _ => .bad
  | .draw n k => .draw n fun i => noexc (k i)
  | .bad => .bad
theorem noexc_wp {α : Type} {Q : α → Nat → Prop} {E E' : Nat → List D → Nat → Prop} : ∀ {t : T α} {nb : Nat}, (noexc t).wp nb Q E → t.wp nb Q E'
  | .ret _, _, h => h
  | .exc _ _, _, h => h.elim
  | .draw n k, _, h => ⟨h.1, fun i hi => noexc_wp (h.2 i hi)⟩
  | .bad, _, h => h
/-- within a block nothing is raised -/
abbrev W0 : WX := fun _ _ _ _ => False
abbrev PTs0 (X : Cx) (G : Gl) (ifs : List Expr) (f : Env → T Bool) : Prop := PTs X ifs (tET G W0 f)
section
variable {X : Cx} {G : Gl}
def gYes : Env → T Bool := fun _ => .ret true
theorem ets_nil : PTs0 X G [] gYes := ⟨fun pins s σ H Q I h => pts_nil.run pins s σ H Q I (by
  obtain ⟨nb, ρ, hd, R, q⟩ := h
  exact q H (Lead.refl H))⟩
theorem ets_one {c : Expr} {f : Env → T Bool} (h : ET X G W0 c f) : PTs0 X G [c] f := pts_one h
end
/-- the slots of a block's own names, none -/
def wipeE (ρ : Env) : List Nat → Env
  | [] => ρ
  | v :: vs => (wipeE ρ vs).set v Slot.none
theorem wipeE_length (ρ : Env) : ∀ vs : List Nat, (wipeE ρ vs).length = ρ.length
  | [] => rfl
  | v :: vs => by
    unfold wipeE
    rw [List.length_set, wipeE_length ρ vs]
theorem wipeE_own {ρ : Env} : ∀ {vs : List Nat} {i : Nat} {s : Slot}, (wipeE ρ vs)[i]? = some s → (s = Slot.none ∧ i ∈ vs) ∨ (ρ[i]? = some s ∧ i ∉ vs)
  | [], i, s, h => .inr ⟨h, by simp⟩
  | v :: vs, i, s, h => by
    unfold wipeE at h
    by_cases hi : v = i
    · subst hi
      by_cases hv : v < (wipeE ρ vs).length
      · rw [List.getElem?_set_self hv] at h
        exact .inl ⟨(Option.some.inj h).symm, by simp⟩
      · rw [List.getElem?_eq_none (by rw [List.length_set]; omega)] at h
        cases h
    · rw [List.getElem?_set_ne hi] at h
      rcases wipeE_own h with ⟨a, b⟩ | ⟨a, b⟩
      · exact .inl ⟨a, List.mem_cons_of_mem _ b⟩
      · exact .inr ⟨a, fun z => (List.mem_cons.mp z).elim (fun y => hi y.symm) b⟩
theorem wipe_out {σ : L2.St} : ∀ {vs : List Nat} {i : Nat}, i ∉ vs → (wipe σ vs)[i]? = σ[i]?
  | [], i, h => rfl
  | v :: vs, i, h => by
    unfold wipe
    rw [List.getElem?_set_ne (fun z => h (by rw [z]; simp)), wipe_out fun z => h (List.mem_cons_of_mem _ z)]
theorem Rep.wipe {G : Gl} {hd : Addr → Prop} {σ : L2.St} {ρ : Env} {H : Hp} (R : Rep G nb hd σ ρ H) (vs : List Nat) : Rep G nb hd (L2.wipe σ vs) (wipeE ρ vs) H := by
  refine ⟨R.j, R.m, R.live, by rw [wipeE_length, wipe_length]; exact R.len, fun i s v h1 h2 => ?_, fun i k l v h1 h2 h3 h4 => ?_⟩
  · rcases wipeE_own h1 with ⟨e, _⟩ | ⟨e, n⟩
    · rw [e]
      trivial
    · rw [wipe_out n] at h2
      exact R.at_ i s v e h2
  · obtain ⟨s, h3, h5⟩ := h3
    rcases wipeE_own h1 with ⟨e, _⟩ | ⟨e1, n1⟩
    · cases e
    · rcases wipeE_own h3 with ⟨e, _⟩ | ⟨e2, n2⟩
      · rw [e] at h5
        cases h5
      · rw [wipe_out n1] at h2
        rw [wipe_out n2] at h4
        exact R.lone i k l v e1 h2 ⟨s, e2, h5⟩ h4
def orIs (hd : Addr → Prop) (p : Addr) : Addr → Prop := fun a => hd a ∨ a = p
theorem Live.more {G : Gl} {hd : Addr → Prop} {H : Hp} {p : Addr} {o : HO} (L : Live G hd H) (hp : H p = Option.none) (t : Plain o) : Live G (orIs hd p) (upd H p o) := by
  refine ⟨fun a h => ?_, fun a u h m z => ?_⟩
  · by_cases q : a = p
    · rw [q, upd_same]
      exact (fun z => nomatch z)
    · rw [upd_ne q]
      exact L.ne a (h.elim (fun z => z) fun z => absurd z q)
  · by_cases q : a = p
    · rw [q, upd_same] at z
      cases z
      exact t
    · rw [upd_ne q] at z
      exact L.nt a u (h.elim (fun z => z) fun z => absurd z q) m z
theorem Live.poke {G : Gl} {hd : Addr → Prop} {H : Hp} {p : Addr} {o : HO} (L : Live G hd H) (t : Plain o) : Live G hd (upd H p o) := by
  refine ⟨fun a h => ?_, fun a u h m z => ?_⟩
  · by_cases q : a = p
    · rw [q, upd_same]
      exact (fun z => nomatch z)
    · rw [upd_ne q]
      exact L.ne a h
  · by_cases q : a = p
    · rw [q, upd_same] at z
      cases z
      exact t
    · rw [upd_ne q] at z
      exact L.nt a u h m z
/-- one more thing is hidden: new, or seen by nothing that is told here -/
theorem Rep.more {G : Gl} {hd : Addr → Prop} {σ : L2.St} {ρ : Env} {H : Hp} {p : Addr} {o : HO} (R : Rep G nb hd σ ρ H) (hp : H p = Option.none) (t : Plain o := by exact ⟨fun _ z => (nomatch z), fun _ _ z => (nomatch z)⟩) : Rep G nb (orIs hd p) σ ρ (upd H p o) := by
  have x : Ex (hide hd H) (hide (orIs hd p) (upd H p o)) := fun a u e => by
    have en := hide_nt e
    obtain ⟨n, e⟩ := hide_get e
    have np : a ≠ p := ne_of_none e hp
    exact hide_put (fun z => z.elim n np) (by rw [upd_ne np]; exact e) en
  have L : Lead G nb nb H (upd H p o) := Lead.new hp
  refine ⟨L.j R.j, fun a m => .inl (R.m a m), R.live.more hp t, R.len, fun i s v h1 h2 => ?_, R.lone⟩
  · have := R.at_ i s v h1 h2
    cases s with
    | none => trivial
    | val d =>
      obtain ⟨y, e1, a⟩ := this
      exact ⟨y, e1, a.mono x⟩
    | own l =>
      obtain ⟨a, e1, h, nm, u, e2, r⟩ := this
      exact ⟨a, e1, .inl h, nm, u, by rw [upd_ne (ne_of_none e2 hp)]; exact e2, r.mono x⟩
    | err c l =>
      obtain ⟨a, cls, dx, e1, e2, r⟩ := this
      exact ⟨a, cls, dx, e1, e2, r.mono x⟩
    | thk =>
      obtain ⟨f, Q, e1, e2, r⟩ := this
      exact ⟨f, Q, e1, e2, Q.2 _ _ x r⟩
    | fn _ =>
      obtain ⟨f, Q, e1, e2, r⟩ := this
      exact ⟨f, Q, e1, e2, Q.2 _ _ x r⟩
/-- a hidden thing of no slot changes -/
theorem Rep.poke {G : Gl} {hd : Addr → Prop} {σ : L2.St} {ρ : Env} {H : Hp} {p : Addr} {o : HO} (R : Rep G nb hd σ ρ H) (hp : hd p) (nm : ¬ G.M p) (no : ∀ (i : Nat) (l : Ow) (v : Option V), ρ[i]? = some (.own l) → σ[i]? = some v → v ≠ some (.ref p)) (t : Plain o := by exact ⟨fun _ z => (nomatch z), fun _ _ z => (nomatch z)⟩) : Rep G nb hd σ ρ (upd H p o) := by
  have x : Ex (hide hd H) (hide hd (upd H p o)) := fun a u e => by
    have en := hide_nt e
    obtain ⟨n, e⟩ := hide_get e
    have np : a ≠ p := fun z => n (by rw [z]; exact hp)
    exact hide_put n (by rw [upd_ne np]; exact e) en
  have j : G.J nb (upd H p o) := G.stays _ H _ R.j (fun a m => upd_ne fun z => nm (by rw [← z]; exact m)) fun a c q e => by
    rw [upd_ne fun z => (R.live.nt p _ hp nm (by rw [← z]; exact e)).ne c q rfl]
    exact e
  refine ⟨j, R.m, R.live.poke t, R.len, fun i s v h1 h2 => ?_, R.lone⟩
  · have := R.at_ i s v h1 h2
    cases s with
    | none => trivial
    | val d =>
      obtain ⟨y, e1, a⟩ := this
      exact ⟨y, e1, a.mono x⟩
    | own l =>
      obtain ⟨a, e1, h, nm', u, e2, r⟩ := this
      have np : a ≠ p := fun z => no i l v h1 h2 (by rw [e1, z])
      exact ⟨a, e1, h, nm', u, by rw [upd_ne np]; exact e2, r.mono x⟩
    | err c l =>
      obtain ⟨a, cls, dx, e1, e2, r⟩ := this
      exact ⟨a, cls, dx, e1, e2, r.mono x⟩
    | thk =>
      obtain ⟨f, Q, e1, e2, r⟩ := this
      exact ⟨f, Q, e1, e2, Q.2 _ _ x r⟩
    | fn _ =>
      obtain ⟨f, Q, e1, e2, r⟩ := this
      exact ⟨f, Q, e1, e2, Q.2 _ _ x r⟩

/-! ### comprehensions -/
def compL (b : Tg) (c : Env → T Bool) (e : Env → T D) (ρ0 : Env) : List D → T (List D)
  | [] => .ret []
  | d :: ds => opt (b d ρ0) >>= fun ρ1 => noexc (c ρ1) >>= fun k => if k = true then noexc (e ρ1) >>= fun x => compL b c e ρ0 ds >>= fun r => .ret (x :: r) else compL b c e ρ0 ds
def few {α : Type} (ds : List D) (t : T α) : T α := if ds.length ≤ 100000 then t else .bad
def gComp (it : Env → T (List D)) (b : Tg) (c : Env → T Bool) (e : Env → T D) (own : List Nat) : Env → T D := fun ρ => it ρ >>= fun ds => few ds (compL b c e (wipeE ρ own) ds >>= fun l => .ret (.lst l))
section
variable {X : Cx} {G : Gl} {W : WX}
/-- a comprehension over an iterator that is told -/
theorem lcJ {g : TG} {b : Tg} {c : Env → T Bool} {e : Env → T D} {own : List (Str × Nat)} (ht : Tgt G g b (own.map (·.2))) {σ : L2.St} {H H1 : Hp} {Q : VK} {ρ : Env} {hd : Addr → Prop} {nb n1 : Nat} {ds : List D} {J : It} {E : Nat → List D → Nat → Prop} (R1 : Rep G n1 hd σ ρ H1) (e1 : Lead G nb n1 H H1) (hJ : ItRep G hd J ds H1) (hlen : ds.length ≤ 100000)
    (q2 : (compL b c e (wipeE ρ (own.map (·.2))) ds >>= fun l => T.ret (D.lst l)).wp n1 (fun d n' => ∀ v H', Lead G nb n' H H' → At G (hide hd H') d v → Q v H') E) : tLc (fun _ _ RR => RR J H1) g (tET G W0 c) (tEE G W0 e) (own.map (·.2)) σ H Q := by
  intro D0 hD
  have nD : ¬ hd D0 := R1.fresh hD
  have nM : ¬ G.M D0 := fun m => nD (R1.m D0 m)
  have x0 : Ex (hide hd H1) (hide (orIs hd D0) (upd H1 D0 (.lst []))) := fun a u z => by
    have zn := hide_nt z
    obtain ⟨n, z⟩ := hide_get z
    have np : a ≠ D0 := ne_of_none z hD
    exact hide_put (fun y => y.elim n np) (by rw [upd_ne np]; exact z) zn
  refine ⟨fun i m H' => m = ds.length - i ∧ i ≤ ds.length ∧ ∃ n2 acc xs, H' D0 = some (.lst xs) ∧ Ats G (hide (orIs hd D0) H') acc xs ∧ xs.length ≤ i ∧ Rep G n2 (orIs hd D0) (wipe σ (own.map (·.2))) (wipeE ρ (own.map (·.2))) H' ∧ Ex (hide hd H1) (hide (orIs hd D0) H') ∧ Lead G n1 n2 H1 H' ∧
    (compL b c e (wipeE ρ (own.map (·.2))) (ds.drop i)).wp n2 (fun r n' => ∀ v H2, Lead G nb n' H H2 → At G (hide hd H2) (.lst (acc ++ r)) v → Q v H2) (fun _ _ _ => True),
    ⟨ds.length, rfl, Nat.zero_le _, n1, [], [], upd_same, .nil, Nat.zero_le _, (R1.wipe _).more hD, x0, Lead.new hD, T.wp_mono (wp_then q2) (fun r _ z => z) fun _ _ _ _ => trivial⟩, ?_⟩
  rintro i m H2 ⟨rfl, hi2, n2, acc, xs, hx, ha, hxl, R2, x2, L2', q3⟩
  obtain ⟨h1, h2⟩ := hJ i n2 (orIs hd D0) H2 x2 R2.good
  by_cases hlt : i < ds.length
  · obtain ⟨go, yl⟩ := h1 hlt
    refine .inr ⟨go, fun H' => i + 1 ≤ ds.length ∧ ∃ n2 acc xs, H' D0 = some (.lst xs) ∧ Ats G (hide (orIs hd D0) H') acc xs ∧ xs.length ≤ i + 1 ∧ Rep G n2 (orIs hd D0) (wipe σ (own.map (·.2))) (wipeE ρ (own.map (·.2))) H' ∧ Ex (hide hd H1) (hide (orIs hd D0) H') ∧ Lead G n1 n2 H1 H' ∧
      (compL b c e (wipeE ρ (own.map (·.2))) (ds.drop (i + 1))).wp n2 (fun r n' => ∀ v H2, Lead G nb n' H H2 → At G (hide hd H2) (.lst (acc ++ r)) v → Q v H2) (fun _ _ _ => True), fun H' z => ⟨ds.length - (i + 1), by omega, rfl, z.1, z.2⟩, fun x H3 y => ?_⟩
    obtain ⟨e3, d, hd3, ax⟩ := yl x H3 y
    have ed : ds.drop i = d :: ds.drop (i + 1) := by
      have z := List.getElem?_eq_some_iff.mp hd3
      rw [← z.2]
      exact List.drop_eq_getElem_cons hlt
    rw [ed] at q3
    obtain ⟨ρ3, eb, q3⟩ := wp_opt (wp_then q3)
    refine ht (orIs hd D0) _ _ ρ3 H3 x d _ (R2.lead e3) ax eb fun σ4 R4 w4 _ => ?_
    refine ⟨w4.trans (wipe_get (wipe_length _ _) fun k hk => wipe_out hk), _, ρ3, orIs hd D0, R4, T.wp_mono (noexc_wp (E' := fun _ _ _ => False) (wp_then q3)) (fun k _ q4 H4 e4 => ?_) fun _ _ _ z => z.elim⟩
    have x4 : Ex (hide (orIs hd D0) H2) (hide (orIs hd D0) H4) := (e3.trans e4).hide R2.m
    have hx4 : H4 D0 = some (.lst xs) := (e3.trans e4).ex D0 _ nM (fun _ z => nomatch z) hx
    cases k with
    | true =>
      rw [if_pos rfl] at q4
      refine L2.iteT ?_
      refine ⟨_, ρ3, orIs hd D0, R4.lead e4, T.wp_mono (noexc_wp (E' := fun _ _ _ => False) (wp_then q4)) (fun dv n5 q5 v H5 e5 av => ?_) fun _ _ _ z => z.elim⟩
      have x5 : Ex (hide (orIs hd D0) H2) (hide (orIs hd D0) H5) := x4.trans (e5.hide R2.m)
      have hx5 : H5 D0 = some (.lst xs) := e5.ex D0 _ nM (fun _ z => nomatch z) hx4
      have R5 : Rep G n5 (orIs hd D0) (wipe σ (own.map (·.2))) (wipeE ρ (own.map (·.2))) H5 := R2.lead ((e3.trans e4).trans e5)
      refine ⟨xs, hx5, Nat.lt_of_le_of_lt hxl (Nat.lt_of_lt_of_le (Nat.lt_of_lt_of_le hlt hlen) (by decide)), by omega, n5, acc ++ [dv], xs ++ [v], upd_same, ?_, by rw [List.length_append, List.length_singleton]; omega, ?_, ?_, ?_, ?_⟩
      · have y5 : Ex (hide (orIs hd D0) H5) (hide (orIs hd D0) (upd H5 D0 (.lst (xs ++ [v])))) := fun a u z => by
          have zn := hide_nt z
          obtain ⟨n, z⟩ := hide_get z
          exact hide_put n (by rw [upd_ne (fun y => n (.inr y))]; exact z) zn
        exact ((ha.mono x5).mono y5).append (.cons (av.mono y5) .nil)
      · refine R5.poke (.inr rfl) nM fun k l u h6 h7 h8 => ?_
        rcases wipeE_own h6 with ⟨z, _⟩ | ⟨z, n⟩
        · cases z
        · have h9 : σ[k]? = some u := by
            rw [wipe_out n] at h7
            exact h7
          obtain ⟨a, e6, e7, _, ys, e8, _⟩ := R1.at_ k (.own l) u z h9
          rw [h8] at e6
          cases e6
          rw [hD] at e8
          cases e8
      · refine (x2.trans x5).trans fun a u z => ?_
        have zn := hide_nt z
        obtain ⟨n, z⟩ := hide_get z
        exact hide_put n (by rw [upd_ne (fun y => n (.inr y))]; exact z) zn
      · have L5 : Lead G _ _ H1 H5 := L2'.trans ((e3.trans e4).trans e5)
        refine ⟨fun a o nm t z => ?_, fun j => G.stays _ H5 _ (L5.j j) (fun a m => upd_ne fun z => nM (by rw [← z]; exact m)) fun a φ ψ e => by
          rw [upd_ne fun z => by rw [z, hx5] at e; cases e]
          exact e⟩
        rw [upd_ne (ne_of_none z hD)]
        exact L5.ex a o nm t z
      · refine T.wp_imp (wp_then q5) fun r _ z v' H' e' a' => z v' H' e' ?_
        have ea : acc ++ dv :: r = acc ++ [dv] ++ r := by
          rw [List.append_assoc]
          rfl
        rw [ea]
        exact a'
    | false =>
      rw [if_neg Bool.false_ne_true] at q4
      refine L2.iteF ?_
      exact ⟨by omega, _, acc, xs, hx4, ha.mono x4, by omega, R2.lead (e3.trans e4), x2.trans x4, L2'.trans (e3.trans e4), q4⟩
  · refine .inl ⟨h2 (by omega), ?_⟩
    rw [List.drop_eq_nil_of_le (by omega)] at q3
    refine q3 (.ref D0) H2 (e1.trans L2') ?_
    rw [List.append_nil]
    exact .lst (hide_put nD hx (fun _ z => nomatch z)) (ha.mono (hide_le fun a z => .inl z))
/-- the reading of a comprehension, of the kit's -/
theorem lc_imp {it : Env → T (List D)} {g : TG} {b : Tg} {c : Env → T Bool} {e : Env → T D} {own : List (Str × Nat)} {W : WX} (ht : Tgt G g b (own.map (·.2))) {σ : L2.St} {H : Hp} {Q : VK} (q : tEE G W (gComp it b c e (own.map (·.2))) σ H Q) : tLc (tEI G W it) g (tET G W0 c) (tEE G W0 e) (own.map (·.2)) σ H Q := by
  obtain ⟨nb, ρ, hd, R, q⟩ := q
  refine ⟨_, ρ, hd, R, T.wp_imp (wp_then q) fun ds n1 q1 J H1 e1 hJ => ?_⟩
  have q2 : ds.length ≤ 100000 ∧ (compL b c e (wipeE ρ (own.map (·.2))) ds >>= fun l => T.ret (D.lst l)).wp n1 (fun d n' => ∀ v H', Lead G nb n' H H' → At G (hide hd H') d v → Q v H') (xE G W hd σ nb H) := wp_if q1
  exact lcJ ht (R.lead e1) e1 hJ q2.1 q2.2
theorem ee_comp {elt tg iter : Expr} {ifs : List Expr} {scope : Scope} {own : List (Str × Nat)} {pos : Pos} {it : Env → T (List D)} {g : TG} {b : Tg} {c : Env → T Bool} {e : Env → T D} (hc : X.calm = true) (hN : X.N.Nodup) (hi : EI X G W tg iter it) (ok : BlkOk X.N X.env.scope scope own) (ht : Tgt G g b (own.map (·.2)))
    (hg : ∀ (s : Shared) (H : Hp) (C : Addr) (cl : List (Str × Addr)) (fp : List Addr), PG (X.blk s H scope (compEnvC scope cl C X.env) fp) tg g)
    (hifs : ∀ (s : Shared) (H : Hp) (C : Addr) (cl : List (Str × Addr)) (fp : List Addr), PTs0 (X.blk s H scope (compEnvC scope cl C X.env) fp) G ifs c)
    (he : ∀ (s : Shared) (H : Hp) (C : Addr) (cl : List (Str × Addr)) (fp : List Addr), EE (X.blk s H scope (compEnvC scope cl C X.env) fp) G W0 elt e) (hs : ∀ x, foldedSetIterable iter X.env x = pure x := by intro _; rfl) :
    EE X G W (.ListComp elt [⟨tg, iter, ifs, 0⟩] scope pos) (gComp it b c e (own.map (·.2))) := by
  exact PE_imp (pe_lc hc hN hi ok hg hifs he hs) fun σ H Q q => lc_imp ht q
end
end Py
set_option Elab.async false
set_option linter.all false
set_option maxRecDepth 100000
set_option maxHeartbeats 4000000
namespace Py
open PySem PySem.Spec L2

section
variable {X : Cx} {G : Gl} {W : WX}
/-! ### numbers -/
def iAdd : D → D → Option D
  | .int i, .int j => some (.int (i + j))
  | _, _ => none
def iSub : D → D → Option D
  | .int i, .int j => some (.int (i - j))
  | _, _ => none
def iMul : D → D → Option D
  | .int i, .int j => if (-(2 ^ 64) < i ∧ i < 2 ^ 64) ∨ (-(2 ^ 64) < j ∧ j < 2 ^ 64) then some (.int (i * j)) else none
  | _, _ => none
def iMod : D → D → Option D
  | .int i, .int j => if j ≠ 0 then some (.int (i.fmod j)) else none
  | _, _ => none
def cmpI (p : Int → Int → Bool) : D → D → Option D
  | .int i, .int j => some (.bl (p i j))
  | _, _ => none
theorem does_I0 {f : Int → Int → V} {g : D → D → Option D} (h : ∀ a b d, g a b = some d → ∃ i j, a = .int i ∧ b = .int j ∧ ∀ H, At G H d (f i j)) : Does2 G (rI0 f) g := fun hd H x y a b d Q R h1 h2 e k => by
  obtain ⟨i, j, rfl, rfl, q⟩ := h a b d e
  cases h1
  cases h2
  exact ⟨i, j, rfl, rfl, k _ H (Lead.refl H) (q _)⟩
theorem does_I {C : Int → Int → Prop} {f : Int → Int → V} {g : D → D → Option D} (h : ∀ a b d, g a b = some d → ∃ i j, a = .int i ∧ b = .int j ∧ C i j ∧ ∀ H, At G H d (f i j)) : Does2 G (rI C f) g := fun hd H x y a b d Q R h1 h2 e k => by
  obtain ⟨i, j, rfl, rfl, c, q⟩ := h a b d e
  cases h1
  cases h2
  exact ⟨i, j, rfl, rfl, c, k _ H (Lead.refl H) (q _)⟩
theorem d_add : Does2 G (rI0 fun i j => V.int (i + j)) iAdd := does_I0 fun a b d e => by
  unfold iAdd at e
  split at e
  · cases e
    exact ⟨_, _, rfl, rfl, fun _ => .int⟩
  · cases e
theorem d_sub : Does2 G (rI0 fun i j => V.int (i - j)) iSub := does_I0 fun a b d e => by
  unfold iSub at e
  split at e
  · cases e
    exact ⟨_, _, rfl, rfl, fun _ => .int⟩
  · cases e
theorem d_cmp (p : Int → Int → Bool) : Does2 G (rI0 fun i j => V.bl (p i j)) (cmpI p) := does_I0 fun a b d e => by
  unfold cmpI at e
  split at e
  · cases e
    exact ⟨_, _, rfl, rfl, fun _ => .bl⟩
  · cases e
theorem d_mul : Does2 G (rI CMul fun i j => V.int (i * j)) iMul := does_I fun a b d e => by
  unfold iMul at e
  split at e
  · split at e
    · cases e
      exact ⟨_, _, rfl, rfl, (by assumption), fun _ => .int⟩
    · cases e
  · cases e
theorem d_mod : Does2 G (rI (fun _ j => j ≠ 0) fun i j => V.int (i.fmod j)) iMod := does_I fun a b d e => by
  unfold iMod at e
  split at e
  · split at e
    · cases e
      exact ⟨_, _, rfl, rfl, (by assumption), fun _ => .int⟩
    · cases e
  · cases e
def iNeg : D → Option D
  | .int i => some (.int (-i))
  | _ => none
theorem ee_neg {a : Expr} {pos : Pos} {f : Env → T D} (ha : EE X G W a f) : EE X G W (.UnaryOp .USub a pos) (fun ρ => f ρ >>= fun d => opt (iNeg d)) := by
  refine PE_imp (pe_un un_neg ha) fun σ H Q q => ?_
  obtain ⟨nb, ρ, hd, R, q⟩ := q
  refine ⟨_, ρ, hd, R, T.wp_imp (wp_then q) fun d _ q1 v H' e h => ?_⟩
  obtain ⟨d', e1, q2⟩ := wp_opt q1
  cases d with
  | int i =>
    cases h
    cases e1
    exact ⟨i, rfl, q2 _ H' e .int⟩
  | _ => cases e1
/-! ### is -/
def isB (neg : Bool) : D → D → Option D
  | .bl a, .bl b => some (.bl (if neg then !decide (a = b) else decide (a = b)))
  | _, _ => none
theorem d_notB : Does2 G rNotB (isB true) := fun hd H x y a b d Q R h1 h2 e k => by
  unfold isB at e
  split at e
  · cases e
    cases h1
    cases h2
    exact ⟨_, _, rfl, rfl, k _ H (Lead.refl H) .bl⟩
  · cases e
/-! ### isinstance -/
def kindN : D → Option String
  | .non => some "NoneType"
  | .bl _ => some "bool"
  | .int _ => some "int"
  | .str _ => some "str"
  | .tup _ => some "tuple"
  | .lst _ => some "list"
  | .dic _ _ => some "dict"
  | _ => none
theorem kind_ty (hK : G.K = X.K) {H : Hp} {hd : Addr → Prop} {d : D} {x : V} {n : String} (a : At G (hide hd H) d x) (e : kindN d = some n) : TyX X.K H x (.type n) := by
  cases a with
  | tup h1 h2 =>
    cases e
    rw [hK] at h1
    rcases h1 with (h | ⟨o, h⟩) | ⟨o, its, m, h, c, _⟩
    · exact .base (.tup (hide_sub _ _ h))
    · exact .fTuple (hide_sub _ _ h)
    · exact .kTuple h c
  | lst h1 h2 =>
    cases e
    exact .base (.lst (hide_sub _ _ h1))
  | dic h1 h2 h3 =>
    cases e
    rcases h1 with h1 | ⟨_, o, h1⟩
    · exact .base (.dK (hide_sub _ _ h1))
    · exact .fDict (hide_sub _ _ h1)
  | non =>
    cases e
    exact .base .non
  | bl =>
    cases e
    exact .base (.bl _)
  | int =>
    cases e
    exact .base (.int _)
  | str =>
    cases e
    exact .base (.str _)
  | obj h1 h2 h3 => cases e
  | dicN h1 h2 h3 h4 => cases e
  | deck => cases e
/-- a dict with tuple keys -/
def IsDNx (H : Hp) (x : V) : Prop := ∃ p P w ps, x = .ref p ∧ H p = some (DN P w p ps)
/-- what isinstance(d, c) says, for the class value u -/
def Answers (X : Cx) (G : Gl) (u : Value) (ans : D → Option Bool) : Prop := ∀ (H : Hp) (hd : Addr → Prop) (d : D) (x : V) (b : Bool), At G (hide hd H) d x → ans d = some b → ∃ t, (TyX X.K H x t ∨ (t = .type "dict" ∧ IsDNx H x)) ∧ PySem.W.kitOne X.K t u = some b
def gIsi (ans : D → Option Bool) (f : Env → T D) : Env → T D := fun ρ => f ρ >>= fun d => opt ((ans d).map D.bl)
theorem call_isi2 : CallR X (.builtin "isinstance") (fun xs H Q => rIsi X.K xs H Q ∨ ∃ (x c : V) (u : Value) (b : Bool), xs = [x, c] ∧ ClsV c u ∧ IsDNx H x ∧ PySem.W.kitOne X.K (.type "dict") u = some b ∧ Q (.bl b) H) := by
  intro pins s σ H xs us Q I r h
  rcases h with h | ⟨x, c, u, b, rfl, k, ⟨p, P, w, ps, rfl, ea⟩, e, q⟩
  · exact call_isi pins s σ H xs us Q I r h
  · obtain ⟨u1, u2, rfl, r1, r2⟩ := vals2 r
    have e2 := k.eq r2
    subst e2
    cases (show u1 = Value.ref p from r1)
    obtain ⟨⟨_, _, xs, _, o, es, ep, h1, h2, _⟩, _⟩ := (show ObjOk X.prog X.w H s.heap p (DN P w p ps) from I.hok p _ ea)
    exact PySem.W.kia_one PySem.W.kitx_dict I.kIn ⟨o, h1, h2.1⟩ e (fun z => nomatch z) fun tk => ⟨.bl b, H, I.tok tk, rfl, q⟩
theorem ee_isi {a c : Expr} {p pos : Pos} {f : Env → T D} {cv : V} {u : Value} {ans : D → Option Bool} (hans : Answers X G u ans) (hg : L2.Gl X "isinstance") (hm : X.mg "isinstance" = none) (ha : EE X G W a f) (hc : PE X c (tC cv)) (k : ClsV cv u)
    (he : starEach [a, c] X.env = (false, eval a X.env) :: starEach [c] X.env := by rfl) (hec : starEach [c] X.env = (false, eval c X.env) :: starEach [] X.env := by rfl) (hpl : (backTo pos (starEach [c] X.env)).any (·.1) = false := by rfl) :
    EE X G W (.Call (.Name "isinstance" p) [a, c] [] pos) (gIsi ans f) := by
  refine PE_imp (pe_callB call_isi2 hg hm (by decide +kernel) (pa_cons ha (pa_cons hc pa_nil hec) he) (by decide) (by decide) he hpl) fun σ H Q q => ?_
  obtain ⟨nb, ρ, hd, R, q⟩ := q
  refine ⟨_, ρ, hd, R, T.wp_imp (wp_then q) fun d _ q1 v H' e h => ?_⟩
  obtain ⟨d', e1, q2⟩ := wp_opt q1
  cases q : ans d with
  | none =>
    rw [q] at e1
    cases e1
  | some b =>
    rw [q] at e1
    cases e1
    obtain ⟨t, ty, e3⟩ := hans H' hd d v b h q
    rcases ty with ty | ⟨rfl, ty⟩
    · exact .inl ⟨v, cv, t, u, b, rfl, k, ty, e3, q2 _ H' e .bl⟩
    · exact .inr ⟨v, cv, u, b, rfl, k, ty, e3, q2 _ H' e .bl⟩
/-! ### len -/
def lenS : List D → Option D
  | [.tup l] => some (.int (l.length : Int))
  | [.lst l] => some (.int (l.length : Int))
  | _ => none
theorem d_lenS (hK : G.K = X.K) : DoesN G (fun xs H Q => ∃ p ys, xs = [.ref p] ∧ (SqL X.K H p ys ∨ SqT X.K H p ys) ∧ Q (.int ys.length) H) lenS := fun hd H xs l d Q R h e k => by
  unfold lenS at e
  split at e
  · cases e
    cases h with
    | cons h1 h2 =>
      cases h2
      cases h1 with
      | tup h1 h2 => exact ⟨_, _, rfl, .inr (by rw [← hK]; exact hide_sub.sqM h1), k _ H (Lead.refl H) (by rw [h2.length]; exact .int)⟩
  · cases e
    cases h with
    | cons h1 h2 =>
      cases h2
      cases h1 with
      | lst h1 h2 => exact ⟨_, _, rfl, .inl (.inl (.inl (hide_sub _ _ h1))), k _ H (Lead.refl H) (by rw [h2.length]; exact .int)⟩
  · cases e
/-! ### list(..), tuple(..) -/
def asL : List D → Option D
  | [.tup l] => some (.lst l)
  | [.lst l] => some (.lst l)
  | _ => none
def asT : List D → Option D
  | [.tup l] => some (.tup l)
  | [.lst l] => some (.tup l)
  | _ => none
theorem d_asL (hK : G.K = X.K) : DoesN G (fun xs H Q => ∃ p ys, xs = [.ref p] ∧ (SqL X.K H p ys ∨ SqT X.K H p ys) ∧ ∀ l, H l = none → Q (.ref l) (upd H l (.lst ys))) asL := fun hd H xs l d Q R h e k => by
  unfold asL at e
  split at e
  · cases e
    cases h with
    | cons h1 h2 =>
      cases h2
      cases h1 with
      | tup h1 h2 => exact ⟨_, _, rfl, .inr (by rw [← hK]; exact hide_sub.sqM h1), fun p hp => k _ _ (Lead.new hp) (.lst (R.seen hp) (h2.mono (R.old hp)))⟩
  · cases e
    cases h with
    | cons h1 h2 =>
      cases h2
      cases h1 with
      | lst h1 h2 => exact ⟨_, _, rfl, .inl (.inl (.inl (hide_sub _ _ h1))), fun p hp => k _ _ (Lead.new hp) (.lst (R.seen hp) (h2.mono (R.old hp)))⟩
  · cases e
theorem d_asT (hK : G.K = X.K) : DoesN G (fun xs H Q => ∃ x, xs = [x] ∧ kTupF X.K x H Q) asT := fun hd H xs l d Q R h e k => by
  unfold asT at e
  split at e
  · cases e
    cases h with
    | cons h1 h2 =>
      cases h2
      cases h1 with
      | tup h1 h2 => exact ⟨_, rfl, _, _, rfl, .inr ⟨by rw [← hK]; exact hide_sub.sqM h1, k _ H (Lead.refl H) (.tup h1 h2)⟩⟩
  · cases e
    cases h with
    | cons h1 h2 =>
      cases h2
      cases h1 with
      | lst h1 h2 => exact ⟨_, rfl, _, _, rfl, .inl ⟨.inl (.inl (hide_sub _ _ h1)), fun p o hp ho => k _ _ (Lead.new hp) (.tup (.new (R.seen hp) ho) (h2.mono (R.old hp)))⟩⟩
  · cases e
/-! ### all, any of a list of bools -/
def boolsD : List D → Option (List Bool)
  | [] => some []
  | .bl b :: r => (boolsD r).map (b :: ·)
  | _ => none
theorem bools_of : ∀ {l : List D} {bs : List Bool} {H : Hp} {xs : List V}, boolsD l = some bs → Ats G H l xs → xs = bs.map V.bl
  | [], bs, H, xs, e, h => by
    cases e
    cases h
    rfl
  | d :: r, bs, H, xs, e, h => by
    cases h with
    | cons h1 h2 =>
      cases d with
      | bl b =>
        have e1 : (boolsD r).map (b :: ·) = some bs := e
        cases q : boolsD r with
        | none =>
          rw [q] at e1
          cases e1
        | some cs =>
          rw [q] at e1
          cases e1
          cases h1
          rw [bools_of q h2]
          rfl
      | _ => cases e
def allB : List D → Option D
  | [.lst l] => (boolsD l).map fun bs => .bl (bs.all id)
  | _ => none
theorem d_all (hK : G.K = X.K) : DoesN G (rAll X.K) allB := fun hd H xs l d Q R h e k => by
  unfold allB at e
  split at e
  · rename_i l
    cases h with
    | cons h1 h2 =>
      cases h2
      cases h1 with
      | @lst _ a ys h1 h2 =>
        cases q : boolsD l with
        | none =>
          rw [q] at e
          cases e
        | some bs =>
          rw [q] at e
          cases e
          have eq := bools_of q h2
          subst eq
          exact ⟨_, bs, rfl, .inl (.inl (hide_sub _ _ h1)), k _ H (Lead.refl H) .bl⟩
  · cases e
/-! ### items, slices, + -/
def ixD : D → D → Option D
  | .tup l, .int i => atI l i
  | .lst l, .int i => atI l i
  | _, _ => none
theorem atI_ats {H : Hp} {l : List D} {xs : List V} {i : Int} {d : D} (h : Ats G H l xs) (e : atI l i = some d) : ∃ x, atI xs i = some x ∧ At G H d x := by
  unfold atI at e ⊢
  rw [← h.length]
  cases q : ixN l.length i with
  | none =>
    rw [q] at e
    cases e
  | some j =>
    rw [q] at e
    exact h.get' e
theorem d_ix (hK : G.K = X.K) : Does2 G (fun x y H Q => rIxL X.K x y H Q ∨ rIxT X.K x y H Q) ixD := fun hd H x y a b d Q R h1 h2 e k => by
  unfold ixD at e
  split at e
  · cases h2
    cases h1 with
    | tup h1 h2 =>
      obtain ⟨v, e1, a⟩ := atI_ats h2 e
      exact .inr ⟨_, _, _, v, rfl, rfl, by rw [← hK]; exact hide_sub.sqM h1, e1, k v H (Lead.refl H) a⟩
  · cases h2
    cases h1 with
    | lst h1 h2 =>
      obtain ⟨v, e1, a⟩ := atI_ats h2 e
      exact .inl ⟨_, _, _, v, rfl, rfl, .inl (.inl (hide_sub _ _ h1)), e1, k v H (Lead.refl H) a⟩
  · cases e
/-- the part l[lo:hi] -/
def cutD (l : List D) (lo hi : Option Int) : List D := (l.drop (HT.sIx l.length 0 lo)).take (HT.sIx l.length l.length hi - HT.sIx l.length 0 lo)
theorem Ats.drop {H : Hp} : ∀ {l : List D} {xs : List V} (n : Nat), Ats G H l xs → Ats G H (l.drop n) (xs.drop n)
  | _, _, 0, h => h
  | _, _, _ + 1, .nil => .nil
  | _, _, n + 1, .cons _ r => Ats.drop n r
theorem Ats.take {H : Hp} : ∀ {l : List D} {xs : List V} (n : Nat), Ats G H l xs → Ats G H (l.take n) (xs.take n)
  | _, _, 0, _ => .nil
  | _, _, _ + 1, .nil => .nil
  | _, _, n + 1, .cons h r => .cons h (Ats.take n r)
theorem cut_ats {H : Hp} {l : List D} {xs : List V} {lo hi : Option Int} (h : Ats G H l xs) : Ats G H (cutD l lo hi) (cutV xs lo hi) := by
  unfold cutD cutV
  rw [h.length]
  exact Ats.take _ (Ats.drop _ h)
def slD (d : D) (lo hi : Option Int) : Option D := match d with
  | .tup l => some (.tup (cutD l lo hi))
  | .lst l => some (.lst (cutD l lo hi))
  | _ => none
/-- a bound of a slice -/
def optI : Option (Env → T D) → Env → T (Option Int)
  | none, _ => .ret none
  | some f, ρ => f ρ >>= fun d => match d with
    | .int i => .ret (some i)
    | _ => .bad
def tEO (G : Gl) (W : WX) (f : Env → T (Option Int)) : TO := fun σ H Q => ∃ nb ρ hd, Rep G nb hd σ ρ H ∧ (f ρ).wp nb (fun b n' => ∀ H', Lead G nb n' H H' → Q b H') (xE G W hd σ nb H)
theorem PO_imp {e : Option Expr} {t t' : TO} (h : PO X e t) (i : ∀ σ H Q, t' σ H Q → t σ H Q) : PO X e t' := ⟨fun pins s σ H Q I q => h.run pins s σ H Q I (i _ _ _ q)⟩
theorem eo_none : PO X none (tEO G W (optI none)) := PO_imp po_none fun σ H Q ⟨nb, ρ, hd, R, q⟩ => q H (Lead.refl H)
theorem eo_some {e : Expr} {f : Env → T D} (h : EE X G W e f) : PO X (some e) (tEO G W (optI (some f))) := by
  refine PO_imp (po_some h) fun σ H Q q => ?_
  obtain ⟨nb, ρ, hd, R, q⟩ := q
  refine ⟨_, ρ, hd, R, T.wp_imp (wp_then q) fun d _ q1 v H' e h => ?_⟩
  cases d with
  | int i =>
    cases h
    exact ⟨i, rfl, q1 H' e⟩
  | _ => exact q1.elim
def gSl (f : Env → T D) (lo hi : Env → T (Option Int)) : Env → T D := fun ρ => f ρ >>= fun d => lo ρ >>= fun l => hi ρ >>= fun h => opt (slD d l h)
theorem cutV_whole {xs : List V} {lo hi : Option Int} (h : HT.sIx xs.length 0 lo = 0 ∧ HT.sIx xs.length xs.length hi = xs.length) : cutV xs lo hi = xs := by
  unfold cutV
  rw [h.1, h.2, Nat.sub_zero, List.drop_zero, List.take_length]
theorem ee_sl (hK : G.K = X.K) {e : Expr} {lo hi : Option Expr} {p2 pos : Pos} {f : Env → T D} {fl fh : Env → T (Option Int)} (he : EE X G W e f) (hl : PO X lo (tEO G W fl)) (hh : PO X hi (tEO G W fh)) : EE X G W (.Subscript e (.Slice lo hi none p2) pos) (gSl f fl fh) := by
  refine PE_imp (pe_slice (sl_list.or sf_tup) he hl hh) fun σ H Q q => ?_
  obtain ⟨nb, ρ, hd, R, q⟩ := q
  refine ⟨_, ρ, hd, R, T.wp_imp (wp_then q) fun d _ q1 v H1 e1 h1 => ?_⟩
  refine ⟨_, ρ, hd, R.lead e1, T.wp_mono (wp_then q1) (fun l _ q2 H2 e2 => ?_) fun c l _ z => xE.lead z e1⟩
  refine ⟨_, ρ, hd, R.lead (e1.trans e2), T.wp_mono (wp_then q2) (fun u _ q3 H3 e3 => ?_) fun c l _ z => xE.lead z (e1.trans e2)⟩
  obtain ⟨d', e4, q4⟩ := wp_opt q3
  have g := R.good.lead ((e1.trans e2).trans e3)
  have h3 := h1.mono ((e2.trans e3).hide R.m)
  have E3 := (e1.trans e2).trans e3
  cases d with
  | tup l' =>
    cases e4
    cases h3 with
    | @tup _ a xs h4 h5 =>
      refine .inr ⟨a, xs, rfl, by rw [← hK]; exact hide_sub.sqM h4, fun w => q4 _ H3 E3 (.tup h4 ?_), fun p o hp ho => q4 _ _ (E3.trans (Lead.new hp)) (.tup (.new (g.seen hp) ho) ((cut_ats h5).mono (g.old hp)))⟩
      have z := cut_ats (lo := l) (hi := u) h5
      rw [cutV_whole w] at z
      exact z
  | lst l' =>
    cases e4
    cases h3 with
    | @lst _ a xs h4 h5 => exact .inl ⟨a, xs, rfl, .inl (.inl (hide_sub _ _ h4)), fun p hp => q4 _ _ (E3.trans (Lead.new hp)) (.lst (g.seen hp) ((cut_ats h5).mono (g.old hp)))⟩
  | _ => cases e4
/-- t + u, xs + ys -/
def catD : D → D → Option D
  | .tup l, .tup m => if l.length + m.length ≤ 100000 then some (.tup (l ++ m)) else none
  | .lst l, .lst m => if l.length + m.length ≤ 100000 then some (.lst (l ++ m)) else none
  | _, _ => none
theorem line5 {n : Nat} (h : n ≤ 100000) : n ≤ sizeLine := Nat.le_trans h (by decide)
theorem Ats.nil_iff {H : Hp} {l : List D} {xs : List V} (h : Ats G H l xs) : xs = [] ↔ l = [] := by
  cases h with
  | nil => exact ⟨fun _ => rfl, fun _ => rfl⟩
  | cons _ _ => exact ⟨fun z => (nomatch z), fun z => (nomatch z)⟩
theorem d_cat (hK : G.K = X.K) : Does2 G (fun x y H Q => rCatF X.K x y H Q ∨ rCat x y H Q) catD := fun hd H x y a b d Q R h1 h2 e k => by
  unfold catD at e
  split at e
  · split at e
    · rename_i hl
      cases e
      cases h1 with
      | tup h1 h3 =>
        cases h2 with
        | tup h2 h4 =>
          refine .inl ⟨_, _, _, _, rfl, rfl, by rw [← hK]; exact hide_sub.sqM h1, by rw [← hK]; exact hide_sub.sqM h2, line5 (by rw [← h3.length, ← h4.length]; exact hl), fun z => ?_, fun z => ?_, fun p o hp ho => k _ _ (Lead.new hp) (.tup (.new (R.seen hp) ho) ((h3.append h4).mono (R.old hp)))⟩
          · rw [h3.nil_iff] at z
            rw [z] at k
            exact k _ H (Lead.refl H) (.tup h2 h4)
          · rw [h4.nil_iff] at z
            rw [z, List.append_nil] at k
            exact k _ H (Lead.refl H) (.tup h1 h3)
    · cases e
  · split at e
    · rename_i hl
      cases e
      cases h1 with
      | lst h1 h3 =>
        cases h2 with
        | lst h2 h4 =>
          exact .inr ⟨_, _, _, _, rfl, rfl, hide_sub _ _ h1, hide_sub _ _ h2, line5 (by rw [← h3.length, ← h4.length]; exact hl), fun p hp => k _ _ (Lead.new hp) (.lst (R.seen hp) ((h3.append h4).mono (R.old hp)))⟩
    · cases e
  · cases e
/-- x in xs: numbers, texts, True, None -/
def flatD : D → Bool
  | .non => true
  | .bl _ => true
  | .int _ => true
  | .str _ => true
  | _ => false
def eqF : D → D → Bool
  | .non, .non => true
  | .bl a, .bl b => a == b
  | .bl a, .int b => (if a then 1 else 0) == b
  | .int a, .bl b => a == (if b then 1 else 0)
  | .int a, .int b => a == b
  | .str a, .str b => a == b
  | _, _ => false
theorem flat_of {H : Hp} {d : D} {x : V} (h : At G H d x) (f : flatD d = true) : flatV x = true := by
  cases h <;> first | rfl | cases f
theorem flats_of {H : Hp} : ∀ {l : List D} {xs : List V}, Ats G H l xs → l.all flatD = true → xs.all flatV = true
  | _, _, .nil, _ => rfl
  | _, _, .cons h r, f => by
    rw [List.all_cons, Bool.and_eq_true] at f
    rw [List.all_cons, flat_of h f.1, flats_of r f.2]
    rfl
theorem eqF_of {H : Hp} {a b : D} {x y : V} (h : At G H a x) (h' : At G H b y) (f : flatD a = true) (f' : flatD b = true) : eqV x y = eqF a b := by
  cases h <;> first | (cases f; done) | (cases h' <;> first | rfl | (cases f'; done))
theorem inF_of {H : Hp} {a : D} {x : V} (h : At G H a x) (f : flatD a = true) : ∀ {l : List D} {xs : List V}, Ats G H l xs → l.all flatD = true → inV x xs = l.any fun y => eqF y a
  | _, _, .nil, _ => rfl
  | _, _, .cons h1 r, g => by
    rw [List.all_cons, Bool.and_eq_true] at g
    unfold inV
    rw [List.any_cons, List.any_cons, eqF_of h1 h g.1 f]
    have z := inF_of h f r g.2
    unfold inV at z
    rw [z]
def inD (neg : Bool) : D → D → Option D
  | a, .tup l => if flatD a && l.all flatD then some (.bl (if neg then !(l.any fun y => eqF y a) else l.any fun y => eqF y a)) else none
  | a, .lst l => if flatD a && l.all flatD then some (.bl (if neg then !(l.any fun y => eqF y a) else l.any fun y => eqF y a)) else none
  | _, _ => none
theorem d_in (hK : G.K = X.K) (neg : Bool) : Does2 G (rIn X.K neg) (inD neg) := fun hd H x y a b d Q R h1 h2 e k => by
  unfold inD at e
  split at e
  · split at e
    · rename_i hl
      rw [Bool.and_eq_true] at hl
      cases e
      cases h2 with
      | tup h2 h3 => exact ⟨_, _, rfl, .inr (by rw [← hK]; exact hide_sub.sqM h2), flat_of h1 hl.1, flats_of h3 hl.2, by rw [inF_of h1 hl.1 h3 hl.2]; exact k _ H (Lead.refl H) .bl⟩
    · cases e
  · split at e
    · rename_i hl
      rw [Bool.and_eq_true] at hl
      cases e
      cases h2 with
      | lst h2 h3 => exact ⟨_, _, rfl, .inl (.inl (.inl (hide_sub _ _ h2))), flat_of h1 hl.1, flats_of h3 hl.2, by rw [inF_of h1 hl.1 h3 hl.2]; exact k _ H (Lead.refl H) .bl⟩
    · cases e
  · cases e
/-! ### == of data -/
mutual
def pyD : D → Option PyData
  | .non => some .none
  | .bl b => some (.bool b)
  | .int i => some (.int i)
  | .str x => some (.str x)
  | .tup l => (pyDs l).map .tuple
  | .lst l => (pyDs l).map .list
  | _ => none
def pyDs : List D → Option (List PyData)
  | [] => some []
  | d :: l => match pyD d, pyDs l with
    | some a, some r => some (a :: r)
    | _, _ => none
end
mutual
theorem dp_of (hK : G.K = X.K) {H : Hp} {hd : Addr → Prop} : ∀ {d : D} {v : V} {p : PyData}, At G (hide hd H) d v → pyD d = some p → Dp X.K H v p
  | _, _, _, .non, e => by
    cases e
    exact .non
  | _, _, _, .bl, e => by
    cases e
    exact .bl _
  | _, _, _, .int, e => by
    cases e
    exact .int _
  | _, _, _, .str, e => by
    cases e
    exact .str _
  | .tup l, _, p, .tup h1 h2, e => by
    have e1 : (pyDs l).map PyData.tuple = some p := e
    cases q : pyDs l with
    | none =>
      rw [q] at e1
      cases e1
    | some r =>
      rw [q] at e1
      cases e1
      exact .tup (by rw [← hK]; exact hide_sub.sqM h1) (dps_of hK h2 q)
  | .lst l, _, p, .lst h1 h2, e => by
    have e1 : (pyDs l).map PyData.list = some p := e
    cases q : pyDs l with
    | none =>
      rw [q] at e1
      cases e1
    | some r =>
      rw [q] at e1
      cases e1
      exact .lst (.inl (.inl (hide_sub _ _ h1))) (dps_of hK h2 q)
  | _, _, _, .dic _ _ _, e => by cases e
  | _, _, _, .dicN _ _ _ _, e => by cases e
  | _, _, _, .obj _ _ _, e => by cases e
  | _, _, _, .deck, e => by cases e
theorem dps_of (hK : G.K = X.K) {H : Hp} {hd : Addr → Prop} : ∀ {l : List D} {xs : List V} {ps : List PyData}, Ats G (hide hd H) l xs → pyDs l = some ps → DpAll X.K H xs ps
  | _, _, _, .nil, e => by
    cases e
    exact .nil
  | d :: l, _, ps, .cons h r, e => by
    have e1 : (match pyD d, pyDs l with
      | some a, some r => some (a :: r)
      | _, _ => none) = some ps := e
    cases q : pyD d with
    | none =>
      rw [q] at e1
      cases e1
    | some a =>
      cases q2 : pyDs l with
      | none =>
        rw [q, q2] at e1
        cases e1
      | some b =>
        rw [q, q2] at e1
        cases e1
        exact .cons (dp_of hK h q) (dps_of hK r q2)
end
def eqD (neg : Bool) (a b : D) : Option D := match pyD a, pyD b with
  | some p, some q => if SeqAt.shaped p && SeqAt.shaped q then some (.bl (if neg then !PyData.eqv p q else PyData.eqv p q)) else none
  | _, _ => none
theorem eqD_some {neg : Bool} {a b d : D} (e : eqD neg a b = some d) : ∃ p q, pyD a = some p ∧ pyD b = some q ∧ SeqAt.shaped p = true ∧ SeqAt.shaped q = true ∧ d = .bl (if neg then !PyData.eqv p q else PyData.eqv p q) := by
  unfold eqD at e
  cases h1 : pyD a with
  | none =>
    rw [h1] at e
    cases e
  | some p =>
    cases h2 : pyD b with
    | none =>
      rw [h1, h2] at e
      cases e
    | some q =>
      rw [h1, h2] at e
      have e1 : (if SeqAt.shaped p && SeqAt.shaped q then some (D.bl (if neg then !PyData.eqv p q else PyData.eqv p q)) else none) = some d := e
      split at e1
      · rename_i hs
        rw [Bool.and_eq_true] at hs
        exact ⟨p, q, rfl, rfl, hs.1, hs.2, (Option.some.inj e1).symm⟩
      · cases e1
theorem d_eq (hK : G.K = X.K) : Does2 G (rEqD X.K) (eqD false) := fun hd H x y a b d Q R h1 h2 e k => by
  obtain ⟨p, q, e1, e2, s1, s2, rfl⟩ := eqD_some e
  exact ⟨p, q, dp_of hK h1 e1, dp_of hK h2 e2, s1, s2, k _ H (Lead.refl H) .bl⟩
theorem d_ne (hK : G.K = X.K) : Does2 G (rNeD X.K) (eqD true) := fun hd H x y a b d Q R h1 h2 e k => by
  obtain ⟨p, q, e1, e2, s1, s2, rfl⟩ := eqD_some e
  exact ⟨p, q, dp_of hK h1 e1, dp_of hK h2 e2, s1, s2, k _ H (Lead.refl H) .bl⟩
end
end Py
set_option Elab.async false
set_option linter.all false
set_option maxRecDepth 100000
set_option maxHeartbeats 4000000
namespace Py
open PySem PySem.Spec L2

section
variable {X : Cx} {G : Gl} {W : WX} {hs : Hid}
/-! ### lists that a def makes for itself and changes -/
theorem Rep.setOwn {hd : Addr → Prop} {σ : L2.St} {ρ : Env} {H : Hp} {i : Nat} {l : Ow} {p : Addr} (R : Rep G nb hd σ ρ H) (a : OwAt G hd H l p)
    (no : ∀ (k : Nat) (s : Slot) (v : Option V), ρ[k]? = some s → isOwn s = true → σ[k]? = some v → v ≠ some (.ref p)) : Rep G nb hd (σ.set i (some (.ref p))) (ρ.set i (.own l)) H := by
  have hl := R.len
  have self : ∀ {k : Nat} {s : Slot}, (ρ.set i (.own l))[k]? = some s → (k = i ∧ s = .own l) ∨ (i ≠ k ∧ ρ[k]? = some s) := fun {k s} h1 => by
    by_cases hk : i = k
    · rw [← hk] at h1
      by_cases hi : i < ρ.length
      · rw [List.getElem?_set_self hi] at h1
        exact .inl ⟨hk.symm, (Option.some.inj h1).symm⟩
      · rw [List.getElem?_eq_none (by rw [List.length_set]; omega)] at h1
        cases h1
    · rw [List.getElem?_set_ne hk] at h1
      exact .inr ⟨hk, h1⟩
  have val : ∀ {k : Nat} {v : Option V}, (σ.set i (some (.ref p)))[k]? = some v → (k = i → v = some (.ref p)) ∧ (i ≠ k → σ[k]? = some v) := fun {k v} h2 => by
    refine ⟨fun z => ?_, fun z => ?_⟩
    · rw [z] at h2
      by_cases hi : i < σ.length
      · rw [List.getElem?_set_self hi] at h2
        exact (Option.some.inj h2).symm
      · rw [List.getElem?_eq_none (by rw [List.length_set]; omega)] at h2
        cases h2
    · rw [List.getElem?_set_ne z] at h2
      exact h2
  refine ⟨R.j, R.m, R.live, by rw [List.length_set, List.length_set]; exact R.len, fun k s v' h1 h2 => ?_, fun k m l' v' h1 h2 h3 h4 => ?_⟩
  · rcases self h1 with ⟨e1, e2⟩ | ⟨e1, e2⟩
    · rw [e2, (val h2).1 e1]
      exact ⟨p, rfl, a⟩
    · exact R.at_ k s v' e2 ((val h2).2 e1)
  · obtain ⟨s, h3, h5⟩ := h3
    rcases self h1 with ⟨e1, e2⟩ | ⟨e1, e2⟩
    · rcases self h3 with ⟨e3, e4⟩ | ⟨e3, e4⟩
      · rw [e1, e3]
      · have q1 := (val h2).1 e1
        have q2 := (val h4).2 e3
        exact absurd q1 (no m s v' e4 h5 q2)
    · rcases self h3 with ⟨e3, e4⟩ | ⟨e3, e4⟩
      · have q1 := (val h4).1 e3
        have q2 := (val h2).2 e1
        exact absurd q1 (no k _ v' e2 rfl q2)
      · exact R.lone k m l' v' e2 ((val h2).2 e1) ⟨s, e4, h5⟩ ((val h4).2 e3)
theorem SRep.own {nb nb' : Nat} {hd hd' : Addr → Prop} {σ : L2.St} {ρ : Env} {H H' : Hp} {i : Nat} {l : Ow} {p : Addr} (R : SRep X G hs nb hd σ ρ H) (R' : Rep G nb' hd' (σ.set i (some (.ref p))) (ρ.set i (.own l)) H') (e : Lead G nb nb' H H') (sub : ∀ a, hs.h a → hd' a) (n : mineO X hs l p) : SRep X G hs nb' hd' (σ.set i (some (.ref p))) (ρ.set i (.own l)) H' := by
  refine ⟨R', R.lead.trans e, sub, R.old, R.self_to e, fun k l' a h1 h2 => ?_⟩
  by_cases hk : i = k
  · rw [hk] at h1 h2
    by_cases hi : k < σ.length
    · rw [List.getElem?_set_self hi] at h2
      rw [List.getElem?_set_self (by rw [R.rep.len]; exact hi)] at h1
      cases h2
      cases h1
      exact n
    · rw [List.getElem?_eq_none (by rw [List.length_set]; omega)] at h2
      cases h2
  · rw [List.getElem?_set_ne hk] at h1 h2
    exact R.mine k l' a h1 h2
/-- the slot's list is a list as others are, from now on -/
def frzO : Ow → D
  | .lst l => .lst l
  | .obj c _ l => .obj c l
  | .dic ks vs => .dic ks vs
  | .dicN ks vs => .dicN ks vs
def frz (i : Nat) (ρ : Env) : Env := match ρ[i]? with
  | some (.own (.lst l)) => ρ.set i (.val (.lst l))
  | some (.own (.dic ks vs)) => ρ.set i (.val (.dic ks vs))
  | some (.own (.dicN ks vs)) => ρ.set i (.val (.dicN ks vs))
  | _ => ρ
theorem frzO_at {hd : Addr → Prop} {H : Hp} {o : Ow} {p : Addr} {u : HO} (hno : ∀ c ns l, o ≠ .obj c ns l) (h : hide (fun a => hd a ∧ a ≠ p) H p = some u) (r : OwH G (hide (fun a => hd a ∧ a ≠ p) H) p o u) : At G (hide (fun a => hd a ∧ a ≠ p) H) (frzO o) (.ref p) := by
  cases o with
  | lst l =>
    obtain ⟨xs, e, r⟩ := r
    rw [e] at h
    exact .lst h r
  | obj c ns l => exact absurd rfl (hno c ns l)
  | dic ks vs =>
    obtain ⟨kvs, e, r, q⟩ := r
    rw [e] at h
    exact .dic (.inl h) r q
  | dicN ks vs =>
    obtain ⟨ps, e, n, r, q⟩ := r
    rw [e] at h
    exact .dicN h n r q
theorem Rep.frz {hd : Addr → Prop} {σ : L2.St} {ρ : Env} {H : Hp} {i : Nat} {l : Ow} {p : Addr} (R : Rep G nb hd σ ρ H) (hno : ∀ c ns l', l ≠ .obj c ns l') (h1 : ρ[i]? = some (.own l)) (h2 : σ[i]? = some (some (.ref p))) (r : OwAt G hd H l p) :
    Rep G nb (fun a => hd a ∧ a ≠ p) σ (ρ.set i (.val (frzO l))) H := by
  obtain ⟨h, nm, u, hp, r⟩ := r
  have x : Ex (hide hd H) (hide (fun a => hd a ∧ a ≠ p) H) := hide_le fun a z => z.1
  have hi : i < ρ.length := (List.getElem?_eq_some_iff.mp h1).1
  refine ⟨R.j, fun a m => ⟨R.m a m, fun z => nm (by rw [← z]; exact m)⟩, ⟨fun a z => R.live.ne a z.1, fun a o z => R.live.nt a o z.1⟩, by rw [List.length_set]; exact R.len, fun k s v e1 e2 => ?_, fun k m l' v e1 e2 e3 e4 => ?_⟩
  · by_cases hk : i = k
    · rw [← hk] at e1 e2
      rw [List.getElem?_set_self hi] at e1
      rw [h2] at e2
      cases e1
      cases e2
      exact ⟨.ref p, rfl, frzO_at hno (hide_put (fun z => z.2 rfl) hp r.nt) (r.mono x)⟩
    · rw [List.getElem?_set_ne hk] at e1
      have z := R.at_ k s v e1 e2
      cases s with
      | none => trivial
      | val d =>
        obtain ⟨y, a, b⟩ := z
        exact ⟨y, a, b.mono x⟩
      | err c2 l2 =>
        obtain ⟨a, cls, dx, e5, e6, b⟩ := z
        exact ⟨a, cls, dx, e5, e6, b.mono x⟩
      | thk =>
        obtain ⟨f, Q, e5, e6, b⟩ := z
        exact ⟨f, Q, e5, e6, Q.2 _ _ x b⟩
      | fn _ =>
        obtain ⟨f, Q, e5, e6, b⟩ := z
        exact ⟨f, Q, e5, e6, Q.2 _ _ x b⟩
      | own l2 =>
        obtain ⟨a, e5, e6, e7, ys, e8, e9⟩ := z
        refine ⟨a, e5, ⟨e6, fun z => hk ?_⟩, e7, ys, e8, e9.mono x⟩
        rw [z] at e5
        exact R.lone i k l (some (.ref p)) h1 h2 ⟨_, e1, rfl⟩ (by rw [e2, e5])
  · obtain ⟨s, e3, e5⟩ := e3
    have k1 : i ≠ k := fun z => by
      rw [← z, List.getElem?_set_self hi] at e1
      cases e1
    have k2 : i ≠ m := fun z => by
      rw [← z, List.getElem?_set_self hi] at e3
      cases e3
      cases e5
    rw [List.getElem?_set_ne k1] at e1
    rw [List.getElem?_set_ne k2] at e3
    exact R.lone k m l' v e1 e2 ⟨s, e3, e5⟩ e4
def sFrz (i : Nat) (s : Sm) : Sm := fun ρ => s (frz i ρ)
theorem ss_frz {i : Nat} {st : List Stmt} {s : Sm} (h : SSs X G W hs st s) : SSs X G W hs st (sFrz i s) := by
  refine PSs_imp h fun Dn σ H q => ?_
  obtain ⟨nb, ρ, hd, R, q⟩ := q
  have go : ∀ (l : Ow), (∀ c ns l', l ≠ .obj c ns l') → ρ[i]? = some (.own l) → (s (ρ.set i (.val (frzO l)))).wp nb (oQ X G W hs Dn hd H) (fun _ _ _ => False) → tSS X G W hs s Dn σ H := fun l hno e q => by
    have hi : i < σ.length := by
      rw [← R.rep.len]
      exact (List.getElem?_eq_some_iff.mp e).1
    obtain ⟨p, e1, h1⟩ := R.rep.at_ i _ _ e (List.getElem?_eq_getElem hi)
    have e3 : σ[i]? = some (some (.ref p)) := by rw [List.getElem?_eq_getElem hi, e1]
    have new : newIn X.H_0 p := by
      have z := R.mine i l p e e3
      cases l with
      | obj c ns l' => exact absurd rfl (hno c ns l')
      | _ => exact z
    have x : Ex (hide hd H) (hide (fun a => hd a ∧ a ≠ p) H) := hide_le fun a z => z.1
    refine ⟨_, ρ.set i (.val (frzO l)), fun a => hd a ∧ a ≠ p, ⟨R.rep.frz hno e e3 h1, R.lead, fun a z => ⟨R.sub a z, fun y => (R.old a z).elim (fun m => h1.2.1 (by rw [← y]; exact m)) fun ⟨o, e5, e6⟩ => new o (by rw [← y]; exact e5) e6⟩, R.old, R.selfs, fun k l' a h2 h3 => ?_⟩, T.wp_imp q fun o _ z => oQ.to x z⟩
    by_cases hk : i = k
    · rw [hk, List.getElem?_set_self (by rw [← hk, R.rep.len]; exact hi)] at h2
      cases h2
    · rw [List.getElem?_set_ne hk] at h2
      exact R.mine k l' a h2 h3
  unfold sFrz frz at q
  cases e : ρ[i]? with
  | none =>
    rw [e] at q
    exact ⟨_, ρ, hd, R, q⟩
  | some sl =>
    rw [e] at q
    cases sl with
    | none => exact ⟨_, ρ, hd, R, q⟩
    | val d => exact ⟨_, ρ, hd, R, q⟩
    | err c l => exact ⟨_, ρ, hd, R, q⟩
    | thk => exact ⟨_, ρ, hd, R, q⟩
    | fn _ => exact ⟨_, ρ, hd, R, q⟩
    | own l =>
      cases l with
      | lst l => exact go (.lst l) (fun _ _ _ z => nomatch z) e q
      | obj c ns l => exact ⟨_, ρ, hd, R, q⟩
      | dic ks vs => exact go (.dic ks vs) (fun _ _ _ z => nomatch z) e q
      | dicN ks vs => exact go (.dicN ks vs) (fun _ _ _ z => nomatch z) e q
/-- x.append(e) -/
def onOwn (i : Nat) (k : List D → T Out) (ρ : Env) : T Out := match ρ[i]? with
  | some (.own (.lst l)) => k l
  | _ => .bad
theorem onOwn_wp {i : Nat} {k : List D → T Out} {ρ : Env} {nb : Nat} {Q : Out → Nat → Prop} {E : Nat → List D → Nat → Prop} (h : (onOwn i k ρ).wp nb Q E) : ∃ l, ρ[i]? = some (.own (.lst l)) ∧ (k l).wp nb Q E := by
  unfold onOwn at h
  cases e : ρ[i]? with
  | none =>
    rw [e] at h
    exact h.elim
  | some s =>
    rw [e] at h
    cases s with
    | own o =>
      cases o with
      | lst l => exact ⟨l, rfl, h⟩
      | _ => exact h.elim
    | _ => exact h.elim
def sApp (i : Nat) (f : Env → T D) : Sm := fun ρ => onOwn i (fun l => bindS (f ρ) ρ fun d => if l.length ≤ 50000 then .ret (.nx (ρ.set i (.own (.lst (l ++ [d]))))) else .bad) ρ
def sExt (i : Nat) (f : Env → T D) : Sm := fun ρ => onOwn i (fun l => bindS (f ρ) ρ fun d => match d with
  | .lst m => if l.length + m.length ≤ 50000 then .ret (.nx (ρ.set i (.own (.lst (l ++ m))))) else .bad
  | _ => .bad) ρ
theorem own_of {hd : Addr → Prop} {σ : L2.St} {ρ : Env} {H : Hp} (R : Rep G nb hd σ ρ H) {i : Nat} {l : Ow} (e : ρ[i]? = some (.own l)) : ∃ p u, σ[i]? = some (some (.ref p)) ∧ hd p ∧ ¬ G.M p ∧ H p = some u ∧ OwH G (hide hd H) p l u := by
  have hi : i < σ.length := by
    rw [← R.len]
    exact (List.getElem?_eq_some_iff.mp e).1
  obtain ⟨p, e1, h1, nm, u, e2, r⟩ := R.at_ i _ _ e (List.getElem?_eq_getElem hi)
  exact ⟨p, u, by rw [List.getElem?_eq_getElem hi, e1], h1, nm, e2, r⟩
theorem own_lst {hd : Addr → Prop} {σ : L2.St} {ρ : Env} {H : Hp} (R : Rep G nb hd σ ρ H) {i : Nat} {l : List D} (e : ρ[i]? = some (.own (.lst l))) : ∃ p xs, σ[i]? = some (some (.ref p)) ∧ hd p ∧ ¬ G.M p ∧ H p = some (.lst xs) ∧ Ats G (hide hd H) l xs := by
  obtain ⟨p, u, e1, h1, nm, e2, xs, rfl, r⟩ := own_of R e
  exact ⟨p, xs, e1, h1, nm, e2, r⟩
/-- the own list at i is changed -/
theorem SRep.change {hd : Addr → Prop} {σ : L2.St} {ρ : Env} {H : Hp} {i : Nat} {l l' : Ow} {p : Addr} {u' : HO} (R : SRep X G hs nb hd σ ρ H) (e : ρ[i]? = some (.own l)) (e1 : σ[i]? = some (some (.ref p))) (h : hd p) (nm : ¬ G.M p) (r : OwH G (hide hd H) p l' u') (same : ∀ a, mineO X hs l a → mineO X hs l' a) :
    SRep X G hs nb hd σ (ρ.set i (.own l')) (upd H p u') ∧ Ex (hide hd H) (hide hd (upd H p u')) := by
  have x : Ex (hide hd H) (hide hd (upd H p u')) := fun a u z => by
    have zn := hide_nt z
    obtain ⟨n, z⟩ := hide_get z
    exact hide_put n (by rw [upd_ne (fun y => n (by rw [y]; exact h))]; exact z) zn
  have hi : i < ρ.length := (List.getElem?_eq_some_iff.mp e).1
  have new := R.mine i l p e e1
  have j : G.J nb (upd H p u') := G.stays _ H _ R.rep.j (fun a m => upd_ne fun z => nm (by rw [← z]; exact m)) fun a c q e => by
    rw [upd_ne fun z => (R.rep.live.nt p _ h nm (by rw [← z]; exact e)).ne c q rfl]
    exact e
  refine ⟨⟨⟨j, R.rep.m, R.rep.live.poke r.plain, by rw [List.length_set]; exact R.rep.len, fun k s v h1 h2 => ?_, fun k m l2 v h1 h2 h3 h4 => ?_⟩, ⟨fun a o m n t z => ?_, fun j' => j⟩, R.sub, R.old, fun a z => ⟨(R.selfs a z).1, ?_⟩, fun k l2 a h1 h2 => ?_⟩, x⟩
  · by_cases hk : i = k
    · rw [← hk] at h1 h2
      rw [List.getElem?_set_self hi] at h1
      rw [e1] at h2
      cases h1
      cases h2
      exact ⟨p, rfl, h, nm, u', upd_same, r.mono x⟩
    · rw [List.getElem?_set_ne hk] at h1
      have z := R.rep.at_ k s v h1 h2
      cases s with
      | none => trivial
      | val d =>
        obtain ⟨y, a, b⟩ := z
        exact ⟨y, a, b.mono x⟩
      | err c2 l2 =>
        obtain ⟨a, cls, dx, e5, e6, b⟩ := z
        exact ⟨a, cls, dx, e5, e6, b.mono x⟩
      | thk =>
        obtain ⟨f, Q, e5, e6, b⟩ := z
        exact ⟨f, Q, e5, e6, Q.2 _ _ x b⟩
      | fn _ =>
        obtain ⟨f, Q, e5, e6, b⟩ := z
        exact ⟨f, Q, e5, e6, Q.2 _ _ x b⟩
      | own l2 =>
        obtain ⟨a, e5, e6, e7, ys, e8, e9⟩ := z
        have np : a ≠ p := fun z => hk (by
          rw [z] at e5
          exact R.rep.lone i k l (some (.ref p)) e e1 ⟨_, h1, rfl⟩ (by rw [h2, e5]))
        exact ⟨a, e5, e6, e7, ys, by rw [upd_ne np]; exact e8, e9.mono x⟩
  · have back : ∀ {k : Nat} {s : Slot}, (ρ.set i (.own l'))[k]? = some s → isOwn s = true → ∃ s', ρ[k]? = some s' ∧ isOwn s' = true := fun {k s} z y => by
      by_cases hk : i = k
      · rw [← hk]
        exact ⟨_, e, rfl⟩
      · rw [List.getElem?_set_ne hk] at z
        exact ⟨s, z, y⟩
    obtain ⟨s, h3, h5⟩ := h3
    obtain ⟨s1, b1, b2⟩ := back h1 rfl
    obtain ⟨s2, b3, b4⟩ := back h3 h5
    cases s1 with
    | own l3 => exact R.rep.lone k m l3 v b1 h2 ⟨s2, b3, b4⟩ h4
    | _ => cases b2
  · have np : a ≠ p := fun y => by
      cases l with
      | obj c ns l4 => exact n (by rw [y]; exact new)
      | lst l4 => exact new o (by rw [← y]; exact z) t
      | dic k4 v4 => exact new o (by rw [← y]; exact z) t
      | dicN k4 v4 => exact new o (by rw [← y]; exact z) t
    rw [upd_ne np]
    exact R.lead.ex a o m n t z
  · by_cases q : a = p
    · rw [q]
      exact ⟨u', upd_same, r.nt⟩
    · obtain ⟨_, o, h2, h3⟩ := R.selfs a z
      exact ⟨o, by rw [upd_ne q]; exact h2, h3⟩
  · by_cases hk : i = k
    · rw [← hk, e1] at h2
      rw [← hk, List.getElem?_set_self hi] at h1
      cases h2
      cases h1
      exact same p new
    · rw [List.getElem?_set_ne hk] at h1
      exact R.mine k l2 a h1 h2
theorem ss_app {i : Nat} {o e : Expr} {f : Env → T D} {p2 p3 pos : Pos} (ho : PE X o (tVar i)) (he : EE X G W e f) (hbase : attributeBase o "append" X.env (eval o X.env) = eval o X.env := by rfl)
    (hfew : ((backTo p3 (starEach [e] X.env)).all (fun x => !x.1) && (backToKw p3 (keywordEach [] X.env)).all (fun x => x.1.isSome)
      && decide (([e] : List Expr).length + ([] : List Keyword).length + (if ([] : List Keyword).isEmpty then 0 else 1) < 30)) = true := by rfl)
    (hline : (p2.endLine == p3.line) = true := by rfl) (hs' : starEach (e :: []) X.env = (false, eval e X.env) :: starEach [] X.env := by rfl) (hplain : (backTo p3 (starEach [] X.env)).any (·.1) = false := by rfl) (h : swapsWith (.Call (.Attribute o "append" p2) [e] [] p3) none pos.line X.env = pure false := by rfl) :
    SS X G W hs (.Expr (.Call (.Attribute o "append" p2) [e] [] p3) pos) (sApp i f) := by
  refine PS_imp (ps_expr (pe_bm PySem.F.plainAttrs_list PySem.F.slot_list_append PySem.F.type_list_append mt_append ho (pa_cons he pa_nil hs') hbase hfew hline hs' hplain) h) fun Dn σ H q => ?_
  obtain ⟨nb, ρ, hd, R, q⟩ := q
  obtain ⟨l, e0, q⟩ := onOwn_wp q
  obtain ⟨p, xs, e1, h1, nm, e2, r⟩ := own_lst R.rep e0
  refine ⟨_, e1, .inl ⟨rfl, xs, .inl (.inl e2)⟩, _, ρ, hd, R.rep, T.wp_mono (bindS_then q) (fun d _ q1 v H' e h2 => ?_) fun c l _ z => rz_of R z⟩
  obtain ⟨hl, q2⟩ := wp_if q1
  have R' := R.to e
  have r' := r.mono (e.hide R.rep.m)
  have e2' := e.ex p _ nm (by intro _ z; cases z) e2
  obtain ⟨R2, x2⟩ := R'.change (l' := .lst (l ++ [d])) (u' := .lst (xs ++ [v])) e0 e1 h1 nm ⟨_, rfl, r'.append (.cons h2 .nil)⟩ (fun _ z => z)
  exact ⟨p, xs, v, rfl, rfl, e2', Nat.lt_of_le_of_lt (by rw [← r.length]; exact hl) (by decide), q2 hd σ _ R2 ((e.hide R.rep.m).trans x2)⟩
theorem ss_ext {i : Nat} {o e : Expr} {f : Env → T D} {p2 p3 pos : Pos} (ho : PE X o (tVar i)) (he : EE X G W e f) (hbase : attributeBase o "extend" X.env (eval o X.env) = eval o X.env := by rfl)
    (hfew : ((backTo p3 (starEach [e] X.env)).all (fun x => !x.1) && (backToKw p3 (keywordEach [] X.env)).all (fun x => x.1.isSome)
      && decide (([e] : List Expr).length + ([] : List Keyword).length + (if ([] : List Keyword).isEmpty then 0 else 1) < 30)) = true := by rfl)
    (hline : (p2.endLine == p3.line) = true := by rfl) (hs' : starEach (e :: []) X.env = (false, eval e X.env) :: starEach [] X.env := by rfl) (hplain : (backTo p3 (starEach [] X.env)).any (·.1) = false := by rfl) (h : swapsWith (.Call (.Attribute o "extend" p2) [e] [] p3) none pos.line X.env = pure false := by rfl) :
    SS X G W hs (.Expr (.Call (.Attribute o "extend" p2) [e] [] p3) pos) (sExt i f) := by
  refine PS_imp (ps_expr (pe_bm PySem.F.plainAttrs_list PySem.F.slot_list_extend PySem.F.type_list_extend mt_extend ho (pa_cons he pa_nil hs') hbase hfew hline hs' hplain) h) fun Dn σ H q => ?_
  obtain ⟨nb, ρ, hd, R, q⟩ := q
  obtain ⟨l, e0, q⟩ := onOwn_wp q
  obtain ⟨p, xs, e1, h1, nm, e2, r⟩ := own_lst R.rep e0
  refine ⟨_, e1, .inl ⟨rfl, xs, .inl (.inl e2)⟩, _, ρ, hd, R.rep, T.wp_mono (bindS_then q) (fun d _ q1 v H' e h2 => ?_) fun c l _ z => rz_of R z⟩
  cases d with
  | lst m =>
    obtain ⟨hl, q2⟩ := wp_if q1
    have R' := R.to e
    have r' := r.mono (e.hide R.rep.m)
    have e2' := e.ex p _ nm (by intro _ z; cases z) e2
    cases h2 with
    | @lst _ b ys h3 h4 =>
      obtain ⟨R2, x2⟩ := R'.change (l' := .lst (l ++ m)) (u' := .lst (xs ++ ys)) e0 e1 h1 nm ⟨_, rfl, r'.append h4⟩ (fun _ z => z)
      exact ⟨p, b, xs, ys, rfl, rfl, e2', hide_sub _ _ h3, line5 (by rw [← r.length, ← h4.length]; omega), q2 hd σ _ R2 ((e.hide R.rep.m).trans x2)⟩
  | _ => exact q1.elim
end
end Py
set_option Elab.async false
set_option linter.all false
set_option maxRecDepth 100000
set_option maxHeartbeats 4000000
namespace Py
open PySem PySem.Spec L2

section
variable {X : Cx} {G : Gl} {W : WX} {hs : Hid}
/-! ### fields -/
def nsIx : List Str → Str → Option Nat
  | [], _ => none
  | a :: r, f => if f = a then some 0 else (nsIx r f).map (· + 1)
theorem lookup_ix {f : Str} : ∀ {fs : List (Str × V)} {i : Nat}, nsIx (fs.map (·.1)) f = some i → fs.lookup f = (fs.map (·.2))[i]?
  | [], i, e => by cases e
  | (a, v) :: r, i, e => by
    have e1 : (if f = a then some 0 else (nsIx (r.map (·.1)) f).map (· + 1)) = some i := e
    rw [lookup_put' f a v r]
    by_cases h : f = a
    · rw [if_pos h] at e1 ⊢
      cases e1
      rfl
    · rw [if_neg h] at e1 ⊢
      cases q : nsIx (r.map (·.1)) f with
      | none =>
        rw [q] at e1
        cases e1
      | some j =>
        rw [q] at e1
        cases e1
        exact lookup_ix q
where lookup_put' (f a : Str) (v : V) (r : List (Str × V)) : ((a, v) :: r).lookup f = if f = a then some v else r.lookup f := by
        by_cases h : f = a
        · rw [if_pos h, h]
          simp [List.lookup]
        · rw [if_neg h]
          have e : (f == a) = false := by simpa using h
          simp [List.lookup, e]
theorem lookup_no {f : Str} : ∀ {fs : List (Str × V)}, nsIx (fs.map (·.1)) f = none → fs.lookup f = none
  | [], e => rfl
  | (a, v) :: r, e => by
    have e1 : (if f = a then some 0 else (nsIx (r.map (·.1)) f).map (· + 1)) = none := e
    by_cases h : f = a
    · rw [if_pos h] at e1
      cases e1
    · rw [if_neg h] at e1
      have e2 : (f == a) = false := by simpa using h
      have e3 : nsIx (r.map (·.1)) f = none := by
        cases q : nsIx (r.map (·.1)) f with
        | none => rfl
        | some j =>
          rw [q] at e1
          cases e1
      show ((a, v) :: r).lookup f = none
      simp only [List.lookup, e2]
      exact lookup_no e3
def fldD (c i : Nat) : D → T D
  | .obj c' l => if c' = c then opt l[i]? else .bad
  | _ => .bad
theorem ee_fld {e : Expr} {f : Str} {pos : Pos} {c i : Nat} {g : Env → T D} (cl : Cls X.K (G.cls c)) (na : NoAttr X.K (G.cls c) f) (hi : nsIx (G.flds c) f = some i) (he : EE X G W e g) (hb : attributeBase e f X.env (eval e X.env) = eval e X.env := by rfl) : EE X G W (.Attribute e f pos) (fun ρ => g ρ >>= fldD c i) := by
  refine PE_imp (pe_fld he hb) fun σ H Q q => ?_
  obtain ⟨nb, ρ, hd, R, q⟩ := q
  refine ⟨_, ρ, hd, R, T.wp_imp (wp_then q) fun d _ q1 v H' e h => ?_⟩
  cases d with
  | obj c' l =>
    obtain ⟨hc, q2⟩ := wp_if q1
    subst hc
    obtain ⟨d', e1, q3⟩ := wp_opt q2
    cases h with
    | @obj _ _ a dx fs h1 h2 h3 =>
      obtain ⟨x, e2, a2⟩ := h3.get' e1
      exact ⟨a, G.cls c', dx, fs, x, rfl, hide_sub _ _ h1, cl, na, by rw [lookup_ix (by rw [h2]; exact hi), e2], q3 x H' e a2⟩
  | _ => exact q1.elim
/-! ### methods -/
theorem pe_methS {CX : CXT} {k : Nat} {f C : Addr} {fd : FuncData} {ps : List Str} {sp : Sp} {E : L2.St → XK} {m : Str} {pos apos : Pos} {e o : Expr} {es : List Expr} {ta : TE} {t : TA} {pl : Sem Bool} (he : PE X o ta) (c : Cls X.K C) (hm : Meth X.K C m f) (F : FnOk X.prog X.w X.K X.mg X.base CX k f fd ps sp) (hr : Room k X.A) (hb : Binds X.K fd ps []) (hx : ∀ σ, PassesAt CX X σ (E σ)) (ha : PA X (e :: es) t)
    (hst : starEach (e :: es) X.env = (false, eval e X.env) :: starEach es X.env := by rfl) (hpl : (backTo pos (starEach es X.env)).any (·.1) = false := by rfl)
    (ht : eval (.Call (.Attribute o m apos) (e :: es) [] pos) X.env = (do
      let ov ← eval o X.env
      standAt apos.atName
      let (f, first) ← holding [ov] (getMethod ov m pl)
      callWith pos f first (backTo pos (starEach (e :: es) X.env)) (backToKw pos (keywordEach [] X.env))) := by rfl) :
    PE X (.Call (.Attribute o m apos) (e :: es) [] pos) (fun σ H Q => ta σ H fun x H1 => ∃ a dx fs, x = .ref a ∧ H1 a = some (.ins C dx fs) ∧ fs.lookup m = none ∧ t σ H1 fun vs H2 => sp (x :: vs) H2 Q (E σ)) := by
  refine ⟨fun pins s σ H Q I h => PySem.W.methodCall_KW (pl := pl) (thn (he.run pins s σ H _ I h) fun u s1 y => ?_) ht⟩
  obtain ⟨x, H1, I1, rx, a, dx, fs, rfl, ea, l, q⟩ := y
  cases (show u = Value.ref a from rx)
  have args := ha.run pos pins s1 σ H1 _ I1 q
  refine getmeth_ok I1 ea c hm l (PySem.W.callWith_K (first := [.ref a]) (h₀ := X.base) I.ok.mod.kin hm.kp (thn args fun us s2 z => ?_) hst hpl)
  obtain ⟨vs, H2, I2, r, q2⟩ := z
  have all : Vals (V.ref a :: vs) (Value.ref a :: us) := .cons rfl r
  exact ⟨I2.kIn, run_fnS F hr hb (hx σ) I2 all q2⟩
/-- o.m(e, ..) -/
def gMeth (n : Nat) (c : Nat) (m : List D → T D) (f : Env → T D) (r : Env → T (List D)) : Env → T D := fun ρ => f ρ >>= fun d => match d with
  | .obj c' l => if c' = c then r ρ >>= fun l' => if l'.length + 1 = n then m (.obj c' l :: l') else .bad else .bad
  | _ => .bad
theorem ee_meth {k n c : Nat} {f : Addr} {fd : FuncData} {ps : List Str} {nm : Str} {apos pos : Pos} {o e : Expr} {es : List Expr} {m : List D → T D} {g : Env → T D} {fa : Env → T (List D)} {pl : Sem Bool} (cl : Cls X.K (G.cls c)) (hm : Meth X.K (G.cls c) nm f) (hno : nsIx (G.flds c) nm = none) (F : FnOk X.prog X.w X.K X.mg X.base (L2.CX X.prog X.w) k f fd ps (spD G n m)) (hr : Room k X.A)
    (hb : Binds X.K fd ps []) (tk : Takes X W) (ho : EE X G W o g) (ha : EA X G W (e :: es) fa)
    (hst : starEach (e :: es) X.env = (false, eval e X.env) :: starEach es X.env := by rfl) (hpl : (backTo pos (starEach es X.env)).any (·.1) = false := by rfl)
    (ht : eval (.Call (.Attribute o nm apos) (e :: es) [] pos) X.env = (do
      let ov ← eval o X.env
      standAt apos.atName
      let (f, first) ← holding [ov] (getMethod ov nm pl)
      callWith pos f first (backTo pos (starEach (e :: es) X.env)) (backToKw pos (keywordEach [] X.env))) := by rfl) :
    EE X G W (.Call (.Attribute o nm apos) (e :: es) [] pos) (gMeth n c m g fa) := by
  refine PE_imp (pe_methS ho cl hm F hr hb (fun σ => passAt tk σ) ha hst hpl ht) fun σ H Q q => ?_
  obtain ⟨nb, ρ, hd, R, q⟩ := q
  refine ⟨_, ρ, hd, R, T.wp_imp (wp_then q) fun d _ q1 v H1 e1 h1 => ?_⟩
  cases d with
  | obj c' l =>
    obtain ⟨hc, q2⟩ := wp_if q1
    subst hc
    cases h1 with
    | @obj _ _ a dx fs h2 h3 h4 =>
      refine ⟨a, dx, fs, rfl, hide_sub _ _ h2, lookup_no (by rw [h3]; exact hno), _, ρ, hd, R.lead e1, T.wp_mono (wp_then q2) (fun l' _ q3 vs H2 e2 a2 => ?_) fun c l _ z => xE.lead z e1⟩
      obtain ⟨hl, q4⟩ := wp_if q3
      have aself : At G (hide hd H2) (.obj c' l) (.ref a) := (At.obj h2 h3 h4).mono (e2.hide R.m)
      refine ⟨by rw [List.length_cons, ← a2.length]; exact hl, _, _, hd, R.good.lead (e1.trans e2), .cons aself a2, T.wp_mono q4 (fun d _ q5 v H' j e3 a => q5 v H' ((e1.trans e2).trans e3) a) fun c es _ z cls dx H' e3 a => z cls dx H' ((e1.trans e2).trans e3) a⟩
  | _ => exact q1.elim
/-! ### an instance is made -/
/-- __init__: from the arguments the fields -/
def spI (G : Gl) (n c : Nat) (m : List D → T (List D)) : Sp := fun vs H Q E => ∃ x dx us, vs = .ref x :: us ∧ us.length = n ∧ H x = some (.ins (G.cls c) dx []) ∧ ∃ (nb : Nat) (l : List D) (hs : Addr → Prop), Good G nb hs H ∧ hs x ∧ ¬ G.M x ∧ Ats G (hide hs H) l us ∧
  (m l).wp nb (fun r n' => ∀ H' dx' fs, G.J n' H' → (∀ a o, a ≠ x → ¬ G.M a → notT o → H a = some o → H' a = some o) → H' x = some (.ins (G.cls c) dx' fs) → fs.map (·.1) = G.flds c → Ats G (hide hs H') r (fs.map (·.2)) → Q .non H')
    (fun c es n' => ∀ cls dx H', G.J n' H' → (∀ a o, a ≠ x → ¬ G.M a → notT o → H a = some o → H' a = some o) → ErrAt G (hide hs H') c es cls dx → E cls dx H')
theorem pe_makeS {CX : CXT} {k : Nat} {f C : Addr} {fd : FuncData} {ps : List Str} {sp : Sp} {E : L2.St → XK} {x : Str} {p pos : Pos} {e : Expr} {es : List Expr} {t : TA} (M : Mk X.K C f) (F : FnOk X.prog X.w X.K X.mg X.base CX k f fd ps sp) (hr : Room (k + 1) X.A) (hg : L2.Gl X x) (hm : X.mg x = some (.ref C)) (hb : Binds X.K fd ps []) (hx : ∀ σ, PassesAt CX X σ (E σ))
    (ha : PA X (e :: es) t) (hdb : (x == ("__debug__" : Str)) = false := by decide) (he : starEach (e :: es) X.env = (false, eval e X.env) :: starEach es X.env := by rfl) (hpl : (backTo pos (starEach es X.env)).any (·.1) = false := by rfl) :
    PE X (.Call (.Name x p) (e :: es) [] pos) (fun σ H Q => t σ H fun vs H1 => ∀ x dx, H1 x = none → H1 dx = none → dx ≠ x → sp (.ref x :: vs) (upd (upd H1 dx (.own x)) x (.ins C dx [])) (fun v H2 => v = .non ∧ Q (.ref x) H2) (E σ)) := by
  refine ⟨fun pins s σ H Q I h => ?_⟩
  refine wpAny_Call_Name_kw (ld_glob I hg hm ?_ hdb)
  refine PySem.W.callWith_K (h₀ := X.base) I.ok.mod.kin M.kp (thn (ha.run pos pins s σ H _ I h) fun us s1 ⟨vs, H1, I1, r, h⟩ => ⟨I1.kIn, ?_⟩) he hpl
  have hq := h (s1.heap.objs.size + 1) s1.heap.objs.size (I1.hok.fresh (Nat.le_succ _)) (I1.hok.fresh (Nat.le_refl _)) (Nat.ne_of_lt (Nat.lt_succ_self _))
  have I2 := Inv.made (C := C) I1
  have r2 : Vals (V.ref (s1.heap.objs.size + 1) :: vs) (Value.ref (s1.heap.objs.size + 1) :: us) := .cons rfl r
  have hl : (Value.ref (s1.heap.objs.size + 1) :: us).length = ps.length := by
    have e := r2.length
    rw [F.len _ _ _ _ hq] at e
    exact e.symm
  have hbb := hb _ (Value.ref (s1.heap.objs.size + 1) :: us) I2.kIn (by rw [List.append_nil]; exact hl)
  rw [List.append_nil] at hbb
  refine wpAny_call ((make_map (f := f) I1.kIn M.makes M.init (beq_iff_eq.mp M.fn) (codeAny_mono (F.run _ X.stack _ _ ⟨Value.ref (s1.heap.objs.size + 1) :: us, []⟩ (Value.ref (s1.heap.objs.size + 1) :: us) _ _ (E σ) (hr.make C us [])
    (I2.env0.make C us []) hbb r2 hq) fun r s' hq' => ?_)))
  cases r with
  | error e => exact hx σ pins _ _ e s' I2 hq'
  | ok fl =>
    cases fl with
    | ret u =>
      obtain ⟨v, H', I3, rv, ev, q3⟩ := I2.after hq'
      subst ev
      exact ⟨rv, ⟨V.ref (s1.heap.objs.size + 1), H', I3, rfl, q3⟩⟩
    | next => exact False.elim hq'
    | brk => exact False.elim hq'
    | cont => exact False.elim hq'
/-- C(e, ..) -/
def gMake (n c : Nat) (m : List D → T (List D)) (r : Env → T (List D)) : Env → T D := fun ρ => r ρ >>= fun l => if l.length = n then m l >>= fun fs => .ret (.obj c fs) else .bad
theorem made_imp {n c nb n1 : Nat} {m : List D → T (List D)} {hd : Addr → Prop} {σ : L2.St} {ρ : Env} {H H1 : Hp} {l : List D} {vs : List V} {Q : VK} (R : Rep G nb hd σ ρ H) (e1 : Lead G nb n1 H H1) (h1 : Ats G (hide hd H1) l vs) (hl : l.length = n)
    (q : (m l >>= fun fs => T.ret (D.obj c fs)).wp n1 (fun d n' => ∀ v H', Lead G nb n' H H' → At G (hide hd H') d v → Q v H') (xE G W hd σ nb H)) {x dx : Addr} (nx : H1 x = none) (ndx : H1 dx = none) (ne : dx ≠ x) :
    spI G n c m (.ref x :: vs) (upd (upd H1 dx (.own x)) x (.ins (G.cls c) dx [])) (fun v H2 => v = .non ∧ Q (.ref x) H2) (fun cls d H' => W cls d σ H') := by
  have R1 := R.lead e1
  have nM : ¬ G.M x := fun m => R1.fresh nx (R1.m x m)
  have L2 : Lead G n1 n1 H1 (upd (upd H1 dx (.own x)) x (.ins (G.cls c) dx [])) := (Lead.new ndx).trans (Lead.new (by rw [upd_ne ne.symm]; exact nx))
  have y : Ex (hide hd H1) (hide (orIs hd x) (upd (upd H1 dx (.own x)) x (.ins (G.cls c) dx []))) := fun a u z => by
    have zn := hide_nt z
    obtain ⟨n, z⟩ := hide_get z
    have n1 : a ≠ x := ne_of_none z nx
    exact hide_put (fun w => w.elim n n1) (by rw [upd_ne n1, upd_ne (ne_of_none z ndx)]; exact z) zn
  have live2 : Live G (orIs hd x) (upd (upd H1 dx (.own x)) x (.ins (G.cls c) dx [])) := by
    refine ⟨fun a z => ?_, fun a o z m e => ?_⟩
    · rcases z with z | z
      · have live := R1.live.ne a z
        cases q : H1 a with
        | none => exact absurd q live
        | some o =>
          rw [upd_ne (ne_of_none q nx), upd_ne (ne_of_none q ndx), q]
          exact (fun z => nomatch z)
      · rw [z, upd_same]
        exact (fun z => nomatch z)
    · by_cases n1 : a = x
      · rw [n1, upd_same] at e
        cases e
        exact ⟨fun _ z => (nomatch z), fun _ _ z => (nomatch z)⟩
      · rw [upd_ne n1] at e
        by_cases n2 : a = dx
        · rw [n2, upd_same] at e
          cases e
          exact ⟨fun _ z => (nomatch z), fun _ _ z => (nomatch z)⟩
        · rw [upd_ne n2] at e
          exact R1.live.nt a o (z.elim (fun y => y) fun y => absurd y n1) m e
  refine ⟨x, dx, vs, rfl, by rw [← h1.length]; exact hl, upd_same, n1, l, orIs hd x, ⟨L2.j R1.j, fun a m => .inl (R1.m a m), live2⟩, .inr rfl, nM, h1.mono y, T.wp_mono (wp_then q) (fun fs _ q1 H' dx' fs' j k h2 h3 h4 => ?_) fun c es _ z cls d H' j k a => ?_⟩
  · have L3 : Lead G nb _ H H' := e1.trans ⟨fun a o m t z => k a o (ne_of_none z nx) m t (by rw [upd_ne (ne_of_none z nx), upd_ne (ne_of_none z ndx)]; exact z), fun _ => j⟩
    exact ⟨rfl, q1 _ H' L3 (.obj (hide_put (R1.fresh nx) h2 (fun _ z => nomatch z)) h3 (h4.mono (hide_le fun a z => .inl z)))⟩
  · have L3 : Lead G nb _ H H' := e1.trans ⟨fun a o m t z => k a o (ne_of_none z nx) m t (by rw [upd_ne (ne_of_none z nx), upd_ne (ne_of_none z ndx)]; exact z), fun _ => j⟩
    exact z cls d H' L3 (a.mono (hide_le fun a z => .inl z))
theorem ee_make {k n c : Nat} {f : Addr} {fd : FuncData} {ps : List Str} {x : Str} {p pos : Pos} {e : Expr} {es : List Expr} {m : List D → T (List D)} {fa : Env → T (List D)} (M : Mk X.K (G.cls c) f) (F : FnOk X.prog X.w X.K X.mg X.base (L2.CX X.prog X.w) k f fd ps (spI G n c m)) (hr : Room (k + 1) X.A) (hg : L2.Gl X x) (hm : X.mg x = some (.ref (G.cls c)))
    (hb : Binds X.K fd ps []) (tk : Takes X W) (ha : EA X G W (e :: es) fa)
    (hdb : (x == ("__debug__" : Str)) = false := by decide) (he : starEach (e :: es) X.env = (false, eval e X.env) :: starEach es X.env := by rfl) (hpl : (backTo pos (starEach es X.env)).any (·.1) = false := by rfl) :
    EE X G W (.Call (.Name x p) (e :: es) [] pos) (gMake n c m fa) := by
  refine PE_imp (pe_makeS M F hr hg hm hb (fun σ => passAt tk σ) ha hdb he hpl) fun σ H Q q => ?_
  obtain ⟨nb, ρ, hd, R, q⟩ := q
  refine ⟨_, ρ, hd, R, T.wp_imp (wp_then q) fun l _ q1 vs H1 e1 h1 x dx nx ndx ne => ?_⟩
  obtain ⟨hl, q2⟩ := wp_if q1
  exact made_imp R e1 h1 hl q2 nx ndx ne
/-! ### keywords -/
abbrev EK (X : Cx) (G : Gl) (W : WX) (ks : List Keyword) (f : Env → T (List D)) : Prop := PK X ks (tEA G W f)
theorem PK_imp {es : List Keyword} {t t' : TA} (h : PK X es t) (i : ∀ σ H Q, t' σ H Q → t σ H Q) : PK X es t' := ⟨fun pos pins s σ H Q I q => h.run pos pins s σ H Q I (i _ _ _ q)⟩
theorem ek_nil : EK X G W [] gNil := PK_imp pk_nil fun σ H Q ⟨nb, ρ, hd, R, q⟩ => q [] H (Lead.refl H) .nil
theorem ek_cons {nm : Option Str} {kpos : Pos} {e : Expr} {kws : List Keyword} {f : Env → T D} {r : Env → T (List D)} (h : PK X (⟨nm, e, kpos⟩ :: kws) (tCons (tEE G W f) (tEA G W r))) : EK X G W (⟨nm, e, kpos⟩ :: kws) (gCons f r) := by
  refine PK_imp h fun σ H Q q => ?_
  obtain ⟨nb, ρ, hd, R, q⟩ := q
  refine ⟨_, ρ, hd, R, T.wp_imp (wp_then q) fun a _ q1 x H1 e1 h1 => ?_⟩
  refine ⟨_, ρ, hd, R.lead e1, T.wp_mono (wp_then q1) (fun l _ q2 xs H2 e2 h2 => ?_) fun c l _ z => xE.lead z e1⟩
  exact q2 (x :: xs) H2 (e1.trans e2) (.cons (h1.mono (e2.hide R.m)) h2)
/-- the parameters' values: those by place, then those by name, put in the parameters' order -/
def permL {α : Type} (js : List Nat) (l : List α) : List α := js.filterMap fun j => l[j]?
theorem perm_vals : ∀ (js : List Nat) {xs : List V} {us : List Value}, Vals xs us → Vals (permL js xs) (permL js us)
  | [], _, _, _ => .nil
  | j :: r, xs, us, h => by
    have ih := perm_vals r h
    unfold permL at ih ⊢
    rw [List.filterMap_cons, List.filterMap_cons]
    cases e : xs[j]? with
    | none =>
      rw [h.none_of e]
      exact ih
    | some x =>
      obtain ⟨u, e2, ru⟩ := h.get e
      rw [e2]
      exact .cons ru ih
theorem perm_ats {H : Hp} : ∀ (js : List Nat) {l : List D} {xs : List V}, Ats G H l xs → Ats G H (permL js l) (permL js xs)
  | [], _, _, _ => .nil
  | j :: r, l, xs, h => by
    have ih := perm_ats r h
    unfold permL at ih ⊢
    rw [List.filterMap_cons, List.filterMap_cons]
    cases e : l[j]? with
    | none =>
      have e2 : xs[j]? = none := List.getElem?_eq_none_iff.mpr (by rw [← h.length]; exact List.getElem?_eq_none_iff.mp e)
      rw [e2]
      exact ih
    | some d =>
      obtain ⟨x, e2, a⟩ := h.get' e
      rw [e2]
      exact .cons a ih
def KBd (K : PySem.W.Frag) (fd : FuncData) (ps : List Str) (n : Nat) (ks : List Str) (js : List Nat) : Prop :=
  ∀ (s : Shared) (us ws : List Value), K.In s.heap → us.length = n → ws.length = ks.length → BindsTo s fd ⟨us, ks.zip ws⟩ (ps.zip (permL js (us ++ ws)))
theorem run_fnKS {CX : CXT} {k n : Nat} {f : Addr} {fd : FuncData} {ps ks : List Str} {js : List Nat} {sp : Sp} {E : L2.St → XK} {pins : List (Addr × Obj)} {σ : L2.St} {H : Hp} {s : Shared} {Q : VK} {us ws : List Value} {vs zs : List V} (F : FnOk X.prog X.w X.K X.mg X.base CX k f fd ps sp) (hr : Room k X.A) (hb : KBd X.K fd ps n ks js) (hx : PassesAt CX X σ (E σ))
    (I : Inv X pins σ H s) (r : Vals vs us) (rz : Vals zs ws) (l1 : vs.length = n) (l2 : zs.length = ks.length) (h : sp (permL js (vs ++ zs)) H Q (E σ)) : wpAny (model X.prog X.w) X.A (call (.ref f) us (ks.zip ws)) (EP X pins σ Q) X.xe s := by
  have r2 := perm_vals js (r.append rz)
  refine wpAny_call (codeAny_mono (F.run X.A X.stack s H ⟨us, ks.zip ws⟩ (permL js (us ++ ws)) (permL js (vs ++ zs)) Q (E σ) hr I.env0 (hb s us ws I.kIn (by rw [← r.length]; exact l1) (by rw [← rz.length]; exact l2)) r2 h) fun r s' hq => ?_)
  cases r with
  | error e => exact hx pins H s e s' I hq
  | ok fl =>
    cases fl with
    | ret u => exact I.after hq
    | next => exact False.elim hq
    | brk => exact False.elim hq
    | cont => exact False.elim hq
/-- f(k = v, ..) -/
theorem pe_callK0 {CX : CXT} {k : Nat} {f : Addr} {fd : FuncData} {ps ks : List Str} {js : List Nat} {sp : Sp} {E : L2.St → XK} {x : Str} {p pos : Pos} {kws : List Keyword} {tk : TA} (F : FnOk X.prog X.w X.K X.mg X.base CX k f fd ps sp) (hr : Room k X.A) (hg : L2.Gl X x) (hm : X.mg x = some (.ref f)) (hk : PySem.W.keepIn X.K (.ref f) = true) (hb : KBd X.K fd ps 0 ks js) (hx : ∀ σ, PassesAt CX X σ (E σ)) (hkw : PK X kws tk)
    (hall : (backToKw pos (keywordEach kws X.env)).all (·.1.isSome) = true := by rfl) (hks : (backToKw pos (keywordEach kws X.env)).filterMap (·.1) = ks := by rfl) (hdb : (x == ("__debug__" : Str)) = false := by decide)
    (hpl : ((backTo pos (starEach [] X.env)).any (·.1) || (backToKw pos (keywordEach kws X.env)).any (·.1.isNone)) = false := by rfl) :
    PE X (.Call (.Name x p) [] kws pos) (fun σ H Q => tk σ H fun zs H1 => zs.length = ks.length ∧ sp (permL js zs) H1 Q (E σ)) := by
  refine ⟨fun pins s σ H Q I h => ?_⟩
  refine wpAny_Call_Name_kw (ld_glob I hg hm ?_ hdb)
  refine PySem.W.callWith_KW0 (h₀ := X.base) I.ok.mod.kin hk hall ?_ hpl
  refine thn (hkw.run pos pins s σ H _ I h) fun ws s2 ⟨zs, H2, I2, rz, l2, q2⟩ => ⟨I2.kIn, ?_⟩
  rw [hks]
  exact run_fnKS (us := []) (vs := []) F hr hb (hx σ) I2 .nil rz rfl l2 q2
def gFnK (a b n : Nat) (js : List Nat) (m : List D → T D) (r s : Env → T (List D)) : Env → T D := fun ρ => r ρ >>= fun l => s ρ >>= fun z => if l.length = a ∧ z.length = b ∧ (permL js (l ++ z)).length = n then m (permL js (l ++ z)) else .bad
theorem ee_callK0 {k n : Nat} {f : Addr} {fd : FuncData} {ps ks : List Str} {js : List Nat} {x : Str} {p pos : Pos} {kws : List Keyword} {m : List D → T D} {fk : Env → T (List D)} (F : FnOk X.prog X.w X.K X.mg X.base (L2.CX X.prog X.w) k f fd ps (spD G n m)) (hr : Room k X.A) (hg : L2.Gl X x) (hm : X.mg x = some (.ref f)) (hk : PySem.W.keepIn X.K (.ref f) = true)
    (hb : KBd X.K fd ps 0 ks js) (tk : Takes X W) (hkw : EK X G W kws fk)
    (hall : (backToKw pos (keywordEach kws X.env)).all (·.1.isSome) = true := by rfl) (hks : (backToKw pos (keywordEach kws X.env)).filterMap (·.1) = ks := by rfl) (hdb : (x == ("__debug__" : Str)) = false := by decide)
    (hpl : ((backTo pos (starEach [] X.env)).any (·.1) || (backToKw pos (keywordEach kws X.env)).any (·.1.isNone)) = false := by rfl) :
    EE X G W (.Call (.Name x p) [] kws pos) (gFnK 0 ks.length n js m gNil fk) := by
  refine PE_imp (pe_callK0 F hr hg hm hk hb (fun σ => passAt tk σ) hkw hall hks hdb hpl) fun σ H Q q => ?_
  obtain ⟨nb, ρ, hd, R, q⟩ := q
  have q0 : (fk ρ >>= fun z => if ([] : List D).length = 0 ∧ z.length = ks.length ∧ (permL js ([] ++ z)).length = n then m (permL js ([] ++ z)) else .bad).wp nb (fun d n' => ∀ v H', Lead G nb n' H H' → At G (hide hd H') d v → Q v H') (xE G W hd σ nb H) := q
  refine ⟨_, ρ, hd, R, T.wp_imp (wp_then q0) fun l _ q1 vs H1 e1 h1 => ?_⟩
  obtain ⟨⟨_, c2, c3⟩, q2⟩ := wp_if q1
  rw [List.nil_append] at c3 q2
  have h2 := perm_ats js h1
  exact ⟨by rw [← h1.length]; exact c2, by rw [← h2.length]; exact c3, _, _, hd, R.good.lead e1, h2, T.wp_mono q2 (fun d _ q2 v H' j e2 a => q2 v H' (e1.trans e2) a) fun c es _ z cls dx H' e2 a => z cls dx H' (e1.trans e2) a⟩
/-! ### __init__ -/
/-- self.f = e -/
def sFld' (i c : Nat) (nm : Str) (f : Env → T D) : Sm := fun ρ => bindS (f ρ) ρ fun d => match ρ[i]? with
  | some (.own (.obj c' ns l)) => if c' = c ∧ nsIx ns nm = none ∧ ns.length < 100 then .ret (.nx (ρ.set i (.own (.obj c' (ns ++ [nm]) (l ++ [d]))))) else .bad
  | _ => .bad
theorem putF_new {f : Str} {v : V} : ∀ {fs : List (Str × V)}, nsIx (fs.map (·.1)) f = none → putF f v fs = fs ++ [(f, v)]
  | [], _ => rfl
  | (a, x) :: r, e => by
    have e1 : (if f = a then some 0 else (nsIx (r.map (·.1)) f).map (· + 1)) = none := e
    by_cases h : f = a
    · rw [if_pos h] at e1
      cases e1
    · rw [if_neg h] at e1
      have e3 : nsIx (r.map (·.1)) f = none := by
        cases q : nsIx (r.map (·.1)) f with
        | none => rfl
        | some j =>
          rw [q] at e1
          cases e1
      show (if a = f then (a, v) :: r else (a, x) :: putF f v r) = (a, x) :: (r ++ [(f, v)])
      rw [if_neg (fun z => h z.symm), putF_new e3]
theorem ss_fld {i c : Nat} {o e : Expr} {nm : Str} {f : Env → T D} {p2 pos : Pos} (cl : Cls X.K (G.cls c)) (na : NoAttr X.K (G.cls c) nm) (ho : PE X o (tVar i)) (he : EE X G W e f) (h : swapsWith e (some (.Attribute o nm p2)) pos.line X.env = pure false := by rfl) : SS X G W hs (.Assign [.Attribute o nm p2] e pos) (sFld' i c nm f) := by
  refine PS_imp (ps_fld ho he h) fun Dn σ H q => ?_
  obtain ⟨nb, ρ, hd, R, q⟩ := q
  refine ⟨_, ρ, hd, R.rep, T.wp_mono (bindS_then q) (fun d _ q1 v H1 e1 h1 => ?_) fun c l _ z => rz_of R z⟩
  cases e0 : ρ[i]? with
  | none =>
    rw [e0] at q1
    exact q1.elim
  | some s =>
    rw [e0] at q1
    cases s with
    | own o =>
      cases o with
      | obj c' ns l =>
        obtain ⟨⟨hc, hn, hl⟩, q2⟩ := wp_if q1
        subst hc
        have R1 := R.to e1
        obtain ⟨p, u, e3, h3, nm', e4, dx, fs, rfl, e5, r⟩ := own_of R1.rep e0
        have hf : nsIx (fs.map (·.1)) nm = none := by
          rw [e5]
          exact hn
        obtain ⟨R2, x2⟩ := R1.change (l' := .obj c' (ns ++ [nm]) (l ++ [d])) (u' := .ins (G.cls c') dx (putF nm v fs)) e0 e3 h3 nm' ⟨dx, _, rfl, by rw [putF_new hf, List.map_append, e5]; rfl, by rw [putF_new hf, List.map_append]; exact r.append (.cons h1 .nil)⟩ (fun _ z => z)
        refine ⟨.ref p, e3, p, G.cls c', dx, fs, rfl, e4, cl, na, ?_, q2 hd σ _ R2 ((e1.hide R.rep.m).trans x2)⟩
        have z : ns.length = fs.length := by rw [← e5, List.length_map]
        omega
      | _ => exact q1.elim
    | _ => exact q1.elim
def initEnv (n c : Nat) (l : List D) : Env := Slot.own (.obj c [] []) :: (l.map Slot.val ++ List.replicate (n - (l.length + 1)) Slot.none)
def outI (c : Nat) (ns : List Str) : Out → T (List D)
  | .nx ρ => match ρ[(0 : Nat)]? with
    | some (.own (.obj c' ns' r)) => if c' = c ∧ ns' = ns then .ret r else .bad
    | _ => .bad
  | .rz c l _ => .exc c l
  | _ => .bad
def runI (c : Nat) (ns : List Str) : T Out → T (List D)
  | .ret o => outI c ns o
  | .exc _ _ => .bad
  | .draw n k => .draw n fun i => runI c ns (k i)
  | .bad => .bad
theorem runI_wp {c : Nat} {ns : List Str} {Q : List D → Nat → Prop} {E : Nat → List D → Nat → Prop} : ∀ {t : T Out} {nb : Nat}, (runI c ns t).wp nb Q E → t.wp nb (fun o nb => (outI c ns o).wp nb Q E) (fun _ _ _ => False)
  | .ret o, _, h => h
  | .exc _ _, _, h => h
  | .draw n k, _, h => ⟨h.1, fun i hi => runI_wp (h.2 i hi)⟩
  | .bad, _, h => h
/-- an __init__ by its body: self, and the rest -/
def ini (n c : Nat) (ns : List Str) (s : Sm) : List D → T (List D) := fun l => runI c ns (s (initEnv n c l))
theorem init_at {n c : Nat} {l : List D} {k : Nat} {s : Slot} (e : (initEnv n c l)[k]? = some s) : (k = 0 ∧ s = .own (.obj c [] [])) ∨ (∃ j, k = j + 1 ∧ ((∃ d, l[j]? = some d ∧ s = .val d) ∨ (l.length ≤ j ∧ s = .none))) := by
  cases k with
  | zero =>
    have e1 : some (Slot.own (.obj c [] [])) = some s := e
    exact .inl ⟨rfl, (Option.some.inj e1).symm⟩
  | succ j =>
    have e1 : (l.map Slot.val ++ List.replicate (n - (l.length + 1)) Slot.none)[j]? = some s := e
    refine .inr ⟨j, rfl, ?_⟩
    by_cases hj : j < l.length
    · rw [List.getElem?_append_left (by rw [List.length_map]; exact hj), List.getElem?_map] at e1
      cases q : l[j]? with
      | none =>
        rw [q] at e1
        cases e1
      | some d =>
        rw [q] at e1
        exact .inl ⟨d, rfl, (Option.some.inj e1).symm⟩
    · rw [List.getElem?_append_right (by rw [List.length_map]; omega)] at e1
      have := List.mem_of_getElem? e1
      rw [List.mem_replicate] at this
      exact .inr ⟨by omega, this.2⟩
end
section
variable {P : Program} {w : World} {K : PySem.W.Frag} {mg : Str → Option Value} {base : Heap} {G : Gl}
/-- THE RULE for an __init__ -/
theorem ini_ok {x qual : Str} {st : Stmt} {f : Addr} {fd : FuncData} {N ps : List Str} {k n c : Nat} {s : Sm} (F : Fun K x qual st f fd) (S : FnScope N ps (defScope st)) (hps : ps.length = n + 1) (hN : ps.length ≤ N.length)
    (hbody : ∀ (cdv : Value) (A : Around) (outer : List PySem.Env) (s0 : Shared) (H : Hp) (hs : Hid) (E : XK), Room k (A.deeper (PyProof.Rows.envOfC qual (defScope st) s0.heap.objs.size f cdv)) →
      SSs (cxOf (L2.CX P w) P w K mg base N qual (defScope st) f cdv A outer s0 H E) G (fun cls dx _ H' => E cls dx H') hs (defBody st) s) : FnOk P w K mg base (L2.CX P w) (k + 1) f fd ps (spI G n c (ini N.length c (G.flds c) s)) := by
  refine F.okX S (fun vs H Q E h => ?_) fun cdv A outer s0 H vs Q E hr h => ?_
  · obtain ⟨x, dx, us, rfl, hu, _⟩ := h
    rw [List.length_cons, hu, hps]
  · obtain ⟨x, dx, us, rfl, hu, hx, nb, l, hs, g, hsx, nm, hv, q⟩ := h
    have hl := hv.length
    have hst : L2.start N (.ref x :: us) = some (.ref x) :: (us.map some ++ List.replicate (N.length - (us.length + 1)) none) := rfl
    have hat : ∀ {j : Nat} {d : D}, l[j]? = some d → ∃ v, (L2.start N (.ref x :: us))[j + 1]? = some (some v) ∧ At G (hide hs H) d v := fun {j d} e => by
      obtain ⟨v, e1, a⟩ := hv.get' e
      refine ⟨v, ?_, a⟩
      rw [hst]
      show (us.map some ++ _)[j]? = _
      have hj : j < us.length := (List.getElem?_eq_some_iff.mp e1).1
      rw [List.getElem?_append_left (by rw [List.length_map]; exact hj), List.getElem?_map, e1]
      rfl
    have R : Rep G nb hs (L2.start N (.ref x :: us)) (initEnv N.length c l) H := by
      refine ⟨g.j, g.m, g.live, ?_, fun i s v h1 h2 => ?_, fun i k l' v h1 h2 h3 h4 => ?_⟩
      · rw [hst]
        unfold initEnv
        rw [List.length_cons, List.length_cons, List.length_append, List.length_append, List.length_map, List.length_map, List.length_replicate, List.length_replicate, hl]
      · rcases init_at h1 with ⟨rfl, rfl⟩ | ⟨j, rfl, ⟨d, e1, rfl⟩ | ⟨_, rfl⟩⟩
        · rw [hst] at h2
          have h2 : some (some (V.ref x)) = some v := h2
          cases h2
          exact ⟨x, rfl, hsx, nm, _, hx, dx, [], rfl, rfl, .nil⟩
        · obtain ⟨y, e2, a⟩ := hat e1
          rw [e2] at h2
          cases h2
          exact ⟨y, rfl, a⟩
        · trivial
      · obtain ⟨s, h3, h5⟩ := h3
        rcases init_at h1 with ⟨rfl, _⟩ | ⟨j, _, ⟨d, _, z⟩ | ⟨_, z⟩⟩
        · rcases init_at h3 with ⟨rfl, _⟩ | ⟨j, _, ⟨d, _, z⟩ | ⟨_, z⟩⟩
          · rfl
          · rw [z] at h5
            cases h5
          · rw [z] at h5
            cases h5
        · cases z
        · cases z
    refine ⟨_, hbody cdv A outer s0 H ⟨hs, fun a => a = x, nb⟩ E hr, nb, initEnv N.length c l, hs, ⟨R, LeadS.refl H, fun _ z => z, g.live.some, fun a z => ?_, fun k l' a h1 h2 => ?_⟩, T.wp_imp (runI_wp q) fun o _ q1 => ?_⟩
    · have z : a = x := z
      rw [z]
      exact ⟨nm, _, hx, (fun _ y => nomatch y)⟩
    · rcases init_at h1 with ⟨rfl, e1⟩ | ⟨j, _, ⟨d, _, z⟩ | ⟨_, z⟩⟩
      · cases e1
        rw [hst] at h2
        have h2 : some (some (V.ref x)) = some (some (.ref a)) := h2
        cases h2
        exact rfl
      · cases z
      · cases z
    · cases o with
      | nx ρ =>
        intro hd σ H' R' x'
        have q2 : (match ρ[(0 : Nat)]? with
          | some (.own (.obj c' ns' r)) => if c' = c ∧ ns' = G.flds c then T.ret r else .bad
          | _ => .bad).wp _ _ _ := q1
        cases e0 : ρ[(0 : Nat)]? with
        | none =>
          rw [e0] at q2
          exact q2.elim
        | some s =>
          rw [e0] at q2
          cases s with
          | own o =>
            cases o with
            | obj c' ns l' =>
              obtain ⟨⟨hc, hn⟩, q3⟩ := wp_if q2
              subst hc
              obtain ⟨p, u, e3, h3, nm', e4, dx', fs, rfl, e5, r⟩ := own_of R'.rep e0
              have ep : p = x := R'.mine 0 _ p e0 e3
              rw [ep] at e4
              exact q3 H' dx' fs R'.rep.j (fun a o n m t e => R'.lead.ex a o m n t e) e4 (e5.trans hn) (r.mono (hide_le R'.sub))
            | _ => exact q2.elim
          | _ => exact q2.elim
      | ret d => exact q1.elim
      | brk ρ => exact q1.elim
      | ct ρ => exact q1.elim
      | rz c' l' ρ => exact fun hd cls dx' σ H' R' _ a => q1 cls dx' H' R'.rep.j (fun a o n m t e => R'.lead.ex a o m n t e) (a.mono (hide_le R'.sub))
end
end Py
set_option Elab.async false
set_option linter.all false
set_option maxRecDepth 100000
set_option maxHeartbeats 4000000
namespace Py
namespace Er
open PySem PySem.W PySem.Calls PyProof.Rows PySem.HandSPX
open Builtin Builtin.ObjectAttr
/-- the classes above an error of the package: OfferError at D, then the built-in ones -/
abbrev up (D : Addr) : List Value := .ref D :: PySem.ESX.exTail
theorem up_type (D : Addr) (n : String) : (up D).contains (.type n) = PySem.ESX.exTail.contains (.type n) := by
  rw [List.contains_cons]
  rfl
section
variable {prog : Program} {w : World} {A : Around} {R : Result → Shared → Prop} {hp : Heap} {gs : Array GenState} {dr : Drawn} {tk0 : Nat} {os : OsState}
variable {K : Frag} {f : Str} {tk : Tok} {v : Value} {x C D : Addr} {cd : ClassData}
theorem is_obj (e1 : clsIn K C = some cd) (e2 : cd.mro = .ref C :: up D) : mroIn K C (.type "object") = some true := by
  unfold mroIn
  rw [e1, Option.bind_some, e2]
  have y : (Value.ref C :: up D).contains (.type "object") = true := by
    have z : PySem.ESX.exTail.contains (.type "object") = true := by decide +kernel
    rw [List.contains_cons, up_type, z, Bool.or_true]
  rw [y]
  rfl
/-- object.__setattr__ comes to the own dict -/
theorem to_dict {ox : Obj} {od : Option Obj} (kin : K.In hp) (at_ : InstAt hp x ox C od) (e1 : clsIn K C = some cd) (e2 : cd.mro = .ref C :: up D) (no : findIn K (.ref C) f = some none)
    (go : wpAny (model prog w) A.in1 (storeInOwnDict (.ref x) (.ref C) (.str f tk) f v false)
      (fun r s => match r with
        | .done y => R (.ok y) s
        | .again c => c.quiet = true ∧ codeAny (model prog w) A c R s) (fun e s => R (.error e) s) ⟨hp, gs, dr, tk0, os⟩) :
    codeAny (model prog w) A (.call (.builtin "object.__setattr__") ⟨[.ref x, .str f tk, v], []⟩) R ⟨hp, gs, dr, tk0, os⟩ := by
  have so := F.store_object
  have isO : Looks (model prog w) hp (isInstance (.ref x) (.type "object")) true := at_.type.andThen (looks_mroIn kin (is_obj e1 e2))
  refine codeAny_call_builtin so.slot.plain so.entry ?_
  refine @check_slot (model prog w) _ _ ⟨hp, gs, dr, tk0, os⟩ "object.__setattr__" "object" "__setattr__" (.ref x) [.str f tk, v] [] _ so.kind so.split isO (so.args (.ref x) (.str f tk) v) ?_
  have mro : Looks (model prog w) hp (mroOf (.ref C)) cd.mro := (looks_clsIn kin e1).andThen .now
  have nobody : Looks (model prog w) hp (storeTaker? none) none := .now
  have pass : refuseLoop (.ref x) "__setattr__" cd.mro = pure () := by
    rw [e2, refuseLoop_ref, refuseLoop_ref]
    exact F.store_Exception.passes _
  rw [osa_eq, refuse_eq]
  refine wpAny_bind (wpAny_bind (at_.type.at (wpAny_bind (mro.at ?_))))
  rw [pass]
  exact wpAny_pure (wpAny_bind (at_.type.at (wpAny_bind ((looks_findIn kin no).at (wpAny_bind (nobody.at go))))))
/-- self.f = v, the first one -/
theorem first {fv : Array Value} (kin : K.In hp) (ox : hp.get? x = some { cls := .ref C, data := .fields fv }) (e1 : clsIn K C = some cd) (e2 : cd.mro = .ref C :: up D) (hd : cd.hasDict = true) (no : findIn K (.ref C) f = some none)
    (k : ∀ h' tk' dx, (∀ b o, b ≠ x → hp.get? b = some o → h'.get? b = some o) → hp.objs.size ≤ dx → dx ≠ x →
      h'.get? x = some { cls := .ref C, dict := some dx, data := .fields fv } → h'.Ns1 dx (fun y => if y = f then some v else none) → R (.ok (.ret .none)) ⟨h', gs, dr, tk', os⟩) :
    codeAny (model prog w) A (.call (.builtin "object.__setattr__") ⟨[.ref x, .str f tk, v], []⟩) R ⟨hp, gs, dr, tk0, os⟩ := by
  have at_ : InstAt hp x { cls := .ref C, data := .fields fv } C none := ⟨ox, rfl, rfl, trivial⟩
  have ne : x ≠ hp.objs.size := Nat.ne_of_lt (Heap.lt_size ox)
  refine to_dict kin at_ e1 e2 no ?_
  have lc : Looks (model prog w) hp (classData C) cd := looks_clsIn kin e1
  obtain ⟨a1, a2, a3, a4, a5, a6, a7, a8, a9, a10, a11⟩ := cd
  dsimp only at hd
  subst hd
  unfold storeInOwnDict ownDictForStores
  repeat (first
    | with_reducible refine store_in_new ?_ ?_
    | with_reducible refine wpAny_loadPart_at ox ?_
    | with_reducible refine lc.at ?_
    | wp_step)
  · exact ⟨_, #[], _, (Heap.get?_update_ne _ _ _ _ ne.symm).trans (Heap.get?_push_at rfl rfl), rfl, fun e z => absurd z (by simp), fun _ => rfl⟩
  · intro h' tk' ns same
    have ox' : (hp.push { cls := .type "dict", data := .dict #[] }).get? x = some { cls := .ref C, data := .fields fv } := Heap.get?_push_of_some _ ox
    refine k h' tk' hp.objs.size (fun b o nb e => ?_) (Nat.le_refl _) ne.symm ?_ ns
    · refine (same.2 b (Nat.ne_of_lt (Heap.lt_size e))).trans ?_
      exact (Heap.get?_update_ne _ _ _ _ nb).trans (Heap.get?_push_of_some _ e)
    · exact (same.2 x ne).trans (Heap.get?_update_self _ ox' rfl)
end
/-! ### the text of an __init__ that keeps its one parameter -/
def iA (f : Str) (p1 p2 : Pos) : Arguments := { posonlyargs := [], args := [{ arg := "self", annotation := none, pos := p1 }, { arg := f, annotation := none, pos := p2 }], vararg := none, kwonlyargs := [], kw_defaults := [], kwarg := none, defaults := [] }
def iB (f : Str) (q1 q2 q3 q4 : Pos) : List Stmt := [.Assign [.Attribute (.Name "self" q1) f q2] (.Name f q3) q4]
def iS (f : Str) : Scope := { kind := .function, names := [(PySem.Str.ofString "self", .local), (f, .local)], isGenerator := false, isCoroutine := false, more := [] }
/-- what the written part says of such a class at C, of its __init__ at fI -/
structure Txt1 (K : Frag) (mg : Str → Option Value) (x f : Str) (C fI : Addr) : Prop where
  gC : mg x = some (.ref C)
  cls : ∃ nm q N bs D sn sub ab col dd k0 k1 k2 k3 k5, K.lookup C = some (excClassObj nm q C N bs (up D) true sn sub ab col dd k0 k1 k2 k3 k5 "Exception.__new__")
  sa : findIn K (.ref C) "__setattr__" = some (some (.builtin "object.__setattr__"))
  noN : findIn K (.ref C) f = some none
  iC : findIn K (.ref C) "__init__" = some (some (.ref fI))
  tC : typeIn K (.ref fI) = some (.type "function")
  kC : keepIn K (.ref C) = true
  exC : subIn K (.ref C) (.type "BaseException") = some true
  tyC : typeIn K (.ref C) = some (.type "type")
  nf : (f == ("__debug__" : Str)) = false ∧ f ≠ "self"
  bd : ∀ (qn : Str) (p1 p2 q1 q2 q3 q4 : Pos) (doc pm cdv ct : Value) (an : Option Addr) (a b : Value), bindArgs (fnOf "__init__" qn (iA f p1 p2) (iB f q1 q2 q3 q4) (iS f) .none .none doc pm an cdv ct) ⟨[a, b], []⟩ = pure [(PySem.Str.ofString "self", a), (f, b)]
  fn : ∃ (qn : Str) (oc : Value) (od : Option Addr) (doc pm : Value) (an : Option Addr) (cdv ct : Value) (osl : Array (Option Value)) (p1 p2 q1 q2 q3 q4 : Pos),
    K.lookup fI = some ⟨oc, od, .func (fnOf "__init__" qn (iA f p1 p2) (iB f q1 q2 q3 q4) (iS f) .none .none doc pm an cdv ct), osl⟩ ∧ codeIn K cdv qn = true
theorem line1 (v : Value) : [v].length ≤ sizeLine := by
  rw [sizeLine_eq]
  exact (by decide : 1 ≤ 16777216)
section
variable {prog : Program} {w : World} {A : Around} {R : Result → Shared → Prop} {s : Shared} {K : Frag} {mg : Str → Option Value} {x0 f : Str} {C fI : Addr}
theorem ldL {M : Model} {E : Value → Shared → Prop} {nm : Str} {sc : Scope} {L a : Addr} {cd : Value} {m : Str → Option Value} {x : Str} {pos : Pos} {v : Value} {Q : Value → Shared → Prop} (hn : s.heap.Ns L m) (hv : m x = some v) (h : Q v s)
    (hl : (envOfC nm sc L a cd).kindOf x = some .local) (hd : (x == ("__debug__" : Str)) = false) (hk : sc.kind = .function := by rfl) :
    wpAny M A (eval (.Name x pos) (envOfC nm sc L a cd)) Q E s := wpAny_Name (wpAny_loadName_local hk hl hn hv h) hd
/-- what __init__ leaves of the fresh exception at x -/
structure Left (f : Str) (h h' : Heap) (x C dx t1 : Addr) (v : Value) : Prop where
  old : ∀ b o, b ≠ x → h.get? b = some o → h'.get? b = some o
  obj : h'.get? x = some { cls := .ref C, dict := some dx, data := .fields #[.ref t1, .none, .none, .none, .bool false, .none] }
  big : h.objs.size ≤ dx
  ne : dx ≠ x
  ns : h'.Ns1 dx (fun y => if y = f then some v else none)
theorem kind_self (nm : Str) (L a : Addr) (cd : Value) : (envOfC nm (iS f) L a cd).kindOf "self" = some .local := by
  show (List.lookup ("self" : Str) (iS f).names) = some .local
  rfl
theorem kind_f (nm : Str) (L a : Addr) (cd : Value) (h : f ≠ "self") : (envOfC nm (iS f) L a cd).kindOf f = some .local := by
  show (List.lookup f [(PySem.Str.ofString "self", .local), (f, NameKind.local)]) = some .local
  have e : (f == PySem.Str.ofString "self") = false := by simpa using h
  simp [List.lookup, e]
theorem init1 (T : Txt1 K mg x0 f C fI) {x t0 : Addr} {v : Value} (kin : K.In s.heap) (lim : s.heap.NoLimit) (hx : s.heap.get? x = some (excO C t0)) (nk : K.lookup x = none) (room : A.depth < recursionLimit)
    (k : ∀ h' tk dx, Left f s.heap h' x C dx t0 v → R (.ok (.ret .none)) { s with heap := h', toks := tk }) :
    codeAny (model prog w) A (.call (.ref fI) ⟨[.ref x, v], []⟩) R s := by
  obtain ⟨qn, oc, od, doc, pm, an, cdv, ct, osl, p1, p2, q1, q2, q3, q4, ho, hcd⟩ := T.fn
  obtain ⟨nm, q, N, bs, D, sn, sub, ab, col, dd, k0, k1, k2, k3, k5, hC⟩ := T.cls
  obtain ⟨nd, ns⟩ := T.nf
  have hcl : clsIn K C = some { name := nm, bases := bs, mro := .ref C :: up D, ns := N, qualname := q, hasDict := true, slotNames := sn, subclasses := sub, abstract := ab, collection := col, hasDel := false } := by
    unfold clsIn
    rw [hC] <;> rfl
  have ef : (f == ("self" : Str)) = false := by simpa using ns
  have es : (("self" : Str) == f) = false := by simpa using Ne.symm ns
  refine Att.call_fn (binds := [("self", .ref x), (f, v)]) kin lim ho hcd room (BindsTo.of_eq (T.bd _ _ _ _ _ _ _ _ _ _ _ _ _ _)) (by simp [iS, List.lookup, ef]) (fun s₁ IC => ?_) rfl rfl rfl
  obtain ⟨h₁, tk₁, rfl⟩ := IC.toInCall.same
  have kp : ∀ b o, s.heap.get? b = some o → h₁.get? b = some o := IC.toInCall.keep
  have hn := IC.toInCall.ns
  have kin₁ : K.In h₁ := kin.keeps kp
  have hx₁ := kp _ _ hx
  show wpAny _ _ (execs _ _) _ _ _
  refine wpAny_execs_cons (plainObj_wpAny_Assign_Attribute ?_)
  refine ldL (v := v) hn (by simp [PySem.bindL, kind_f _ _ _ _ ns, kind_self]) (ldL (v := .ref x) hn (by simp [PySem.bindL, kind_f _ _ _ _ ns, kind_self, Ne.symm ns]) ?_ (kind_self _ _ _ _) (by decide)) (kind_f _ _ _ _ ns) nd
  refine set_plain kin₁ (ox := excO C t0) (od := none) ⟨hx₁, rfl, rfl, trivial⟩ T.sa ?_
  refine first kin₁ hx₁ hcl rfl rfl T.noN (fun h₃ tk₃ dx k₃ dn dne hx₃ hn₃ => ?_)
  show wpAny _ _ (execs _ _) _ _ _
  have z : s.heap.objs.size < h₁.objs.size := hn.lt
  exact wpAny_execs_nil (k h₃ tk₃ dx ⟨fun b o hb e => k₃ b o hb (kp b o e), hx₃, Nat.le_of_lt (Nat.lt_of_lt_of_le z dn), dne, hn₃⟩)
/-- a made error -/
structure Made (f : Str) (h h' : Heap) (e C d : Addr) (v : Value) : Prop where
  old : ∀ b o, h.get? b = some o → h'.get? b = some o
  new : h.objs.size ≤ e
  obj : ∃ oe vs, h'.get? e = some oe ∧ oe.cls = .ref C ∧ oe.dict = some d ∧ oe.data = .fields vs ∧ vs[1]? = some .none
  big : h.objs.size ≤ d
  ne : d ≠ e
  ns : h'.Ns1 d (fun y => if y = f then some v else none)
theorem made1 (T : Txt1 K mg x0 f C fI) {v : Value} (kin : K.In s.heap) (lim : s.heap.NoLimit) (room : A.depth + 1 < recursionLimit)
    (k : ∀ h' tk e d, Made f s.heap h' e C d v → R (.ok (.ret (.ref e))) { s with heap := h', toks := tk }) :
    codeAny (model prog w) A (.call (.ref C) ⟨[v], []⟩) R s := by
  obtain ⟨nm, q, N, bs, D, sn, sub, ab, col, dd, k0, k1, k2, k3, k5, hC⟩ := T.cls
  obtain ⟨hp, g, dr, tk, os⟩ := s
  have kp : ∀ b o, hp.get? b = some o → ((hp.push (kdv_tup [v])).push (excO C hp.objs.size)).get? b = some o := fun b o e => Heap.get?_push_of_some _ (Heap.get?_push_of_some _ e)
  have at_ : ((hp.push (kdv_tup [v])).push (excO C hp.objs.size)).get? (hp.objs.size + 1) = some (excO C hp.objs.size) := by heap_get
  have nk : K.lookup (hp.objs.size + 1) = none := by
    cases e : K.lookup (hp.objs.size + 1) with
    | none => rfl
    | some o => exact absurd (Nat.lt_of_succ_lt (Heap.lt_size (kin _ _ e))) (Nat.lt_irrefl _)
  have tails : ∀ n : String, (up D).contains (.type n) = PySem.ESX.exTail.contains (.type n) := up_type D
  refine call_own F.excBase_Exception tails (kin _ _ hC) (looks_findIn kin T.iC) (fun self => bind_fn kin self T.tC) (line1 v) ?_
  refine init1 (s := ⟨(hp.push (kdv_tup [v])).push (excO C hp.objs.size), g, dr, tk, os⟩) T (kin.keeps kp) (lim.keeps kp) at_ nk room fun h' tk' dx ⟨k', hx, dn, dne, hns⟩ => ?_
  have old : ∀ b o, hp.get? b = some o → h'.get? b = some o := fun b o e => k' b o (Nat.ne_of_lt (Nat.lt_succ_of_lt (Heap.lt_size e))) (kp b o e)
  have z : hp.objs.size + 1 + 1 ≤ dx := by
    have q := dn
    rw [Heap.size_push, Heap.size_push] at q
    exact q
  exact ⟨rfl, k h' tk' (hp.objs.size + 1) dx ⟨old, Nat.le_succ _, ⟨_, _, hx, rfl, rfl, rfl, rfl⟩, Nat.le_trans (Nat.le_trans (Nat.le_succ _) (Nat.le_succ _)) z, dne, hns⟩⟩
end
end Er
open PySem PySem.Spec L2 PyProof.Rows
theorem relO_one {v : V} {v' : Value} (r : RelV v v') (f g : Str) : RelO (List.lookup g [(f, v)]) (if g = f then some v' else none) := by
  by_cases h : g = f
  · rw [if_pos h, h]
    have q : List.lookup f [(f, v)] = some v := by simp [List.lookup]
    rw [q]
    exact r
  · rw [if_neg h]
    have e : (g == f) = false := by simpa using h
    have q : List.lookup g [(f, v)] = none := by simp [List.lookup, e]
    rw [q]
    trivial
section
variable {X : Cx} {G : Gl} {W : WX} {hs : Hid}
/-- C(e), an error to be raised -/
def tMk1 (C : Addr) (f : Str) (ta : TA) : L2.St → Hp → XK → Prop := fun σ H Q => ta σ H fun vs H1 => ∃ v, vs = [v] ∧ ∀ d, H1 d = none → Q (.ref C) (some d) (upd H1 d (.xd [(f, v)]))
theorem pmk1 {x f : Str} {C fI : Addr} {a : Expr} {ta : TA} {p pos : Pos} {k : Nat} (T : Er.Txt1 X.K X.mg x f C fI) (hr : Room k X.A) (ha : PA X [a] ta) (hg : L2.Gl X x) (hdb : (x == ("__debug__" : Str)) = false := by decide)
    (he : starEach (a :: []) X.env = (false, eval a X.env) :: starEach [] X.env := by rfl) (hpl : (backTo pos (starEach [] X.env)).any (·.1) = false := by rfl) :
    PMk X (.Call (.Name x p) [a] [] pos) (tMk1 C f ta) := by
  intro pins s σ H Q I h
  refine wpAny_Call_Name_kw (ld_glob I hg T.gC ?_ hdb)
  refine PySem.W.callWith_K (h₀ := X.base) I.ok.mod.kin T.kC (thn (ha.run pos pins s σ H _ I h) fun us s1 hh => ?_) he hpl
  obtain ⟨vs, H1, I1, r1, v, ev, q1⟩ := hh
  subst ev
  refine ⟨I1.kIn, ?_⟩
  cases r1 with
  | @cons _ v' _ us' rv rn =>
    cases rn
    show wpAny _ _ (call (.ref C) [v']) _ _ _
    have lim := I1.nolimit
    obtain ⟨hp, g, dr, tk, os⟩ := s1
    refine wpAny_call (Er.made1 T I1.kIn lim (by have := hr.dp; omega) fun h' tk' e d M => ?_)
    show MkP X pins σ Q (.ref e) ⟨h', g, dr, tk', os⟩
    obtain ⟨oe, fv, hoe, hc, hd, hdat, h1⟩ := M.obj
    have ns := M.ns
    obtain ⟨G', g1, g2⟩ := restrict h' fun b => decide (b ≠ e)
    have gk : ∀ b, b ≠ e → G'.get? b = h'.get? b := fun b hb => g1 b (decide_eq_true hb)
    have ge : G'.get? e = none := g2 e (by simp)
    have below : ∀ b o, hp.get? b = some o → b ≠ e := fun b o q => Nat.ne_of_lt (Nat.lt_of_lt_of_le (Heap.lt_size q) M.new)
    have old : ∀ b o, hp.get? b = some o → G'.get? b = some o := fun b o q => (gk b (below b o q)).trans (M.old b o q)
    have ob : ObjOk X.prog X.w (upd H1 d (.xd [(f, v)])) G' d (.xd [(f, v)]) := ⟨_, ns.at (fun o q => (gk d M.ne).trans q), relO_one rv f⟩
    have J : Inv X pins σ (upd H1 d (.xd [(f, v)])) ⟨G', g, dr, tk', os⟩ := I1.laid (t' := tk') old M.big ob
    have fe : H1 e = none := I1.hok.fresh M.new
    refine ⟨e, oe, fv, ⟨G', g, dr, tk', os⟩, _, .ref C, some d, rfl, J, fun b o q => ?_, ge, hoe, ⟨hc, hd⟩, hdat, h1, by rw [upd_ne (Ne.symm M.ne)]; exact fe, rfl, I1.bare, raises_own T.exC T.tyC, q1 d (I1.hok.fresh M.big)⟩
    have ne : b ≠ e := fun z => by
      have q' : G'.get? b = some o := q
      rw [z, ge] at q'
      cases q'
    exact (gk b ne).symm.trans q
/-- raise C(e) -/
def sRaise1 (c : Nat) (f : Env → T D) : Sm := fun ρ => bindS (f ρ) ρ fun d => .ret (.rz c [d] ρ)
theorem ss_raise1 {x f : Str} {c : Nat} {fI : Addr} {a : Expr} {fa : Env → T D} {p pos pos2 : Pos} {k : Nat} (hc : X.calm = true) (T1 : Er.Txt1 X.K X.mg x f (G.cls c) fI) (hf : G.flds c = [f]) (hr : Room k X.A) (tk : Takes X W) (ha : EE X G W a fa) (hg : L2.Gl X x) (hdb : (x == ("__debug__" : Str)) = false := by decide)
    (he : starEach (a :: []) X.env = (false, eval a X.env) :: starEach [] X.env := by rfl) (hpl : (backTo pos (starEach [] X.env)).any (·.1) = false := by rfl) :
    SS X G W hs (.Raise (some (.Call (.Name x p) [a] [] pos)) none pos2) (sRaise1 c fa) := by
  refine PS_imp (ps_raise hc tk (pmk1 T1 hr (pa_cons ha pa_nil he) hg hdb he hpl)) fun Dn σ H q => ?_
  obtain ⟨nb, ρ, hd, R, q⟩ := q
  refine ⟨_, ρ, hd, R.rep, T.wp_mono (bindS_then q) (fun d n1 q1 v H1 e1 h1 => ⟨v, rfl, fun dx nd => ?_⟩) fun c l _ z => rz_of R z⟩
  have R1 := R.to e1
  have L : Lead G n1 n1 H1 (upd H1 dx (.xd [(f, v)])) := Lead.new nd
  have x1 := L.hide R1.rep.m
  refine q1 hd _ _ σ _ (R1.to L) ((e1.hide R.rep.m).trans x1) ⟨rfl, .inr ⟨dx, _, rfl, R1.rep.good.seen nd, by rw [hf]; rfl, .cons (h1.mono x1) .nil⟩⟩
end
end Py
set_option Elab.async false
set_option linter.all false
set_option maxRecDepth 100000
set_option maxHeartbeats 4000000
namespace Py
open PySem PySem.Spec L2

/-! ### an except suite: what is fixed, with the error that it holds -/
abbrev Gl.to (G : Gl) (x : Option (Addr × Value × Option Addr)) (y : Option (Addr × Up)) : Gl := { G with ea := x, fa := y }
section
variable {G : Gl} {x : Option (Addr × Value × Option Addr)} {y : Option (Addr × Up)}
mutual
theorem At.er {H : Hp} : ∀ {d : D} {v : V}, At G H d v → At (G.to x y) H d v
  | _, _, .non => .non
  | _, _, .bl => .bl
  | _, _, .int => .int
  | _, _, .str => .str
  | _, _, .tup h r => .tup h (Ats.er r)
  | _, _, .lst h r => .lst h (Ats.er r)
  | _, _, .dic h r q => .dic h (Ats.er r) (Ats.er q)
  | _, _, .dicN h n r q => .dicN h n (Ats.er r) (Ats.er q)
  | _, _, .obj h n r => .obj h n (Ats.er r)
  | _, _, .deck => .deck
theorem Ats.er {H : Hp} : ∀ {l : List D} {xs : List V}, Ats G H l xs → Ats (G.to x y) H l xs
  | _, _, .nil => .nil
  | _, _, .cons h r => .cons (At.er h) (Ats.er r)
end
mutual
theorem At.re {H : Hp} : ∀ {d : D} {v : V}, At (G.to x y) H d v → At G H d v
  | _, _, .non => .non
  | _, _, .bl => .bl
  | _, _, .int => .int
  | _, _, .str => .str
  | _, _, .tup h r => .tup h (Ats.re r)
  | _, _, .lst h r => .lst h (Ats.re r)
  | _, _, .dic h r q => .dic h (Ats.re r) (Ats.re q)
  | _, _, .dicN h n r q => .dicN h n (Ats.re r) (Ats.re q)
  | _, _, .obj h n r => .obj h n (Ats.re r)
  | _, _, .deck => .deck
theorem Ats.re {H : Hp} : ∀ {l : List D} {xs : List V}, Ats (G.to x y) H l xs → Ats G H l xs
  | _, _, .nil => .nil
  | _, _, .cons h r => .cons (At.re h) (Ats.re r)
end
theorem ats_er : Ats (G.to x y) = Ats G := by
  funext H d v
  exact propext ⟨Ats.re, Ats.er⟩
theorem err_er : ErrAt (G.to x y) = ErrAt G := by
  funext H c l cls dx
  unfold ErrAt
  rw [ats_er]
theorem leadS_er : LeadS (G.to x y) = LeadS G := by
  funext sf b b' H H'
  exact propext ⟨fun e => ⟨e.ex, e.j⟩, fun e => ⟨e.ex, e.j⟩⟩
theorem live_er : Live (G.to x y) = Live G := by
  funext hd H
  exact propext ⟨fun e => ⟨e.ne, e.nt⟩, fun e => ⟨e.ne, e.nt⟩⟩
theorem owH_er : OwH (G.to x y) = OwH G := by
  funext H a o u
  cases o <;> (unfold OwH; rw [ats_er])
theorem owAt_er : OwAt (G.to x y) = OwAt G := by
  funext hd H o a
  unfold OwAt
  rw [owH_er]
/-- no error is held -/
def clr (ρ : Env) : Env := ρ.map fun s => match s with
  | .err _ _ => .none
  | s => s
theorem clr_at {ρ : Env} {k : Nat} {s : Slot} (e : (clr ρ)[k]? = some s) : s = .none ∨ (ρ[k]? = some s ∧ ∀ c l, s ≠ .err c l) := by
  unfold clr at e
  rw [List.getElem?_map] at e
  cases q : ρ[k]? with
  | none =>
    rw [q] at e
    cases e
  | some s' =>
    rw [q] at e
    cases e
    cases s' with
    | err c l => exact .inl rfl
    | none => exact .inl rfl
    | val d => exact .inr ⟨rfl, fun _ _ z => nomatch z⟩
    | own o => exact .inr ⟨rfl, fun _ _ z => nomatch z⟩
    | thk => exact .inr ⟨rfl, fun _ _ z => nomatch z⟩
    | fn _ => exact .inr ⟨rfl, fun _ _ z => nomatch z⟩
theorem Rep.clear {hd : Addr → Prop} {σ : L2.St} {ρ : Env} {H : Hp} {x' : Option (Addr × Value × Option Addr)} (R : Rep (G.to x' y) nb hd σ ρ H) : Rep (G.to x y) nb hd σ (clr ρ) H := by
  refine ⟨R.j, R.m, ?_, by unfold clr; rw [List.length_map]; exact R.len, fun i s v h1 h2 => ?_, fun i k l v h1 h2 h3 h4 => ?_⟩
  · have := R.live
    rw [live_er] at this ⊢
    exact this
  · rcases clr_at h1 with rfl | ⟨h3, n⟩
    · trivial
    · have := R.at_ i s v h3 h2
      cases s with
      | none => trivial
      | val d =>
        obtain ⟨a, e, z⟩ := this
        exact ⟨a, e, z.re.er⟩
      | own o =>
        obtain ⟨a, e, z⟩ := this
        rw [owAt_er] at z
        exact ⟨a, e, by rw [owAt_er]; exact z⟩
      | thk => exact this
      | fn _ => exact this
      | err c l => exact absurd rfl (n c l)
  · obtain ⟨s, h3, h5⟩ := h3
    rcases clr_at h1 with z | ⟨h6, _⟩
    · cases z
    · rcases clr_at h3 with rfl | ⟨h7, _⟩
      · cases h5
      · exact R.lone i k l v h6 h2 ⟨s, h7, h5⟩ h4
theorem Rep.put {hd : Addr → Prop} {σ : L2.St} {ρ : Env} {H : Hp} {i : Nat} {s : Slot} {v : Option V} (R : Rep G nb hd σ ρ H) (no : isOwn s = false) (a : SlotAt G hd H s v) : Rep G nb hd (σ.set i v) (ρ.set i s) H := by
  have hl := R.len
  have put : ∀ {k : Nat} {s' : Slot}, (ρ.set i s)[k]? = some s' → (k = i ∧ s' = s) ∨ (i ≠ k ∧ ρ[k]? = some s') := fun {k s'} h => by
    by_cases hk : i = k
    · rw [← hk] at h
      by_cases hi : i < ρ.length
      · rw [List.getElem?_set_self hi] at h
        exact .inl ⟨hk.symm, (Option.some.inj h).symm⟩
      · rw [List.getElem?_eq_none (by rw [List.length_set]; omega)] at h
        cases h
    · rw [List.getElem?_set_ne hk] at h
      exact .inr ⟨hk, h⟩
  refine ⟨R.j, R.m, R.live, by rw [List.length_set, List.length_set]; exact R.len, fun k s' v' h1 h2 => ?_, fun k m l v' h1 h2 h3 h4 => ?_⟩
  · rcases put h1 with ⟨rfl, rfl⟩ | ⟨ne, h3⟩
    · by_cases hi : k < σ.length
      · rw [List.getElem?_set_self hi] at h2
        cases h2
        exact a
      · rw [List.getElem?_eq_none (by rw [List.length_set]; omega)] at h2
        cases h2
    · rw [List.getElem?_set_ne ne] at h2
      exact R.at_ k s' v' h3 h2
  · obtain ⟨s', h3, h5⟩ := h3
    rcases put h1 with ⟨_, rfl⟩ | ⟨n1, h6⟩
    · cases no
    · rcases put h3 with ⟨_, rfl⟩ | ⟨n2, h7⟩
      · rw [no] at h5
        cases h5
      · rw [List.getElem?_set_ne n1] at h2
        rw [List.getElem?_set_ne n2] at h4
        exact R.lone k m l v' h6 h2 ⟨s', h7, h5⟩ h4
end
section
variable {X : Cx} {G : Gl} {W : WX} {hs : Hid}
theorem SRep.clear {x x' : Option (Addr × Value × Option Addr)} {y : Option (Addr × Up)} {hd : Addr → Prop} {σ : L2.St} {ρ : Env} {H : Hp} (R : SRep X (G.to x' y) hs nb hd σ ρ H) : SRep X (G.to x y) hs nb hd σ (clr ρ) H := by
  refine ⟨R.rep.clear, ?_, R.sub, R.old, R.selfs, fun k l a h1 h2 => ?_⟩
  · have := R.lead
    rw [leadS_er] at this ⊢
    exact this
  · rcases clr_at h1 with z | ⟨h3, _⟩
    · cases z
    · exact R.mine k l a h3 h2
theorem SRep.put {hd : Addr → Prop} {σ : L2.St} {ρ : Env} {H : Hp} {i : Nat} {s : Slot} {v : Option V} (R : SRep X G hs nb hd σ ρ H) (no : isOwn s = false) (a : SlotAt G hd H s v) : SRep X G hs nb hd (σ.set i v) (ρ.set i s) H := by
  refine ⟨R.rep.put no a, R.lead, R.sub, R.old, R.selfs, fun k l b h1 h2 => ?_⟩
  by_cases hk : i = k
  · rw [← hk] at h1
    by_cases hi : i < ρ.length
    · rw [List.getElem?_set_self hi] at h1
      cases h1
      cases no
    · rw [List.getElem?_eq_none (by rw [List.length_set]; omega)] at h1
      cases h1
  · rw [List.getElem?_set_ne hk] at h1 h2
    exact R.mine k l b h1 h2
/-- the same of a context with the same heap at its entry -/
theorem SRep.cx {Y : Cx} {hd : Addr → Prop} {σ : L2.St} {ρ : Env} {H : Hp} (e : Y.H_0 = X.H_0) (R : SRep X G hs nb hd σ ρ H) : SRep Y G hs nb hd σ ρ H := by
  refine ⟨R.rep, by rw [e]; exact R.lead, R.sub, by rw [e]; exact R.old, R.selfs, fun k l a h1 h2 => ?_⟩
  have := R.mine k l a h1 h2
  cases l with
  | obj c ns r => exact this
  | lst r =>
    show newIn Y.H_0 a
    rw [e]
    exact this
  | dic ks vs =>
    show newIn Y.H_0 a
    rw [e]
    exact this
  | dicN ks vs =>
    show newIn Y.H_0 a
    rw [e]
    exact this
theorem oQ.cx {Y : Cx} {Dn : Ends} {hd : Addr → Prop} {H : Hp} (e : Y.H_0 = X.H_0) : ∀ {o : Out} {nb : Nat}, oQ X G W hs Dn hd H o nb → oQ Y G W hs Dn hd H o nb
  | .nx _, _, h => fun hd σ H R x => h hd σ H (R.cx e.symm) x
  | .ret _, _, h => fun v H j l a => h v H j (by rw [← e]; exact l) a
  | .brk _, _, h => fun hd σ H R x => h hd σ H (R.cx e.symm) x
  | .ct _, _, h => fun hd σ H R x => h hd σ H (R.cx e.symm) x
  | .rz _ _ _, _, h => fun hd cls dx σ H R x => h hd cls dx σ H (R.cx e.symm) x
theorem tSS.cx {Y : Cx} {s : Sm} {Dn : Ends} {σ : L2.St} {H : Hp} (e : Y.H_0 = X.H_0) (h : tSS X G W hs s Dn σ H) : tSS Y G W hs s Dn σ H := by
  obtain ⟨nb, ρ, hd, R, q⟩ := h
  exact ⟨_, ρ, hd, R.cx e, T.wp_imp q fun o _ z => z.cx e⟩

/-! ### try -/
/-- the end of a suite: its error's name is gone -/
def outT (i : Nat) : Out → T Out
  | .nx ρ => .ret (.nx ((clr ρ).set i .none))
  | .ret d => .ret (.ret d)
  | .brk ρ => .ret (.brk ((clr ρ).set i .none))
  | .ct ρ => .ret (.ct ((clr ρ).set i .none))
  | .rz _ _ _ => .bad
def sTry (i : Nat) (m : Nat → Option Bool) (s u : Sm) : Sm := fun ρ => s ρ >>= fun o => match o with
  | .rz c l ρ' => match m c with
    | some true => u ((clr ρ').set i (.err c l)) >>= outT i
    | some false => .ret (.rz c l ρ')
    | none => .bad
  | o => .ret o
theorem ss_try {x n : Str} {c : Value} {i : Nat} {m : Nat → Option Bool} {body suite : List Stmt} {b₀ : Stmt} {np pos pos' : Pos} {s u : Sm} (h1 : X.stack = X.env :: X.outer) (h2 : X.env.frame = some X.env.locals) (hN : X.N.Nodup) (hi : X.N[i]? = some n) (hln : X.env.kindOf n = some .local) (hc : Names X x c) (tk : Takes X W)
    (hm : ∀ k b, m k = some b → PySem.W.exmOne X.K (.ref (G.cls k)) c = some b)
    (hb : ∀ (W : WX) (pn : List (Addr × Obj)) (xe : Value → Shared → Prop), Takes (X.tr pn xe) W → SSs (X.tr pn xe) G W hs body s)
    (hu : ∀ (a : Addr) (oe : Obj) (cls : Value) (d : Option Addr) (pn : List (Addr × Obj)), Zc cls d oe → (∃ vs, oe.data = .fields vs) → SSs (X.suite a ((a, oe) :: pn)) (G.to (some (a, cls, d)) G.fa) (fun _ _ _ _ => False) hs (b₀ :: suite) u) :
    SS X G W hs (.Try body [.ExceptHandler (some (.Name x np)) (some n) (b₀ :: suite) pos'] [] [] pos) (sTry i m s u) := by
  refine PS_imp (ps_try_as (i := i) (tb := fun W => tSS X G W hs s) (ts := fun a cls d => tSS X (G.to (some (a, cls, d)) G.fa) (fun _ _ _ _ => False) hs u) h1 h2 hN hi hln hc tk
    (fun W pn xe tk' _ => PSs_imp (hb W pn xe tk') fun Dn σ H q => tSS.cx (X := X) (Y := X.tr pn xe) rfl q) (fun a oe cls d pn z f => PSs_imp (hu a oe cls d pn z f) fun Dn σ H q => tSS.cx (X := X) (Y := X.suite a ((a, oe) :: pn)) rfl q)) fun Dn σ H q => ?_
  obtain ⟨nb, ρ, hd, R, q⟩ := q
  refine ⟨_, ρ, hd, R, T.wp_imp (wp_then q) fun o nb q1 => ?_⟩
  cases o with
  | nx ρ' => exact q1
  | ret d => exact q1
  | brk ρ' => exact q1
  | ct ρ' => exact q1
  | rz k l ρ' =>
    intro hd1 cls dx σ1 H1 R1 x1 E1
    have q2 : (match m k with
      | some true => u ((clr ρ').set i (.err k l)) >>= outT i
      | some false => T.ret (.rz k l ρ')
      | none => .bad).wp nb (oQ X G W hs Dn hd H) (fun _ _ _ => False) := q1
    cases e : m k with
    | none =>
      rw [e] at q2
      exact q2.elim
    | some b =>
      rw [e] at q2
      have ex := hm k b e
      have ecls := E1.1
      refine ⟨b, by rw [ecls]; exact ex, fun hb' a na => ?_, fun hb' => ?_⟩
      · rw [hb'] at q2
        have S1 : SRep X (G.to (some (a, cls, dx)) G.fa) hs nb hd1 σ1 (clr ρ') H1 := SRep.clear (x' := G.ea) R1
        have S2 := S1.put (i := i) (s := .err k l) (v := some (.ref a)) rfl ⟨a, cls, dx, rfl, rfl, by rw [err_er]; exact E1⟩
        refine ⟨_, _, hd1, S2, T.wp_imp (wp_then q2) fun o _ z => ?_⟩
        have back : ∀ {nb : Nat} {hd2 : Addr → Prop} {σ2 : L2.St} {ρ2 : Env} {H2 : Hp}, SRep X (G.to (some (a, cls, dx)) G.fa) hs nb hd2 σ2 ρ2 H2 → SRep X G hs nb hd2 (σ2.set i none) ((clr ρ2).set i .none) H2 := fun {nb hd2 σ2 ρ2 H2} S => by
          have S3 : SRep X (G.to G.ea G.fa) hs nb hd2 σ2 (clr ρ2) H2 := S.clear
          exact SRep.put (G := G) S3 rfl trivial
        cases o with
        | nx ρ2 => exact fun hd2 σ2 H2 S x2 => z hd2 _ H2 (back S) (x1.trans x2)
        | ret d =>
          intro v H2 j L2' a2
          rw [leadS_er] at L2'
          exact z v H2 j L2' a2.re
        | brk ρ2 => exact fun hd2 σ2 H2 S x2 => z hd2 _ H2 (back S) (x1.trans x2)
        | ct ρ2 => exact fun hd2 σ2 H2 S x2 => z hd2 _ H2 (back S) (x1.trans x2)
        | rz k2 l2 ρ2 => exact z.elim
      · rw [hb'] at q2
        exact q2 hd1 cls dx σ1 H1 R1 x1 E1
end
end Py
set_option Elab.async false
set_option linter.all false
set_option maxRecDepth 100000
set_option maxHeartbeats 4000000
namespace Py
namespace Er
open PySem PySem.W PySem.Spec PySem.Calls PyProof.Rows
/-- what isinstance asks of the class D of a caught error -/
structure Asked (K : Frag) (D : Addr) : Prop where
  ga : findIn K (.ref D) "__getattribute__" = some (some (.builtin "BaseException.__getattribute__"))
  gg : findIn K (.ref D) "__getattr__" = some none
  sub : subIn K (.ref D) (.type "BaseException") = some true
  dict : hasDictIn K D = true
  kl : findIn K (.ref D) "__class__" = some (some (.builtin "object.__class__"))
  get : specialIn K (.builtin "object.__class__") "__get__" = some (some (.builtin "getset_descriptor.__get__"))
  set : takesIn K (.builtin "object.__class__") = some true
  obj : mroIn K D (.type "object") = some true
section
variable {prog : Program} {w : World} {A : Around} {E : Value → Shared → Prop} {s : Shared} {K : Frag} {x D : Addr} {ox : Obj}
theorem Asked.there (T : Asked K D) : ∃ cd, clsIn K D = some cd := by
  obtain ⟨cd, h, _⟩ := any_some T.dict
  exact ⟨cd, h⟩
theorem class_of {od : Obj} {Q : Option Value → Shared → Prop} (T : Asked K D) (kin : K.In s.heap) (at_ : InstAt s.heap x ox D (some od)) (k : Q (some (.ref D)) { s with toks := s.toks + 1 }) :
    wpAny (model prog w) A (getAttr? (.ref x) "__class__") Q E s := by
  obtain ⟨cd, hc⟩ := T.there
  have fo : findObj K D (some od) "__class__" = some (.bind (.builtin "getset_descriptor.__get__") (.builtin "object.__class__")) := findObj_data (by rw [hc]; rfl) T.kl T.get T.set
  obtain ⟨hp, gs, dr, tk, os⟩ := s
  have l0 := at_.type (M := model prog w)
  have lga := looks_findIn (M := model prog w) kin T.ga
  have lgg := looks_findIn (M := model prog w) kin T.gg
  have lf := looks_find (M := model prog w) kin at_ fo
  have isB : Looks (model prog w) hp (isInstance (.ref x) (.type "BaseException")) true := l0.andThen (looks_subIn kin T.sub)
  have n1 : (Value.builtin "BaseException.__getattribute__" == Value.builtin "object.__getattribute__") = false := by decide +kernel
  have n2 : (onTheHeap (Value.ref D) && Value.builtin "BaseException.__getattribute__" == Value.builtin "object.__getattribute__") = false := by
    rw [n1]
    rfl
  have n3 : (false && onTheHeap (Value.builtin "BaseException.__getattribute__")) = false := rfl
  unfold getAttr? getAttrBy? getAttrBy
  refine wpAny_bind (wpAny_mkText (wpAny_bind (wpAny_attempt (wpAny_holding ?_))))
  refine wpAny_bind (l0.at (wpAny_bind (lga.at ?_)))
  show wpAny _ _ (if (onTheHeap (Value.ref D) && Value.builtin "BaseException.__getattribute__" == Value.builtin "object.__getattribute__") = true then _
    else _) _ _ _
  rw [n2, if_neg Bool.false_ne_true]
  unfold getAttrByItsOwn hookBefore
  refine wpAny_bind ?_
  rw [if_pos (show onTheHeap (Value.ref D) = true by rfl)]
  refine lgg.at (wpAny_bind (wpAny_attempt (wpAny_holding ?_)))
  unfold callGetattribute
  rw [n3, if_neg Bool.false_ne_true]
  unfold boundAndCalled
  have bs := PySem.F.excAttr_ValueError.ga
  rw [bs.bind (.ref x)]
  refine wpAny_bind (wpAny_pure ?_)
  show wpAny _ _ (call (.builtin "BaseException.__getattribute__") [.ref x, .str "__class__" tk])
    _ _ _
  refine wpAny_call (codeAny_call_builtin bs.plain PySem.F.entry_bexc_ga ?_)
  have ar := PySem.F.args_bexc_ga (.ref x) (.str "__class__" tk)
  refine @check_slot (model prog w) _ _ ⟨hp, gs, dr, tk + 1, os⟩ "BaseException.__getattribute__" "BaseException" "__getattribute__" (.ref x)
    [.str "__class__" tk] [] _ (by decide +kernel) (by decide +kernel) isB ar ?_
  unfold Builtin.«object.__getattribute__»
  refine wpAny_bind (wpAny_of_eq (a := ((Value.ref x : Value), [Value.str "__class__" tk])) (by first | rfl | (simp only [slotArgs]; rfl)) ?_)
  refine wpAny_bind (wpAny_pure (wpAny_bind ?_))
  refine l0.at (wpAny_bind (lf.at ?_))
  show wpAny _ _ (holding [Value.builtin "object.__class__"] (call (.builtin "getset_descriptor.__get__") [.builtin "object.__class__", .ref x, .ref D])
    >>= ret) _ _ _
  refine wpAny_bind (wpAny_holding (wpAny_call (class_get (s := ⟨hp, gs, dr, tk + 1, os⟩) (od := some od) kin at_ T.obj ?_)))
  refine wpAny_pure ?_
  show wpAny _ _ (handedOut (.ref D)) _ _ _
  rw [handedOut_of (v := .ref D) rfl]
  first
    | exact wpAny_pure (wpAny_pure k)
    | exact wpAny_pure k
    | exact wpAny_pure (wpAny_bind (wpAny_pure (wpAny_pure k)))
theorem kit (T : Asked K D) {od : Obj} : KitX K (.ref x) (.ref D) (fun h => InstAt h x ox D (some od)) where
  ty := fun _ _ _ at_ => at_.type
  it := fun _ _ kin _ => by
    obtain ⟨cd, hc⟩ := T.there
    unfold clsIn at hc
    split at hc
    · rename_i c' d' cd' sl' ho
      intro A' Q' E' s' kp q
      unfold isType loadHead
      exact wpAny_bind (wpAny_loadPart (kp _ _ (kin _ _ ho)) (wpAny_pure q))
    · cases hc
  ne := fun h tp dd its n sl kin e => by
    obtain ⟨cd, hc⟩ := T.there
    unfold clsIn at hc
    split at hc
    · rename_i c' d' cd' sl' ho
      refine Bool.eq_false_iff.mpr fun q => ?_
      have z : D = tp := Value.ref.inj (beq_iff_eq.mp q)
      subst z
      have z := (kin _ _ ho).symm.trans e
      cases z
    · cases hc
  ca := fun kin at_ k => class_of T kin at_ k
end
end Er
open PySem PySem.Spec L2 PyProof.Rows
section
variable {X : Cx} {G : Gl} {W : WX} {hs : Hid}
/-! ### the error of a suite -/
/-- the error's own field -/
def gXf (i c k : Nat) : Env → T D := fun ρ => match ρ[i]? with
  | some (.err c' l) => if c' = c then opt l[k]? else .bad
  | _ => .bad
theorem err_at {hd : Addr → Prop} {σ : L2.St} {ρ : Env} {H : Hp} {i c : Nat} {l : List D} (R : Rep G nb hd σ ρ H) (e : ρ[i]? = some (.err c l)) : ∃ a cls dx, σ[i]? = some (some (.ref a)) ∧ G.ea = some (a, cls, dx) ∧ ErrAt G (hide hd H) c l cls dx := by
  have hi : i < σ.length := by
    rw [← R.len]
    exact (List.getElem?_eq_some_iff.mp e).1
  obtain ⟨a, cls, dx, e1, e2, r⟩ := R.at_ i _ _ e (List.getElem?_eq_getElem hi)
  exact ⟨a, cls, dx, by rw [List.getElem?_eq_getElem hi, e1], e2, r⟩
theorem gXf_wp {i c k : Nat} {ρ : Env} {nb : Nat} {Q : D → Nat → Prop} {E : Nat → List D → Nat → Prop} (h : (gXf i c k ρ).wp nb Q E) : ∃ l d, ρ[i]? = some (.err c l) ∧ l[k]? = some d ∧ Q d nb := by
  unfold gXf at h
  cases e : ρ[i]? with
  | none =>
    rw [e] at h
    exact h.elim
  | some s =>
    rw [e] at h
    cases s with
    | err c' l =>
      obtain ⟨hc, q⟩ := wp_if h
      subst hc
      obtain ⟨d, e1, q⟩ := wp_opt q
      exact ⟨l, d, rfl, e1, q⟩
    | _ => exact h.elim
theorem ee_xf {a : Addr} {oe : Obj} {cls : Value} {d : Option Addr} {y0 : Option (Addr × Up)} {pn : List (Addr × Obj)} {e : Expr} {i c k : Nat} {f : Str} {pos : Pos} (T : XfC X.K (G.cls c)) (hno : PySem.W.findIn X.K (.ref (G.cls c)) f = some none) (hk : nsIx (G.flds c) f = some k)
    (hz : Zc cls d oe) (hf : ∃ vs, oe.data = .fields vs) (he : PE (X.suite a ((a, oe) :: pn)) e (tVar i)) (hb : attributeBase e f X.env (eval e X.env) = eval e X.env := by rfl) :
    EE (X.suite a ((a, oe) :: pn)) (G.to (some (a, cls, d)) y0) W (.Attribute e f pos) (gXf i c k) := by
  refine PE_imp (pe_xf T hno hz hf he hb) fun σ H Q q => ?_
  obtain ⟨nb, ρ, hd, R, q⟩ := q
  obtain ⟨l, y, e1, e2, q⟩ := gXf_wp q
  obtain ⟨a', cls', dx', e3, e4, r⟩ := err_at R e1
  have e4 : some (a, cls, d) = some (a', cls', dx') := e4
  cases e4
  obtain ⟨e5, r⟩ := r
  rcases r with ⟨e6, _⟩ | ⟨dx, fs, e6, e7, e8, r⟩
  · have e6 : G.flds c = [] := e6
    rw [e6] at hk
    cases hk
  · have e8 : fs.map (·.1) = G.flds c := e8
    obtain ⟨v, e9, av⟩ := r.get' e2
    exact ⟨.ref a, e3, rfl, e5, dx, fs, v, e6, hide_sub _ _ e7, by rw [lookup_ix (by rw [e8]; exact hk), e9], q v H (Lead.refl H) av⟩
/-- isinstance(e, C) of it -/
def gXi (i : Nat) (m : Nat → Option Bool) : Env → T D := fun ρ => match ρ[i]? with
  | some (.err c _) => opt ((m c).map D.bl)
  | _ => .bad
theorem gXi_wp {i : Nat} {m : Nat → Option Bool} {ρ : Env} {nb : Nat} {Q : D → Nat → Prop} {E : Nat → List D → Nat → Prop} (h : (gXi i m ρ).wp nb Q E) : ∃ c l b, ρ[i]? = some (.err c l) ∧ m c = some b ∧ Q (.bl b) nb := by
  unfold gXi at h
  cases e : ρ[i]? with
  | none =>
    rw [e] at h
    exact h.elim
  | some s =>
    rw [e] at h
    cases s with
    | err c' l =>
      obtain ⟨d, e1, q⟩ := wp_opt h
      cases e2 : m c' with
      | none =>
        rw [e2] at e1
        cases e1
      | some b =>
        rw [e2] at e1
        cases e1
        exact ⟨c', l, b, rfl, e2, q⟩
    | _ => exact h.elim
def rXi (K : PySem.W.Frag) (cls : Value) (d : Option Addr) (a : Addr) : List V → Hp → VK → Prop := fun xs H Q => ∃ (D dd : Addr) (fs : List (Str × V)) (c : V) (u : Value) (b : Bool), cls = .ref D ∧ d = some dd ∧ H dd = some (.xd fs) ∧ Er.Asked K D ∧
  xs = [.ref a, c] ∧ ClsV c u ∧ PySem.W.kitOne K (.ref D) u = some b ∧ Q (.bl b) H
theorem call_xi {a : Addr} {oe : Obj} {cls : Value} {d : Option Addr} {pn : List (Addr × Obj)} (hz : Zc cls d oe) (hf : ∃ vs, oe.data = .fields vs) : CallR (X.suite a ((a, oe) :: pn)) (.builtin "isinstance") (rXi X.K cls d a) := by
  intro pins s σ H xs us Q I r h
  obtain ⟨D, dd, fs, c, u, b, rfl, rfl, ed, T, rfl, k, e, q⟩ := h
  obtain ⟨u1, u2, rfl, r1, r2⟩ := vals2 r
  cases (show u1 = Value.ref a from r1)
  have e2 := k.eq r2
  subst e2
  obtain ⟨hget, _⟩ := I.pin (a, oe) (List.mem_append_left _ List.mem_cons_self)
  obtain ⟨vs, hd⟩ := hf
  have hx : ObjOk X.prog X.w H s.heap dd (.xd fs) := I.hok dd _ ed
  obtain ⟨mA, hns, _⟩ := hx
  obtain ⟨od, ho, _⟩ := lookIn_ns hns
  have J : PySem.W.InstAt s.heap a oe D (some od) := ⟨hget, hz.1, by unfold PySem.W.notCls; rw [hd] <;> rfl, by rw [hz.2]; exact ho⟩
  exact PySem.W.kia_one (Er.kit T) I.kIn J e (fun z => nomatch z) fun tk => ⟨.bl b, H, I.kept (t' := tk) fun _ _ z => z, rfl, q⟩
theorem ee_xi {a : Addr} {oe : Obj} {cls : Value} {d : Option Addr} {y0 : Option (Addr × Up)} {pn : List (Addr × Obj)} {e c : Expr} {i : Nat} {p pos : Pos} {cv : V} {u : Value} {m : Nat → Option Bool} (hm : ∀ k b, m k = some b → G.flds k ≠ [] ∧ Er.Asked X.K (G.cls k) ∧ PySem.W.kitOne X.K (.ref (G.cls k)) u = some b)
    (hz : Zc cls d oe) (hf : ∃ vs, oe.data = .fields vs) (hg : L2.Gl X "isinstance") (hm' : X.mg "isinstance" = none) (he' : PE (X.suite a ((a, oe) :: pn)) e (tVar i)) (hc : PE (X.suite a ((a, oe) :: pn)) c (tC cv)) (k : ClsV cv u)
    (he : starEach [e, c] X.env = (false, eval e X.env) :: starEach [c] X.env := by rfl) (hec : starEach [c] X.env = (false, eval c X.env) :: starEach [] X.env := by rfl) (hpl : (backTo pos (starEach [c] X.env)).any (·.1) = false := by rfl) :
    EE (X.suite a ((a, oe) :: pn)) (G.to (some (a, cls, d)) y0) W (.Call (.Name "isinstance" p) [e, c] [] pos) (gXi i m) := by
  have hg' : L2.Gl (X.suite a ((a, oe) :: pn)) "isinstance" := hg
  refine PE_imp (pe_callB (call_xi hz hf) hg' hm' (by decide +kernel) (pa_cons he' (pa_cons hc pa_nil hec) he) (by decide) (by decide) he hpl) fun σ H Q q => ?_
  obtain ⟨nb, ρ, hd, R, q⟩ := q
  obtain ⟨n, l, b, e1, e2, q⟩ := gXi_wp q
  obtain ⟨a', cls', dx', e3, e4, r⟩ := err_at R e1
  have e4 : some (a, cls, d) = some (a', cls', dx') := e4
  cases e4
  obtain ⟨e5, r⟩ := r
  obtain ⟨h1, h2, h3⟩ := hm n b e2
  rcases r with ⟨e6, _⟩ | ⟨dx, fs, e6, e7, e8, r⟩
  · exact absurd e6 h1
  · exact ⟨.ref a, e3, G.cls n, dx, fs, cv, u, b, e5, e6, hide_sub _ _ e7, h2, rfl, k, h3, q (.bl b) H (Lead.refl H) .bl⟩
end
end Py
set_option Elab.async false
set_option linter.all false
set_option maxRecDepth 100000
set_option maxHeartbeats 4000000
namespace Py
open PySem PySem.Spec PyProof.Rows L2 LamX
/-! ### a lambda without parameters, handed to a def with one -/
section
variable {X : Cx} {pins : List (Addr × Obj)} {σ : L2.St} {H : Hp} {s : Shared}
/-- the lambda's name -/
abbrev lq (X : Cx) : Str := X.env.qual ++ "<lambda>"
abbrev lobj (X : Cx) (ps : Arguments) (b : Expr) (sc : Scope) (pm : Value) (c' : Addr) (ct : Value) : Obj := PySem.W.kla_obj "<lambda>" (lq X) ps b sc (cloFrom X.env.cells sc.names []) pm c' ct
end
/-- what a lambda sees of the slots -/
def seen (ρ : Env) : Env := ρ.map fun s => match s with
  | .val d => .val d
  | _ => .none
/-- what the lambda wants: its code object, the values that it sees -/
def wants (G : Gl) (q : Str) (c' : Addr) (σ : L2.St) (ρ : Env) : Up := ⟨fun H => H c' = some (CodeO c' q) ∧ ∀ (i : Nat) (d : D) (v : Option V), ρ[i]? = some (.val d) → σ[i]? = some v → ∃ x, v = some x ∧ At G H d x,
  fun H H' e h => ⟨e _ _ h.1, fun i d v h1 h2 => by
    obtain ⟨x, e1, a⟩ := h.2 i d v h1 h2
    exact ⟨x, e1, a.mono e⟩⟩⟩
section
variable {X : Cx} {G : Gl} {W : WX}
end
end Py
set_option Elab.async false
set_option linter.all false
set_option maxRecDepth 100000
set_option maxHeartbeats 4000000
namespace Py
open PySem PySem.Spec PyProof.Rows L2
section
variable {X : Cx} {G : Gl} {W : WX} {hs : Hid}
/-! ### kinds of values, own classes among them -/
inductive Ty where
  | ty (n : String) | own (c : Nat)
deriving DecidableEq
def tyD : D → Option Ty
  | .obj c _ => some (.own c)
  | d => (kindN d).map .ty
def valT (cls : Nat → Addr) : Ty → Value
  | .ty n => .type n
  | .own c => .ref (cls c)
/-- what isinstance asks of an own class -/
structure OwnC (K : PySem.W.Frag) (C : Addr) : Prop where
  cl : Cls K C
  ha : PySem.W.findIn K (.ref C) "__class__" = some (some (.builtin "object.__class__"))
  hn : PySem.W.specialIn K (.builtin "object.__class__") "__get__" = some (some (.builtin "getset_descriptor.__get__"))
  ht : PySem.W.takesIn K (.builtin "object.__class__") = some true
  hm : PySem.W.mroIn K C (.type "object") = some true
theorem ty_of (hK : G.K = X.K) {H : Hp} {hd : Addr → Prop} {d : D} {x : V} {t : Ty} (own : ∀ c, t = .own c → OwnC X.K (G.cls c)) (a : At G (hide hd H) d x) (e : tyD d = some t) : TyX X.K H x (valT G.cls t) := by
  have gen : (∀ c l, d ≠ .obj c l) → (kindN d).map Ty.ty = some t → TyX X.K H x (valT G.cls t) := fun _ e => by
    cases q : kindN d with
    | none =>
      rw [q] at e
      cases e
    | some n =>
      rw [q] at e
      cases e
      exact kind_ty hK a q
  cases d with
  | obj c l =>
    have e : some (Ty.own c) = some t := e
    cases e
    have o := own c rfl
    cases a with
    | obj h1 h2 h3 => exact .base (.ins (hide_sub _ _ h1) o.cl o.ha o.hn o.ht o.hm)
  | non => exact gen (fun _ _ z => nomatch z) e
  | bl b => exact gen (fun _ _ z => nomatch z) e
  | int i => exact gen (fun _ _ z => nomatch z) e
  | str y => exact gen (fun _ _ z => nomatch z) e
  | tup l => exact gen (fun _ _ z => nomatch z) e
  | lst l => exact gen (fun _ _ z => nomatch z) e
  | dic k v => exact gen (fun _ _ z => nomatch z) e
  | dicN k v => exact gen (fun _ _ z => nomatch z) e
  | deck => exact gen (fun _ _ z => nomatch z) e
/-- isinstance against u, by the value's kind -/
def ansD (tab : Ty → Option Bool) : D → Option Bool
  | .dicN _ _ => tab (.ty "dict")
  | d => (tyD d).bind tab
theorem ans_d (hK : G.K = X.K) {u : Value} {tab : Ty → Option Bool} (own : ∀ c, (tab (.own c)).isSome = true → OwnC X.K (G.cls c)) (h : ∀ t b, tab t = some b → PySem.W.kitOne X.K (valT G.cls t) u = some b) : Answers X G u (ansD tab) := fun H hd d x b a e => by
  have gen : (tyD d).bind tab = some b → ∃ t, (TyX X.K H x t ∨ (t = .type "dict" ∧ IsDNx H x)) ∧ PySem.W.kitOne X.K t u = some b := fun e => by
    cases q : tyD d with
    | none =>
      rw [q] at e
      cases e
    | some t =>
      rw [q] at e
      have e : tab t = some b := e
      refine ⟨_, .inl (ty_of hK (fun c z => own c ?_) a q), h t b e⟩
      rw [← z, e]
      rfl
  cases d with
  | dicN ks vs =>
    have e : tab (.ty "dict") = some b := e
    cases a with
    | dicN h1 h2 h3 h4 => exact ⟨_, .inr ⟨rfl, _, _, _, _, rfl, hide_sub _ _ h1⟩, h _ b e⟩
  | _ => exact gen e

/-! ### own == and len -/
theorem run_any {A : Around} {k : Nat} {f : Addr} {fd : FuncData} {ps : List Str} {sp : Sp} {pins : List (Addr × Obj)} {σ : L2.St} {H : Hp} {s : Shared} {Q : VK} {us : List Value} {vs : List V} (F : FnOk X.prog X.w X.K X.mg X.base (L2.CX X.prog X.w) k f fd ps sp) (hA : A.frames = X.A.frames) (hr : Room k A) (hb : Binds X.K fd ps [])
    (I : Inv X pins σ H s) (r : Vals vs us) (h : sp vs H Q (fun _ _ _ => False)) : wpAny (model X.prog X.w) A (call (.ref f) us) (EP X pins σ Q) X.xe s := by
  have e := I.env0
  have e0 : Env0 X.prog X.w X.K X.mg X.base A X.stack s H := ⟨hA.trans e.frames, e.mod, e.bs, e.bsz, e.funs, e.frf, e.hok, e.bare⟩
  have hl : us.length = ps.length := by
    rw [← r.length]
    exact F.len _ _ _ _ h
  have b := hb s us I.kIn (by rw [List.append_nil]; exact hl)
  rw [List.append_nil] at b
  refine wpAny_call (codeAny_mono (F.run A X.stack s H ⟨us, []⟩ us vs Q _ hr e0 b r h) fun r s' hq => ?_)
  cases r with
  | error e =>
    obtain ⟨_, _, _, _, _, _, _, _, _, _, _, _, z⟩ := hq
    exact z.elim
  | ok fl =>
    cases fl with
    | ret u => exact I.after hq
    | next => exact hq.elim
    | brk => exact hq.elim
    | cont => exact hq.elim
/-- x == y by the own __eq__ of the left one -/
def eqO (c : Nat) (ok : Ty → Bool) (m : List D → T D) (a b : D) : T D := match a, tyD b with
  | .obj c' l, some t => if c' = c ∧ ok t = true then noexc (m [.obj c' l, b]) >>= fun d => match d with
    | .bl r => .ret (.bl r)
    | _ => .bad else .bad
  | _, _ => .bad
end
end Py
set_option Elab.async false
set_option linter.all false
set_option maxRecDepth 100000
set_option maxHeartbeats 4000000
namespace Py
open PySem PySem.Spec L2
section
variable {X : Cx} {G : Gl} {W : WX} {hs : Hid}
/-! ### new things of the def's own, among values -/
/-- later, perhaps with more hidden -/
structure Wider (G : Gl) (b b' : Nat) (hd : Addr → Prop) (H : Hp) (hd' : Addr → Prop) (H' : Hp) : Prop where
  lead : Lead G b b' H H'
  good : Good G b' hd' H'
  sub : ∀ a, hd a → hd' a
  ex : Ex (hide hd H) (hide hd' H')
theorem Wider.refl {hd : Addr → Prop} {H : Hp} (g : Good G nb hd H) : Wider G nb nb hd H hd H := ⟨Lead.refl H, g, fun _ h => h, Ex.refl _⟩
theorem Wider.trans {h0 h1 h2 : Addr → Prop} {H0 H1 H2 : Hp} (a : Wider G n0 n1 h0 H0 h1 H1) (b : Wider G n1 n2 h1 H1 h2 H2) : Wider G n0 n2 h0 H0 h2 H2 := ⟨a.lead.trans b.lead, b.good, fun x h => b.sub x (a.sub x h), a.ex.trans b.ex⟩
theorem Wider.of {hd : Addr → Prop} {H H' : Hp} (g : Good G nb hd H) (e : Lead G nb n' H H') : Wider G nb n' hd H hd H' := ⟨e, g.lead e, fun _ h => h, e.hide g.m⟩
/-- a new thing p -/
theorem Wider.new {hd : Addr → Prop} {H : Hp} {p : Addr} {o : HO} (g : Good G nb hd H) (hp : H p = none) (t : Plain o) : Wider G nb nb hd H (orIs hd p) (upd H p o) := by
  have e : Lead G nb nb H (upd H p o) := Lead.new hp
  refine ⟨e, ⟨e.j g.j, fun a m => .inl (g.m a m), g.live.more hp t⟩, fun a h => .inl h, fun a u z => ?_⟩
  have zn := hide_nt z
  obtain ⟨n, z⟩ := hide_get z
  have np : a ≠ p := ne_of_none z hp
  exact hide_put (fun y => y.elim n np) (by rw [upd_ne np]; exact z) zn
theorem SlotAt.wide {hd hd' : Addr → Prop} {H H' : Hp} {s : Slot} {v : Option V} (w : Wider G nb n' hd H hd' H') (h : SlotAt G hd H s v) : SlotAt G hd' H' s v := by
  cases s with
  | none => trivial
  | val d =>
    obtain ⟨x, e, a⟩ := h
    exact ⟨x, e, a.mono w.ex⟩
  | own o =>
    obtain ⟨a, e, h1, nm, u, e2, r⟩ := h
    exact ⟨a, e, w.sub a h1, nm, u, w.lead.ex a _ nm r.nt e2, r.mono w.ex⟩
  | err c l =>
    obtain ⟨a, cls, dx, e1, e2, r⟩ := h
    exact ⟨a, cls, dx, e1, e2, r.mono w.ex⟩
  | thk =>
    obtain ⟨f, Q, e1, e2, r⟩ := h
    exact ⟨f, Q, e1, e2, Q.2 _ _ w.ex r⟩
  | fn _ =>
    obtain ⟨f, Q, e1, e2, r⟩ := h
    exact ⟨f, Q, e1, e2, Q.2 _ _ w.ex r⟩
theorem Rep.wide {hd hd' : Addr → Prop} {σ : L2.St} {ρ : Env} {H H' : Hp} (R : Rep G nb hd σ ρ H) (w : Wider G nb n' hd H hd' H') : Rep G n' hd' σ ρ H' := ⟨w.good.j, w.good.m, w.good.live, R.len, fun i s v h1 h2 => (R.at_ i s v h1 h2).wide w, R.lone⟩
theorem SRep.wide {hd hd' : Addr → Prop} {σ : L2.St} {ρ : Env} {H H' : Hp} (R : SRep X G hs nb hd σ ρ H) (w : Wider G nb n' hd H hd' H') : SRep X G hs n' hd' σ ρ H' := ⟨R.rep.wide w, R.lead.trans w.lead, fun a h => w.sub a (R.sub a h), R.old, R.self_to w.lead, R.mine⟩
def NotObj (o : Ow) : Prop := ∀ c ns l, o ≠ .obj c ns l
/-- items of a tuple: values, new things at as -/
inductive Items (G : Gl) (H0 : Hp) (hd : Addr → Prop) (H : Hp) : List Slot → List V → List Addr → Prop
  | nil : Items G H0 hd H [] [] []
  | val {d v ss vs as} : At G (hide hd H) d v → Items G H0 hd H ss vs as → Items G H0 hd H (.val d :: ss) (v :: vs) as
  | own {o a ss vs as} : OwAt G hd H o a → NotObj o → newIn H0 a → a ∉ as → Items G H0 hd H ss vs as → Items G H0 hd H (.own o :: ss) (.ref a :: vs) (a :: as)
theorem Items.wide {H0 : Hp} {hd hd' : Addr → Prop} {H H' : Hp} (w : Wider G nb n' hd H hd' H') : ∀ {ss : List Slot} {vs : List V} {as : List Addr}, Items G H0 hd H ss vs as → Items G H0 hd' H' ss vs as
  | _, _, _, .nil => .nil
  | _, _, _, .val a r => .val (a.mono w.ex) (Items.wide w r)
  | _, _, _, .own (o := o) (a := a) h no n ne r => by
    have z : SlotAt G hd H (.own o) (some (.ref a)) := ⟨a, rfl, h⟩
    obtain ⟨a', e, h'⟩ := z.wide w
    cases e
    exact .own h' no n ne (Items.wide w r)
theorem newIn.back {hd : Addr → Prop} {H H' : Hp} {a : Addr} (e : Lead G nb n' H H') (nm : ¬ G.M a) (n : newIn H' a) : newIn H a := fun o h t => n o (e.ex a o nm t h) t
theorem Items.back {H0 H1 : Hp} {hd : Addr → Prop} {H : Hp} (e : Lead G nb n' H0 H1) : ∀ {ss : List Slot} {vs : List V} {as : List Addr}, Items G H1 hd H ss vs as → Items G H0 hd H ss vs as
  | _, _, _, .nil => .nil
  | _, _, _, .val a r => .val a (Items.back e r)
  | _, _, _, .own h no n ne r => .own h no (newIn.back (hd := hd) e h.2.1 n) ne (Items.back e r)
theorem Items.fresh {H0 : Hp} {hd : Addr → Prop} {H : Hp} : ∀ {ss : List Slot} {vs : List V} {as : List Addr}, Items G H0 hd H ss vs as → ∀ a, a ∈ as → newIn H0 a ∧ ¬ G.M a
  | _, _, _, .nil, a, h => by cases h
  | _, _, _, .val _ r, a, h => Items.fresh r a h
  | _, _, _, .own (a := b) h0 _ n _ r, a, h => by
    rcases List.mem_cons.mp h with rfl | h
    · exact ⟨n, h0.2.1⟩
    · exact Items.fresh r a h
/-- an expression that makes a new thing -/
def tNE (G : Gl) (W : WX) (g : Env → T Ow) : TE := fun σ H Q => ∃ nb ρ hd, Rep G nb hd σ ρ H ∧ (g ρ).wp nb (fun o n' => ∀ p hd' H', NotObj o → Wider G nb n' hd H hd' H' → OwAt G hd' H' o p → newIn H p → Q (.ref p) H') (xE G W hd σ nb H)
abbrev NE (X : Cx) (G : Gl) (W : WX) (e : Expr) (g : Env → T Ow) : Prop := PE X e (tNE G W g)
def tIt (G : Gl) (W : WX) (g : Env → T (List Slot)) : TA := fun σ H Q => ∃ nb ρ hd, Rep G nb hd σ ρ H ∧ (g ρ).wp nb (fun ss n' => ∀ vs as hd' H', Wider G nb n' hd H hd' H' → Items G H hd' H' ss vs as → Q vs H') (xE G W hd σ nb H)
abbrev IT (X : Cx) (G : Gl) (W : WX) (es : List Expr) (g : Env → T (List Slot)) : Prop := PA X es (tIt G W g)
def iNil : Env → T (List Slot) := fun _ => .ret []
def iVal (f : Env → T D) (r : Env → T (List Slot)) : Env → T (List Slot) := fun ρ => f ρ >>= fun d => r ρ >>= fun ss => .ret (.val d :: ss)
theorem xE.wide {hd hd' : Addr → Prop} {σ : L2.St} {H H' : Hp} {c : Nat} {l : List D} (w : Wider G nb n' hd H hd' H') (h : xE G W hd σ nb H c l n2) : xE G W hd' σ n' H' c l n2 := fun cls dx H2 e a => h cls dx H2 (w.lead.trans e) (a.mono (hide_le w.sub))
theorem it_nil : IT X G W [] iNil := PA_imp pa_nil fun σ H Q ⟨nb, ρ, hd, R, q⟩ => q [] [] hd H (Wider.refl R.good) .nil
theorem it_val {e : Expr} {es : List Expr} {f : Env → T D} {r : Env → T (List Slot)} (h : EE X G W e f) (hr : IT X G W es r) (he : starEach (e :: es) X.env = (false, eval e X.env) :: starEach es X.env := by rfl) : IT X G W (e :: es) (iVal f r) := by
  refine PA_imp (pa_cons h hr he) fun σ H Q q => ?_
  obtain ⟨nb, ρ, hd, R, q⟩ := q
  refine ⟨_, ρ, hd, R, T.wp_imp (wp_then q) fun d _ q1 v H1 e1 h1 => ?_⟩
  refine ⟨_, ρ, hd, R.lead e1, T.wp_mono (wp_then q1) (fun ss _ q2 vs as hd' H' w it => ?_) fun c l _ z => xE.lead z e1⟩
  exact q2 (v :: vs) as hd' H' ((Wider.of R.good e1).trans w) (.val (h1.mono w.ex) (it.back e1))
/-- [..], new -/
def oLst (r : Env → T (List D)) : Env → T Ow := fun ρ => r ρ >>= fun l => if l.length ≤ 1000 then .ret (.lst l) else .bad
theorem ne_lst {es : List Expr} {pos : Pos} {r : Env → T (List D)} (h : EA X G W es r) : NE X G W (.List es pos) (oLst r) := by
  refine PE_imp (pe_lst h) fun σ H Q q => ?_
  obtain ⟨nb, ρ, hd, R, q⟩ := q
  refine ⟨_, ρ, hd, R, T.wp_imp (wp_then q) fun l n1 q1 xs H1 e1 h1 => ?_⟩
  obtain ⟨hl, q2⟩ := wp_if q1
  refine ⟨line1000 (by rw [← h1.length]; exact hl), fun p hp => ?_⟩
  have g := R.good.lead e1
  have w2 : Wider G n1 n1 hd H1 (orIs hd p) (upd H1 p (.lst xs)) := Wider.new g hp ⟨(fun _ z => nomatch z), (fun _ _ z => nomatch z)⟩
  have nM : ¬ G.M p := fun m => g.fresh hp (g.m p m)
  refine q2 p _ _ (fun _ _ _ z => nomatch z) ((Wider.of R.good e1).trans w2) ⟨.inr rfl, nM, _, upd_same, xs, rfl, h1.mono w2.ex⟩ (newIn.back (hd := hd) e1 nM fun o z _ => ?_)
  rw [hp] at z
  cases z
/-! ### slots set in a row -/
def gNm : List Nat → TGs
  | [] => L2.gNil
  | i :: r => L2.gCons (gName i) (gNm r)
def setE (ρ : Env) : List Nat → List Slot → Env
  | i :: is, s :: ss => setE (ρ.set i s) is ss
  | _, _ => ρ
theorem set_all {H0 : Hp} {hd : Addr → Prop} {H : Hp} : ∀ {ss : List Slot} {vs : List V} {as : List Addr} {is : List Nat} {σ : L2.St} {ρ : Env} {Q : L2.St → Hp → Prop}, Items G H0 hd H ss vs as → is.length = ss.length → SRep X G hs nb hd σ ρ H → (∀ a, a ∈ as → newIn X.H_0 a) →
    (∀ a, a ∈ as → ∀ (k : Nat) (s : Slot) (v : Option V), ρ[k]? = some s → isOwn s = true → σ[k]? = some v → v ≠ some (.ref a)) → (∀ σ', SRep X G hs nb hd σ' (setE ρ is ss) H → Q σ' H) → gNm is vs σ H Q
  | _, _, _, [], σ, ρ, Q, .nil, hl, R, n, no, k => ⟨rfl, k σ R⟩
  | _, _, _, _ :: _, σ, ρ, Q, .nil, hl, R, n, no, k => by cases hl
  | _, _, _, [], σ, ρ, Q, .val _ _, hl, R, n, no, k => by cases hl
  | _, _, _, [], σ, ρ, Q, .own _ _ _ _ _, hl, R, n, no, k => by cases hl
  | _, _, _, i :: is, σ, ρ, Q, .val (d := d) (v := v) (ss := ss) (vs := vs) a r, hl, R, n, no, k => by
    refine ⟨v, vs, rfl, set_all r (by simpa using hl) (R.set a) n (fun b hb j s u h1 h2 h3 => ?_) k⟩
    by_cases hj : i = j
    · rw [hj] at h1
      by_cases hi : j < ρ.length
      · rw [List.getElem?_set_self hi] at h1
        cases h1
        cases h2
      · rw [List.getElem?_eq_none (by rw [List.length_set]; omega)] at h1
        cases h1
    · rw [List.getElem?_set_ne hj] at h1 h3
      exact no b hb j s u h1 h2 h3
  | _, _, _, i :: is, σ, ρ, Q, .own (o := o) (a := a) (ss := ss) (vs := vs) h nob nn ne r, hl, R, n, no, k => by
    have mo : mineO X hs o a := by
      have z := n a (List.mem_cons_self ..)
      cases o with
      | lst l => exact z
      | dic ks vs => exact z
      | dicN ks vs => exact z
      | obj c ns l => exact absurd rfl (nob c ns l)
    have R1 := R.rep.setOwn (i := i) h (no a (List.mem_cons_self ..))
    have S1 : SRep X G hs nb hd (σ.set i (some (.ref a))) (ρ.set i (.own o)) H := R.own R1 (Lead.refl H) R.sub mo
    refine ⟨.ref a, vs, rfl, set_all r (by simpa using hl) S1 (fun b hb => n b (List.mem_cons_of_mem _ hb)) (fun b hb j s u h1 h2 h3 => ?_) k⟩
    by_cases hj : i = j
    · rw [hj] at h3
      by_cases hi : j < σ.length
      · rw [List.getElem?_set_self hi] at h3
        cases h3
        exact fun z => by
          cases z
          exact ne hb
      · rw [List.getElem?_eq_none (by rw [List.length_set]; omega)] at h3
        cases h3
    · rw [List.getElem?_set_ne hj] at h1 h3
      exact no b (List.mem_cons_of_mem _ hb) j s u h1 h2 h3
theorem SRep.newIn_of {hd : Addr → Prop} {σ : L2.St} {ρ : Env} {H : Hp} (R : SRep X G hs nb hd σ ρ H) {p : Addr} (n : newIn H p) (nm : ¬ G.M p) : newIn X.H_0 p := fun o q t => by
  by_cases z : hs.self p
  · obtain ⟨_, o2, h2, t2⟩ := R.selfs p z
    exact n o2 h2 t2
  · exact n o (R.lead.ex p o nm z t q) t
/-- a, b, .. = e, [..], .. -/
def sPar (is : List Nat) (g : Env → T (List Slot)) : Sm := fun ρ => bindS (g ρ) ρ fun ss => if is.length = ss.length ∧ ss.length ≤ 1000 then .ret (.nx (setE ρ is ss)) else .bad
theorem Items.length {H0 : Hp} {hd : Addr → Prop} {H : Hp} : ∀ {ss : List Slot} {vs : List V} {as : List Addr}, Items G H0 hd H ss vs as → ss.length = vs.length
  | _, _, _, .nil => rfl
  | _, _, _, .val _ r => by rw [List.length_cons, List.length_cons, Items.length r]
  | _, _, _, .own _ _ _ _ r => by rw [List.length_cons, List.length_cons, Items.length r]
/-- x = [..] or {} -/
def sNew1 (i : Nat) (g : Env → T Ow) : Sm := fun ρ => bindS (g ρ) ρ fun o => .ret (.nx (ρ.set i (.own o)))
theorem ss_new1 {i : Nat} {x : Str} {e : Expr} {g : Env → T Ow} {pos pos' : Pos} (hN : X.N.Nodup) (hi : X.N[i]? = some x) (hx : Loc X.env.scope x) (he : NE X G W e g) (h : swapsWith e (some (.Name x pos')) pos.line X.env = pure false := by rfl) (hf : X.fn x = true ∨ X.env.scope.names.lookup x = some .local := by first | exact .inl rfl | exact .inr rfl | assumption) :
    SS X G W hs (.Assign [.Name x pos'] e pos) (sNew1 i g) := by
  refine PS_imp (ps_set (i := i) hN hi hx he h hf) fun Dn σ H q => ?_
  obtain ⟨nb, ρ, hd, R, q⟩ := q
  refine ⟨_, ρ, hd, R.rep, T.wp_mono (bindS_then q) (fun o _ q1 p hd1 H1 no w h1 n1 => ?_) fun c l _ z => rz_of R z⟩
  have nM := h1.2.1
  have it : Items G H hd1 H1 [.own o] [.ref p] [p] := .own h1 no n1 (by simp) .nil
  have fin := set_all (X := X) (hs := hs) (is := [i]) (σ := σ) (ρ := ρ) (Q := Dn.nx) it rfl (R.wide w) (fun a ha => R.newIn_of (it.fresh a ha).1 (it.fresh a ha).2) (fun a ha k s v e1 e2 e3 e4 => ?_) fun σ' R' => q1 hd1 σ' _ R' w.ex
  · obtain ⟨v, r, e1, e2⟩ := fin
    cases e1
    obtain ⟨_, e2⟩ := e2
    exact e2
  · cases s with
    | own o2 =>
      obtain ⟨b, e5, e6⟩ := R.rep.at_ k _ v e1 e3
      rw [e4] at e5
      cases e5
      obtain ⟨_, _, u, e7, r⟩ := e6
      exact (it.fresh a ha).1 u e7 r.nt
    | _ => cases e2
/-- what the names hold behind it -/
theorem par_fin {ρ : Env} {hd hd1 : Addr → Prop} {σ : L2.St} {H H1 : Hp} {ss : List Slot} {vs : List V} {as : List Addr} {is : List Nat} {Q : L2.St → Hp → Prop} (R : SRep X G hs nb hd σ ρ H) (w : Wider G nb n' hd H hd1 H1) (it : Items G H hd1 H1 ss vs as) (hl : is.length = ss.length) (k : ∀ σ', SRep X G hs n' hd1 σ' (setE ρ is ss) H1 → Q σ' H1) : gNm is vs σ H1 Q := by
  have fr := it.fresh
  refine set_all it hl (R.wide w) (fun a ha => R.newIn_of (fr a ha).1 (fr a ha).2) (fun a ha k s v e1 e2 e3 e4 => ?_) k
  cases s with
  | own o =>
    obtain ⟨b, e5, e6⟩ := R.rep.at_ k _ v e1 e3
    rw [e4] at e5
    cases e5
    obtain ⟨_, _, u, e7, r⟩ := e6
    exact (fr a ha).1 u e7 r.nt
  | _ => cases e2
theorem ss_par2 {i j : Nat} {x y : Str} {a b : Expr} {g : Env → T (List Slot)} {px py pt pos : Pos} {kt k2 : Nat} {pt2 : Pos} (hc : X.calm = true) (hN : X.N.Nodup) (hi : X.N[i]? = some x) (hj : X.N[j]? = some y) (hij : i ≠ j) (hx : X.env.scope.names.lookup x = some .local) (hy : X.env.scope.names.lookup y = some .local) (he : IT X G W [a, b] g)
    (hw : swappedStores [.Tuple [.Name x px, .Name y py] kt pt] (.Tuple [a, b] k2 pt2) X.env = pure (some [x, y]) := by rfl) (h : swapsWithSole [.Tuple [.Name x px, .Name y py] kt pt] (.Tuple [a, b] k2 pt2) pos.line X.env = pure false := by rfl) :
    SS X G W hs (.Assign [.Tuple [.Name x px, .Name y py] kt pt] (.Tuple [a, b] k2 pt2) pos) (sPar [i, j] g) := by
  refine PS_imp (ps_par hc hN hi hj hij hx hy he hw h) fun Dn σ H q => ?_
  obtain ⟨nb, ρ, hd, R, q⟩ := q
  refine ⟨_, ρ, hd, R.rep, T.wp_mono (bindS_then q) (fun ss n1 q1 vs as hd1 H1 w it => ?_) fun c l _ z => rz_of R z⟩
  obtain ⟨hh, q2⟩ := wp_if q1
  have fin := par_fin R w it hh.1 (Q := Dn.nx) fun σ' R' => q2 hd1 σ' _ R' w.ex
  obtain ⟨v, r, rfl, v2, r2, rfl, rfl, fin⟩ := fin
  exact ⟨v, v2, rfl, fin⟩
end
end Py
set_option Elab.async false
set_option linter.all false
set_option maxRecDepth 100000
set_option maxHeartbeats 4000000
namespace Py
open PySem PySem.Spec PyProof.Rows L2
/-- a def of the top: its text, its object -/
structure Dn (K : PySem.W.Frag) (mg : Str → Option Value) (x : Str) (st : Stmt) (ps : List Str) (f : Addr) (fd : FuncData) : Prop where
  F : Fun K x x st f fd
  b : L2.Binds K fd ps []
  g : mg x = some (.ref f)
  k : PySem.W.keepIn K (.ref f) = true
/-- the own classes whose instances are asked for their kind -/
def ownOk : Nat → Bool := fun _ => false
/-- a kind against the built-in class n -/
def tabB (n : String) : Ty → Option Bool
  | .ty k => kitB k n
  | .own _ => none
theorem ans_b {X : Cx} {G : Gl} (hK : G.K = X.K) (own : ∀ c, ownOk c = true → OwnC X.K (G.cls c)) (n : String) : Answers X G (.type n) (ansD (tabB n)) := ans_d hK (fun c h => by cases h) fun t b e => by
  cases t with
  | ty k => exact kit_ty e
  | own c => cases e
theorem tk0 {X : Cx} : Takes X W0 := fun _ _ x => by
  obtain ⟨_, _, _, _, _, _, _, _, _, _, _, _, _, _, _, _, z⟩ := x
  exact z.elim
theorem room64 {k : Nat} {A : Around} (r : Room k A) : A.units + 64 < cLine := by
  have := r.un
  omega
theorem ee_int_glob {X : Cx} {G : Gl} {W : WX} {x : Str} {n : Int} {pos : Pos} (hg : L2.Gl X x) (h : ∃ t, X.mg x = some (.int n t)) (hd : (x == ("__debug__" : Str)) = false := by decide) : EE X G W (.Name x pos) (gC (.int n)) := by
  obtain ⟨t, h⟩ := h
  exact ee_const (v := .int n) (pe_glob hg h ⟨t, rfl⟩ hd) fun _ => .int
/-- a method: its text, its object, its place in the class -/
structure Mn (K : PySem.W.Frag) (x q : Str) (st : Stmt) (ps : List Str) (C : Addr) (f : Addr) (fd : FuncData) : Prop where
  F : Fun K x q st f fd
  b : L2.Binds K fd ps []
  at_ : PySem.W.findIn K (.ref C) x = some (some (.ref f))
  fn : PySem.W.isFn K (.ref f) = true
theorem Mn.methC {K : PySem.W.Frag} {x q : Str} {st : Stmt} {ps : List Str} {C f : Addr} {fd : FuncData} (m : Mn K x q st ps C f fd) : Meth K C x f := ⟨m.at_, m.fn, m.F.kp⟩
/-- a class whose instances are made -/
structure Cn (K : PySem.W.Frag) (mg : Str → Option Value) (C : Addr) (fl0 : List Str) (x : Str) (fs : List Str) : Prop where
  own : OwnC K C
  fl : fl0 = fs
  no : ∀ f, f ∈ fs → NoAttr K C f
  g : mg x = some (.ref C)
  makes : PySem.W.makesIn K C = true
  kp : PySem.W.keepIn K (.ref C) = true
/-- an error class with one parameter -/
structure En (K : PySem.W.Frag) (mg : Str → Option Value) (C : Addr) (fl0 : List Str) (x f : Str) : Prop where
  fl : fl0 = [f]
  txt : ∃ fI, Er.Txt1 K mg x f C fI
theorem ix_of {ns ns' : List Str} {f : Str} {i : Nat} (e : ns = ns') (h : nsIx ns' f = some i) : nsIx ns f = some i := by
  rw [e]
  exact h
theorem Mn.mkC {K : PySem.W.Frag} {mg : Str → Option Value} {C : Addr} {x y q : Str} {fl0 fs : List Str} {st : Stmt} {ps : List Str} {f : Addr} {fd : FuncData} (c : Cn K mg C fl0 y fs) (m : Mn K "__init__" q st ps C f fd) : Mk K C f := ⟨c.makes, m.at_, m.fn, c.kp⟩
/-- the kinds that an own class n may be compared with, asked about -/
def tabO (n : Nat) (os : List Nat) : Ty → Option Bool
  | .ty k => if k = "NoneType" ∨ k = "bool" ∨ k = "int" ∨ k = "str" ∨ k = "tuple" ∨ k = "list" ∨ k = "dict" then some false else none
  | .own m => if m = n then some true else if m ∈ os then some false else none
def okO (n : Nat) (os : List Nat) (t : Ty) : Bool := (tabO n os t).isSome
/-- what is known of isinstance(.., C), of == with C's instances at the left -/
structure Kn (K : PySem.W.Frag) (cls : Nat → Addr) (n : Nat) (os : List Nat) : Prop where
  own : ∀ m, (tabO n os (.own m)).isSome = true → OwnC K (cls m)
  kit : ∀ t b, tabO n os t = some b → PySem.W.kitOne K (valT cls t) (.ref (cls n)) = some b
  nf : ∀ t, okO n os t = true → PySem.W.notFirst K (cls n) (valT cls t) = true
theorem Kn.ans {X : Cx} {G : Gl} {n : Nat} {os : List Nat} (hK : G.K = X.K) (k : Kn X.K G.cls n os) : Answers X G (.ref (G.cls n)) (ansD (tabO n os)) := ans_d hK k.own k.kit
theorem Kn.ok {K : PySem.W.Frag} {cls : Nat → Addr} {n : Nat} {os : List Nat} (k : Kn K cls n os) : ∀ t, okO n os t = true → PySem.W.notFirst K (cls n) (valT cls t) = true ∧ ∀ c', t = .own c' → OwnC K (cls c') := fun t h => ⟨k.nf t h, fun c' e => k.own c' (by rw [← e]; exact h)⟩
theorem ini_fl {P : Program} {w : World} {K : PySem.W.Frag} {mg : Str → Option Value} {base : Heap} {G : Gl} {CX : CXT} {k a n m : Nat} {f : Addr} {fd : FuncData} {ps fs : List Str} {s : Sm} (e : G.flds n = fs)
    (h : FnOk P w K mg base CX k f fd ps (spI G a n (ini m n (G.flds n) s))) : FnOk P w K mg base CX k f fd ps (spI G a n (ini m n fs s)) := by
  rw [e] at h
  exact h
end Py
set_option Elab.async false
set_option linter.all false
set_option maxRecDepth 100000
set_option maxHeartbeats 4000000
namespace Py
open PySem PySem.Spec PyProof.Rows L2
/-! ### the deck of numbers, its places counted: {"cells": .., "at": ..} -/
abbrev kC : Key := .inr "cells"
abbrev kA : Key := .inr "at"
abbrev dkO (cl : Addr) (a : Int) : HO := .dK [(kC, V.ref cl), (kA, V.int a)]
/-- what is known of the deck's two objects -/
structure Deck1 (p cl : Addr) (H : Hp) : Prop where
  ne : cl ≠ p
  at_ : ∃ (a : Nat) (ns : List Int), H p = some (dkO cl a) ∧ H cl = some (.lst (ns.map V.int)) ∧ ns.length ≤ 100
def CDivS (i j : Int) : Prop := j ≠ 0 ∧ (j.natAbs < 1073741824 ∨ i.natAbs < 1073741824)
theorem nopy {x y : Int} (h : x.natAbs < 1073741824) : Builtin.divisionGoesByPylong x y = false := by
  unfold Builtin.divisionGoesByPylong
  have e : (fun n : Int => if (n == 0) = true then 0 else n.natAbs.log2 / 30 + 1) x ≤ 1 := by
    show (if (x == 0) = true then 0 else x.natAbs.log2 / 30 + 1) ≤ 1
    split
    · omega
    · rename_i n
      have n0 : x.natAbs ≠ 0 := fun z => n (by simpa using z)
      have l : x.natAbs.log2 < 30 := (Nat.log2_lt n0).mpr h
      omega
  show (decide _ && decide _) = false
  rw [Bool.and_eq_false_iff]
  right
  rw [decide_eq_false_iff_not]
  omega
theorem op_fdiv0 {X : Cx} : OpR X (binaryOp .FloorDiv) (rI CDivS fun i j => .int (i.fdiv j)) := opI fun _ _ _ _ _ _ _ hc q => by
  obtain ⟨h1, h2⟩ := hc
  refine floordiv_int (hp := .inl ?_) h1 q
  rcases h2 with h2 | h2
  · exact PyProof.noPylong_small h2
  · exact nopy h2
theorem fmod_in {x b : Int} (h : 0 < b) : 0 ≤ x.fmod b ∧ x.fmod b < b := by
  rw [Int.fmod_eq_emod_of_nonneg _ (Int.le_of_lt h)]
  exact ⟨Int.emod_nonneg _ (by omega), Int.emod_lt_of_pos _ h⟩
theorem dp_ints {K : PySem.W.Frag} {H : Hp} : ∀ ns : List Int, DpAll K H (ns.map V.int) (ns.map PyData.int)
  | [] => .nil
  | n :: r => .cons (.int n) (dp_ints r)
/-- the deck's objects, the tables of code objects -/
def dkM (p cl : Addr) (tb : List (Addr × Str)) (a : Addr) : Prop := a = p ∨ a = cl ∨ ∃ q ∈ tb, a = q.1
/-- a kind of decks: what holds of the deck's object and of its cells' one (at cl) while so many draws are let -/
structure DkK where
  ok : Nat → Addr → HO → HO → Prop
  pl : ∀ n cl o1 o2, ok n cl o1 o2 → Plain o1 ∧ Plain o2
structure DkJ (κ : DkK) (p cl : Addr) (tb : List (Addr × Str)) (n : Nat) (H : Hp) : Prop where
  ne : cl ≠ p
  at_ : ∃ o1 o2, H p = some o1 ∧ H cl = some o2 ∧ κ.ok n cl o1 o2
  tb : LamX.Tabs tb H
theorem tabs_keep {tb : List (Addr × Str)} {H H' : Hp} (t : LamX.Tabs tb H) (h1 : ∀ q ∈ tb, H' q.1 = H q.1) (h2 : ∀ a c q, H a = some (LamX.CodeO c q) → H' a = some (LamX.CodeO c q)) : LamX.Tabs tb H' := fun q hq => by
  obtain ⟨ps, e1, e2, e3⟩ := t q hq
  refine ⟨ps, by rw [h1 q hq]; exact e1, e2, fun pos cv hc => ?_⟩
  obtain ⟨c, e4, e5⟩ := e3 pos cv hc
  exact ⟨c, e4, h2 c _ _ e5⟩
/-- what is fixed through a law with such a deck at p, its cells at cl -/
def mkG (P : Program) (w : World) (K : PySem.W.Frag) (cls : Nat → Addr) (flds : Nat → List Str) (κ : DkK) (p cl : Addr) (tb : List (Addr × Str)) : Gl where
  P := P
  w := w
  K := K
  cls := cls
  flds := flds
  dk := p
  M := dkM p cl tb
  J := DkJ κ p cl tb
  tb := tb
  ea := none
  fa := none
  has := fun n H a j m => by
    obtain ⟨o1, o2, h1, h2, _⟩ := j.at_
    rcases m with rfl | rfl | ⟨q, hq, rfl⟩
    · rw [h1]
      exact (fun z => nomatch z)
    · rw [h2]
      exact (fun z => nomatch z)
    · obtain ⟨ps, e, _⟩ := j.tb q hq
      rw [e]
      exact (fun z => nomatch z)
  stays := fun n H H' j h1 h2 => by
    obtain ⟨o1, o2, e1, e2, e3⟩ := j.at_
    exact ⟨j.ne, ⟨o1, o2, by rw [h1 p (.inl rfl)]; exact e1, by rw [h1 cl (.inr (.inl rfl))]; exact e2, e3⟩, tabs_keep j.tb (fun q hq => h1 q.1 (.inr (.inr ⟨q, hq, rfl⟩))) h2⟩
  tabs := fun n H j => j.tb
  lam := fun n H H' j e t => by
    obtain ⟨o1, o2, e1, e2, e3⟩ := j.at_
    have pl := κ.pl _ _ _ _ e3
    exact ⟨j.ne, ⟨o1, o2, e _ _ e1 pl.1.nt, e _ _ e2 pl.2.nt, e3⟩, t⟩
  code := fun n H c q j e m => by
    obtain ⟨o1, o2, e1, e2, e3⟩ := j.at_
    have pl := κ.pl _ _ _ _ e3
    rcases m with rfl | rfl | ⟨q', hq, rfl⟩
    · rw [e1] at e
      exact pl.1.ne _ _ (Option.some.inj e)
    · rw [e2] at e
      exact pl.2.ne _ _ (Option.some.inj e)
    · obtain ⟨ps, e3, _⟩ := j.tb q' hq
      unfold LamX.CodeO at e
      rw [e3] at e
      cases e
/-- all but the deck's two objects stays -/
def Els (p cl : Addr) (H H' : Hp) : Prop := ∀ x o, x ≠ p → x ≠ cl → H x = some o → H' x = some o
theorem Els.trans {p cl : Addr} {H H1 H2 : Hp} (a : Els p cl H H1) (b : Els p cl H1 H2) : Els p cl H H2 := fun x o n1 n2 e => b x o n1 n2 (a x o n1 n2 e)
theorem Els.new {p cl : Addr} {H : Hp} {q : Addr} {o : HO} (h : H q = none) : Els p cl H (upd H q o) := fun x u _ _ e => by
  rw [upd_ne (ne_of_none e h)]
  exact e
theorem Els.p {p cl : Addr} {H : Hp} {o : HO} : Els p cl H (upd H p o) := fun x u n _ e => by
  rw [upd_ne n]
  exact e
theorem Els.c {p cl : Addr} {H : Hp} {o : HO} : Els p cl H (upd H cl o) := fun x u _ n e => by
  rw [upd_ne n]
  exact e
section
variable {P : Program} {w : World} {K : PySem.W.Frag} {mg : Str → Option Value} {base : Heap} {cls : Nat → Addr} {flds : Nat → List Str} {κ : DkK} {p cl : Addr} {tb : List (Addr × Str)}
/-- THE RULE for a _law_draw: a number below another one (this one below top), by a reading t of its text -/
def drawB (top : Int) : List D → T D
  | [.deck, .int b] => if 0 < b ∧ b < top then .draw b.toNat fun i => .ret (.int i) else .bad
  | _ => .bad
theorem drawG_ok {x : Str} {st : Stmt} {f : Addr} {fd : FuncData} {N : List Str} {y1 y2 : Str} {k : Nat} {top : Int} (F : Fun K x x st f fd) (S : FnScope N [y1, y2] (defScope st)) (t : TS)
    (hb : ∀ (cdv : Value) (A : Around) (outer : List PySem.Env) (s0 : Shared) (H : Hp) (E : XK), Room k (A.deeper (PyProof.Rows.envOfC x (defScope st) s0.heap.objs.size f cdv)) → PSs (cxOf (L2.CX P w) P w K mg base N x (defScope st) f cdv A outer s0 H E) (defBody st) t)
    (pure : ∀ (b : Int) (n : Nat) (H : Hp) (o1 o2 : HO) (Q : VK), 0 < b → b < top → 0 < n → cl ≠ p → H p = some o1 → H cl = some o2 → κ.ok n cl o1 o2 →
      (∀ (r : Int) (H' : Hp) (o1' o2' : HO), 0 ≤ r → r < b → Els p cl H H' → H' p = some o1' → H' cl = some o2' → κ.ok (n - 1) cl o1' o2' → Q (.int r) H') → t { nx := fun _ H' => Q .non H', rt := Q } (L2.start N [.ref p, .int b]) H) :
    FnOk P w K mg base (L2.CX P w) (k + 1) f fd [y1, y2] (spD (mkG P w K cls flds κ p cl tb) 2 (drawB top)) := by
  refine F.okX S (fun vs H Q E h => h.1) fun cdv A outer s0 H vs Q E hr h => ⟨t, hb cdv A outer s0 H E hr, ?_⟩
  obtain ⟨hl, n, l, hs, g, hv, q⟩ := h
  cases hv with
  | nil => cases hl
  | @cons d1 v1 l1 r1 a1 hr1 =>
    cases hr1 with
    | nil => cases hl
    | @cons d2 v2 l2 r2 a2 hr2 =>
      cases hr2 with
      | @cons d3 v3 l3 r3 a3 hr3 =>
        simp at hl
      | nil =>
        cases d1 with
        | deck =>
          cases d2 with
          | int b =>
            obtain ⟨⟨hb0, hb1⟩, hn, q⟩ := wp_if (show (if 0 < b ∧ b < top then (T.draw b.toNat fun i => .ret (D.int i)) else .bad : T D).wp _ _ _ from q)
            cases a1
            cases a2
            have j : DkJ κ p cl tb n H := g.j
            obtain ⟨o1, o2, e1, e2, e3⟩ := j.at_
            have pl := κ.pl _ _ _ _ e3
            refine pure b n H o1 o2 Q hb0 hb1 hn j.ne e1 e2 e3 fun r H' o1' o2' r0 r1 el h1 h2 h3 => ?_
            have q1 := q r.toNat (by omega)
            have er : ((r.toNat : Nat) : Int) = r := Int.toNat_of_nonneg r0
            have j' : DkJ κ p cl tb (n - 1) H' := ⟨j.ne, ⟨o1', o2', h1, h2, h3⟩, fun q hq => by
              obtain ⟨ps, t1, t2, t3⟩ := j.tb q hq
              refine ⟨ps, el _ _ (fun z => by rw [z, e1] at t1; exact pl.1.nt ps (Option.some.inj t1)) (fun z => by rw [z, e2] at t1; exact pl.2.nt ps (Option.some.inj t1)) t1, t2, fun pos cv hc => ?_⟩
              obtain ⟨c, t4, t5⟩ := t3 pos cv hc
              refine ⟨c, t4, el _ _ (fun z => ?_) (fun z => ?_) t5⟩
              · rw [z, e1] at t5
                exact pl.1.ne _ _ (Option.some.inj t5)
              · rw [z, e2] at t5
                exact pl.2.ne _ _ (Option.some.inj t5)⟩
            have L : Lead (mkG P w K cls flds κ p cl tb) n (n - 1) H H' := ⟨fun a o m _ e => el a o (fun z => m (.inl z)) (fun z => m (.inr (.inl z))) e, fun _ => j'⟩
            have q2 : ∀ v H', (mkG P w K cls flds κ p cl tb).J (n - 1) H' → Lead (mkG P w K cls flds κ p cl tb) n (n - 1) H H' → At (mkG P w K cls flds κ p cl tb) (hide hs H') (.int (r.toNat : Nat)) v → Q v H' := q1
            rw [er] at q2
            exact q2 _ H' j' L .int
          | _ => exact q.elim
        | _ => exact q.elim
end
section
variable {P : Program} {w : World} {K : PySem.W.Frag} {mg : Str → Option Value} {base : Heap} {cls : Nat → Addr} {flds : Nat → List Str} {p cl : Addr} {tb : List (Addr × Str)}
end
end Py
set_option Elab.async false
set_option linter.all false
set_option maxRecDepth 100000
set_option maxHeartbeats 4000000
namespace Py
open PySem PySem.Spec PyProof.Rows L2
section
variable {X : Cx} {G : Gl} {W : WX} {hs : Hid}
/-! ### while, at most n turns told -/
/-! ### max, min of two ints, int of an int -/
def int1 : List D → Option D
  | [.int i] => some (.int i)
  | [.bl k] => some (.int (if k then 1 else 0))
  | _ => none
theorem d_int1 : DoesN G (fun xs H Q => (∃ i, xs = [.int i] ∧ Q (.int i) H) ∨ ∃ k, xs = [.bl k] ∧ Q (.int (if k then 1 else 0)) H) int1 := fun hd H xs l d Q R h e k => by
  unfold int1 at e
  split at e
  · cases e
    cases h with
    | cons h1 h2 =>
      cases h2
      cases h1
      exact .inl ⟨_, rfl, k _ H (Lead.refl H) .int⟩
  · cases e
    cases h with
    | cons h1 h2 =>
      cases h2
      cases h1
      exact .inr ⟨_, rfl, k _ H (Lead.refl H) .int⟩
  · cases e
end
/-- the read fields of a caught error -/
theorem Er.Asked.xf {K : PySem.W.Frag} {C : Addr} (a : Er.Asked K C) : XfC K C := ⟨a.ga, a.gg, a.sub, a.dict⟩
/-- which error classes (by number) an except clause of the class n takes: itself, all if n is the base -/
def exM (base : Nat) (es : List Nat) (n : Nat) : Nat → Option Bool := fun k => if k ∈ es ∧ (n ∈ es ∨ n = base) then some (k == n || n == base) else none
/-- what is known of the error classes es over the class base -/
structure Xn (K : PySem.W.Frag) (mg : Str → Option Value) (cls : Nat → Addr) (flds : Nat → List Str) (base : Nat) (bx : Str) (es : List Nat) : Prop where
  g : mg bx = some (.ref (cls base))
  asked : ∀ k, k ∈ es → Er.Asked K (cls k)
  has : ∀ k, k ∈ es → flds k ≠ []
  exm : ∀ n k b, exM base es n k = some b → PySem.W.exmOne K (.ref (cls k)) (.ref (cls n)) = some b
  kit : ∀ n k b, exM base es n k = some b → PySem.W.kitOne K (.ref (cls k)) (.ref (cls n)) = some b
theorem exM_in {base : Nat} {es : List Nat} {n k : Nat} {b : Bool} (h : exM base es n k = some b) : k ∈ es := by
  unfold exM at h
  split at h
  · rename_i z
    exact z.1
  · cases h
theorem exM_ok {base : Nat} {es : List Nat} {n k : Nat} {b : Bool} (h : exM base es n k = some b) : k ∈ es ∧ n ∈ base :: es ∧ b = (k == n || n == base) := by
  unfold exM at h
  split at h
  · rename_i z
    refine ⟨z.1, ?_, (Option.some.inj h).symm⟩
    rcases z.2 with q | q
    · exact List.mem_cons_of_mem _ q
    · rw [q]
      exact List.mem_cons_self ..
  · cases h
theorem Xn.xi {K : PySem.W.Frag} {mg : Str → Option Value} {cls : Nat → Addr} {flds : Nat → List Str} {base n : Nat} {bx : Str} {es : List Nat} (x : Xn K mg cls flds base bx es) : ∀ k b, exM base es n k = some b → flds k ≠ [] ∧ Er.Asked K (cls k) ∧ PySem.W.kitOne K (.ref (cls k)) (.ref (cls n)) = some b := fun k b h => ⟨x.has k (exM_in h), x.asked k (exM_in h), x.kit n k b h⟩
end Py
namespace Py
open PySem PySem.Spec PyProof.Rows L2
theorem no_of {ns ns' : List Str} {f : Str} (e : ns = ns') (h : nsIx ns' f = none) : nsIx ns f = none := by
  rw [e]
  exact h
/-! ### range as a tuple, a list -/
theorem rgV_ats {G : Gl} {H : Hp} (lo hi : Int) : Ats G H (rngD lo hi) (rgV lo hi) := by
  unfold rngD rgV
  have key : ∀ l : List Nat, Ats G H (l.map fun i : Nat => D.int (lo + (i : Int))) (l.map fun i : Nat => V.int (lo + (i : Int))) := by
    intro l
    induction l with
    | nil => exact .nil
    | cons a r ih => exact .cons .int ih
  exact key _
def rgT (w : List D → D) (i j : Int) : T D := if -100000 ≤ i ∧ i ≤ 100000 ∧ -100000 ≤ j ∧ j ≤ 100000 then .ret (w (rngD i j)) else .bad
def gRg1 (w : List D → D) (f : Env → T D) : Env → T D := fun ρ => f ρ >>= fun d => match d with
  | .int j => rgT w 0 j
  | _ => .bad
theorem rg_ok {i j : Int} (h : -100000 ≤ i ∧ i ≤ 100000 ∧ -100000 ≤ j ∧ j ≤ 100000) : RgOk i j := ⟨by omega, by omega, by omega, by omega, by omega⟩
section
variable {X : Cx} {G : Gl} {W : WX}
theorem ee_tupRg1 {e : Expr} {f : Env → T D} {p p2 pos pos2 : Pos} (hc : X.calm = true) (hg : L2.Gl X "tuple") (hm : X.mg "tuple" = none) (hg2 : L2.Gl X "range") (hm2 : X.mg "range" = none) (he : EE X G W e f)
    (na : starEach [e] X.env = (false, eval e X.env) :: starEach [] X.env := by rfl) (na2 : starEach [.Call (.Name "range" p2) [e] [] pos2] X.env = (false, eval (.Call (.Name "range" p2) [e] [] pos2) X.env) :: starEach [] X.env := by rfl) :
    EE X G W (.Call (.Name "tuple" p) [.Call (.Name "range" p2) [e] [] pos2] [] pos) (gRg1 .tup f) := by
  refine PE_imp (pf_tupRg hc hg hm (prg_1 hg2 hm2 he na) na2) fun σ H Q q => ?_
  obtain ⟨nb, ρ, hd, R, q⟩ := q
  refine ⟨_, ρ, hd, R, T.wp_imp (wp_then q) fun d _ q1 x H1 e1 h1 => ?_⟩
  cases d with
  | int j =>
    cases h1
    obtain ⟨hh, q2⟩ := wp_if (show (if (-100000 : Int) ≤ 0 ∧ (0 : Int) ≤ 100000 ∧ -100000 ≤ j ∧ j ≤ 100000 then T.ret (D.tup (rngD 0 j)) else .bad).wp _ _ _ from q1)
    refine ⟨j, rfl, rg_ok hh, fun q3 o hq ho => q2 _ _ (e1.trans (Lead.new hq)) (.tup (.new ((R.good.lead e1).seen hq) ho) (rgV_ats 0 j))⟩
  | _ => exact q1.elim
end
end Py
set_option Elab.async false
set_option linter.all false
set_option maxRecDepth 100000
set_option maxHeartbeats 4000000
namespace Py
open PySem PySem.Spec PyProof.Rows L2
section
variable {X : Cx} {G : Gl} {W : WX} {hs : Hid}
/-! ### an error without parameters -/
/-- an error class without parameters -/
structure En0 (K : PySem.W.Frag) (mg : Str → Option Value) (C : Addr) (fl0 : List Str) (x : Str) : Prop where
  fl : fl0 = []
  exc : PySem.W.excIn K C [.type "Exception", .type "BaseException", .type "object"] "Exception.__new__" = true
  g : mg x = some (.ref C)
  kp : PySem.W.keepIn K (.ref C) = true
  exC : PySem.W.subIn K (.ref C) (.type "BaseException") = some true
  tyC : PySem.W.typeIn K (.ref C) = some (.type "type")
end
namespace Er
open PySem PySem.W PySem.Calls PyProof.Rows PySem.HandSPX
/-! ### an __init__ that keeps its two parameters -/
def iA2 (f g : Str) (p1 p2 p3 : Pos) : Arguments := { posonlyargs := [], args := [{ arg := "self", annotation := none, pos := p1 }, { arg := f, annotation := none, pos := p2 }, { arg := g, annotation := none, pos := p3 }], vararg := none, kwonlyargs := [], kw_defaults := [], kwarg := none, defaults := [] }
def iB2 (f g : Str) (q1 q2 q3 q4 r1 r2 r3 r4 : Pos) : List Stmt := [.Assign [.Attribute (.Name "self" q1) f q2] (.Name f q3) q4, .Assign [.Attribute (.Name "self" r1) g r2] (.Name g r3) r4]
def iS2 (f g : Str) : Scope := { kind := .function, names := [(PySem.Str.ofString "self", .local), (f, .local), (g, .local)], isGenerator := false, isCoroutine := false, more := [] }
structure Txt2 (K : Frag) (mg : Str → Option Value) (x f g : Str) (C fI : Addr) : Prop where
  gC : mg x = some (.ref C)
  cls : ∃ nm q N bs D sn sub ab col dd k0 k1 k2 k3 k5, K.lookup C = some (excClassObj nm q C N bs (up D) true sn sub ab col dd k0 k1 k2 k3 k5 "Exception.__new__")
  sa : findIn K (.ref C) "__setattr__" = some (some (.builtin "object.__setattr__"))
  noN : findIn K (.ref C) f = some none
  noG : findIn K (.ref C) g = some none
  iC : findIn K (.ref C) "__init__" = some (some (.ref fI))
  tC : typeIn K (.ref fI) = some (.type "function")
  kC : keepIn K (.ref C) = true
  exC : subIn K (.ref C) (.type "BaseException") = some true
  tyC : typeIn K (.ref C) = some (.type "type")
  nf : (f == ("__debug__" : Str)) = false ∧ f ≠ "self"
  ng : (g == ("__debug__" : Str)) = false ∧ g ≠ "self"
  fg : f ≠ g
  bd : ∀ (qn : Str) (p1 p2 p3 q1 q2 q3 q4 r1 r2 r3 r4 : Pos) (doc pm cdv ct : Value) (an : Option Addr) (a b c : Value), bindArgs (fnOf "__init__" qn (iA2 f g p1 p2 p3) (iB2 f g q1 q2 q3 q4 r1 r2 r3 r4) (iS2 f g) .none .none doc pm an cdv ct) ⟨[a, b, c], []⟩ = pure [(PySem.Str.ofString "self", a), (f, b), (g, c)]
  fn : ∃ (qn : Str) (oc : Value) (od : Option Addr) (doc pm : Value) (an : Option Addr) (cdv ct : Value) (osl : Array (Option Value)) (p1 p2 p3 q1 q2 q3 q4 r1 r2 r3 r4 : Pos),
    K.lookup fI = some ⟨oc, od, .func (fnOf "__init__" qn (iA2 f g p1 p2 p3) (iB2 f g q1 q2 q3 q4 r1 r2 r3 r4) (iS2 f g) .none .none doc pm an cdv ct), osl⟩ ∧ codeIn K cdv qn = true
/-- both attributes -/
def two (f g : Str) (v u : Value) : Str → Option Value := fun y => if y = g then some u else if y = f then some v else none
section
variable {prog : Program} {w : World} {A : Around} {R : Result → Shared → Prop} {s : Shared} {K : Frag} {mg : Str → Option Value} {x0 f g : Str} {C fI : Addr}
structure Left2 (f g : Str) (h h' : Heap) (x C dx t1 : Addr) (v u : Value) : Prop where
  old : ∀ b o, b ≠ x → h.get? b = some o → h'.get? b = some o
  obj : h'.get? x = some { cls := .ref C, dict := some dx, data := .fields #[.ref t1, .none, .none, .none, .bool false, .none] }
  big : h.objs.size ≤ dx
  ne : dx ≠ x
  ns : h'.Ns1 dx (two f g v u)
structure Made2 (f g : Str) (h h' : Heap) (e C d : Addr) (v u : Value) : Prop where
  old : ∀ b o, h.get? b = some o → h'.get? b = some o
  new : h.objs.size ≤ e
  obj : ∃ oe vs, h'.get? e = some oe ∧ oe.cls = .ref C ∧ oe.dict = some d ∧ oe.data = .fields vs ∧ vs[1]? = some .none
  big : h.objs.size ≤ d
  ne : d ≠ e
  ns : h'.Ns1 d (two f g v u)
end
end Er
section
variable {X : Cx} {G : Gl} {W : WX} {hs : Hid}
end
/-- an error class with two parameters -/
structure En2 (K : PySem.W.Frag) (mg : Str → Option Value) (C : Addr) (fl0 : List Str) (x f g : Str) : Prop where
  fl : fl0 = [f, g]
  txt : ∃ fI, Er.Txt2 K mg x f g C fI
end Py
set_option Elab.async false
set_option linter.all false
set_option maxRecDepth 100000
set_option maxHeartbeats 4000000
namespace Py
open PySem PySem.Spec PyProof.Rows L2
/-! ### the deck of numbers that are used up: {"cells": .., "mixed": ..} -/
abbrev kM : Key := .inr "mixed"
abbrev mxO (cl : Addr) (m : Int) : HO := .dK [(kC, V.ref cl), (kM, V.int m)]
theorem put_mx {cl : Addr} {a b : Int} : putK [(kC, V.ref cl), (kM, V.int a)] kM (.int b) = [(kC, V.ref cl), (kM, V.int b)] := by
  unfold putK
  have e : ([(kC, V.ref cl), (kM, V.int a)].any fun kv => decide (kv.1 = kM)) = true := by
    simp
  rw [if_pos e]
  have n : ¬ kC = kM := by decide
  show List.map _ _ = _
  rw [List.map_cons, List.map_cons, List.map_nil, if_neg n, if_pos rfl]
abbrev rMod : R2 := rI (fun _ j => j ≠ 0) fun i j => .int (i.fmod j)
abbrev rPl : R2 := rI0 fun i j => .int (i + j)
abbrev tCell : TE := tDGet (tVar 0) (tC (.str "cells"))
/-- what is known of the two objects -/
structure Mx (p cl : Addr) (H : Hp) (m : Int) (ns : List Int) : Prop where
  ne : cl ≠ p
  h1 : H p = some (mxO cl m)
  h2 : H cl = some (.lst (ns.map V.int))
  few : ns.length ≤ 100
  lo : 0 ≤ m
  hi : m < 2147483647
theorem Mx.new {p cl : Addr} {H : Hp} {m : Int} {ns : List Int} {q : Addr} {o : HO} (x : Mx p cl H m ns) (h : H q = none) : Mx p cl (upd H q o) m ns := ⟨x.ne, by rw [upd_ne (ne_of_none x.h1 h)]; exact x.h1, by rw [upd_ne (ne_of_none x.h2 h)]; exact x.h2, x.few, x.lo, x.hi⟩
theorem Mx.cells {p cl : Addr} {H : Hp} {m : Int} {ns ms : List Int} (x : Mx p cl H m ns) (l : ms.length ≤ 100) : Mx p cl (upd H cl (.lst (ms.map V.int))) m ms :=
  ⟨x.ne, by rw [upd_ne (Ne.symm x.ne)]; exact x.h1, upd_same, l, x.lo, x.hi⟩
theorem Mx.put {p cl : Addr} {H : Hp} {m : Int} {ns : List Int} (x : Mx p cl H m ns) (y : Int) : DPut H p (.str "mixed") (.int y) (upd H p (mxO cl y)) := by
  have z := DPut.k (k := kM) (v := .int y) x.h1 (by show 2 < sizeLine; rw [sizeLine_eq]; decide)
  rw [put_mx] at z
  exact z
section
variable {P : Program} {w : World} {K : PySem.W.Frag} {mg : Str → Option Value} {base : Heap} {cls : Nat → Addr} {flds : Nat → List Str} {p cl : Addr} {tb : List (Addr × Str)}
end
end Py
set_option Elab.async false
set_option linter.all false
set_option maxRecDepth 100000
set_option maxHeartbeats 4000000
namespace Py
open PySem PySem.Spec PyProof.Rows L2
/-- a def with its code object -/
structure FunC (K : PySem.W.Frag) (x qual : Str) (st : Stmt) (f : Addr) (fd : FuncData) (cdv : Value) : Prop where
  ex : ∃ (oc : Value) (od : Option Addr) (kV doc pm : Value) (an : Option Addr) (ct : Value) (osl : Array (Option Value)),
    fd = PySem.W.fnOf x qual (defArgs st) (defBody st) (defScope st) .none kV doc pm an cdv ct ∧ K.lookup f = some ⟨oc, od, .func fd, osl⟩ ∧ PySem.W.codeIn K cdv qual = true
  kp : PySem.W.keepIn K (.ref f) = true
theorem FunC.plain {K : PySem.W.Frag} {x qual : Str} {st : Stmt} {f : Addr} {fd : FuncData} {cdv : Value} (F : FunC K x qual st f fd cdv) : Fun K x qual st f fd := by
  obtain ⟨oc, od, kV, doc, pm, an, ct, osl, e1, e2, e3⟩ := F.ex
  exact ⟨⟨oc, od, kV, doc, pm, an, cdv, ct, osl, e1, e2, e3⟩, F.kp⟩
section
variable {P : Program} {w : World} {K : PySem.W.Frag} {mg : Str → Option Value} {base : Heap} {G : Gl}
end
section
variable {X : Cx} {G : Gl} {W : WX}
end
end Py
set_option Elab.async false
set_option linter.all false
set_option maxRecDepth 100000
set_option maxHeartbeats 4000000
namespace Py
open PySem PySem.Spec PyProof.Rows L2
/-! ### sorted, of ints -/
theorem sorted_one : ∀ {l m : List Int}, l.Perm m → l.Pairwise (· ≤ ·) → m.Pairwise (· ≤ ·) → l = m
  | [], m, p, _, _ => by
    rw [List.nil_perm.mp p]
  | a :: l, [], p, _, _ => by
    have := p.length_eq
    cases this
  | a :: l, b :: m, p, s, t => by
    rw [List.pairwise_cons] at s t
    have ha : a ∈ b :: m := p.subset (List.mem_cons_self ..)
    have hb : b ∈ a :: l := p.symm.subset (List.mem_cons_self ..)
    have e : a = b := by
      rcases List.mem_cons.mp ha with e | h1
      · exact e
      · rcases List.mem_cons.mp hb with e | h2
        · exact e.symm
        · have := t.1 a h1
          have := s.1 b h2
          omega
    subst e
    rw [sorted_one (List.Perm.cons_inv p) s.2 t.2]
def intsD : List D → Option (List Int)
  | [] => some []
  | .int i :: r => (intsD r).map (i :: ·)
  | _ => none
theorem intsD_ats {G : Gl} {H : Hp} : ∀ {l : List D} {ns : List Int} {xs : List V}, intsD l = some ns → Ats G H l xs → xs = ns.map V.int
  | [], ns, _, e, .nil => by
    cases e
    rfl
  | d :: r, ns, _, e, .cons (x := x) (xs := xs) a h => by
    cases d with
    | int i =>
      have e1 : (intsD r).map (i :: ·) = some ns := e
      cases q : intsD r with
      | none =>
        rw [q] at e1
        cases e1
      | some ms =>
        rw [q] at e1
        cases e1
        cases a
        rw [intsD_ats q h]
        rfl
    | _ => cases e
theorem ats_ints {G : Gl} {H : Hp} : ∀ ns : List Int, Ats G H (ns.map D.int) (ns.map V.int)
  | [] => .nil
  | n :: r => .cons .int (ats_ints r)
section
variable {X : Cx} {G : Gl} {W : WX} {hs : Hid}
/-- name = [.. for ..] on one line, the name a plain local -/
theorem ss_setLc {i : Nat} {y : Str} {py : Pos} {elt tg iter : Expr} {ifs : List Expr} {scope : Scope} {own : List (Str × Nat)} {pos spos : Pos} {it : Env → T (List D)} {g : TG} {b : Tg} {c : Env → T Bool} {e : Env → T D} (hc : X.calm = true) (hN : X.N.Nodup) (hy : X.N[i]? = some y) (hyl : X.env.scope.names.lookup y = some .local)
    (hi : EI X G W tg iter it) (ok : BlkOk X.N X.env.scope scope own) (ht : Tgt G g b (own.map (·.2)))
    (hg : ∀ (s : Shared) (H : Hp) (C : Addr) (cl : List (Str × Addr)) (fp : List Addr), PG (X.blk s H scope (compEnvC scope cl C X.env) fp) tg g)
    (hifs : ∀ (s : Shared) (H : Hp) (C : Addr) (cl : List (Str × Addr)) (fp : List Addr), PTs0 (X.blk s H scope (compEnvC scope cl C X.env) fp) G ifs c)
    (he : ∀ (s : Shared) (H : Hp) (C : Addr) (cl : List (Str × Addr)) (fp : List Addr), EE (X.blk s H scope (compEnvC scope cl C X.env) fp) G W0 elt e)
    (hsw : swapsWith (.ListComp elt [⟨tg, iter, ifs, 0⟩] scope pos) (some (.Name y py)) spos.line X.env = pure true := by rfl) (hs' : ∀ x, foldedSetIterable iter X.env x = pure x := by intro _; rfl) :
    SS X G W hs (.Assign [.Name y py] (.ListComp elt [⟨tg, iter, ifs, 0⟩] scope pos) spos) (sSet i (gComp it b c e (own.map (·.2)))) := by
  refine PS_imp (ps_setLc hc hN hy hyl hsw hi ok hg hifs he hs') fun Dn σ H q => ?_
  obtain ⟨nb, ρ, hd, R, q⟩ := q
  exact lc_imp ht ⟨_, ρ, hd, R.rep, T.wp_mono (bindS_then q) (fun d _ q1 v H' e h => q1 hd _ H' ((R.to e).set h) (e.hide R.rep.m)) fun c l _ z => rz_of R z⟩
end
end Py
set_option Elab.async false
set_option linter.all false
set_option maxRecDepth 100000
set_option maxHeartbeats 4000000
namespace Py
open PySem PySem.Spec PyProof.Rows L2

/-! ### keys -/
mutual
/-- the value v is the key k -/
inductive NKat (K : PySem.W.Frag) (H : Hp) : NestedKey → V → Prop
  | non : NKat K H .none .non
  | bl {b : Bool} : NKat K H (.num (if b then 1 else 0)) (.bl b)
  | int {i} : NKat K H (.num i) (.int i)
  | str {x} : NKat K H (.text x) (.str x)
  | tup {a ks xs} : SqT K H a xs → NKats K H ks xs → NKat K H (.tup ks) (.ref a)
inductive NKats (K : PySem.W.Frag) (H : Hp) : List NestedKey → List V → Prop
  | nil : NKats K H [] []
  | cons {k x ks xs} : NKat K H k x → NKats K H ks xs → NKats K H (k :: ks) (x :: xs)
end
mutual
theorem nkat_of {G : Gl} {K : PySem.W.Frag} (hK : G.K = K) {H : Hp} {hd : Addr → Prop} : ∀ {d : D} {v : V} {k : NestedKey}, At G (hide hd H) d v → nk d = some k → NKat K H k v
  | _, _, _, .non, e => by
    cases e
    exact .non
  | _, _, _, .bl, e => by
    cases e
    exact .bl
  | _, _, _, .int, e => by
    cases e
    exact .int
  | _, _, _, .str, e => by
    cases e
    exact .str
  | .tup l, _, k, .tup h1 h2, e => by
    have e1 : (nks l).map NestedKey.tup = some k := e
    cases q : nks l with
    | none =>
      rw [q] at e1
      cases e1
    | some r =>
      rw [q] at e1
      cases e1
      exact .tup (by rw [← hK]; exact hide_sub.sqM h1) (nkats_of hK h2 q)
  | _, _, _, .lst _ _, e => by cases e
  | _, _, _, .dic _ _ _, e => by cases e
  | _, _, _, .dicN _ _ _ _, e => by cases e
  | _, _, _, .obj _ _ _, e => by cases e
  | _, _, _, .deck, e => by cases e
theorem nkats_of {G : Gl} {K : PySem.W.Frag} (hK : G.K = K) {H : Hp} {hd : Addr → Prop} : ∀ {l : List D} {xs : List V} {ks : List NestedKey}, Ats G (hide hd H) l xs → nks l = some ks → NKats K H ks xs
  | _, _, _, .nil, e => by
    cases e
    exact .nil
  | d :: l, _, ks, .cons h r, e => by
    have e1 : ((nk d).bind fun k => (nks l).map (k :: ·)) = some ks := e
    cases q : nk d with
    | none =>
      rw [q] at e1
      cases e1
    | some k =>
      rw [q] at e1
      cases q2 : nks l with
      | none =>
        rw [q2] at e1
        cases e1
      | some r2 =>
        rw [q2] at e1
        cases e1
        exact .cons (nkat_of hK h q) (nkats_of hK r q2)
end
section
variable {X : Cx} {pins : List (Addr × Obj)} {σ : L2.St} {H : Hp} {s : Shared}
mutual
theorem NKat.is (I : Inv X pins σ H s) : ∀ {k : NestedKey} {v : V} {u : Value}, NKat X.K H k v → RelV v u → NestedIs s.heap k u
  | _, _, _, .non, r => by
    cases r
    exact .none
  | _, _, _, .bl, r => by
    cases r
    exact .bool rfl
  | _, _, _, .int, r => by
    obtain ⟨t, rfl⟩ := r
    exact .int _ _
  | _, _, _, .str, r => by
    obtain ⟨t, rfl⟩ := r
    exact .text _ _
  | _, _, _, .tup h1 h2, r => by
    cases r
    obtain ⟨its, rv, ⟨o, e, c, n, d⟩, _⟩ := I.tuple h1
    exact .tup e c d (by
      simpa using NKats.is I h2 rv)
theorem NKats.is (I : Inv X pins σ H s) : ∀ {ks : List NestedKey} {xs : List V} {us : List Value}, NKats X.K H ks xs → Vals xs us → NestedAll s.heap ks us
  | _, _, _, .nil, r => by
    cases r
    exact .nil
  | _, _, _, .cons h t, r => by
    cases r with
    | cons r1 r2 => exact .cons (NKat.is I h r1) (NKats.is I t r2)
end
end
/-! ### the dict -/
def PRel : List (NestedKey × Addr × V) → List (NestedKey × Addr × Value) → Prop := Paired (fun (p : NestedKey × Addr × V) (q : NestedKey × Addr × Value) => p.1 = q.1 ∧ p.2.1 = q.2.1 ∧ RelV p.2.2 q.2.2)
def KeysOk (K : PySem.W.Frag) (H : Hp) (ps : List (NestedKey × Addr × V)) : Prop := ∀ p ∈ ps, NKat K H p.1 (.ref p.2.1) ∧ p.1.depth ≤ 8
/-- a dict with nested keys; the bare one is of any kind -/
def IsDN (P : Program) (w : World) (H : Hp) (a : Addr) (ps : List (NestedKey × Addr × V)) : Prop := H a = some (DN P w a ps) ∨ (ps = [] ∧ H a = some (.dK []))
/-- the same, to be read alone: perhaps locked -/
def IsDR (P : Program) (w : World) (H : Hp) (a : Addr) (ps : List (NestedKey × Addr × V)) : Prop := H a = some (DN P w a ps) ∨ (ps = [] ∧ Rd H a (.dK []))
theorem IsDN.r {P : Program} {w : World} {H : Hp} {a : Addr} {ps : List (NestedKey × Addr × V)} (h : IsDN P w H a ps) : IsDR P w H a ps := h.imp id fun z => ⟨z.1, .inl z.2⟩
def lookA (ps : List (NestedKey × Addr × V)) (k : NestedKey) : Option V := (ps.find? fun x => decide (x.1 = k)).map (·.2.2)
def putA (k : NestedKey) (v : V) (x : NestedKey × Addr × V) : NestedKey × Addr × V := if x.1 = k then (x.1, x.2.1, v) else x
def storeA (ps : List (NestedKey × Addr × V)) (k : NestedKey) (b : Addr) (v : V) : List (NestedKey × Addr × V) := if (lookA ps k).isSome then ps.map (putA k v) else ps ++ [(k, b, v)]
theorem PRel.look : ∀ {ps : List (NestedKey × Addr × V)} {xs : List (NestedKey × Addr × Value)}, PRel ps xs → ∀ k, RelO (lookA ps k) ((atKey xs k).map (·.2))
  | _, _, .nil, _ => True.intro
  | p :: ps, q :: xs, .cons h r, k => by
    obtain ⟨e1, e2, e3⟩ := h
    by_cases hk : p.1 = k
    · have hq : q.1 = k := by rw [← e1]; exact hk
      have a1 : lookA (p :: ps) k = some p.2.2 := by simp [lookA, List.find?_cons, hk]
      have a2 : (atKey (q :: xs) k).map (·.2) = some q.2.2 := by simp [atKey, List.find?_cons, hq]
      rw [a1, a2]
      exact e3
    · have hq : ¬ q.1 = k := by rw [← e1]; exact hk
      have a1 : lookA (p :: ps) k = lookA ps k := by simp [lookA, List.find?_cons, hk]
      have a2 : atKey (q :: xs) k = atKey xs k := by simp [atKey, List.find?_cons, hq]
      rw [a1, a2]
      exact PRel.look r k
theorem PRel.append : ∀ {ps qs : List (NestedKey × Addr × V)} {xs ys : List (NestedKey × Addr × Value)}, PRel ps xs → PRel qs ys → PRel (ps ++ qs) (xs ++ ys)
  | _, _, _, _, .nil, h => h
  | _, _, _, _, .cons h r, h' => .cons h (PRel.append r h')
theorem PRel.put {k : NestedKey} {v : V} {r : Value} (rv : RelV v r) : ∀ {ps : List (NestedKey × Addr × V)} {xs : List (NestedKey × Addr × Value)}, PRel ps xs → PRel (ps.map (putA k v)) (xs.map (putAt k r))
  | _, _, .nil => .nil
  | p :: ps, q :: xs, .cons h t => .cons (by
      obtain ⟨e1, e2, e3⟩ := h
      unfold putA putAt
      by_cases hk : p.1 = k
      · rw [if_pos hk, if_pos (by rw [← e1]; exact hk)]
        exact ⟨e1, e2, rv⟩
      · rw [if_neg hk, if_neg (by rw [← e1]; exact hk)]
        exact ⟨e1, e2, e3⟩) (PRel.put rv t)
theorem RelO.some_eq {o : Option V} {o' : Option Value} (h : RelO o o') : o.isSome = o'.isSome := by
  cases o <;> cases o' <;> first | rfl | exact h.elim
theorem PRel.store {k : NestedKey} {b : Addr} {v : V} {r : Value} (rv : RelV v r) {ps : List (NestedKey × Addr × V)} {xs : List (NestedKey × Addr × Value)} (h : PRel ps xs) : PRel (storeA ps k b v) (storedH xs k b r) := by
  have e := RelO.some_eq (h.look k)
  rw [Option.isSome_map] at e
  unfold storeA storedH
  rw [e]
  by_cases q : (atKey xs k).isSome = true
  · rw [if_pos q, if_pos q]
    exact h.put rv
  · rw [if_neg q, if_neg q]
    exact h.append (.cons ⟨rfl, rfl, rv⟩ .nil)
theorem storeA_len (ps : List (NestedKey × Addr × V)) (k : NestedKey) (b : Addr) (v : V) : (storeA ps k b v).length ≤ ps.length + 1 := by
  unfold storeA
  split
  · rw [List.length_map]
    omega
  · rw [List.length_append]
    exact Nat.le_refl _
section
variable {X : Cx} {pins : List (Addr × Obj)} {σ : L2.St} {H : Hp} {s : Shared} {a b : Addr} {ps : List (NestedKey × Addr × V)} {k : NestedKey} {A : Around} {E : Value → Shared → Prop}
theorem dn_of (I : Inv X pins σ H s) (e : IsDR X.prog X.w H a ps) (ok : KeysOk X.K H ps) : ps.length ≤ sizeLine ∧ (a == sysModules) = false ∧ ∃ xs, PRel ps xs ∧ s.heap.DictOfH (nestedKind X.prog X.w) a xs := by
  rcases e with e | ⟨rfl, e⟩
  · obtain ⟨⟨z, hd, xs, r, o, es, ep, h1, h2, h3, h4, h5⟩, _, _⟩ := (show ObjOk X.prog X.w H s.heap a (DN X.prog X.w a ps) from I.hok a _ e)
    refine ⟨z, hd, xs, r, o, es, ep, h1, h2, h3, h4, fun x hx => ?_, h5⟩
    have key : ∀ {ps : List (NestedKey × Addr × V)} {xs : List (NestedKey × Addr × Value)}, PRel ps xs → KeysOk X.K H ps → ∀ x ∈ xs, (nestedKind X.prog X.w).is s.heap x.1 x.2.1 := by
      intro ps xs r
      induction r with
      | nil =>
        intro _ x hx
        cases hx
      | @cons p q ps xs h t ih =>
        intro ok x hx
        rcases List.mem_cons.mp hx with rfl | hx
        · obtain ⟨k1, k2⟩ := ok p (List.mem_cons_self ..)
          obtain ⟨e1, e2, _⟩ := h
          rw [e1, e2] at k1
          rw [e1] at k2
          exact ⟨k1.is I rfl, k2⟩
        · exact ih (fun p' h' => ok p' (List.mem_cons_of_mem _ h')) x hx
    exact key r ok x hx
  · obtain ⟨z, hd, vs, rel, o, es, ep, h1, h2, h3, h4, h5, h6⟩ := dk_rd I.hok e
    cases rel
    refine ⟨Nat.zero_le _, hd, [], .nil, o, es, ep, h1, h2, h3, ?_, (fun _ hx => nomatch hx), List.nodup_nil⟩
    generalize es.toList = l at h5
    cases l with
    | nil => rfl
    | cons x l => cases h5
theorem nroom (hu : A.units + 64 < cLine) : (nestedKind X.prog X.w).room A.in1 := by
  show A.in1.units + 8 < cLine
  rw [Around.in1_units]
  omega
theorem n_in {u : Value} {Q : Value → Shared → Prop} (hu : A.units + 64 < cLine) (I : Inv X pins σ H s) (e : IsDR X.prog X.w H a ps) (ok : KeysOk X.K H ps) (hk : NKat X.K H k (.ref b)) (h8 : k.depth ≤ 8) (h : ∀ s', Inv X pins σ H s' → Q (.bool (lookA ps k).isSome) s') :
    wpAny (model X.prog X.w) A (compareOp .In (.ref b) (.ref a)) Q E s := by
  obtain ⟨z, hd, xs, rel, dd⟩ := dn_of I e ok
  refine wpAny_in_heap (nroom hu) ⟨hk.is I rfl, h8⟩ hd dd ?_
  have q := RelO.some_eq (rel.look k)
  rw [Option.isSome_map] at q
  rw [← q]
  exact h _ (I.tok _)
theorem n_notIn {Q : Value → Shared → Prop} (hu : A.units + 64 < cLine) (I : Inv X pins σ H s) (e : IsDR X.prog X.w H a ps) (ok : KeysOk X.K H ps) (hk : NKat X.K H k (.ref b)) (h8 : k.depth ≤ 8) (h : ∀ s', Inv X pins σ H s' → Q (.bool (!(lookA ps k).isSome)) s') :
    wpAny (model X.prog X.w) A (compareOp .NotIn (.ref b) (.ref a)) Q E s := by
  obtain ⟨z, hd, xs, rel, dd⟩ := dn_of I e ok
  refine wpAny_notIn_heap (nroom hu) ⟨hk.is I rfl, h8⟩ hd dd ?_
  have q := RelO.some_eq (rel.look k)
  rw [Option.isSome_map] at q
  rw [← q]
  exact h _ (I.tok _)
theorem n_getItem {v : V} {Q : Value → Shared → Prop} (hu : A.units + 64 < cLine) (I : Inv X pins σ H s) (e : IsDR X.prog X.w H a ps) (ok : KeysOk X.K H ps) (hk : NKat X.K H k (.ref b)) (h8 : k.depth ≤ 8) (l : lookA ps k = some v) (h : ∀ w' s', Inv X pins σ H s' → RelV v w' → Q w' s') :
    wpAny (model X.prog X.w) A (getItem (.ref a) (.ref b)) Q E s := by
  obtain ⟨z, hd, xs, rel, dd⟩ := dn_of I e ok
  have q := rel.look k
  rw [l] at q
  cases e1 : atKey xs k with
  | none =>
    rw [e1] at q
    exact q.elim
  | some p =>
    rw [e1] at q
    exact wpAny_getItem_heap (nroom hu) ⟨hk.is I rfl, h8⟩ dd e1 (h _ _ (I.tok _) q)
theorem n_len {Q : Value → Shared → Prop} (I : Inv X pins σ H s) (e : IsDR X.prog X.w H a ps) (ok : KeysOk X.K H ps) (h : ∀ t s', Inv X pins σ H s' → Q (.int ps.length t) s') : wpAny (model X.prog X.w) A (call (.builtin "len") [.ref a]) Q E s := by
  obtain ⟨z, hd, xs, rel, dd⟩ := dn_of I e ok
  have hl := Paired.length rel
  refine call_len_dictH hd dd (by rw [← hl]; rw [sizeLine_eq] at z; omega) ?_
  rw [← hl]
  exact h _ _ (I.tok _)
end
end Py
set_option Elab.async false
set_option linter.all false
set_option maxRecDepth 100000
set_option maxHeartbeats 4000000
namespace Py
open PySem PySem.Spec PyProof.Rows L2

/-! ### dicts: data -/
def lookN : List D → List D → NestedKey → Option D
  | d :: ks, v :: vs, k => if nk d = some k then some v else lookN ks vs k
  | _, _, _ => none
def setN : List D → List D → NestedKey → D → List D
  | d :: ks, v :: vs, k, x => (if nk d = some k then x else v) :: setN ks vs k x
  | _, vs, _, _ => vs
def keyF : D → Option Key
  | .int i => some (.inl i)
  | .str x => some (.inr x)
  | _ => none
def keyT : D → Option NestedKey
  | .tup l => (nk (.tup l)).bind fun k => if k.depth ≤ 8 then some k else none
  | _ => none
def fk : Key → NestedKey
  | .inl i => .num i
  | .inr x => .text x
theorem fk_inj {a b : Key} (e : fk a = fk b) : a = b := by
  cases a <;> cases b <;> (unfold fk at e; first | (injection e with e; rw [e]) | cases e)
/-- the flat dict of the entries -/
def DcF (G : Gl) (H0 H : Hp) (a : Addr) (ks vs : List D) : Prop := ∃ kvs, Rd H0 a (.dK kvs) ∧ Ats G H ks (kvs.map fun q => kV q.1) ∧ Ats G H vs (kvs.map (·.2))
def DcN (G : Gl) (H0 H : Hp) (a : Addr) (ks vs : List D) : Prop := ∃ ps, H0 a = some (DN G.P G.w a ps) ∧ KN ks ps ∧ Ats G H ks (ps.map fun q => V.ref q.2.1) ∧ Ats G H vs (ps.map fun q => q.2.2)
/-- what stands at a key -/
def getDic (d k : D) : Option (Option D) := match d with
  | .dicN ks vs => (keyT k).map fun z => lookN ks vs z
  | .dic ks vs => match keyF k with
    | some z => some (lookN ks vs (fk z))
    | none => if ks.isEmpty then (keyT k).map fun _ => none else none
  | _ => none
theorem look_flat {G : Gl} {H : Hp} {k : Key} : ∀ {kvs : List (Key × V)} {ks vs : List D}, Ats G H ks (kvs.map fun q => kV q.1) → Ats G H vs (kvs.map (·.2)) →
    (∀ d, lookN ks vs (fk k) = some d → ∃ v, valV kvs k = some v ∧ At G H d v) ∧ (lookN ks vs (fk k) = none → valV kvs k = none)
  | [], _, _, h, h' => by
    cases h
    cases h'
    exact ⟨(fun d e => nomatch e), fun _ => rfl⟩
  | (k0, v0) :: kvs, _, _, h, h' => by
    cases h with
    | @cons d x l xs a r =>
      cases h' with
      | @cons d' x' l' xs' a' r' =>
        have e0 : nk d = some (fk k0) := by
          cases k0 with
          | inl i =>
            have a : At G H d (.int i) := a
            cases a
            rfl
          | inr y =>
            have a : At G H d (.str y) := a
            cases a
            rfl
        obtain ⟨i1, i2⟩ := look_flat (k := k) r r'
        by_cases q : k0 = k
        · have e1 : lookN (d :: l) (d' :: l') (fk k) = some d' := by
            rw [lookN, if_pos (by rw [e0, q])]
          have e2 : valV ((k0, v0) :: kvs) k = some v0 := by
            unfold valV
            simp [List.find?_cons, q]
          rw [e1, e2]
          exact ⟨fun d2 e => by
            cases e
            exact ⟨v0, rfl, a'⟩, fun e => by cases e⟩
        · have e1 : lookN (d :: l) (d' :: l') (fk k) = lookN l l' (fk k) := by
            rw [lookN, if_neg (fun z => q (fk_inj (by rw [e0] at z; exact Option.some.inj z)))]
          have e2 : valV ((k0, v0) :: kvs) k = valV kvs k := by
            unfold valV
            simp [List.find?_cons, q]
          rw [e1, e2]
          exact ⟨i1, i2⟩
theorem look_nest {G : Gl} {H : Hp} {k : NestedKey} : ∀ {ps : List (NestedKey × Addr × V)} {ks vs : List D}, nks ks = some (ps.map (·.1)) → Ats G H vs (ps.map fun q => q.2.2) →
    (∀ d, lookN ks vs k = some d → ∃ v, lookA ps k = some v ∧ At G H d v) ∧ (lookN ks vs k = none → lookA ps k = none)
  | [], ks, _, h, h' => by
    cases h'
    refine ⟨fun d e => ?_, fun _ => rfl⟩
    cases ks <;> cases e
  | p :: ps, ks, _, h, h' => by
    cases ks with
    | nil => cases h
    | cons d l =>
      have h1 : ((nk d).bind fun k => (nks l).map (k :: ·)) = some (p.1 :: ps.map (·.1)) := h
      cases q1 : nk d with
      | none =>
        rw [q1] at h1
        cases h1
      | some k1 =>
        rw [q1] at h1
        cases q2 : nks l with
        | none =>
          rw [q2] at h1
          cases h1
        | some r1 =>
          rw [q2] at h1
          have h2 := Option.some.inj h1
          have e1 : k1 = p.1 := (List.cons.inj h2).1
          have e2 : r1 = ps.map (·.1) := (List.cons.inj h2).2
          cases h' with
          | @cons d' x' l' xs' a' r' =>
            obtain ⟨i1, i2⟩ := look_nest (k := k) (by rw [q2, e2]) r'
            by_cases q : p.1 = k
            · have e3 : lookN (d :: l) (d' :: l') k = some d' := by
                rw [lookN, if_pos (by rw [q1, e1, q])]
              have e4 : lookA (p :: ps) k = some p.2.2 := by simp [lookA, List.find?_cons, q]
              rw [e3, e4]
              exact ⟨fun d2 e => by
                cases e
                exact ⟨_, rfl, a'⟩, fun e => by cases e⟩
            · have e3 : lookN (d :: l) (d' :: l') k = lookN l l' k := by
                rw [lookN, if_neg (fun z => q (by rw [q1] at z; rw [← e1]; exact Option.some.inj z))]
              have e4 : lookA (p :: ps) k = lookA ps k := by simp [lookA, List.find?_cons, q]
              rw [e3, e4]
              exact ⟨i1, i2⟩
theorem nks_mem : ∀ {l : List D} {ks : List NestedKey}, nks l = some ks → ∀ (i : Nat) (d : D), l[i]? = some d → ∃ k, ks[i]? = some k ∧ nk d = some k
  | [], _, _, i, d, e => by simp at e
  | d0 :: l, ks, h, i, d, e => by
    have h1 : ((nk d0).bind fun k => (nks l).map (k :: ·)) = some ks := h
    cases q1 : nk d0 with
    | none =>
      rw [q1] at h1
      cases h1
    | some k1 =>
      rw [q1] at h1
      cases q2 : nks l with
      | none =>
        rw [q2] at h1
        cases h1
      | some r1 =>
        rw [q2] at h1
        cases h1
        cases i with
        | zero =>
          have e1 : d0 = d := by simpa using e
          rw [← e1]
          exact ⟨k1, rfl, q1⟩
        | succ i => exact nks_mem q2 i d (by simpa using e)
theorem keys_ok {G : Gl} {K : PySem.W.Frag} (hK : G.K = K) {H : Hp} {hd : Addr → Prop} {ps : List (NestedKey × Addr × V)} {ks : List D} (n : KN ks ps) (h : Ats G (hide hd H) ks (ps.map fun q => V.ref q.2.1)) : KeysOk K H ps := fun p hp => by
  obtain ⟨i, hi⟩ := List.mem_iff_getElem?.mp hp
  have e1 : (ps.map fun q => V.ref q.2.1)[i]? = some (.ref p.2.1) := by rw [List.getElem?_map, hi]; rfl
  obtain ⟨d, e2, a⟩ := h.get e1
  obtain ⟨k, e3, e4⟩ := nks_mem n.1 i d e2
  have e5 : (ps.map (·.1))[i]? = some p.1 := by rw [List.getElem?_map, hi]; rfl
  rw [e5] at e3
  cases e3
  exact ⟨nkat_of hK a e4, n.2 p hp⟩
theorem keyT_some {k : D} {z : NestedKey} (e : keyT k = some z) : nk k = some z ∧ z.depth ≤ 8 ∧ ∃ l, k = .tup l := by
  cases k with
  | tup l =>
    have e1 : ((nk (.tup l)).bind fun k => if k.depth ≤ 8 then some k else none) = some z := e
    cases q : nk (.tup l) with
    | none =>
      rw [q] at e1
      cases e1
    | some k1 =>
      rw [q] at e1
      have e2 : (if k1.depth ≤ 8 then some k1 else none) = some z := e1
      by_cases h : k1.depth ≤ 8
      · rw [if_pos h] at e2
        cases e2
        exact ⟨rfl, h, l, rfl⟩
      · rw [if_neg h] at e2
        cases e2
  | _ => cases e

/-- what is read of a dict at a at the key y -/
def GetAt (X : Cx) (H : Hp) (a : Addr) (y : V) (o : Option V) : Prop :=
  (∃ b ps k, y = .ref b ∧ IsDR X.prog X.w H a ps ∧ KeysOk X.K H ps ∧ NKat X.K H k (.ref b) ∧ k.depth ≤ 8 ∧ lookA ps k = o) ∨ DGet H a y o
section
variable {X : Cx} {G : Gl} {W : WX}
/-- a dict's entry by the entry of its data -/
theorem get_core (hK : G.K = X.K) (hP : G.P = X.prog) (hw : G.w = X.w) {H : Hp} {hd : Addr → Prop} {a : Addr} {dc k : D} {y : V} {o : Option D}
    (h : (∃ ks vs, dc = .dic ks vs ∧ DcF G H (hide hd H) a ks vs) ∨ (∃ ks vs, dc = .dicN ks vs ∧ DcN G H (hide hd H) a ks vs)) (hy : At G (hide hd H) k y) (e : getDic dc k = some o) :
    (∀ d, o = some d → ∃ v, GetAt X H a y (some v) ∧ At G (hide hd H) d v) ∧ (o = none → GetAt X H a y none) := by
  rcases h with ⟨ks, vs, rfl, kvs, h1, h2, h3⟩ | ⟨ks, vs, rfl, ps, h1, h2, h3, h4⟩
  · have e1 : (match keyF k with
      | some z => some (lookN ks vs (fk z))
      | none => if ks.isEmpty then (keyT k).map fun _ => none else none) = some o := e
    cases q : keyF k with
    | some z =>
      rw [q] at e1
      have e2 : lookN ks vs (fk z) = o := Option.some.inj e1
      have ey : y = kV z := by
        cases k <;> first | (cases q; done) | (cases q; cases hy; rfl) | cases q
      obtain ⟨i1, i2⟩ := look_flat (k := z) h2 h3
      refine ⟨fun d ed => ?_, fun ed => ?_⟩
      · obtain ⟨v, ev, av⟩ := i1 d (by rw [e2, ed])
        exact ⟨v, .inr (.inl ⟨kvs, z, h1, ey, ev.symm⟩), av⟩
      · exact .inr (.inl ⟨kvs, z, h1, ey, (i2 (by rw [e2, ed])).symm⟩)
    | none =>
      rw [q] at e1
      have e1 : (if ks.isEmpty then (keyT k).map fun _ => (none : Option D) else none) = some o := e1
      by_cases q2 : ks.isEmpty = true
      · rw [if_pos q2] at e1
        cases q3 : keyT k with
        | none =>
          rw [q3] at e1
          cases e1
        | some z =>
          rw [q3] at e1
          have e2 : none = o := Option.some.inj e1
          rw [← e2]
          refine ⟨(fun d ed => nomatch ed), fun _ => ?_⟩
          obtain ⟨z1, z2, l, rfl⟩ := keyT_some q3
          have ek : kvs = [] := by
            have hl := h2.length
            have : ks = [] := by
              cases ks with
              | nil => rfl
              | cons _ _ => cases q2
            rw [this] at hl
            cases kvs with
            | nil => rfl
            | cons _ _ => simp at hl
          cases hy with
          | @tup l' b xs s1 s2 => exact .inl ⟨b, [], z, rfl, .inr ⟨rfl, by rw [← ek]; exact h1⟩, (fun _ z => nomatch z), nkat_of hK (.tup s1 s2) z1, z2, rfl⟩
      · rw [if_neg q2] at e1
        cases e1
  · have e1 : ((keyT k).map fun z => lookN ks vs z) = some o := e
    cases q3 : keyT k with
    | none =>
      rw [q3] at e1
      cases e1
    | some z =>
      rw [q3] at e1
      have e2 : lookN ks vs z = o := Option.some.inj e1
      obtain ⟨z1, z2, l, rfl⟩ := keyT_some q3
      obtain ⟨i1, i2⟩ := look_nest (k := z) h2.1 h4
      rw [hP, hw] at h1
      have ok := keys_ok hK h2 h3
      cases hy with
      | @tup l' b xs s1 s2 =>
        have na := nkat_of hK (At.tup s1 s2) z1
        refine ⟨fun d ed => ?_, fun ed => ?_⟩
        · obtain ⟨v, ev, av⟩ := i1 d (by rw [e2, ed])
          exact ⟨v, .inl ⟨b, ps, z, rfl, .inl h1, ok, na, z2, ev⟩, av⟩
        · exact .inl ⟨b, ps, z, rfl, .inl h1, ok, na, z2, i2 (by rw [e2, ed])⟩
/-! ### in, not in -/
def rInO (X : Cx) (neg : Bool) : R2 := fun x y H Q => ∃ a o, y = .ref a ∧ GetAt X H a x o ∧ Q (.bl (if neg then !o.isSome else o.isSome)) H
theorem op_inO (hu : X.A.units + 64 < cLine) : OpR X (compareOp .In) (rInO X false) := by
  intro pins s σ H x y v u Q I rx ry h
  obtain ⟨a, o, rfl, g, q⟩ := h
  cases ry
  rcases g with ⟨b, ps, k, rfl, h1, h2, h3, h4, rfl⟩ | g
  · cases rx
    exact n_in (u := .ref b) hu I h1 h2 h3 h4 fun s' I' => ⟨.bl _, H, I', rfl, q⟩
  · exact L2.d_in (by omega) I g rx fun s' I' => ⟨.bl _, H, I', rfl, q⟩
theorem op_notInO (hu : X.A.units + 64 < cLine) : OpR X (compareOp .NotIn) (rInO X true) := by
  intro pins s σ H x y v u Q I rx ry h
  obtain ⟨a, o, rfl, g, q⟩ := h
  cases ry
  rcases g with ⟨b, ps, k, rfl, h1, h2, h3, h4, rfl⟩ | g
  · cases rx
    exact n_notIn hu I h1 h2 h3 h4 fun s' I' => ⟨.bl _, H, I', rfl, q⟩
  · exact L2.d_notIn (by omega) I g rx fun s' I' => ⟨.bl _, H, I', rfl, q⟩
def inDic (neg : Bool) (k dc : D) : Option D := (getDic dc k).map fun o => .bl (if neg then !o.isSome else o.isSome)
theorem dc_at {H : Hp} {hd : Addr → Prop} {dc : D} {x : V} {k : D} {o : Option D} (h : At G (hide hd H) dc x) (e : getDic dc k = some o) : ∃ a, x = .ref a ∧ ((∃ ks vs, dc = .dic ks vs ∧ DcF G H (hide hd H) a ks vs) ∨ (∃ ks vs, dc = .dicN ks vs ∧ DcN G H (hide hd H) a ks vs)) := by
  cases h with
  | dic h1 h2 h3 => exact ⟨_, rfl, .inl ⟨_, _, rfl, _, (h1.mono hide_sub).rd, h2, h3⟩⟩
  | dicN h1 h2 h3 h4 => exact ⟨_, rfl, .inr ⟨_, _, rfl, _, hide_sub _ _ h1, h2, h3, h4⟩⟩
  | _ => cases e
theorem d_inDic (hK : G.K = X.K) (hP : G.P = X.prog) (hw : G.w = X.w) (neg : Bool) : Does2 G (rInO X neg) (inDic neg) := fun hd H x y a b d Q R h1 h2 e k => by
  have e0 : (getDic b a).map (fun o => D.bl (if neg then !o.isSome else o.isSome)) = some d := e
  cases q : getDic b a with
  | none =>
    rw [q] at e0
    cases e0
  | some o =>
    rw [q] at e0
    have e1 : D.bl (if neg then !o.isSome else o.isSome) = d := Option.some.inj e0
    obtain ⟨p, rfl, dc⟩ := dc_at h2 q
    obtain ⟨g1, g2⟩ := get_core hK hP hw dc h1 q
    cases o with
    | none => exact ⟨p, none, rfl, g2 rfl, k _ H (Lead.refl H) (by rw [← e1]; exact .bl)⟩
    | some z =>
      obtain ⟨v, g3, _⟩ := g1 z rfl
      exact ⟨p, some v, rfl, g3, k _ H (Lead.refl H) (by rw [← e1]; exact .bl)⟩
/-! ### the item at a key -/
def rGetO (X : Cx) : R2 := fun x y H Q => ∃ a v, x = .ref a ∧ GetAt X H a y (some v) ∧ Q v H
theorem isdn_type {pins : List (Addr × Obj)} {σ : L2.St} {H : Hp} {s : Shared} {a : Addr} {ps : List (NestedKey × Addr × V)} (I : Inv X pins σ H s) (e : IsDR X.prog X.w H a ps) (ok : KeysOk X.K H ps) : s.TypeIs (.ref a) "dict" := by
  obtain ⟨_, _, xs, _, dd⟩ := dn_of I e ok
  exact dd.typeIs
theorem ix_dict (hu : X.A.units + 64 < cLine) : IxR X (rGetO X) := by
  intro value slice pins s σ H x y v u Q I rx ry h hs
  obtain ⟨a, w0, rfl, g, q⟩ := h
  cases rx
  have hT : s.TypeIs (.ref a) "dict" := by
    rcases g with ⟨b, ps, k, _, h1, h2, _⟩ | g
    · exact isdn_type I h1 h2
    · exact dict_typeIs I g
  have h2 : wpAny (model X.prog X.w) X.A (getItem (.ref a) u) (EP X pins σ Q) X.xe s := by
    rcases g with ⟨b, ps, k, rfl, h1, h2, h3, h4, h5⟩ | g
    · cases ry
      exact n_getItem hu I h1 h2 h3 h4 h5 fun w' s3 I3 rw' => ⟨w0, H, I3, rw', q⟩
    · exact d_getItem (by omega) I g ry fun w' s3 I3 rw' => ⟨w0, H, I3, rw', q⟩
  unfold subscriptTail
  refine wpAny_bind ?_
  rw [getitemInPython_of_ne hT.not_modules]
  refine wpAny_bind (wpAny_specialOf hT PySem.F.slot_dict_getitem.lookup ?_)
  have fin : wpAny (model X.prog X.w) X.A (subscripted slice false (.ref a) u) (fun r s₃ => wpAny (model X.prog X.w) X.A (letTemporaryGo value (.ref a) r >>= fun _ => pure r) (EP X pins σ Q) X.xe s₃) X.xe s := by
    rw [hs]
    exact wpAny_operating (wpAny_mono h2 (fun r s₃ h₃ => wpAny_bind (wpAny_letTemporaryGo (wpAny_pure h₃))) fun _ _ x => x)
  first
    | exact wpAny_pure (wpAny_bind fin)
    | exact wpAny_bind (wpAny_pure (wpAny_bind fin))
    | exact wpAny_bind fin
def ixDic (dc k : D) : Option D := (getDic dc k).bind id
theorem d_ixDic (hK : G.K = X.K) (hP : G.P = X.prog) (hw : G.w = X.w) : Does2 G (rGetO X) ixDic := fun hd H x y a b d Q R h1 h2 e k => by
  have e0 : (getDic a b).bind id = some d := e
  cases q : getDic a b with
  | none =>
    rw [q] at e0
    cases e0
  | some o =>
    rw [q] at e0
    have e1 : o = some d := e0
    obtain ⟨p, rfl, dc⟩ := dc_at h1 q
    obtain ⟨g1, _⟩ := get_core hK hP hw dc h2 q
    obtain ⟨v, g3, a3⟩ := g1 d e1
    exact ⟨p, v, rfl, g3, k v H (Lead.refl H) a3⟩
/-- a[b] of a list, a tuple, a dict -/
def ixA (a b : D) : Option D := (ixD a b).or (ixDic a b)
theorem ee_ixA (hK : G.K = X.K) (hP : G.P = X.prog) (hw : G.w = X.w) (hu : X.A.units + 64 < cLine) {a b : Expr} {pos : Pos} {f g : Env → T D} (ha : EE X G W a f) (hb : EE X G W b g) (hs : PlainIx b := by intro _ _; rfl) : EE X G W (.Subscript a b pos) (gOp ixA f g) :=
  PE_imp (pe_ix (IxR.or (IxR.or ix_list ix_tup) (ix_dict hu)) ha hb hs) fun σ H Q q => two (Does2.or (d_ix hK) (d_ixDic hK hP hw)) q
/-! ### own dicts -/
/-! ### x[k] = v -/
theorem nks_app : ∀ {l : List D} {ks : List NestedKey} {d : D} {k : NestedKey}, nks l = some ks → nk d = some k → nks (l ++ [d]) = some (ks ++ [k])
  | [], ks, d, k, h, e => by
    cases h
    show (nk d).bind (fun k => (nks []).map (k :: ·)) = some [k]
    rw [e]
    rfl
  | d0 :: l, ks, d, k, h, e => by
    have h1 : ((nk d0).bind fun k => (nks l).map (k :: ·)) = some ks := h
    cases q1 : nk d0 with
    | none =>
      rw [q1] at h1
      cases h1
    | some k1 =>
      rw [q1] at h1
      cases q2 : nks l with
      | none =>
        rw [q2] at h1
        cases h1
      | some r1 =>
        rw [q2] at h1
        cases h1
        show (nk d0).bind (fun k => (nks (l ++ [d])).map (k :: ·)) = some (k1 :: r1 ++ [k])
        rw [q1, nks_app q2 e]
        rfl
theorem set_nest {H : Hp} {k : NestedKey} {x : D} {v : V} (ax : At G H x v) : ∀ {ps : List (NestedKey × Addr × V)} {ks vs : List D}, nks ks = some (ps.map (·.1)) → Ats G H vs (ps.map fun q => q.2.2) →
    Ats G H (setN ks vs k x) ((ps.map (putA k v)).map fun q => q.2.2)
  | [], ks, _, h, h' => by
    cases h'
    cases ks with
    | nil => exact .nil
    | cons d l => exact .nil
  | p :: ps, ks, _, h, h' => by
    cases ks with
    | nil => cases h
    | cons d l =>
      have h1 : ((nk d).bind fun k => (nks l).map (k :: ·)) = some (p.1 :: ps.map (·.1)) := h
      cases q1 : nk d with
      | none =>
        rw [q1] at h1
        cases h1
      | some k1 =>
        rw [q1] at h1
        cases q2 : nks l with
        | none =>
          rw [q2] at h1
          cases h1
        | some r1 =>
          rw [q2] at h1
          have h2 := Option.some.inj h1
          have e1 : k1 = p.1 := (List.cons.inj h2).1
          have e2 : r1 = ps.map (·.1) := (List.cons.inj h2).2
          cases h' with
          | @cons d' x' l' xs' a' r' =>
            have r2 := set_nest (k := k) ax (by rw [q2, e2]) r'
            rw [setN, List.map_cons, List.map_cons]
            by_cases q : p.1 = k
            · rw [if_pos (by rw [q1, e1, q])]
              have e3 : (putA k v p).2.2 = v := by unfold putA; rw [if_pos q]
              rw [e3]
              exact .cons ax r2
            · rw [if_neg (fun z => q (by rw [q1] at z; rw [← e1]; exact Option.some.inj z))]
              have e3 : putA k v p = p := by unfold putA; rw [if_neg q]
              rw [e3]
              exact .cons a' r2
theorem putA_fst (k : NestedKey) (v : V) (ps : List (NestedKey × Addr × V)) : (ps.map (putA k v)).map (·.1) = ps.map (·.1) ∧ (ps.map (putA k v)).map (fun q => V.ref q.2.1) = ps.map (fun q => V.ref q.2.1) := by
  rw [List.map_map, List.map_map]
  constructor <;> refine List.map_congr_left fun p _ => ?_ <;> (show _ = _; unfold Function.comp putA; by_cases q : p.1 = k <;> simp [q])
/-- the entry is put: the data -/
theorem put_nest {H : Hp} {ps : List (NestedKey × Addr × V)} {ks vs : List D} {kd x : D} {k : NestedKey} {b : Addr} {v : V} (n : KN ks ps) (h2 : Ats G H ks (ps.map fun q => V.ref q.2.1)) (h3 : Ats G H vs (ps.map fun q => q.2.2)) (e : nk kd = some k) (h8 : k.depth ≤ 8) (ak : At G H kd (.ref b)) (ax : At G H x v) :
    let r := if (lookN ks vs k).isSome then (ks, setN ks vs k x) else (ks ++ [kd], vs ++ [x])
    KN r.1 (storeA ps k b v) ∧ Ats G H r.1 ((storeA ps k b v).map fun q => V.ref q.2.1) ∧ Ats G H r.2 ((storeA ps k b v).map fun q => q.2.2) := by
  obtain ⟨l1, l2⟩ := look_nest (k := k) n.1 h3
  cases q : lookN ks vs k with
  | none =>
    have e1 := l2 q
    have e2 : storeA ps k b v = ps ++ [(k, b, v)] := by unfold storeA; rw [e1]; rfl
    rw [e2]
    refine ⟨⟨by rw [List.map_append]; exact nks_app n.1 e, fun p hp => ?_⟩, by rw [List.map_append]; exact h2.append (.cons ak .nil), by rw [List.map_append]; exact h3.append (.cons ax .nil)⟩
    rcases List.mem_append.mp hp with hp | hp
    · exact n.2 p hp
    · rw [List.mem_singleton.mp hp]
      exact h8
  | some d0 =>
    obtain ⟨v0, e1, _⟩ := l1 d0 q
    have e2 : storeA ps k b v = ps.map (putA k v) := by unfold storeA; rw [e1]; rfl
    rw [e2]
    obtain ⟨p1, p2⟩ := putA_fst k v ps
    refine ⟨⟨by rw [p1]; exact n.1, fun p hp => ?_⟩, by rw [p2]; exact h2, set_nest ax n.1 h3⟩
    obtain ⟨p0, hp0, rfl⟩ := List.mem_map.mp hp
    have := n.2 p0 hp0
    unfold putA
    by_cases c : p0.1 = k
    · rw [if_pos c]
      exact this
    · rw [if_neg c]
      exact this
end
end Py
set_option Elab.async false
set_option linter.all false
set_option maxRecDepth 100000
set_option maxHeartbeats 4000000
/-! ### tuples sorted, some of them bare -/
namespace Py.So
open PySem PySem.W PySem.SeqAt PySem.Calls PyProof.Rows
theorem call_tuple_lt {A : Around} {s : Shared} {prog : Program} {w : World} {E : Value → Shared → Prop} {Q : Value → Shared → Prop} {l b : Addr} {items items2 : Array Value} {e r : Nat → Bool} (hl : s.heap.IsTuple l items) (hb : s.heap.IsTuple b items2)
    (he : ∀ j (h1 : j < items.size) (h2 : j < items2.size), EqAt A.in1 s items[j] items2[j] (e j)) (hr : ∀ j (h1 : j < items.size) (h2 : j < items2.size), e j = false → RcLt A.in1 s items[j] items2[j] (r j))
    (h : Q (.bool (firstLt e r (decide (items.size < items2.size)) (List.range (min items.size items2.size)))) s) : wpAny (model prog w) A (call (.builtin "tuple.__lt__") [.ref l, .ref b]) Q E s := by
  obtain ⟨⟨cls, dd, data, sl⟩, ho, hc, n, hd⟩ := id hl
  obtain ⟨⟨cls2, dd2, data2, sl2⟩, ho2, hc2, n2, hd2⟩ := id hb
  simp only at hc hd hc2 hd2
  subst hc hd hc2 hd2
  exact call_meets F.slot_tuple_lt ⟨_, ho, rfl⟩ F.entry_tuple_lt (F.args_tuple_lt_2 _ _) (tuple_ltAt l b items items2 n n2 dd dd2 sl sl2 e r) ⟨ho, ho2, he, hr, h⟩
variable {prog : Program} {w : World} {A : Around} {E : Value → Shared → Prop} {s : Shared}
theorem oneLt_any {f : Bool} {da db : PyData} {a b : Value} {as bs : List Addr} {Q : Bool → Shared → Prop} (ra : Reads s.heap a da as) (rb : Reads s.heap b db bs) (h : alike da db = true) (hn : da ≠ .none)
    (hu : A.units + min da.depth db.depth < cLine) (hq : Q (dataLt da db) s) : wpAny (model prog w) A (oneLt' f a b) Q E s := by
  by_cases ht : f = true ∧ ∃ xs, da = .tuple xs
  · obtain ⟨rfl, xs, rfl⟩ := ht
    cases db with
    | tuple ys =>
      have hal : alikeAll xs ys = true := by simpa [alike] using h
      cases ra with
      | @tuple l o vs n _ as₁ h1 h2 h3 h4 =>
        cases rb with
        | @tuple l' o' vs' n' _ bs₁ k1 k2 k3 k4 =>
          have n1 : vs.size = xs.length := by simpa using ReadsAll.length _ _ _ h4
          have n2 : vs'.size = ys.length := by simpa using ReadsAll.length _ _ _ k4
          rw [dataLt_tuple, ← firstLt_toks xs ys hal, ← n1, ← n2] at hq
          rw [oneLt'_eq]
          simp only [if_true]
          refine wpAny_bind (wpAny_cRoomFor (room_here hu) ?_)
          refine wpAny_bind (wpAny_callSpecialIfBound?_slot (T := "tuple") ⟨_, h1, h2⟩ F.slot_tuple_lt (call_tuple_lt (e := pairEq xs ys) (r := fun j => dataLt (xs.getD j .none) (ys.getD j .none)) ⟨_, h1, h2, _, h3⟩ ⟨_, k1, k2, _, k3⟩ (fun j j1 j2 => ?_) (fun j j1 j2 hj => ?_) ?_))
          · have := eqAt_alikeAll xs ys A.in1 s vs.toList vs'.toList _ _ h4 k4 hal (room_in hu) j (by simpa using j1) (by simpa using j2)
            simpa using this
          · have := rcLt_alikeAll xs ys A.in1 s vs.toList vs'.toList _ _ h4 k4 hal (room_in hu) j (by simpa using j1) (by simpa using j2) hj
            simpa using this
          · exact wpAny_truthy_bool hq
    | _ => exact absurd h (by simp [alike])
  · exact oneLt_alike (fun e xs e2 => ht ⟨e, xs, e2⟩) ra rb h hn hu hq
theorem keyLt'_general (x y : Value) : keyLt' general' x y = oneLt' false x y := rfl
section
variable {M : Model}
/-- the first items, where there are such -/
theorem mapM_any {α β : Type} {f : α → Sem β} {g : α → β} : ∀ (l : List α) {Q : List β → Shared → Prop}, (∀ v ∈ l, ∀ (Q' : β → Shared → Prop), Q' (g v) s → wpAny M A (f v) Q' E s) → Q (l.map g) s → wpAny M A (l.mapM f) Q E s
  | [], _, _, h => by rw [List.mapM_nil]; exact wpAny_pure h
  | x :: l, Q, hf, h => by
    rw [List.mapM_cons]
    exact wpAny_bind (hf x (.head _) _ (wpAny_bind (mapM_any l (Q := fun bs s' => wpAny M A (pure (g x :: bs)) Q E s') (fun v hv => hf v (.tail _ hv)) (wpAny_pure h))))
open Classical in
/-- the first item of the tuple v -/
noncomputable def fst0 (h : Heap) (v : Value) : Option Value := if q : ∃ a o xs n, v = .ref a ∧ h.get? a = some o ∧ o.cls = .type "tuple" ∧ o.data = .seq xs n then (q.choose_spec.choose_spec.choose)[0]? else none
def IsT (h : Heap) (v : Value) : Prop := ∃ a o xs n, v = .ref a ∧ h.get? a = some o ∧ o.cls = .type "tuple" ∧ o.data = .seq xs n
theorem fst0_at {h : Heap} {a : Addr} {o : Obj} {xs : Array Value} {n : Nat} (ho : h.get? a = some o) (hc : o.cls = .type "tuple") (hd : o.data = .seq xs n) : fst0 h (.ref a) = xs[0]? := by
  have q : ∃ a' o xs n, Value.ref a = .ref a' ∧ h.get? a' = some o ∧ o.cls = .type "tuple" ∧ o.data = .seq xs n := ⟨a, o, xs, n, rfl, ho, hc, hd⟩
  unfold fst0
  rw [dif_pos q]
  obtain ⟨m, e1, e2, e3, e4⟩ := q.choose_spec.choose_spec.choose_spec
  have e1' : a = q.choose := by injection e1
  have e2' : h.get? a = some q.choose_spec.choose := (congrArg h.get? e1').trans e2
  rw [ho] at e2'
  have e5 := Option.some.inj e2'
  have e7 := hd.symm.trans ((congrArg Obj.data e5).trans e4)
  injection e7 with e6 _
  rw [← e6]
theorem fst_eq {v : Value} (t : IsT s.heap v) {Q' : Option Value → Shared → Prop} (h : Q' (fst0 s.heap v) s) : wpAny M A (firstOfTuple' v) Q' E s := by
  obtain ⟨a, o, xs, n, rfl, ho, hc, hd⟩ := t
  rw [fst0_at ho hc hd] at h
  rw [kas_first_eq]
  refine wpAny_bind (Looks.here (show Looks M s.heap (typeOf (.ref a)) o.cls from (Looks.ld ho).andThen .now) ?_)
  rw [hc, if_neg (by first | decide | simp)]
  exact wpAny_bind (listItems_at ho hd (wpAny_pure h))
/-- the kind of tuples of which some are bare -/
theorem mix_kind {v₁ v₂ : Value} {rest : List Value} {Q : SortKind → Shared → Prop} (t : ∀ v ∈ v₁ :: v₂ :: rest, IsT s.heap v) (hb : ∃ v ∈ v₁ :: v₂ :: rest, fst0 s.heap v = none) (h : Q (if (fst0 s.heap v₁).isSome then general' else oneType') s) :
    wpAny M A (keyKind' (v₁ :: v₂ :: rest).toArray) Q E s := by
  have hT : ∀ v ∈ v₁ :: v₂ :: rest, Looks M s.heap (typeOf v) (.type "tuple") := fun v hv => by
    obtain ⟨a, o, xs, n, rfl, ho, hc, hd⟩ := t v hv
    exact hc ▸ (show Looks M s.heap (typeOf (.ref a)) o.cls from (Looks.ld ho).andThen .now)
  rw [keyKind'_eq, List.mapM_toArray, map_eq_pure_bind]
  refine wpAny_bind (wpAny_bind (mapM_any (g := fst0 s.heap) _ (fun v hv Q' hq => fst_eq (t v hv) hq) (wpAny_pure ?_)))
  have hall : ¬ (((v₁ :: v₂ :: rest).map (fst0 s.heap)).toArray.all fun x => x.isSome) = true := fun z => by
    simp only [List.all_toArray, List.all_map, List.all_eq_true] at z
    obtain ⟨v, hv, e⟩ := hb
    have := z v hv
    simp [e] at this
  rw [if_neg hall]
  have h0 : (((v₁ :: v₂ :: rest).map (fst0 s.heap)).toArray[0]?.bind id).isSome = (fst0 s.heap v₁).isSome := by simp
  rw [h0]
  by_cases q : (fst0 s.heap v₁).isSome = true
  · rw [if_pos q] at h ⊢
    exact wpAny_pure h
  · rw [if_neg q] at h ⊢
    rw [oneTypeOnly'_eq, List.mapM_toArray, map_eq_pure_bind]
    refine wpAny_bind (wpAny_bind (wpAny_bind (kas_mapM (r := Value.type "tuple") _ (fun v hv Q' hq => (hT v hv).here hq) (wpAny_pure ?_))))
    have hall : ((List.map (fun _ => Value.type "tuple") (v₁ :: v₂ :: rest)).toArray.all fun x => x == Value.type "tuple") = true := by
      simp only [List.all_toArray, List.all_map, List.all_eq_true]
      intro _ _
      exact (by decide : (Value.type "tuple" == Value.type "tuple") = true)
    have h0 : (List.map (fun _ => Value.type "tuple") (v₁ :: v₂ :: rest)).toArray[0]? = some (Value.type "tuple") := by simp
    rw [h0]
    simp only [hall, if_true]
    exact wpAny_pure (wpAny_pure h)
end
/-- all are tuples, or none is a tuple or None -/
def SortB (ds : List PyData) : Prop := (∀ d, d ∈ ds → ∃ xs, d = .tuple xs) ∨ ∀ d, d ∈ ds → d ≠ .none ∧ ∀ xs, d ≠ .tuple xs
theorem each_left {α β : Type} {R : α → β → Prop} : ∀ {as : List α} {bs : List β}, EachIs R as bs → ∀ a ∈ as, ∃ b ∈ bs, R a b
  | _, _, .nil, _, h => by cases h
  | _, _, .cons r t, a, h => by
    rcases List.mem_cons.mp h with rfl | h
    · exact ⟨_, List.mem_cons_self .., r⟩
    · obtain ⟨b, hb, q⟩ := each_left t a h
      exact ⟨b, List.mem_cons_of_mem _ hb, q⟩
theorem each_right {α β : Type} {R : α → β → Prop} : ∀ {as : List α} {bs : List β}, EachIs R as bs → ∀ b ∈ bs, ∃ a ∈ as, R a b
  | _, _, .nil, _, h => by cases h
  | _, _, .cons r t, b, h => by
    rcases List.mem_cons.mp h with rfl | h
    · exact ⟨_, List.mem_cons_self .., r⟩
    · obtain ⟨a, ha, q⟩ := each_right t b h
      exact ⟨a, List.mem_cons_of_mem _ ha, q⟩
theorem sortsAt {vs : List Value} {ds : List PyData} (e : EachIs (fun v d => ∃ as, Reads s.heap v d as) vs ds) (hal : AllAlike ds) (hk : SortB ds) (hu : ∀ d, d ∈ ds → A.units + d.depth < cLine) : SortsAt prog w A s (dataKind s.heap ds) vs := by
  rcases hk with ht | hn
  · by_cases hb : ∃ d, d ∈ ds ∧ d = .tuple []
    · have room : ∀ {d d' : PyData}, d ∈ ds → A.units + min d.depth d'.depth < cLine := fun {d d'} hd => Nat.lt_of_le_of_lt (Nat.add_le_add_left (Nat.min_le_left _ _) _) (hu d hd)
      have cmp : ∀ (f : Bool) (E : Value → Shared → Prop) (x y : Value) (a b : List (Int ⊕ List Nat)) (Q : Bool → Shared → Prop), (dataKind s.heap ds).keyOf x = some a → (dataKind s.heap ds).keyOf y = some b → Q (PyProof.Rows.lexLt itemOrd a b) s → wpAny (model prog w) A (oneLt' f x y) Q E s := by
        intro f E x y a b Q ha hb' hq
        obtain ⟨d, as, hd, ra, rfl⟩ := dataKind_inv ha
        obtain ⟨d', as', hd', rb, rfl⟩ := dataKind_inv hb'
        exact oneLt_any ra rb (hal d hd d' hd') (fun z => by
          obtain ⟨xs, e2⟩ := ht d hd
          rw [z] at e2
          cases e2) (room hd) hq
      refine ⟨fun v hv => ?_, ?_⟩
      · obtain ⟨d, hd, as, r⟩ := e.left v hv
        exact ⟨_, dataKind_some hal hd r⟩
      · cases vs with
        | nil =>
          exact ⟨general', fun E x y a b Q ha hb hq => by
            rw [keyLt'_general]
            exact cmp false E x y a b Q ha hb hq, fun h2 => absurd h2 (by simp)⟩
        | cons v₁ vs =>
          refine ⟨if (fst0 s.heap v₁).isSome then general' else oneType', fun E x y a b Q ha hb hq => ?_, fun h2 E Q hq => ?_⟩
          · by_cases c : (fst0 s.heap v₁).isSome = true
            · rw [if_pos c, keyLt'_general]
              exact cmp false E x y a b Q ha hb hq
            · rw [if_neg c, keyLt'_oneType]
              exact cmp true E x y a b Q ha hb hq
          · cases vs with
            | nil => exact absurd h2 (by simp)
            | cons v₂ rest =>
              refine mix_kind (fun v hv => ?_) ?_ hq
              · obtain ⟨d, hd, as, r⟩ := each_left e v hv
                obtain ⟨xs, rfl⟩ := ht d hd
                cases r with
                | tuple h1 h2 h3 h4 => exact ⟨_, _, _, _, rfl, h1, h2, h3⟩
              · obtain ⟨d, hd, rfl⟩ := hb
                obtain ⟨v, hv, as, r⟩ := each_right e _ hd
                refine ⟨v, hv, ?_⟩
                cases r with
                | @tuple a o xs n _ _ h1 h2 h3 h4 =>
                  rw [fst0_at h1 h2 h3]
                  have : xs.toList = [] := by
                    generalize xs.toList = l at h4
                    cases h4
                    rfl
                  rw [← Array.getElem?_toList, this]
                  rfl
    · refine SortsAt.data e hal (.inl fun d hd => ?_) hu
      obtain ⟨xs, rfl⟩ := ht d hd
      cases xs with
      | nil => exact absurd ⟨_, hd, rfl⟩ hb
      | cons x r => exact ⟨x, r, rfl⟩
  · exact SortsAt.data e hal (.inr hn) hu
end Py.So
set_option Elab.async false
set_option linter.all false
set_option maxRecDepth 100000
set_option maxHeartbeats 4000000
namespace Py
open PySem PySem.Spec PyProof.Rows L2

/-! ### sorted -/
def pd (d : D) : PyData := (pyD d).getD .none
def leD (a b : D) : Bool := !PySem.W.dataLt (pd b) (pd a)
def insD (x : D) : List D → List D
  | [] => [x]
  | y :: l => if leD x y then x :: y :: l else y :: insD x l
def isortD : List D → List D
  | [] => []
  | x :: l => insD x (isortD l)
theorem leD_total : PySem.W.TotalLe leD := PySem.W.sortLe_total (PyProof.Rows.listOrd PyProof.Rows.itemOrd) false fun b => PySem.W.keyToks (pd b)
theorem insD_perm (x : D) : ∀ l : List D, (insD x l).Perm (x :: l)
  | [] => List.Perm.refl _
  | y :: l => by
    unfold insD
    by_cases h : leD x y = true
    · rw [if_pos h]
    · rw [if_neg h]
      exact ((insD_perm x l).cons y).trans (List.Perm.swap x y l)
theorem isortD_perm : ∀ l : List D, (isortD l).Perm l
  | [] => List.Perm.refl _
  | x :: l => (insD_perm x _).trans ((isortD_perm l).cons x)
theorem insD_sorted (x : D) : ∀ {l : List D}, l.Pairwise (fun a b => leD a b = true) → (insD x l).Pairwise (fun a b => leD a b = true)
  | [], _ => List.pairwise_singleton ..
  | y :: l, h => by
    have h' := List.pairwise_cons.mp h
    unfold insD
    by_cases c : leD x y = true
    · rw [if_pos c]
      refine List.pairwise_cons.mpr ⟨fun z hz => ?_, h⟩
      rcases List.mem_cons.mp hz with rfl | hz
      · exact c
      · exact leD_total.trans x y z c (h'.1 z hz)
    · rw [if_neg c]
      refine List.pairwise_cons.mpr ⟨fun z hz => ?_, insD_sorted x h'.2⟩
      rcases List.mem_cons.mp ((insD_perm x l).mem_iff.mp hz) with rfl | hz
      · exact (leD_total.total z y).resolve_left c
      · exact h'.1 z hz
theorem isortD_sorted : ∀ l : List D, (isortD l).Pairwise (fun a b => leD a b = true)
  | [] => List.Pairwise.nil
  | x :: l => insD_sorted x (isortD_sorted l)
theorem insD_filter (c x : D) : ∀ l : List D, l.Pairwise (fun a b => leD a b = true) → (insD x l).filter (PySem.W.sameRank leD c) = (x :: l).filter (PySem.W.sameRank leD c)
  | [], _ => rfl
  | y :: l, h => by
    have h' := List.pairwise_cons.mp h
    unfold insD
    by_cases q : leD x y = true
    · rw [if_pos q]
    · rw [if_neg q]
      have ih := insD_filter c x l h'.2
      by_cases hx : PySem.W.sameRank leD c x = true
      · -- y is less than x: not of x's rank
        have hy : ¬ PySem.W.sameRank leD c y = true := fun z => by
          unfold PySem.W.sameRank at z hx
          rw [Bool.and_eq_true] at z hx
          exact q (leD_total.trans x c y hx.2 z.1)
        rw [List.filter_cons_of_neg hy, ih, List.filter_cons_of_pos hx, List.filter_cons_of_pos hx, List.filter_cons_of_neg hy]
      · rw [List.filter_cons_of_neg hx] at ih ⊢
        by_cases hy : PySem.W.sameRank leD c y = true
        · rw [List.filter_cons_of_pos hy, List.filter_cons_of_pos hy, ih]
        · rw [List.filter_cons_of_neg hy, List.filter_cons_of_neg hy, ih]
theorem isortD_filter (c : D) : ∀ l : List D, (isortD l).filter (PySem.W.sameRank leD c) = l.filter (PySem.W.sameRank leD c)
  | [] => rfl
  | x :: l => by
    show (insD x (isortD l)).filter _ = _
    rw [insD_filter c x _ (isortD_sorted l)]
    by_cases hx : PySem.W.sameRank leD c x = true
    · rw [List.filter_cons_of_pos hx, List.filter_cons_of_pos hx, isortD_filter c l]
    · rw [List.filter_cons_of_neg hx, List.filter_cons_of_neg hx, isortD_filter c l]
theorem isortD_eq (l : List D) : isortD l = l.mergeSort (PySem.W.dataLe false pd) := PySem.W.sort_unique leD_total (isortD_sorted l) fun c => isortD_filter c l
/-- what can be sorted -/
def isTupP : PyData → Bool
  | .tuple _ => true
  | _ => false
def isNonP : PyData → Bool
  | .none => true
  | _ => false
def sortOk (l : List D) : Bool :=
  decide (l.length ≤ 10000) && (pyDs l).isSome && (l.all fun a => decide ((pd a).depth ≤ 60) && l.all fun b => PySem.W.alike (pd a) (pd b)) && ((l.all fun a => isTupP (pd a)) || l.all fun a => !isTupP (pd a) && !isNonP (pd a))
structure SortOk (l : List D) : Prop where
  len : l.length ≤ 10000
  py : ∃ ps, pyDs l = some ps
  deep : ∀ d ∈ l, (pd d).depth ≤ 60
  alike : PySem.W.AllAlike (l.map pd)
  kind : So.SortB (l.map pd)
theorem sortOk_of {l : List D} (h : sortOk l = true) : SortOk l := by
  unfold sortOk at h
  simp only [Bool.and_eq_true, Bool.or_eq_true, decide_eq_true_eq, List.all_eq_true] at h
  obtain ⟨⟨⟨h1, h2⟩, h3⟩, h4⟩ := h
  refine ⟨h1, Option.isSome_iff_exists.mp h2, fun d hd => (h3 d hd).1, fun x hx y hy => ?_, ?_⟩
  · obtain ⟨a, ha, rfl⟩ := List.mem_map.mp hx
    obtain ⟨b, hb, rfl⟩ := List.mem_map.mp hy
    exact (h3 a ha).2 b hb
  · rcases h4 with h4 | h4
    · refine .inl fun d hd => ?_
      obtain ⟨a, ha, rfl⟩ := List.mem_map.mp hd
      have := h4 a ha
      cases e : pd a with
      | tuple xs => exact ⟨xs, rfl⟩
      | _ =>
        rw [e] at this
        cases this
    · refine .inr fun d hd => ?_
      obtain ⟨a, ha, rfl⟩ := List.mem_map.mp hd
      have := h4 a ha
      rw [Bool.not_eq_true', Bool.not_eq_true'] at this
      refine ⟨fun z => ?_, fun xs z => ?_⟩
      · rw [z] at this
        cases this.2
      · rw [z] at this
        cases this.1
section
variable {X : Cx} {G : Gl}
theorem pyDs_each : ∀ {l : List D} {ps : List PyData}, pyDs l = some ps → ∀ d ∈ l, pyD d = some (pd d)
  | [], _, _, d, h => by cases h
  | x :: l, ps, e, d, h => by
    have e1 : (match pyD x, pyDs l with
      | some a, some r => some (a :: r)
      | _, _ => none) = some ps := e
    cases q : pyD x with
    | none =>
      rw [q] at e1
      cases e1
    | some p =>
      rw [q] at e1
      cases q2 : pyDs l with
      | none =>
        rw [q2] at e1
        cases e1
      | some r =>
        rcases List.mem_cons.mp h with rfl | h
        · unfold pd
          rw [q]
          rfl
        · exact pyDs_each q2 d h
/-- a value of the data -/
def RD (G : Gl) (H : Hp) (u : Value) (d : D) : Prop := ∃ v, RelV v u ∧ At G H d v
theorem each_in {H : Hp} : ∀ {l : List D} {xs : List V} {us : List Value}, Ats G H l xs → Vals xs us → PySem.W.EachIs (RD G H) us l
  | _, _, _, .nil, r => by
    cases r
    exact .nil
  | _, _, _, .cons h t, r => by
    cases r with
    | cons r1 r2 => exact .cons ⟨_, r1, h⟩ (each_in t r2)
theorem each_out {H : Hp} : ∀ {l : List D} {us : List Value}, PySem.W.EachIs (RD G H) us l → ∃ xs, Vals xs us ∧ Ats G H l xs
  | _, _, .nil => ⟨[], .nil, .nil⟩
  | _, _, .cons ⟨v, r, h⟩ t => by
    obtain ⟨xs, r2, h2⟩ := each_out t
    exact ⟨v :: xs, .cons r r2, .cons h h2⟩
theorem each_imp {α β : Type} {R R' : α → β → Prop} : ∀ {as : List α} {bs : List β}, PySem.W.EachIs R as bs → (∀ a b, b ∈ bs → R a b → R' a b) → PySem.W.EachIs R' as bs
  | _, _, .nil, _ => .nil
  | _, _, .cons h t, k => .cons (k _ _ (List.mem_cons_self ..) h) (each_imp t fun a b m => k a b (List.mem_cons_of_mem _ m))
/-- sorted(x) of a list -/
def rSortD (X : Cx) (G : Gl) : List V → Hp → VK → Prop := fun xs H Q => ∃ (a : Addr) (ys : List V) (l : List D) (hd : Addr → Prop), xs = [.ref a] ∧ SqL X.K H a ys ∧ Ats G (hide hd H) l ys ∧ SortOk l ∧
  ∀ zs p, Ats G (hide hd H) (isortD l) zs → H p = none → Q (.ref p) (upd H p (.lst zs))
theorem cr_sortD (hK : G.K = X.K) (hu : X.A.units + 64 < cLine) : CallR X (.builtin "sorted") (rSortD X G) := by
  intro pins s σ H xs us Q I r h
  obtain ⟨a, ys, l, hd, rfl, hs, hy, ok, q⟩ := h
  obtain ⟨its, rv, hl, hz⟩ := I.list hs
  obtain ⟨u, rfl, ru⟩ := vals1 r
  obtain rfl : u = Value.ref a := ru
  obtain ⟨ps, hps⟩ := ok.py
  have e : PySem.W.EachIs (RD G (hide hd H)) its l := each_in hy rv
  have er : PySem.W.EachIs (fun v b => ∃ as, Reads s.heap v (pd b) as) its l := each_imp e fun u d hm ⟨v, r1, h1⟩ => Dp.reads I _ v u (dp_of hK h1 (pyDs_each hps d hm)) r1
  have hll : its.length = l.length := by rw [← rv.length, hy.length]
  have er' : PySem.W.EachIs (fun v b => ∃ as, Reads (PySem.W.sortingHeap (PySem.W.copyHeap s.heap its) (s.heap.objs.size + 1) its) v (pd b) as) its l := er.mono fun _ _ ⟨as, r⟩ => ⟨as, PyProof.Rows.Reads.keeps (fun _ _ => PySem.W.sorting_copy_old) r⟩
  have hL : its.length ≤ sizeLine := by
    rw [hll]
    exact Nat.le_trans ok.len (by decide)
  refine PySem.W.sorted_vals hl.isList (So.sortsAt (s := { s with heap := PySem.W.sortingHeap (PySem.W.copyHeap s.heap its) (s.heap.objs.size + 1) its }) (PySem.W.each_map pd er') ok.alike ok.kind fun d hd' => ?_) hL ?_
  · obtain ⟨b, hb, rfl⟩ := List.mem_map.mp hd'
    have := ok.deep b hb
    rw [Around.in1_units, Around.in1_units]
    omega
  · have eo := PySem.W.sortVals_data (R := RD G (hide hd H)) (h' := PySem.W.sortingHeap (PySem.W.copyHeap s.heap its) (s.heap.objs.size + 1) its) false e er' ok.alike
    rw [← isortD_eq] at eo
    obtain ⟨zs, z1, z2⟩ := each_out eo
    obtain ⟨c, hc⟩ := PyProof.Rows.sortedAll_at s.heap its (PySem.W.sortVals (PySem.W.dataKind (PySem.W.sortingHeap (PySem.W.copyHeap s.heap its) (s.heap.objs.size + 1) its) (l.map pd)) false its its).toArray
    have hzl : zs.length ≤ sizeLine := by
      rw [← z2.length, (isortD_perm l).length_eq, ← hll]
      exact hL
    exact ⟨.ref _, upd H (s.heap.objs.size + 1) (.lst zs), I.laid (t' := s.toks) (fun _ _ x => PyProof.Rows.sortedAll_old x) (Nat.le_succ _) ⟨hzl, _, c, z1, hc⟩, rfl, q zs _ z2 (I.hok.fresh (Nat.le_succ _))⟩
def sortedA : List D → Option D
  | [.lst l] => if sortOk l = true then some (.lst (isortD l)) else none
  | _ => none
theorem d_sortD (hK : G.K = X.K) : DoesN G (rSortD X G) sortedA := fun hd H xs l d Q R h e k => by
  cases h with
  | nil => cases e
  | @cons d1 x1 l1 r1 a1 t1 =>
    cases t1 with
    | cons _ _ => cases a1 <;> cases e
    | nil =>
      cases a1 with
      | @lst m a ys h1 h2 =>
        have e0 : (if sortOk m = true then some (D.lst (isortD m)) else none) = some d := e
        by_cases c : sortOk m = true
        · rw [if_pos c] at e0
          cases e0
          refine ⟨a, ys, m, hd, rfl, .inl (.inl (hide_sub _ _ h1)), h2, sortOk_of c, fun zs p hz hp => k _ _ (Lead.new hp) ?_⟩
          exact .lst (R.seen hp) (hz.mono (R.old hp))
        · rw [if_neg c] at e0
          cases e0
      | _ => cases e
end
end Py
set_option Elab.async false
set_option linter.all false
set_option maxRecDepth 100000
set_option maxHeartbeats 4000000
namespace Py
open PySem PySem.Spec PyProof.Rows L2
section
variable {X : Cx} {G : Gl}
/-- the keys of a dict, in order -/
def KeysAt (X : Cx) (H : Hp) (a : Addr) (ys : List V) : Prop := (∃ kvs, Rd H a (.dK kvs) ∧ ys = kvs.map fun q => kV q.1) ∨ ∃ ps, H a = some (DN X.prog X.w a ps) ∧ KeysOk X.K H ps ∧ ys = ps.map fun q => V.ref q.2.1
theorem key_rel {k : Key} {u : Value} (h : keyIs k u = true) : RelV (kV k) u := by
  rcases keyIs_shape h with ⟨i, t, rfl, rfl⟩ | ⟨x, t, rfl, rfl⟩
  · exact ⟨t, rfl⟩
  · exact ⟨t, rfl⟩
theorem keys_raw {pins : List (Addr × Obj)} {σ : L2.St} {H : Hp} {s : Shared} {a : Addr} {ys : List V} (I : Inv X pins σ H s) (h : KeysAt X H a ys) :
    (a == sysModules) = false ∧ ys.length ≤ sizeLine ∧ ∃ es ep, s.heap.DictRaw a es ep ∧ es.size = ys.length ∧ ∀ i (hi : i < es.size), ∃ y, ys[i]? = some y ∧ RelV y es[i].key := by
  rcases h with ⟨kvs, e, rfl⟩ | ⟨ps, e, ok, rfl⟩
  · obtain ⟨z, hd, vs, rel, dd⟩ := dk_rd I.hok e
    obtain ⟨es, ep, hr, hs, he⟩ := dd.raw
    have hl := Paired.length rel
    refine ⟨hd, by rw [List.length_map]; exact z, es, ep, hr, by rw [List.length_map, hs, hl], fun i hi => ?_⟩
    have hv : i < vs.length := by rw [← hs]; exact hi
    have h1 : vs[i]? = some (vs[i].1, vs[i].2) := List.getElem?_eq_getElem hv
    obtain ⟨h2, _⟩ := he i hi _ _ h1
    generalize vs[i].1 = k at h1 h2
    have e1 : (kvs.map (·.1))[i]? = some k := by
      rw [rel.keys, List.getElem?_map, h1]
      rfl
    rw [List.getElem?_map] at e1
    cases q : kvs[i]? with
    | none =>
      rw [q] at e1
      cases e1
    | some p =>
      rw [q] at e1
      have e2 : p.1 = k := Option.some.inj e1
      exact ⟨kV p.1, by rw [List.getElem?_map, q]; rfl, by rw [e2]; exact key_rel h2⟩
  · obtain ⟨z, hd, xs, rel, dd⟩ := dn_of I (.inl e) ok
    obtain ⟨es, ep, hr, hs, he⟩ := dd.raw
    have hl := Paired.length rel
    refine ⟨hd, by rw [List.length_map]; exact z, es, ep, hr, by rw [List.length_map, hs, hl], fun i hi => ?_⟩
    obtain ⟨y, h1, h2, _⟩ := he i hi
    have key : ∀ {ps : List (NestedKey × Addr × V)} {xs : List (NestedKey × Addr × Value)}, PRel ps xs → ∀ (i : Nat) (y : NestedKey × Addr × Value), xs[i]? = some y → ∃ p : NestedKey × Addr × V, ps[i]? = some p ∧ p.2.1 = y.2.1 := by
      intro ps xs r
      induction r with
      | nil =>
        intro i y h
        simp at h
      | @cons p0 x0 _ _ h t ih =>
        intro i y h'
        cases i with
        | zero =>
          have e : x0 = y := by simpa using h'
          subst e
          exact ⟨_, rfl, h.2.1⟩
        | succ i => exact ih i y (by simpa using h')
    obtain ⟨p, p1, p2⟩ := key rel i y h1
    exact ⟨.ref p.2.1, by rw [List.getElem?_map, p1]; rfl, by rw [h2, p2]; rfl⟩
theorem vals_at : ∀ {ys : List V} {us : List Value}, us.length = ys.length → (∀ (i : Nat) (u : Value), us[i]? = some u → ∃ y, ys[i]? = some y ∧ RelV y u) → Vals ys us
  | [], [], _, _ => .nil
  | [], _ :: _, h, _ => by simp at h
  | _ :: _, [], h, _ => by simp at h
  | y :: ys, u :: us, h, k => by
    refine .cons ?_ (vals_at (by simpa using h) fun i v e => k (i + 1) v (by simpa using e))
    obtain ⟨y', e1, e2⟩ := k 0 u rfl
    have e3 : y = y' := by simpa using e1
    rw [e3]
    exact e2
/-- sorted(d) of a dict -/
def rSortK (X : Cx) (G : Gl) : List V → Hp → VK → Prop := fun xs H Q => ∃ (a : Addr) (ys : List V) (l : List D) (hd : Addr → Prop), xs = [.ref a] ∧ KeysAt X H a ys ∧ Ats G (hide hd H) l ys ∧ SortOk l ∧
  ∀ zs p, Ats G (hide hd H) (isortD l) zs → H p = none → Q (.ref p) (upd H p (.lst zs))
theorem cr_sortK (hc : X.calm = true) (hK : G.K = X.K) (hu : X.A.units + 64 < cLine) : CallR X (.builtin "sorted") (rSortK X G) := by
  intro pins s σ H xs us Q I r h
  obtain ⟨a, ys, l, hd, rfl, hs, hy, ok, q⟩ := h
  obtain ⟨lo, hz, es, ep, hr, hes, hk⟩ := keys_raw I hs
  obtain ⟨u, rfl, ru⟩ := vals1 r
  obtain rfl : u = Value.ref a := ru
  obtain ⟨ps, hps⟩ := ok.py
  refine Calls.call_function_entry PyProof.Rows.kind_sorted PyProof.Rows.plain_sorted PyProof.Rows.entry_sorted (PyProof.Rows.args_sorted1 _) ?_
  unfold Builtin.«sorted»
  refine wpAny_bind (m := checkCount "sorted" 1 1 _) (wpAny_pure ?_)
  refine wpAny_bind (PySem.W.kdu_collect (A := X.A.in1) (KdlSrc.rawDict (d := a) (es := es) (ep := ep) lo) (I.ok.hd hc) hr (by rw [hes]; exact hz) fun h' tk acc hkk hacc => ?_)
  have I1 : Inv X pins σ H { s with heap := h', toks := tk } := I.kept hkk
  have rv : Vals ys acc.toList := vals_at (by rw [Array.length_toList, hacc.1, hes]) fun i v e => by
    obtain ⟨hi, e2⟩ := hacc.2 i v (by rw [← Array.getElem?_toList]; exact e)
    obtain ⟨y, y1, y2⟩ := hk i hi
    exact ⟨y, y1, by rw [e2]; exact y2⟩
  have e : PySem.W.EachIs (RD G (hide hd H)) acc.toList l := each_in hy rv
  have er : PySem.W.EachIs (fun v b => ∃ as, Reads h' v (pd b) as) acc.toList l := each_imp e fun u d hm ⟨v, r1, h1⟩ => Dp.reads I1 _ v u (dp_of hK h1 (pyDs_each hps d hm)) r1
  have hll : acc.toList.length = l.length := by rw [← rv.length, hy.length]
  have hL : acc.toList.length ≤ sizeLine := by
    rw [hll]
    exact Nat.le_trans ok.len (by decide)
  refine wpAny_bind (wpAny_newList ?_ hL)
  have hoL : (h'.push (seqObj "list" acc.toList.toArray 0)).get? h'.objs.size = some (seqObj "list" acc.toList.toArray 0) := Heap.get?_push_size _ rfl
  show wpAny _ _ _ _ _ { s with heap := h'.push (seqObj "list" acc.toList.toArray 0), toks := tk }
  have old : ∀ b o, h'.get? b = some o → (PySem.W.sortingHeap (h'.push (seqObj "list" acc.toList.toArray 0)) h'.objs.size acc.toList).get? b = some o := fun b o x =>
    PySem.W.sortingHeap_old (Nat.ne_of_lt (Heap.lt_size x)) (Heap.get?_push_of_some _ x)
  have er' : PySem.W.EachIs (fun v b => ∃ as, Reads (PySem.W.sortingHeap (h'.push (seqObj "list" acc.toList.toArray 0)) h'.objs.size acc.toList) v (pd b) as) acc.toList l := er.mono fun _ _ ⟨as, r⟩ => ⟨as, PyProof.Rows.Reads.keeps old r⟩
  refine wpAny_bind (wpAny_holding (wpAny_call_entry PyProof.Rows.slot_list_sort ⟨_, hoL, rfl⟩ PyProof.Rows.entry_list_sort
    (PySem.W.list_sort_vals (κ := PySem.W.dataKind (PySem.W.sortingHeap (h'.push (seqObj "list" acc.toList.toArray 0)) h'.objs.size acc.toList) (l.map pd)) (s := { s with heap := h'.push (seqObj "list" acc.toList.toArray 0), toks := tk }) hoL
      (So.sortsAt (s := { s with heap := PySem.W.sortingHeap (h'.push (seqObj "list" acc.toList.toArray 0)) h'.objs.size acc.toList, toks := tk }) (PySem.W.each_map pd er') ok.alike ok.kind fun d hd' => ?_) hL ⟨_, rfl, ?_⟩)
    (PyProof.Rows.args_list_sort _)))
  · obtain ⟨b, hb, rfl⟩ := List.mem_map.mp hd'
    have := ok.deep b hb
    rw [Around.in1_units, Around.in1_units]
    omega
  · have eo := PySem.W.sortVals_data (R := RD G (hide hd H)) (h' := PySem.W.sortingHeap (h'.push (seqObj "list" acc.toList.toArray 0)) h'.objs.size acc.toList) false e er' ok.alike
    rw [← isortD_eq] at eo
    obtain ⟨zs, z1, z2⟩ := each_out eo
    obtain ⟨c, hcc⟩ := PyProof.Rows.sortedHeap_at (vs := acc.toList) (out := (PySem.W.sortVals (PySem.W.dataKind (PySem.W.sortingHeap (h'.push (seqObj "list" acc.toList.toArray 0)) h'.objs.size acc.toList) (l.map pd)) false acc.toList acc.toList).toArray) hoL
    have hzl : zs.length ≤ sizeLine := by
      rw [← z2.length, (isortD_perm l).length_eq, ← hll]
      exact hL
    refine wpAny_pure ⟨_, rfl, .ref h'.objs.size, upd H h'.objs.size (.lst zs), I1.laid (t' := tk) (fun b u e => ?_) (Nat.le_refl _) ⟨hzl, _, c, z1, hcc⟩, rfl, q zs _ z2 (I1.hok.fresh (Nat.le_refl _))⟩
    have hb : b < h'.objs.size := Heap.lt_size e
    rw [PyProof.Rows.sortedHeap_old (Nat.ne_of_lt hb) (by rw [size_push']; exact Nat.lt_succ_of_lt hb)]
    exact Heap.get?_push_of_some _ e
def keysD : D → Option (List D)
  | .dic ks _ => some ks
  | .dicN ks _ => some ks
  | _ => none
def sortedK : List D → Option D
  | [d] => (keysD d).bind fun l => if sortOk l = true then some (.lst (isortD l)) else none
  | _ => none
theorem d_sortK (hK : G.K = X.K) (hP : G.P = X.prog) (hw : G.w = X.w) : DoesN G (rSortK X G) sortedK := fun hd H xs l d Q R h e k => by
  cases h with
  | nil => cases e
  | @cons d1 x1 l1 r1 a1 t1 =>
    cases t1 with
    | cons _ _ => cases e
    | nil =>
      have e0 : (keysD d1).bind (fun l => if sortOk l = true then some (D.lst (isortD l)) else none) = some d := e
      have fin : ∀ (a : Addr) (ys : List V) (m : List D), x1 = .ref a → KeysAt X H a ys → Ats G (hide hd H) m ys → (if sortOk m = true then some (D.lst (isortD m)) else none) = some d → rSortK X G [x1] H Q := by
        intro a ys m ex hk hm e1
        by_cases c : sortOk m = true
        · rw [if_pos c] at e1
          cases e1
          exact ⟨a, ys, m, hd, by rw [ex], hk, hm, sortOk_of c, fun zs p hz hp => k _ _ (Lead.new hp) (.lst (R.seen hp) (hz.mono (R.old hp)))⟩
        · rw [if_neg c] at e1
          cases e1
      cases a1 with
      | dic h1 h2 h3 => exact fin _ _ _ rfl (.inl ⟨_, (h1.mono hide_sub).rd, rfl⟩) h2 e0
      | dicN h1 h2 h3 h4 => exact fin _ _ _ rfl (.inr ⟨_, by rw [← hP, ← hw]; exact hide_sub _ _ h1, keys_ok hK h2 h3, rfl⟩) h3 e0
      | _ => cases e0
/-- sorted of lists, dicts -/
def sortedX (l : List D) : Option D := (sortedA l).or (sortedK l)
end
end Py
set_option Elab.async false
set_option linter.all false
set_option maxRecDepth 100000
set_option maxHeartbeats 4000000
/-! ### max(l, default=d) of a list of ints -/
namespace Py.Mx
open PySem PySem.Spec PyProof.Rows L2
section
variable {prog : Program} {w : World} {A : Around} {K : Result → Shared → Prop} {it : Addr} {fp wr : List Addr} {n : Nat} {P : Nat → Value → Prop} {St : Nat → Heap → Prop} {df : Value}
abbrev kwd (df : Value) : List (Str × Value) := [(Str.ofString "default", df)]
theorem nm : (toString "max" ++ toString ".loop" : String) = "max.loop" := by decide
theorem loop (V : Walks prog w A.in1 it fp wr n P St) (gt : Nat → Nat → Bool) (cm : CmpOf prog w A.in1 .Gt P gt) (best : Addr) (nf : best ∉ fp) :
    ∀ (k j : Nat) (s : Shared) (cur : Value) (c : Nat), n - (j + 1) = k → j + 1 ≤ n → St (j + 1) s.heap → P (argBest gt j) cur → s.heap.get? best = some { cls := .type "list", dict := none, data := .seq #[cur, cur] c, slots := #[] } →
    (∀ v h' tk, P (argBest gt (n - 1)) v → (∀ b o, b ∉ wr → b ≠ best → s.heap.get? b = some o → h'.get? b = some o) → K (.ok (.ret v)) { s with heap := h', toks := tk }) →
    codeAny (model prog w) A (.builtin "max.loop" ⟨[.ref it, .none, .ref best], kwd df⟩) K s := by
  have nw : best ∉ wr := fun z => nf (V.sub _ z)
  intro k
  induction k with
  | zero =>
    intro j s cur c hk hj st pb hb fin
    have last : j + 1 = n := by omega
    refine codeAny_builtin PySem.F.entry_max_loop ?_
    rw [Around.under_plainId PySem.F.plain_max_loop _]
    show wpAny _ A.in1 (seqItems? (.ref best) >>= _) _ _ s
    refine wpAny_bind (wpAny_seqItems hb rfl ?_)
    show wpAny _ A.in1 (tryCatch (pyNext (.ref it)) _ >>= _) _ _ s
    refine wpAny_bind (wpAny_tryCatch (V.done s _ _ (last ▸ st) fun h1 t1 keep => ?_))
    have hb1 := keep best _ nw hb
    show wpAny _ A.in1 (updateSeq best (fun _ => #[]) >>= _) _ _ _
    refine wpAny_bind (wpAny_updateSeq hb1 rfl (wpAny_bind (wpAny_letGo (wpAny_pure ?_))))
    exact fin cur _ t1 (by rw [← last]; exact pb) fun b o x y e => (Heap.get?_update_other _ _ (Ne.symm y)).trans (keep b o x e)
  | succ k ih =>
    intro j s cur c hk hj st pb hb fin
    have more : j + 1 < n := by omega
    refine codeAny_builtin PySem.F.entry_max_loop ?_
    rw [Around.under_plainId PySem.F.plain_max_loop _]
    show wpAny _ A.in1 (seqItems? (.ref best) >>= _) _ _ s
    refine wpAny_bind (wpAny_seqItems hb rfl ?_)
    show wpAny _ A.in1 (tryCatch (pyNext (.ref it)) _ >>= _) _ _ s
    refine wpAny_bind (wpAny_tryCatch (V.item (j + 1) s _ _ more st fun v h1 t1 pv st1 keep => ?_))
    have hb1 := keep best _ nw hb
    show wpAny _ A.in1 (tryCatch (holding [v, v] (richCompare .Gt v cur >>= _)) _ >>= _) _ _ _
    refine wpAny_bind (wpAny_tryCatch (wpAny_holding (wpAny_bind (cm (j + 1) (argBest gt j) v cur _ _ _ pv pb (wpAny_bind (wpAny_holding (wpAny_truthy_bool (wpAny_bind (wpAny_letGo (wpAny_pure ?_)))))))))) 
    cases q : gt (j + 1) (argBest gt j) with
    | true =>
      simp only [if_true]
      refine wpAny_bind (wpAny_updateSeq hb1 rfl (wpAny_bind (wpAny_letGo ?_)))
      rw [nm]
      refine wpAny_pure ⟨plainId_quiet PySem.F.plain_max_loop _, ih (j + 1) _ v _ (by omega) more (V.frame _ _ _ st1 fun b hm o e => ?_) (by simp only [argBest, q, if_true]; exact pv) (Heap.get?_update_self _ hb1 rfl) fun v2 h2 t2 p2 k2 => ?_⟩
      · exact (Heap.get?_update_other _ _ (fun z : best = b => nf (by rw [z]; exact hm))).trans e
      · exact fin v2 h2 t2 p2 fun b o x y e => k2 b o x y ((Heap.get?_update_other _ _ (Ne.symm y)).trans (keep b o x e))
    | false =>
      simp only [Bool.false_eq_true, if_false]
      refine wpAny_bind (wpAny_letGo ?_)
      rw [nm]
      exact wpAny_pure ⟨plainId_quiet PySem.F.plain_max_loop _, ih (j + 1) _ cur c (by omega) more st1 (by simp only [argBest, q, Bool.false_eq_true, if_false]; exact pb) hb1 fun v2 h2 t2 p2 k2 => fin v2 h2 t2 p2 fun b o x y e => k2 b o x y (keep b o x e)⟩
end
theorem args (a d : Value) : argsOk "max" ⟨[a], kwd d⟩ := by unfold argsOk; kernel_rfl
section
variable {prog : Program} {w : World} {A : Around} {E : Value → Shared → Prop} {s : Shared} {l : Addr} {its : List Value} {ns : List Int} {Q : Value → Shared → Prop} {df : Value}
end
end Py.Mx
set_option Elab.async false
set_option linter.all false
set_option maxRecDepth 100000
set_option maxHeartbeats 4000000
namespace Py
open PySem PySem.Spec PyProof.Rows L2
section
variable {X : Cx} {G : Gl} {W : WX}
/-! ### greatest, least of a list of ints -/
end
end Py
set_option Elab.async false
set_option linter.all false
set_option maxRecDepth 100000
set_option maxHeartbeats 4000000
namespace Py
open PySem PySem.Spec PyProof.Rows L2
section
variable {X : Cx} {G : Gl} {W : WX} {tg : Expr}
/-! ### reversed(range(n)) -/
/-! ### {k: v}, new, k a tuple -/
/-! ### len of a dict -/
def rLenK (X : Cx) : List V → Hp → VK → Prop := fun xs H Q => ∃ (a : Addr) (ys : List V), xs = [.ref a] ∧ KeysAt X H a ys ∧ Q (.int (ys.length : Int)) H
theorem cr_lenK : CallR X (.builtin "len") (rLenK X) := by
  intro pins s σ H xs us Q I r h
  obtain ⟨a, ys, rfl, hk, q⟩ := h
  obtain ⟨u, rfl, ru⟩ := vals1 r
  obtain rfl : u = Value.ref a := ru
  rcases hk with ⟨kvs, e, rfl⟩ | ⟨ps, e, ok, rfl⟩
  · rw [List.length_map] at q
    exact d_len I e fun t s' I' => ⟨.int _, H, I', ⟨t, rfl⟩, q⟩
  · rw [List.length_map] at q
    exact n_len I (.inl e) ok fun t s' I' => ⟨.int _, H, I', ⟨t, rfl⟩, q⟩
def lenK : List D → Option D
  | [d] => (keysD d).map fun l => .int (l.length : Int)
  | _ => none
theorem d_lenK (hK : G.K = X.K) (hP : G.P = X.prog) (hw : G.w = X.w) : DoesN G (rLenK X) lenK := fun hd H xs l d Q R h e k => by
  cases h with
  | nil => cases e
  | @cons d1 x1 l1 r1 a1 t1 =>
    cases t1 with
    | cons _ _ => cases e
    | nil =>
      cases a1 with
      | dic h1 h2 h3 =>
        cases e
        exact ⟨_, _, rfl, .inl ⟨_, (h1.mono hide_sub).rd, rfl⟩, k _ H (Lead.refl H) (by rw [← h2.length]; exact .int)⟩
      | dicN h1 h2 h3 h4 =>
        cases e
        exact ⟨_, _, rfl, .inr ⟨_, by rw [← hP, ← hw]; exact hide_sub _ _ h1, keys_ok hK h2 h3, rfl⟩, k _ H (Lead.refl H) (by rw [← h3.length]; exact .int)⟩
      | _ => cases e
def lenX (l : List D) : Option D := (lenS l).or (lenK l)
end
end Py
set_option Elab.async false
set_option linter.all false
set_option maxRecDepth 100000
set_option maxHeartbeats 4000000
namespace Py
open PySem PySem.Spec PyProof.Rows L2
/-! ### calls in which keyword-only parameters lack: their defaults' values ms -/
section
variable {X : Cx} {G : Gl} {W : WX}
end
end Py
set_option Elab.async false
set_option linter.all false
set_option maxRecDepth 100000
set_option maxHeartbeats 4000000
namespace Py
open PySem PySem.Spec PyProof.Rows L2
section
variable {X : Cx} {G : Gl} {W : WX}
end
end Py
namespace Py
open PySem PySem.Spec PyProof.Rows L2
/-- a def with keyword-only parameters: its text, its object -/
structure Dnk (K : PySem.W.Frag) (mg : Str → Option Value) (x : Str) (st : Stmt) (ps : List Str) (f : Addr) (fd : FuncData) : Prop where
  F : Fun K x x st f fd
  g : mg x = some (.ref f)
  k : PySem.W.keepIn K (.ref f) = true
end Py
set_option Elab.async false
set_option linter.all false
set_option maxRecDepth 100000
set_option maxHeartbeats 4000000
namespace Py
open PySem PySem.Spec PyProof.Rows L2
/-! ### {"a": x, ..}, new, its keys written as texts -/
/-- the pairs of a display with these texts as keys -/
def ED (X : Cx) (G : Gl) (W : WX) (pos : Pos) (keys : List (Option Expr)) (values : List Expr) (ks : List Str) (r : Env → T (List D)) : Prop :=
  ∃ trs, PPs X pos keys values trs ∧ keys.length = ks.length ∧ keys.all (·.isSome) = true ∧ keys.length = values.length ∧ ∀ σ H (Q : List (V × V) → Hp → Prop),
    (∃ nb ρ hd, Rep G nb hd σ ρ H ∧ (r ρ).wp nb (fun ds n' => ∀ vs H', Lead G nb n' H H' → Ats G (hide hd H') ds vs → ds.length = ks.length → Q ((ks.map V.str).zip vs) H') (xE G W hd σ nb H)) → tPairs trs σ H Q
section
variable {X : Cx} {G : Gl} {W : WX}
theorem ed_nil {pos : Pos} : ED X G W pos [] [] [] gNil := ⟨[], pps_nil, rfl, rfl, rfl, fun σ H Q ⟨nb, ρ, hd, R, q⟩ => q [] H (Lead.refl H) .nil rfl⟩
theorem ed_cons {pos kp : Pos} {kj : Nat} {k : Str} {v : Expr} {keys : List (Option Expr)} {values : List Expr} {ks : List Str} {f : Env → T D} {r : Env → T (List D)} (hv : EE X G W v f) (hr : ED X G W pos keys values ks r) : ED X G W pos (some (.Constant (.str k) kj kp) :: keys) (v :: values) (k :: ks) (gCons f r) := by
  obtain ⟨trs, h1, h2, h3, h4, h5⟩ := hr
  refine ⟨_, pps_cons pe_str hv h1, by simp [h2], by simpa using h3, by simp [h4], fun σ H Q q => ?_⟩
  obtain ⟨nb, ρ, hd, R, q⟩ := q
  refine ⟨_, ρ, hd, R, T.wp_imp (wp_then q) fun d _ q1 x H1 e1 a1 => ?_⟩
  refine h5 _ _ _ ⟨_, ρ, hd, R.lead e1, T.wp_mono (wp_then q1) (fun l _ q2 xs H2 e2 a2 hl => ?_) fun c l _ z => xE.lead z e1⟩
  exact q2 (x :: xs) H2 (e1.trans e2) (.cons (a1.mono (e2.hide R.m)) a2) (by simp [hl])
theorem merge_new : ∀ (more kvs : List (Key × V)), (kvs.map (·.1) ++ more.map (·.1)).Nodup → mergeK kvs more = kvs ++ more
  | [], kvs, _ => (List.append_nil kvs).symm
  | p :: r, kvs, h => by
    have e : putK kvs p.1 p.2 = kvs ++ [p] := by
      unfold putK
      have no : ¬ (kvs.any fun kv => decide (kv.1 = p.1)) = true := fun z => by
        obtain ⟨q, hq, hp⟩ := List.any_eq_true.mp z
        have d := (List.nodup_append.mp h).2.2
        exact d q.1 (List.mem_map.mpr ⟨q, hq, rfl⟩) p.1 (by simp) (of_decide_eq_true hp)
      rw [if_neg no]
    show mergeK (putK kvs p.1 p.2) r = _
    rw [e, merge_new r _ (by simpa using h), List.append_assoc]
    rfl
theorem zip_keys : ∀ (ks : List Str) (vs : List V), ks.length = vs.length → ((ks.map V.str).zip vs) = ((ks.map (Sum.inr (α := Int))).zip vs).map (fun kv : Key × V => (kV kv.1, kv.2))
  | [], _, _ => rfl
  | k :: ks, v :: vs, h => by
    have e := zip_keys ks vs (by simpa using h)
    show (V.str k, v) :: (ks.map V.str).zip vs = _
    rw [e]
    rfl
def gDicS (ks : List Str) (r : Env → T (List D)) : Env → T D := fun ρ => r ρ >>= fun ds => .ret (.dic (ks.map D.str) ds)
theorem strs_at {H : Hp} : ∀ (ks : List Str) (vs : List V), ks.length = vs.length → Ats G H (ks.map D.str) ((((ks.map (Sum.inr (α := Int))).zip vs) : List (Key × V)).map fun q => kV q.1)
  | [], [], _ => .nil
  | k :: ks, v :: vs, h => .cons .str (strs_at ks vs (by simpa using h))
theorem zip_snd : ∀ (ks : List Str) (vs : List V), ks.length = vs.length → ((((ks.map (Sum.inr (α := Int))).zip vs) : List (Key × V)).map (·.2)) = vs
  | [], [], _ => rfl
  | k :: ks, v :: vs, h => by
    show v :: _ = v :: vs
    exact congrArg _ (zip_snd ks vs (by simpa using h))
theorem zip_fst : ∀ (ks : List Str) (vs : List V), ks.length = vs.length → ((((ks.map (Sum.inr (α := Int))).zip vs) : List (Key × V)).map (·.1)) = ks.map Sum.inr
  | [], [], _ => rfl
  | k :: ks, v :: vs, h => by
    show Sum.inr k :: _ = Sum.inr k :: ks.map Sum.inr
    exact congrArg _ (zip_fst ks vs (by simpa using h))
theorem nodup_inr : ∀ {ks : List Str}, ks.Nodup → (ks.map (Sum.inr (α := Int))).Nodup
  | [], _ => List.nodup_nil
  | k :: ks, h => by
    obtain ⟨h1, h2⟩ := List.nodup_cons.mp h
    refine List.nodup_cons.mpr ⟨fun z => ?_, nodup_inr h2⟩
    obtain ⟨q, hq, e⟩ := List.mem_map.mp z
    cases e
    exact h1 hq
theorem ee_dicS {pos : Pos} {keys : List (Option Expr)} {values : List Expr} {ks : List Str} {r : Env → T (List D)} (h : ED X G W pos keys values ks r) (h0 : keys ≠ [] := by exact (fun z => nomatch z)) (h15 : ks.length ≤ 15 := by decide) (hn : ks.Nodup := by decide +kernel) : EE X G W (.Dict keys values pos) (gDicS ks r) := by
  obtain ⟨trs, h1, h2, h3, h4, h5⟩ := h
  refine PE_imp (pe_disp h1 h3 h4 h0 (by omega)) fun σ H Q q p hp => ?_
  obtain ⟨nb, ρ, hd, R, q⟩ := q
  have w0 : Wider G nb nb hd H (orIs hd p) (upd H p (.dK [])) := Wider.new R.good hp ⟨(fun _ z => nomatch z), (fun _ _ z => nomatch z)⟩
  have nM : ¬ G.M p := fun m => R.fresh hp (R.m p m)
  have nd : ¬ hd p := R.fresh hp
  refine h5 _ _ _ ⟨nb, ρ, orIs hd p, R.wide w0, T.wp_mono (wp_then q) (fun ds n1 q1 vs H2 e2 a2 hl => ?_) fun c l _ z => xE.wide w0 z⟩
  have hv : ks.length = vs.length := by rw [← a2.length, hl]
  have u2 : H2 p = some (.dK []) := e2.ex p _ nM (fun _ z => nomatch z) upd_same
  refine ⟨u2, (ks.map (Sum.inr (α := Int))).zip vs, zip_keys ks vs hv, by rw [List.length_zip, List.length_map]; omega, ?_⟩
  have em : mergeK [] ((ks.map (Sum.inr (α := Int))).zip vs) = (ks.map (Sum.inr (α := Int))).zip vs := merge_new _ [] (by
    rw [List.map_nil, List.nil_append, zip_fst ks vs hv]
    exact nodup_inr hn)
  rw [em]
  have R2 := (R.wide w0).lead e2
  have L : Lead G nb n1 H (upd H2 p (.dK ((ks.map (Sum.inr (α := Int))).zip vs))) := by
    refine ⟨fun a o m n z => ?_, fun _ => ?_⟩
    · have np : a ≠ p := ne_of_none z hp
      rw [upd_ne np]
      exact e2.ex a o m n (by rw [upd_ne np]; exact z)
    · exact G.stays _ H2 _ R2.j (fun a m => upd_ne fun z => nM (by rw [← z]; exact m)) fun a c q e => by
        rw [upd_ne fun z => by rw [z, u2] at e; unfold LamX.CodeO at e; cases e]
        exact e
  have x3 : Ex (hide (orIs hd p) H2) (hide hd (upd H2 p (.dK ((ks.map (Sum.inr (α := Int))).zip vs)))) := fun a u zz => by
    have zn := hide_nt zz
    obtain ⟨n, zz⟩ := hide_get zz
    exact hide_put (fun yy => n (.inl yy)) (by rw [upd_ne (fun yy => n (.inr yy))]; exact zz) zn
  exact q1 _ _ L (.dic (.inl (hide_put nd upd_same fun _ z => nomatch z)) (strs_at ks vs hv) (by rw [zip_snd ks vs hv]; exact a2.mono x3))
end
end Py
set_option Elab.async false
set_option linter.all false
set_option maxRecDepth 100000
set_option maxHeartbeats 4000000
namespace Py
open PySem PySem.Spec PyProof.Rows L2
/-! ### the making of a deck -/
/-- what holds while the deck is made: the script's list at a stays, the tables -/
structure ScJ (o0 : Option HO) (a : Addr) (tb : List (Addr × Str)) (H : Hp) : Prop where
  at_ : o0.isSome = true → H a = o0
  tb : LamX.Tabs tb H
def scM (o0 : Option HO) (a : Addr) (tb : List (Addr × Str)) (b : Addr) : Prop := (o0.isSome = true ∧ b = a) ∨ ∃ q ∈ tb, b = q.1
/-- what is fixed while the deck is made: the script's list at a; nothing of it is a table, a code object -/
def mk0 (P : Program) (w : World) (K : PySem.W.Frag) (cls : Nat → Addr) (flds : Nat → List Str) (o0 : Option HO) (pl : ∀ o, o0 = some o → Plain o) (a : Addr) (tb : List (Addr × Str)) : Gl where
  P := P
  w := w
  K := K
  cls := cls
  flds := flds
  dk := a
  M := scM o0 a tb
  J := fun _ => ScJ o0 a tb
  tb := tb
  ea := none
  fa := none
  lk := False
  has := fun _ H b j m => by
    rcases m with ⟨s, rfl⟩ | ⟨q, hq, rfl⟩
    · rw [j.at_ s]
      exact fun z => by
        rw [z] at s
        cases s
    · obtain ⟨ps, e, _⟩ := j.tb q hq
      rw [e]
      exact (fun z => nomatch z)
  stays := fun _ H H' j h1 h2 => ⟨fun s => (h1 a (.inl ⟨s, rfl⟩)).trans (j.at_ s), tabs_keep j.tb (fun q hq => h1 q.1 (.inr ⟨q, hq, rfl⟩)) h2⟩
  tabs := fun _ H j => j.tb
  lam := fun _ H H' j e t => ⟨fun s => by
    have e1 := j.at_ s
    cases q : o0 with
    | none =>
      rw [q] at s
      cases s
    | some o =>
      rw [q] at e1
      exact e _ _ e1 fun ps z => (pl o q).nt ps z, t⟩
  code := fun _ H c q j e m => by
    rcases m with ⟨s, rfl⟩ | ⟨q, hq, rfl⟩
    · have e1 := j.at_ s
      rw [e] at e1
      exact (pl _ e1.symm).ne c _ rfl
    · obtain ⟨ps, e3, _⟩ := j.tb q hq
      unfold LamX.CodeO at e
      rw [e3] at e
      cases e
section
variable {P : Program} {w : World} {K : PySem.W.Frag} {cls : Nat → Addr} {flds : Nat → List Str} {o0 : Option HO} {pl : ∀ o, o0 = some o → Plain o} {as : Addr} {tb : List (Addr × Str)}
variable {X : Cx} {W : WX}
/-- the script's part [lo:hi] -/
def gScr (ns : List Int) (i : Nat) (fl fh : Env → T (Option Int)) : Env → T D := fun ρ => match ρ[i]? with
  | some (.val .deck) => fl ρ >>= fun l => fh ρ >>= fun u => .ret (.lst (cutD (ns.map D.int) l u))
  | _ => .bad
theorem ints_ats {G : Gl} {H : Hp} : ∀ ns : List Int, Ats G H (ns.map D.int) (ns.map V.int)
  | [] => .nil
  | _ :: ns => .cons .int (ints_ats ns)
theorem ee_scr {ns : List Int} (hK : K = X.K) (hsq : ∀ H, ScJ o0 as tb H → SqL K H as (ns.map V.int)) {e : Expr} {lo hi : Option Expr} {p2 pos : Pos} {i : Nat} {fl fh : Env → T (Option Int)} (he : PE X e (tVar i)) (hl : PO X lo (tEO (mk0 P w K cls flds o0 pl as tb) W fl)) (hh : PO X hi (tEO (mk0 P w K cls flds o0 pl as tb) W fh)) :
    EE X (mk0 P w K cls flds o0 pl as tb) W (.Subscript e (.Slice lo hi none p2) pos) (gScr ns i fl fh) := by
  refine PE_imp (pe_slice sl_list he hl hh) fun σ H Q q => ?_
  obtain ⟨nb, ρ, hd, R, q⟩ := q
  unfold gScr at q
  cases e1 : ρ[i]? with
  | none =>
    rw [e1] at q
    exact q.elim
  | some s =>
    rw [e1] at q
    cases s with
    | val d =>
      cases d with
      | deck =>
        have hi' : i < σ.length := by
          rw [← R.len]
          exact (List.getElem?_eq_some_iff.mp e1).1
        obtain ⟨x, e2, a2⟩ := R.at_ i _ _ e1 (List.getElem?_eq_getElem hi')
        cases a2
        refine ⟨.ref as, (List.getElem?_eq_getElem hi').trans (congrArg some e2), ?_⟩
        have q : (fl ρ >>= fun l => fh ρ >>= fun u => (T.ret (D.lst (cutD (ns.map D.int) l u)) : T D)).wp _ _ _ := q
        refine ⟨_, ρ, hd, R, T.wp_mono (wp_then q) (fun l _ q2 H2 e2 => ?_) fun c l _ z => z⟩
        refine ⟨_, ρ, hd, R.lead e2, T.wp_mono (wp_then q2) (fun u _ q3 H3 e3 => ?_) fun c l _ z => xE.lead z e2⟩
        have E3 := e2.trans e3
        have g := R.good.lead E3
        refine ⟨as, ns.map V.int, rfl, by rw [← hK]; exact hsq H3 g.j, fun p hp => ?_⟩
        exact q3 _ _ (E3.trans (Lead.new hp)) (.lst (g.seen hp) (cut_ats (ints_ats ns)))
      | _ => exact q.elim
    | _ => exact q.elim
end
end Py
set_option Elab.async false
set_option linter.all false
set_option maxRecDepth 100000
set_option maxHeartbeats 4000000
namespace Py
open PySem PySem.Spec PyProof.Rows L2
end Py
set_option Elab.async false
set_option linter.all false
set_option maxRecDepth 100000
set_option maxHeartbeats 4000000
namespace Py
open PySem PySem.Spec PyProof.Rows L2
/-! ### a deck is made: what its def promises -/
def spDeck (K : PySem.W.Frag) (κ : DkK) (N0 : Nat) (tb : List (Addr × Str)) : Sp := fun vs H Q _ => ∃ (a : Addr) (ns : List Int), vs = [.ref a] ∧ SqL K H a (ns.map V.int) ∧ ns.length ≤ 63 ∧ LamX.Tabs tb H ∧
  ∀ p cl H', DkJ κ p cl tb N0 H' → (∀ b o, notT o → H b = some o → H' b = some o) → Q (.ref p) H'
theorem plain_sq {o : HO} {xs : List V} (h : o = .lst xs ∨ ∃ o', o = .frz o' (.lst xs)) : Plain o := by
  rcases h with rfl | ⟨o', rfl⟩
  · exact ⟨(fun _ z => nomatch z), fun _ _ z => nomatch z⟩
  · exact ⟨(fun _ z => nomatch z), fun _ _ z => by unfold LamX.CodeO at z; cases z⟩
theorem key_strs {G : Gl} {H : Hp} : ∀ {ks : List Str} {kvs : List (Key × V)}, Ats G H (ks.map D.str) (kvs.map fun q => kV q.1) → kvs.map (·.1) = ks.map Sum.inr
  | [], [], _ => rfl
  | [], _ :: _, h => nomatch h
  | _ :: _, [], h => nomatch h
  | k :: ks, (.inl i, v) :: kvs, h => by
    cases h with
    | cons h1 h2 => exact nomatch h1
  | k :: ks, (.inr i, v) :: kvs, h => by
    cases h with
    | cons h1 h2 =>
      have h1' : At G H (.str k) (.str i) := h1
      cases h1'
      exact congrArg _ (key_strs h2)
/-- a list of ints of the heap -/
theorem ats_intsL {G : Gl} {H : Hp} : ∀ {ns : List Int} {xs : List V}, Ats G H (ns.map D.int) xs → xs = ns.map V.int
  | [], _, h => by
    cases h
    rfl
  | n :: ns, _, h => by
    cases h with
    | cons h1 h2 =>
      have h1' : At G H (.int n) _ := h1
      cases h1'
      rw [ats_intsL h2]
      rfl
section
variable {P : Program} {w : World} {K : PySem.W.Frag} {mg : Str → Option Value} {base : Heap} {cls : Nat → Addr} {flds : Nat → List Str} {tb : List (Addr × Str)}
theorem deckG_sp {k : Nat} {f : Addr} {fd : FuncData} {x : Str} (κ : DkK) (N0 : Nat) (mD : List Int → List D → T D) (ks : List Str) (vs : List Int → List D)
    (F : ∀ (o0 : Option HO) (pl : ∀ o, o0 = some o → Plain o) (as : Addr) (ns : List Int), (∀ H, ScJ o0 as tb H → SqL K H as (ns.map V.int)) → FnOk P w K mg base (L2.CX P w) k f fd [x] (spD (mk0 P w K cls flds o0 pl as tb) 1 (mD ns)))
    (hm : ∀ ns : List Int, ns.length ≤ 63 → mD ns [.deck] = .ret (.dic (ks.map D.str) (vs ns)))
    (conv : ∀ (ns : List Int) (G : Gl) (H : Hp) (kvs : List (Key × V)), ns.length ≤ 63 → kvs.map (·.1) = ks.map Sum.inr → Ats G H (vs ns) (kvs.map (·.2)) → ∃ cl xs, H cl = some (.lst xs) ∧ κ.ok N0 cl (.dK kvs) (.lst xs)) :
    FnOk P w K mg base (L2.CX P w) k f fd [x] (spDeck K κ N0 tb) := by
  refine ⟨fun vs H Q E h => ?_, fun A outer s H args us vs Q E hr e0 hb hv h => ?_⟩
  · obtain ⟨a, ns, rfl, _⟩ := h
    rfl
  · obtain ⟨a, ns, rfl, sq, hl, tbs, q⟩ := h
    have go : ∀ (o0 : Option HO) (pl : ∀ o, o0 = some o → Plain o), (o0.isSome = true → H a = o0) → (o0 = none ∨ o0 = H a) → (∀ H, ScJ o0 a tb H → SqL K H a (ns.map V.int)) → codeAny (model P w) A (.call (.ref f) args) (CR (L2.CX P w) outer P w H s Q E) s := by
      intro o0 pl he ho hsq
      have j : (mk0 P w K cls flds o0 pl a tb).J 0 H := (⟨he, tbs⟩ : ScJ o0 a tb H)
      refine (F o0 pl a ns hsq).run A outer s H args us [.ref a] Q E hr e0 hb hv ⟨rfl, 0, [.deck], (mk0 P w K cls flds o0 pl a tb).M, ⟨j, fun _ m => m, ⟨fun b m => (mk0 P w K cls flds o0 pl a tb).has 0 H b j m, fun b o m n => absurd m n⟩⟩, .cons .deck .nil, ?_⟩
      rw [hm ns hl]
      refine fun v H' j' e at_ => ?_
      have at1 : At (mk0 P w K cls flds o0 pl a tb) (hide (mk0 P w K cls flds o0 pl a tb).M H') (.dic (ks.map D.str) (vs ns)) v := at_
      cases at1 with
      | @dic _ _ p kvs h1 h2 h3 =>
        have h1 : hide (mk0 P w K cls flds o0 pl a tb).M H' p = some (.dK kvs) := h1.resolve_right fun z => z.1
        obtain ⟨cl, xs, g1, ok⟩ := conv ns _ _ kvs hl (key_strs h2) h3
        have u1 : H' p = some (.dK kvs) := (hide_get h1).2
        have u2 : H' cl = some (.lst xs) := (hide_get g1).2
        have j1 : ScJ o0 a tb H' := j'
        refine q p cl H' ⟨fun z => ?_, ⟨_, _, u1, u2, ok⟩, j1.tb⟩ fun b o nt hb' => ?_
        · rw [z, u1] at u2
          cases u2
        · by_cases m : (mk0 P w K cls flds o0 pl a tb).M b
          · rcases m with ⟨s1, rfl⟩ | ⟨t, ht, rfl⟩
            · rw [j1.at_ s1, ← he s1]
              exact hb'
            · obtain ⟨ps, t1, _⟩ := tbs t ht
              rw [t1] at hb'
              cases hb'
              exact absurd rfl (nt ps)
          · exact e.ex b o m nt hb'
    rcases sq with rd | st
    · refine go (H a) (fun o ho => plain_sq (xs := ns.map V.int) ?_) (fun _ => rfl) (.inr rfl) fun H' j => ?_
      · rcases rd with rd | ⟨o', rd⟩
        · rw [rd] at ho
          exact .inl (Option.some.inj ho).symm
        · rw [rd] at ho
          exact .inr ⟨o', (Option.some.inj ho).symm⟩
      · have s1 : (H a).isSome = true := by
          rcases rd with rd | ⟨o', rd⟩ <;> rw [rd] <;> rfl
        have e1 := j.at_ s1
        rcases rd with rd | ⟨o', rd⟩
        · exact .inl (.inl (by rw [e1]; exact rd))
        · exact .inl (.inr ⟨o', by rw [e1]; exact rd⟩)
    · exact go none (fun _ z => nomatch z) (fun z => nomatch z) (.inl rfl) fun H' _ => .inr st
end
end Py
set_option Elab.async false
set_option linter.all false
set_option maxRecDepth 100000
set_option maxHeartbeats 4000000
namespace Py
open PySem PySem.Spec PyProof.Rows L2
/-- what a law is to do -/
def spLaw (K : PySem.W.Frag) (tb : List (Addr × Str)) : Sp := fun vs H Q _ => ∃ (a : Addr) (ns : List Int), vs = [.ref a] ∧ SqL K H a (ns.map V.int) ∧ ns.length ≤ 63 ∧ LamX.Tabs tb H ∧ ∀ H', Q (.bl true) H'
/-- the slots of a law behind the deck's making -/
def envL (n : Nat) : Env := Slot.none :: Slot.val .deck :: List.replicate (n - 2) Slot.none
theorem envL_at {n k : Nat} {s : Slot} (e : (envL n)[k]? = some s) : (k = 1 ∧ s = .val .deck) ∨ s = .none := by
  match k, e with
  | 0, e => exact .inr (Option.some.inj e).symm
  | 1, e => exact .inl ⟨rfl, (Option.some.inj e).symm⟩
  | k + 2, e =>
    have e : (List.replicate (n - 2) Slot.none)[k]? = some s := e
    exact .inr (List.eq_of_mem_replicate (List.mem_of_getElem? e))
section
variable {P : Program} {w : World} {K : PySem.W.Frag} {mg : Str → Option Value} {base : Heap} {cls : Nat → Addr} {flds : Nat → List Str} {κ : DkK} {N0 : Nat} {tb : List (Addr × Str)}
/-- THE RULE for a law whose first statement makes the deck -/
theorem law_ok {x qual : Str} {st st1 : Stmt} {rest : List Stmt} {f : Addr} {fd : FuncData} {cdv : Value} {N : List Str} {p0 : Str} {k : Nat} {s : Sm} {E0 : XK → L2.St → XK} (F : FunC K x qual st f fd cdv) (S : FnScope N [p0] (defScope st)) (hN : 2 ≤ N.length) (hb : defBody st = st1 :: rest)
    (h1 : ∀ (A : Around) (outer : List PySem.Env) (s0 : Shared) (H : Hp) (E : XK), Room k (A.deeper (PyProof.Rows.envOfC qual (defScope st) s0.heap.objs.size f cdv)) → PS (cxOf (L2.CX P w) P w K mg base N qual (defScope st) f cdv A outer s0 H E) st1 (tAsg (tCallS (spDeck K κ N0 tb) (E0 E) (tCons (tVar 0) tNil)) (gName 1)))
    (h2 : ∀ (p cl : Addr) (A : Around) (outer : List PySem.Env) (s0 : Shared) (H : Hp) (E : XK), Room k (A.deeper (PyProof.Rows.envOfC qual (defScope st) s0.heap.objs.size f cdv)) →
      SSs (cxOf (L2.CX P w) P w K mg base N qual (defScope st) f cdv A outer s0 H E) (mkG P w K cls flds κ p cl tb) (fun cls dx _ H' => E cls dx H') ⟨fun _ => False, fun _ => False, N0⟩ rest s)
    (hall : (s (envL N.length)).wp N0 (fun o _ => o = .ret (.bl true)) (fun _ _ _ => False)) :
    FnOk P w K mg base (L2.CX P w) (k + 1) f fd [p0] (spLaw K tb) := by
  obtain ⟨oc, od, kV, doc, pm, an, ct, osl, e1, lk, hcd⟩ := F.ex
  subst e1
  refine fn_of lk hcd S (fun vs H Q E h => ?_) fun A outer s0 H vs Q E hr h => ?_
  · obtain ⟨a, ns, rfl, _⟩ := h
    rfl
  · obtain ⟨a, ns, rfl, sq, hl, tbs, q⟩ := h
    rw [hb]
    refine ⟨_, pss_cons (h1 A outer s0 H E hr) (u := fun Dn σ H' => ∃ p cl, tSS (cxOf (L2.CX P w) P w K mg base N qual (defScope st) f cdv A outer s0 H E) (mkG P w K cls flds κ p cl tb) (fun cls dx _ H' => E cls dx H') ⟨fun _ => False, fun _ => False, N0⟩ s Dn σ H')
      ⟨fun pins s' σ H' D I ⟨p, cl, z⟩ => (h2 p cl A outer s0 H E hr).run pins s' σ H' D I z⟩, ?_⟩
    show tAsg _ _ _ _ _
    refine ⟨.ref a, by rfl, ?_⟩
    have key : ∀ (Q' : VK) (E' : XK), (∀ p cl H', DkJ κ p cl tb N0 H' → (∀ b o, notT o → H b = some o → H' b = some o) → Q' (.ref p) H') → spDeck K κ N0 tb [.ref a] H Q' E' := fun Q' E' z => ⟨a, ns, rfl, sq, hl, tbs, z⟩
    refine (show tNil (L2.start N [.ref a]) H _ from ?_)
    unfold tNil
    refine key _ _ fun p cl H' j ex => ?_
    refine ⟨p, cl, N0, envL N.length, dkM p cl tb, ⟨⟨j, fun _ m => m, ⟨fun b m => (mkG P w K cls flds κ p cl tb).has N0 H' b j m, fun b o m n => absurd m n⟩, ?_, fun i sl v e1 e2 => ?_, fun i k l v e1 _ _ _ => ?_⟩, ⟨fun b o _ _ nt e => ex b o nt e, fun _ => j⟩, fun _ z => z.elim, fun _ z => z.elim, fun _ z => z.elim, fun k l b e1 _ => ?_⟩, T.wp_mono hall (fun o _ ho => ?_) fun _ _ _ z => z⟩
    · show (envL N.length).length = ((L2.start N [.ref a]).set 1 (some (.ref p))).length
      rw [List.length_set]
      unfold envL L2.start
      simp
      omega
    · rcases envL_at e1 with ⟨rfl, rfl⟩ | rfl
      · have e3 : ((L2.start N [.ref a]).set 1 (some (.ref p)))[1]? = some v := e2
        have hlt : 1 < (L2.start N [.ref a]).length := by
          unfold L2.start
          simp
          omega
        rw [List.getElem?_set_self hlt] at e3
        exact ⟨.ref p, (Option.some.inj e3).symm, .deck⟩
      · trivial
    · rcases envL_at e1 with ⟨_, z⟩ | z <;> cases z
    · rcases envL_at e1 with ⟨_, z⟩ | z <;> cases z
    · rw [ho]
      intro v H'' _ _ a1
      have a2 : At (mkG P w K cls flds κ p cl tb) (hide (fun _ => False) H'') (.bl true) v := a1
      cases a2
      exact q H''
end
end Py
set_option Elab.async false
set_option linter.all false
set_option maxRecDepth 100000
set_option maxHeartbeats 4000000
namespace Py
open PySem PySem.Spec PyProof.Rows L2
/-! ### own lists made by comprehensions -/
section
variable {X : Cx} {G : Gl} {W : WX} {hs : Hid}
end
end Py
set_option Elab.async false
set_option linter.all false
set_option maxRecDepth 100000
set_option maxHeartbeats 4000000
namespace Py
namespace Hk
open PySem PySem.Spec PyProof.Rows L2
/-! ### a head's hook: what the facts of a law are read from -/
/-- the law's code object -/
def lawC (K : PySem.W.Frag) : Addr := match K.lookup (He.ga K "law") with
  | some ⟨_, _, .func fd, _⟩ => (match fd.code with
    | .ref c => c
    | _ => 0)
  | _ => 0
/-- its table of the code objects within -/
def lawT (K : PySem.W.Frag) : Addr := match K.lookup (lawC K) with
  | some ⟨_, _, .fields vs, _⟩ => (match vs.getD 11 .none with
    | .ref P => P
    | _ => 0)
  | _ => 0
def tblB (o : Option Obj) : Bool := match o with
  | some ⟨.none, none, .fields vs, sl⟩ => decide (vs.size = 0) && decide (sl.size = 0)
  | _ => false
theorem tblB_ok {o : Option Obj} (h : tblB o = true) : o = some { cls := .none, data := .fields #[] } := by
  unfold tblB at h
  split at h
  · rename_i vs sl
    obtain ⟨h1, h2⟩ := Bool.and_eq_true_iff.mp h
    have e1 : vs = #[] := Array.eq_empty_of_size_eq_zero (of_decide_eq_true h1)
    have e2 : sl = #[] := Array.eq_empty_of_size_eq_zero (of_decide_eq_true h2)
    rw [e1, e2]
  · cases h
def headB (K : PySem.W.Frag) (c P : Addr) : Bool := match K.lookup c with
  | some ⟨.type t, _, .fields vs, _⟩ => decide (t = "code") && (decide (vs[11]? = some (.ref P)) && (decide (c ≠ P) && (match vs.getD 18 .none, vs.getD 7 .none, vs.getD 9 .none, vs.getD 10 .none with
    | .str _ _, .int _ _, .bool _, .int _ _ => true
    | _, _, _, _ => false)))
  | _ => false
theorem headB_ok {K : PySem.W.Frag} {h : Heap} {c P : Addr} (X : K.In h) (q : headB K c P = true) : PySem.W.CodeHd h c P := by
  unfold headB at q
  split at q
  · rename_i t d vs sl e
    obtain ⟨h1, q⟩ := Bool.and_eq_true_iff.mp q
    obtain ⟨h2, q⟩ := Bool.and_eq_true_iff.mp q
    obtain ⟨h3, q⟩ := Bool.and_eq_true_iff.mp q
    have e2 := of_decide_eq_true h2
    split at q
    · rename_i f1 f2 f3 f4 f5 f6 f7 g1 g2 g3 g4
      refine ⟨_, vs, _, _, _, _, _, _, _, X _ _ e, by rw [of_decide_eq_true h1], rfl, e2, ?_, g1, g2, g3, g4, of_decide_eq_true h3⟩
      rw [Array.getD_eq_getD_getElem?, e2]
      rfl
    · cases q
  · cases q
theorem frG_out {g : Addr → Option Obj} {P : Addr} : ∀ as : List Addr, (He.frG g (as.filter fun a => a != P)).lookup P = none
  | [] => rfl
  | a :: as => by
    by_cases h : a = P
    · have e : (a :: as).filter (fun a => a != P) = as.filter fun a => a != P := by
        rw [List.filter_cons, h]
        simp
      rw [e]
      exact frG_out as
    · have e : (a :: as).filter (fun a => a != P) = a :: as.filter fun a => a != P := by
        rw [List.filter_cons]
        simp [h]
      rw [e]
      unfold He.frG
      rw [List.filterMap_cons]
      cases q : g a with
      | none => exact frG_out as
      | some o =>
        show (match P == a with | true => some o | false => (He.frG g (as.filter fun a => a != P)).lookup P) = none
        have e2 : (P == a) = false := by
          simp
          exact fun z => h z.symm
        rw [e2]
        exact frG_out as
/-- what is seen of a written part: the checks, the defs -/
def obsK (ck : List (PySem.W.Frag → Bool)) (fn : List He.DefD) (K : PySem.W.Frag) (P : Addr) : He.AlD :=
  (headB K (lawC K) P && ((ck.all fun f => f K) && fn.all fun d => d.ok K), fn.map fun d => He.fnW K d.at_)
def obsT (ck : List (PySem.W.Frag → Bool)) (fn : List He.DefD) (g : Addr → Option Obj) (as : List Addr) (P : Addr) : Bool × He.AlD :=
  (tblB (g P), obsK ck fn (He.frG g (as.filter fun a => a != P)) P)
def obsG (n : Nat) (ck : List (PySem.W.Frag → Bool)) (fn : List He.DefD) (g : Addr → Option Obj) : Bool × He.AlD := obsT ck fn g (He.asD g n) (lawT (He.frG g (He.asD g n)))
/-- what the end leans on -/
def Says (ck : List (PySem.W.Frag → Bool)) (fn : List He.DefD) (h : Heap) : Prop :=
  ∃ (K : PySem.W.Frag) (P : Addr), K.In h ∧ K.lookup P = none ∧ h.get? P = some { cls := .none, data := .fields #[] } ∧ obsK ck fn K P = He.valD fn
def hook (n : Nat) (ck : List (PySem.W.Frag → Bool)) (fn : List He.DefD) : PySem.W.Hook where
  α := Bool × He.AlD
  obs := fun s => obsG n ck fn s.heap.get?
  val := fun _ => (true, He.valD fn)
  says := fun _ h => Says ck fn h
  of := fun _ s e => by
    have e1 : (tblB (s.heap.get? _), obsK ck fn _ _) = (true, He.valD fn) := e
    exact ⟨_, lawT (He.frG s.heap.get? (He.asD s.heap.get? n)), He.frG_in, frG_out _, tblB_ok (congrArg Prod.fst e1), congrArg Prod.snd e1⟩
  keeps := fun _ _ _ ⟨K, P, h1, h2, h3, h4⟩ k => ⟨K, P, PySem.W.Frag.In.keeps h1 k, h2, k _ _ h3, h4⟩
section
variable {ck : List (PySem.W.Frag → Bool)} {fn : List He.DefD} {K : PySem.W.Frag} {P : Addr}
theorem head (c : obsK ck fn K P = He.valD fn) : headB K (lawC K) P = true := (Bool.and_eq_true_iff.mp (congrArg (fun z : He.AlD => z.1) c)).1
theorem fact (c : obsK ck fn K P = He.valD fn) (i : Nat) {f : PySem.W.Frag → Bool} (h : ck[i]? = some f := by rfl) : f K = true :=
  List.all_eq_true.mp (Bool.and_eq_true_iff.mp (Bool.and_eq_true_iff.mp (congrArg (fun z : He.AlD => z.1) c)).2).1 f (List.mem_of_getElem? h)
end
end Hk
end Py
set_option Elab.async false
set_option linter.all false
set_option maxRecDepth 100000
set_option maxHeartbeats 4000000
namespace Py
namespace Hk
open PySem PySem.Spec PyProof.Rows L2
section
variable {K : PySem.W.Frag} {h : Heap} {mg : Str → Option Value} {x q : Str} {st : Stmt} {ps : List Str} {kws : List (Str × V)} {f : Addr} {fd : FuncData}
theorem fun_of (F : FunD K x q (defArgs st) (defBody st) (defScope st) [] kws f fd) : Fun K x q st f fd := by
  obtain ⟨oc, od, dV, kV, doc, pm, an, cdv, ct, osl, e1, e2, e3, hD, hK⟩ := F.ex
  rcases hD with ⟨_, rfl⟩ | ⟨e, _⟩
  · exact ⟨⟨oc, od, kV, doc, pm, an, cdv, ct, osl, e1, e2, e3⟩, F.kp⟩
  · exact absurd rfl e
abbrev gloB (x : Str) (K : PySem.W.Frag) : Bool := (He.Fa.glo x).ok K
abbrev freeB (x : Str) (K : PySem.W.Frag) : Bool := (He.Fa.free x).ok K
abbrev intB (x : Str) (i : Int) (K : PySem.W.Frag) : Bool := (He.Fa.int x i).ok K
theorem dn_ok (X : K.In h) (G : h.Ns mainGlobals mg) (F : ∃ fd, FunD K x x (defArgs st) (defBody st) (defScope st) [] kws (He.ga K x) fd) (g : gloB x K = true)
    (b : ∀ (kV doc pm : Value) (an : Option Addr) (cdv ct : Value) (us : List Value), us.length = ps.length → bindArgs (PySem.W.fnOf x x (defArgs st) (defBody st) (defScope st) .none kV doc pm an cdv ct) ⟨us, []⟩ = pure (ps.zip us)) : ∃ f fd, Dn K mg x st ps f fd := by
  obtain ⟨fd, F⟩ := F
  exact ⟨_, fd, fun_of F, F.bindsN b, He.glo_ok X G g, F.kp⟩
/-- a method m of the class x -/
def mnB (x m : Str) (K : PySem.W.Frag) : Bool := He.eqO (PySem.W.findIn K (.ref (He.ga K x)) m) (some (some (.ref (He.ma K (He.ga K x) m)))) && PySem.W.isFn K (.ref (He.ma K (He.ga K x) m))
theorem mn_ok {m : Str} (F : ∃ fd, FunD K m q (defArgs st) (defBody st) (defScope st) [] kws (He.ma K (He.ga K x) m) fd) (g : mnB x m K = true)
    (b : ∀ (kV doc pm : Value) (an : Option Addr) (cdv ct : Value) (us : List Value), us.length = ps.length → bindArgs (PySem.W.fnOf m q (defArgs st) (defBody st) (defScope st) .none kV doc pm an cdv ct) ⟨us, []⟩ = pure (ps.zip us)) : ∃ f fd, Mn K m q st ps (He.ga K x) f fd := by
  obtain ⟨fd, F⟩ := F
  obtain ⟨g1, g2⟩ := Bool.and_eq_true_iff.mp g
  exact ⟨_, fd, fun_of F, F.bindsN b, He.eqO_ok g1, g2⟩
/-- an own class whose instances are data -/
def ownB (C : Addr) (K : PySem.W.Frag) : Bool := PySem.W.plainGet K C Str.empty && (PySem.W.hasDictIn K C && (PySem.W.plainOver K C && (He.eqO (PySem.W.findIn K (.ref C) "__setattr__") (some (some (.builtin "object.__setattr__"))) &&
  (He.eqO (PySem.W.findIn K (.ref C) "__class__") (some (some (.builtin "object.__class__"))) && (He.eqO (PySem.W.specialIn K (.builtin "object.__class__") "__get__") (some (some (.builtin "getset_descriptor.__get__"))) &&
  (decide (PySem.W.takesIn K (.builtin "object.__class__") = some true) && decide (PySem.W.mroIn K C (.type "object") = some true)))))))
theorem own_ok {C : Addr} (c : ownB C K = true) : OwnC K C := by
  obtain ⟨c1, c⟩ := Bool.and_eq_true_iff.mp c
  obtain ⟨c2, c⟩ := Bool.and_eq_true_iff.mp c
  obtain ⟨c3, c⟩ := Bool.and_eq_true_iff.mp c
  obtain ⟨c4, c⟩ := Bool.and_eq_true_iff.mp c
  obtain ⟨c5, c⟩ := Bool.and_eq_true_iff.mp c
  obtain ⟨c6, c⟩ := Bool.and_eq_true_iff.mp c
  obtain ⟨c7, c8⟩ := Bool.and_eq_true_iff.mp c
  exact ⟨⟨c1, c2, c3, He.eqO_ok c4⟩, He.eqO_ok c5, He.eqO_ok c6, of_decide_eq_true c7, of_decide_eq_true c8⟩
/-- a class whose instances are made, its fields fs -/
def cnB (x : Str) (fs : List Str) (K : PySem.W.Frag) : Bool := ownB (He.ga K x) K && ((fs.all fun f => He.eqO (PySem.W.findIn K (.ref (He.ga K x)) f) (some none)) && (gloB x K && (PySem.W.makesIn K (He.ga K x) && PySem.W.keepIn K (.ref (He.ga K x)))))
theorem cn_ok {fs fl : List Str} (X : K.In h) (G : h.Ns mainGlobals mg) (e : fl = fs) (c : cnB x fs K = true) : Cn K mg (He.ga K x) fl x fs := by
  obtain ⟨c1, c⟩ := Bool.and_eq_true_iff.mp c
  obtain ⟨c2, c⟩ := Bool.and_eq_true_iff.mp c
  obtain ⟨c3, c⟩ := Bool.and_eq_true_iff.mp c
  obtain ⟨c4, c5⟩ := Bool.and_eq_true_iff.mp c
  exact ⟨own_ok c1, e, fun f hf => He.eqO_ok (List.all_eq_true.mp c2 f hf), He.glo_ok X G c3, c4, c5⟩
/-- an error class over another one of one's own, over Exception -/
def clsB (C : Addr) (K : PySem.W.Frag) : Bool := match K.lookup C with
  | some ⟨.type "type", _, .cls cd, sl⟩ => (match cd.mro, sl.toList with
    | .ref C' :: .ref D :: tl, [_, _, _, _, some (.builtin n), _] => decide (C' = C) && (decide (n = "Exception.__new__") && (!cd.hasDel && (cd.hasDict && decide (tl = PySem.ESX.exTail))))
    | _, _ => false)
  | _ => false
theorem cls_ok {C : Addr} (c : clsB C K = true) : ∃ nm q N bs D sn sub ab col dd k0 k1 k2 k3 k5, K.lookup C = some (excClassObj nm q C N bs (Er.up D) true sn sub ab col dd k0 k1 k2 k3 k5 "Exception.__new__") := by
  unfold clsB at c
  split at c
  · rename_i dd cd sl ho
    split at c
    · rename_i C' D tl k0 k1 k2 k3 n k5 hm hs
      simp only [Bool.and_eq_true, decide_eq_true_eq, Bool.not_eq_true'] at c
      obtain ⟨rfl, rfl, hdel, hdict, rfl⟩ := c
      obtain ⟨nm, bs, mro, ns, qn, hd, sn, sub, ab, col, del⟩ := cd
      dsimp only at hm hdel hdict
      subst hm hdel hdict
      have hsl : sl = #[k0, k1, k2, k3, some (.builtin "Exception.__new__"), k5] := by
        obtain ⟨l⟩ := sl
        simp only at hs
        rw [hs]
      subst hsl
      exact ⟨nm, qn, ns, bs, D, sn, sub, ab, col, dd, k0, k1, k2, k3, k5, ho⟩
    · cases c
  · cases c
def kwNoB (f : Addr) (K : PySem.W.Frag) : Bool := match K.lookup f with
  | some ⟨_, _, .func fd, _⟩ => (match fd.kwdefaults with
    | .none => true
    | _ => false)
  | _ => false
end
end Hk
end Py
set_option Elab.async false
set_option linter.all false
set_option maxRecDepth 100000
set_option maxHeartbeats 4000000
namespace Py
namespace Hk
open PySem PySem.Spec PyProof.Rows L2
section
variable {K : PySem.W.Frag} {h : Heap} {mg : Str → Option Value} {x q : Str} {st : Stmt} {ps : List Str} {kws : List (Str × V)} {f : Addr} {fd : FuncData}
/-- an error class x with one parameter p -/
def txtB (x p : Str) (K : PySem.W.Frag) : Bool := gloB x K && (clsB (He.ga K x) K && (He.eqO (PySem.W.findIn K (.ref (He.ga K x)) "__setattr__") (some (some (.builtin "object.__setattr__"))) && (He.eqO (PySem.W.findIn K (.ref (He.ga K x)) p) (some none) &&
  (He.eqO (PySem.W.findIn K (.ref (He.ga K x)) "__init__") (some (some (.ref (He.ma K (He.ga K x) "__init__")))) && (decide (PySem.W.typeIn K (.ref (He.ma K (He.ga K x) "__init__")) = some (.type "function")) && (PySem.W.keepIn K (.ref (He.ga K x)) &&
  (decide (PySem.W.subIn K (.ref (He.ga K x)) (.type "BaseException") = some true) && (decide (PySem.W.typeIn K (.ref (He.ga K x)) = some (.type "type")) && kwNoB (He.ma K (He.ga K x) "__init__") K))))))))
theorem en_ok {p : Str} {A : Arguments} {B : List Stmt} {S : Scope} {fl : List Str} {p1 p2 q1 q2 q3 q4 : Pos} (X : K.In h) (G : h.Ns mainGlobals mg) (F : ∃ fd, FunD K "__init__" q A B S [] [] (He.ma K (He.ga K x) "__init__") fd) (c : txtB x p K = true)
    (e : fl = [p]) (hA : A = Er.iA p p1 p2) (hB : B = Er.iB p q1 q2 q3 q4) (hS : S = Er.iS p) (nf : (p == ("__debug__" : Str)) = false ∧ p ≠ "self")
    (bd : ∀ (qn : Str) (p1 p2 q1 q2 q3 q4 : Pos) (doc pm cdv ct : Value) (an : Option Addr) (a b : Value), bindArgs (PySem.W.fnOf "__init__" qn (Er.iA p p1 p2) (Er.iB p q1 q2 q3 q4) (Er.iS p) .none .none doc pm an cdv ct) ⟨[a, b], []⟩ = pure [(PySem.Str.ofString "self", a), (p, b)]) : En K mg (He.ga K x) fl x p := by
  obtain ⟨c1, c⟩ := Bool.and_eq_true_iff.mp c
  obtain ⟨c2, c⟩ := Bool.and_eq_true_iff.mp c
  obtain ⟨c3, c⟩ := Bool.and_eq_true_iff.mp c
  obtain ⟨c4, c⟩ := Bool.and_eq_true_iff.mp c
  obtain ⟨c5, c⟩ := Bool.and_eq_true_iff.mp c
  obtain ⟨c6, c⟩ := Bool.and_eq_true_iff.mp c
  obtain ⟨c7, c⟩ := Bool.and_eq_true_iff.mp c
  obtain ⟨c8, c⟩ := Bool.and_eq_true_iff.mp c
  obtain ⟨c9, c10⟩ := Bool.and_eq_true_iff.mp c
  subst hA hB hS
  obtain ⟨fd, F⟩ := F
  obtain ⟨oc, od, dV, kV, doc, pm, an, cdv, ct, osl, e1, e2, e3, hD, hK⟩ := F.ex
  subst e1
  rcases hD with ⟨_, rfl⟩ | ⟨z, _⟩
  · have k0 : kV = .none := by
      unfold kwNoB at c10
      rw [e2] at c10
      cases kV <;> first | rfl | cases c10
    subst k0
    exact ⟨e, _, He.glo_ok X G c1, cls_ok c2, He.eqO_ok c3, He.eqO_ok c4, He.eqO_ok c5, of_decide_eq_true c6, c7, of_decide_eq_true c8, of_decide_eq_true c9, nf, bd, q, oc, od, doc, pm, an, cdv, ct, osl, p1, p2, q1, q2, q3, q4, e2, e3⟩
  · exact absurd rfl z
def askedB (D : Addr) (K : PySem.W.Frag) : Bool := He.eqO (PySem.W.findIn K (.ref D) "__getattribute__") (some (some (.builtin "BaseException.__getattribute__"))) && (He.eqO (PySem.W.findIn K (.ref D) "__getattr__") (some none) && (decide (PySem.W.subIn K (.ref D) (.type "BaseException") = some true) && (PySem.W.hasDictIn K D &&
  (He.eqO (PySem.W.findIn K (.ref D) "__class__") (some (some (.builtin "object.__class__"))) && (He.eqO (PySem.W.specialIn K (.builtin "object.__class__") "__get__") (some (some (.builtin "getset_descriptor.__get__"))) && (decide (PySem.W.takesIn K (.builtin "object.__class__") = some true) && decide (PySem.W.mroIn K D (.type "object") = some true)))))))
theorem asked_ok {D : Addr} (c : askedB D K = true) : Er.Asked K D := by
  obtain ⟨c1, c⟩ := Bool.and_eq_true_iff.mp c
  obtain ⟨c2, c⟩ := Bool.and_eq_true_iff.mp c
  obtain ⟨c3, c⟩ := Bool.and_eq_true_iff.mp c
  obtain ⟨c4, c⟩ := Bool.and_eq_true_iff.mp c
  obtain ⟨c5, c⟩ := Bool.and_eq_true_iff.mp c
  obtain ⟨c6, c⟩ := Bool.and_eq_true_iff.mp c
  obtain ⟨c7, c8⟩ := Bool.and_eq_true_iff.mp c
  exact ⟨He.eqO_ok c1, He.eqO_ok c2, of_decide_eq_true c3, c4, He.eqO_ok c5, He.eqO_ok c6, of_decide_eq_true c7, of_decide_eq_true c8⟩
/-- the classes by number -/
def clsK (names : List Str) (K : PySem.W.Frag) : Nat → Addr := fun k => He.ga K (names.getD k "")
def fldsK (fl : List (List Str)) : Nat → List Str := fun k => fl.getD k []
def xnB (names : List Str) (base : Nat) (es : List Nat) (K : PySem.W.Frag) : Bool := gloB (names.getD base "") K && (es.all (fun k => askedB (clsK names K k) K) &&
  es.all fun k => (base :: es).all fun n => decide (PySem.W.exmOne K (.ref (clsK names K k)) (.ref (clsK names K n)) = some (k == n || n == base)) && decide (PySem.W.kitOne K (.ref (clsK names K k)) (.ref (clsK names K n)) = some (k == n || n == base)))
theorem xn_ok {names : List Str} {base : Nat} {es : List Nat} {flds : Nat → List Str} (X : K.In h) (G : h.Ns mainGlobals mg) (c : xnB names base es K = true) (hf : ∀ k, k ∈ es → flds k ≠ []) : Xn K mg (clsK names K) flds base (names.getD base "") es := by
  obtain ⟨c1, c⟩ := Bool.and_eq_true_iff.mp c
  obtain ⟨c2, c3⟩ := Bool.and_eq_true_iff.mp c
  refine ⟨He.glo_ok X G c1, fun k hk => asked_ok (List.all_eq_true.mp c2 k hk), hf, fun n k b hb => ?_, fun n k b hb => ?_⟩
  · obtain ⟨h1, h2, rfl⟩ := exM_ok hb
    exact of_decide_eq_true (Bool.and_eq_true_iff.mp (List.all_eq_true.mp (List.all_eq_true.mp c3 k h1) n h2)).1
  · obtain ⟨h1, h2, rfl⟩ := exM_ok hb
    exact of_decide_eq_true (Bool.and_eq_true_iff.mp (List.all_eq_true.mp (List.all_eq_true.mp c3 k h1) n h2)).2
/-! ### calls by keywords -/
theorem kd_ok {n : Nat} {ks : List Str} {js : List Nat}
    (hb : ∀ (kV doc pm : Value) (an : Option Addr) (cdv ct : Value) (us ws : List Value), us.length = n → ws.length = ks.length → bindArgs (PySem.W.fnOf x q (defArgs st) (defBody st) (defScope st) .none kV doc pm an cdv ct) ⟨us, ks.zip ws⟩ = pure (ps.zip (permL js (us ++ ws)))) : ∀ f fd, Fun K x q st f fd → KBd K fd ps n ks js := fun f fd F s us ws _ l1 l2 => by
  obtain ⟨oc, od, kV, doc, pm, an, cdv, ct, osl, rfl, _⟩ := F.ex
  exact .of_eq (hb kV doc pm an cdv ct us ws l1 l2)
/-! ### the law itself -/
end
end Hk
end Py
set_option Elab.async false
set_option linter.all false
set_option maxRecDepth 100000
set_option maxHeartbeats 4000000
namespace Py
namespace En
open PySem PySem.W PySem.Spec PySem.Calls PyProof.Rows L2
/-! ### enumerate over a tuple, a list, from k on -/
set_option maxHeartbeats 1000000 in
theorem meets_one {v : Value} {o : Obj} {H : Heap → Prop} (B : Begins v o H) :
    Meets (Builtin.«enumerate.__new__» ⟨[.type "enumerate", v], []⟩) (fun _ R s => H s.heap ∧
      R (.ok (.ret (.ref (s.heap.push o).objs.size))) { s with heap := (s.heap.push o).push { cls := .type "enumerate", data := .fields #[.none, .bool false, .ref s.heap.objs.size, rawInt 0, .none, .none] } }) :=
  .of_wp fun prog w A R s z => by
    obtain ⟨hp, gs, dr, tk, os⟩ := s
    obtain ⟨hv, z⟩ := z
    have hsub := sub_enumerate
    have go : ∀ {A' : Around} {E : Value → Shared → Prop} {Q : Value → Shared → Prop}, Q (.ref hp.objs.size) ⟨hp.push o, gs, dr, tk, os⟩ → wpAny (model prog w) A' (pyIter v) Q E ⟨hp, gs, dr, tk, os⟩ := fun q => B.iter prog w _ _ ⟨hp, gs, dr, tk, os⟩ _ hv q
    wp_walk using go
    refine wpAny_stack_any fun st => wpAny_pure ?_
    split
    · rename_i c _ _ _ _ _
      cases (c == Value.type "enumerate") <;> (wp_walk using go; exact ⟨_, rfl, z⟩)
    · wp_walk using go
      exact ⟨_, rfl, z⟩
section
variable {prog : Program} {w : World} {A : Around} {E : Value → Shared → Prop} {s : Shared}
theorem one_begins {v : Value} {o : Obj} {H : Heap → Prop} {Q : Value → Shared → Prop} (B : Begins v o H) (hv : H s.heap)
    (k : ∀ h', IsEnum h' (s.heap.objs.size + 1) s.heap.objs.size 0 .none → h'.get? s.heap.objs.size = some o → h'.objs.size = s.heap.objs.size + 2 → (∀ b o, s.heap.get? b = some o → h'.get? b = some o) → Q (.ref (s.heap.objs.size + 1)) { s with heap := h' }) :
    wpAny (model prog w) A (call (.type "enumerate") [v]) Q E s := by
  have z2 : (s.heap.push o).objs.size = s.heap.objs.size + 1 := Heap.size_push ..
  refine callType_new F.called_enumerate (by decide) (F.typeCall_enumerate_1 _) (F.newCall_enumerate_1 _) (fun obj => F.args_object_init_2 obj _) F.entry_enumerate_new (meets_one B) ⟨hv, ?_⟩
  have at2 := Heap.get?_push_size (s.heap.push o) (o := { cls := .type "enumerate", data := .fields #[.none, .bool false, .ref s.heap.objs.size, rawInt 0, .none, .none] }) rfl
  show _ ∧ _
  rw [z2] at at2 ⊢
  exact ⟨⟨_, at2, rfl⟩, k _ at2 (Heap.get?_push_of_some _ (Heap.get?_push_size _ B.free)) (by rw [Heap.size_push, z2]) fun b u x => Heap.get?_push_of_some _ (Heap.get?_push_of_some _ x)⟩
end
/-- the items that S tells, each in a new pair behind its number from k on -/
def Iq (S : Hp → List V → Prop) (k : Int) : It :=
  ⟨fun i H => ∃ xs x, S H xs ∧ xs[i]? = some x, fun i H v H' => ∃ T x, v = .ref T ∧ H T = none ∧ (∃ o, o.dict = none ∧ H' = upd H T (.frz o (.tup [.int (k + (i : Int)), x]))) ∧ ∀ xs, S H xs → xs[i]? = some x, fun i H => ∃ xs, S H xs ∧ xs.length ≤ i⟩
/-- the enumerator's own two cells at turn i, over the tuple at a -/
def TnT (a e it : Addr) (k : Int) (i : Nat) (h : Heap) : Prop := (∃ old, IsEnum h e it (k + (i : Int)) old) ∧ h.IsTupleIter it a i ∧ e ≠ it ∧ a ≠ it ∧ a ≠ e
theorem turnT {P : Program} {w : World} {K : PySem.W.Frag} {elts : List Expr} {kk : Nat} {tpos : Pos} (a e it : Addr) (k : Int) : Turn P w K (.Tuple elts kk tpos) (Iq (fun H xs => SqT K H a xs) k) [e, it] e (TnT a e it k) where
  mem := List.mem_cons_self ..
  obj := fun i h t b hb => by
    obtain ⟨⟨old, t1⟩, ⟨o, t2, _, t3⟩, _⟩ := t
    rcases List.mem_cons.mp hb with rfl | hb
    · exact ⟨_, t1, fun v z => nomatch z⟩
    · rw [List.mem_singleton.mp hb]
      exact ⟨o, t2, fun v z => by rw [t3] at z; cases z⟩
  keep := fun i h h' t kp => by
    obtain ⟨⟨old, t1⟩, t2, t3⟩ := t
    exact ⟨⟨old, kp e (List.mem_cons_self ..) _ t1⟩, t2.at fun o z => kp it (by simp) o z, t3⟩
  item := by
    intro X hP hw hK hc i pins s σ H E I hf t hg
    subst hP hw hK
    obtain ⟨⟨old, t1⟩, t2, t3, t4, t5⟩ := t
    obtain ⟨xs, x, hx, hi⟩ := hg
    obtain ⟨its, rv, pt, _⟩ := I.tuple hx
    have pt : s.heap.IsTuple a its.toArray := pt
    obtain ⟨u, hu, ru⟩ := rv.get hi
    have eS : e < s.heap.objs.size := Heap.lt_size t1
    have iS : it < s.heap.objs.size := by
      obtain ⟨_, z, _⟩ := t2
      exact Heap.lt_size z
    have hd : X.A.in1.handled = none := I.ok.hd hc
    have hlt : i < its.toArray.size := by
      have := (List.getElem?_eq_some_iff.mp hu).1
      simpa using this
    refine wpAny_pyNext_enum_itemC (Draws.tuple hd it a t4 its.toArray) t1 ⟨t2, pt⟩ hlt t3 (by simp; exact ⟨t3, fun z => t5 z.symm⟩) fun y h' tk hy ho hs hT hz hk => ?_
    have ey : y = u := by
      have z : its.toArray[i]? = some u := by simpa using hu
      exact Option.some.inj (hy.symm.trans z)
    subst ey
    refine ⟨_, rfl, wpAny_letOwnedTupleGo_enum (s := { s with heap := h', toks := tk + 1 }) ho fun h2 e2 sb => ?_⟩
    have hT2 : h2.get? s.heap.objs.size = some { cls := .type "tuple", data := .seq #[.int (k + (i : Int)) tk, y] } := (sb.2 _ (Nat.ne_of_gt eS)).trans hT
    have nw : ObjOk X.prog X.w (upd H s.heap.objs.size (.frz (tupO [.int (k + (i : Int)) tk, y]) (.tup [.int (k + (i : Int)), x]))) h2 s.heap.objs.size (.frz (tupO [.int (k + (i : Int)) tk, y]) (.tup [.int (k + (i : Int)), x])) := okT (.cons ⟨_, rfl⟩ (.cons ru .nil)) (by show (2 : Nat) ≤ sizeLine; decide) hT2
    have I2 := I.turnedNew (t' := tk + 1) (ch := [e, it]) (fun b o hb z => (sb.2 b fun y => hb (by simp [y])).trans (hk b o (fun y => hb (by simp [y])) (fun y => hb (by simp [y])) z)) hf (Nat.le_refl _) nw
    refine ⟨.ref s.heap.objs.size, _, I2, rfl, ⟨_, x, rfl, I.hok.fresh (Nat.le_refl _), ⟨_, rfl, rfl⟩, fun ys hy => by rw [I.tuple_inj hy hx]; exact hi⟩, ⟨⟨y, ?_⟩, hs.1.at fun o z => (sb.2 it fun q => t3 q.symm).trans z, t3, t4, t5⟩, fun b hb => ?_⟩
    · have ek : k + ((i + 1 : Nat) : Int) = k + (i : Int) + 1 := by omega
      rw [ek]
      exact e2
    · have bS : b < s.heap.objs.size := by
        rcases List.mem_cons.mp hb with rfl | hb
        · exact eS
        · rw [List.mem_singleton.mp hb]
          exact iS
      rw [upd_ne (Nat.ne_of_lt bS)]
      exact (hf b hb).1
  done := by
    intro X hP hw hK hc i pins s σ H E I hf t hg
    subst hP hw hK
    obtain ⟨⟨old, t1⟩, t2, t3, t4, t5⟩ := t
    obtain ⟨xs, hx, hl⟩ := hg
    obtain ⟨its, rv, pt, _⟩ := I.tuple hx
    have pt : s.heap.IsTuple a its.toArray := pt
    have hd : X.A.in1.handled = none := I.ok.hd hc
    have len := rv.length
    have le : its.toArray[i]? = none := by
      simp
      omega
    have D : Draws X.prog X.w X.A.in1 it [it, a] i (fun _ _ => False) (fun j h => j = i ∧ h.IsTupleIter it a j ∧ h.IsTuple a its.toArray) :=
      { live := fun _ _ st => by
          obtain ⟨_, ⟨o, z, _⟩, _⟩ := st
          exact ⟨o, z⟩
        frame := fun _ _ _ st hk => ⟨st.1, st.2.1.at fun o z => hk it (by simp) o z, st.2.2.at fun o z => hk a (by simp) o z⟩
        item := fun j s Q E hj st _ => absurd hj (by rw [st.1]; exact Nat.lt_irrefl _)
        done := fun s Q E st hE => wpAny_nextOf_tuple_end hd st.2.1 st.2.2 le hE }
    exact wpAny_pyNext_enum_endD D t1 ⟨rfl, t2, pt⟩ fun h' eb => by
      obtain ⟨f0, f1, f2, f3, f4, f5⟩ := hf it (by simp)
      exact ⟨rfl, I.turned (t' := s.toks) (fun b o hb z => eb b o hb z) f0 f1 f3 f4 f5⟩
  self := fun A i s Q E t h => by
    obtain ⟨⟨_, t1⟩, _⟩ := t
    exact wpAny_pyIter_enum t1 h
/-- the enumerator's own two cells at turn i, over the list at a -/
def TnL (a e it : Addr) (k : Int) (i : Nat) (h : Heap) : Prop := (∃ old, IsEnum h e it (k + (i : Int)) old) ∧ h.IsListIter it a i ∧ e ≠ it ∧ a ≠ it ∧ a ≠ e
theorem turnL {P : Program} {w : World} {K : PySem.W.Frag} {elts : List Expr} {kk : Nat} {tpos : Pos} (a e it : Addr) (k : Int) : Turn P w K (.Tuple elts kk tpos) (Iq (fun H xs => SqL K H a xs) k) [e, it] e (TnL a e it k) where
  mem := List.mem_cons_self ..
  obj := fun i h t b hb => by
    obtain ⟨⟨old, t1⟩, ⟨o, t2, _, t3⟩, _⟩ := t
    rcases List.mem_cons.mp hb with rfl | hb
    · exact ⟨_, t1, fun v z => nomatch z⟩
    · rw [List.mem_singleton.mp hb]
      exact ⟨o, t2, fun v z => by rw [t3] at z; cases z⟩
  keep := fun i h h' t kp => by
    obtain ⟨⟨old, t1⟩, t2, t3⟩ := t
    exact ⟨⟨old, kp e (List.mem_cons_self ..) _ t1⟩, t2.at fun o z => kp it (by simp) o z, t3⟩
  item := by
    intro X hP hw hK hc i pins s σ H E I hf t hg
    subst hP hw hK
    obtain ⟨⟨old, t1⟩, t2, t3, t4, t5⟩ := t
    obtain ⟨xs, x, hx, hi⟩ := hg
    obtain ⟨its, rv, pt, _⟩ := I.list hx
    have pt : s.heap.IsList a its.toArray := pt.isList
    obtain ⟨u, hu, ru⟩ := rv.get hi
    have eS : e < s.heap.objs.size := Heap.lt_size t1
    have iS : it < s.heap.objs.size := by
      obtain ⟨_, z, _⟩ := t2
      exact Heap.lt_size z
    have hd : X.A.in1.handled = none := I.ok.hd hc
    have hlt : i < its.toArray.size := by
      have := (List.getElem?_eq_some_iff.mp hu).1
      simpa using this
    refine wpAny_pyNext_enum_itemC (Draws.list hd it a t4 its.toArray) t1 ⟨t2, pt⟩ hlt t3 (by simp; exact ⟨t3, fun z => t5 z.symm⟩) fun y h' tk hy ho hs hT hz hk => ?_
    have ey : y = u := by
      have z : its.toArray[i]? = some u := by simpa using hu
      exact Option.some.inj (hy.symm.trans z)
    subst ey
    refine ⟨_, rfl, wpAny_letOwnedTupleGo_enum (s := { s with heap := h', toks := tk + 1 }) ho fun h2 e2 sb => ?_⟩
    have hT2 : h2.get? s.heap.objs.size = some { cls := .type "tuple", data := .seq #[.int (k + (i : Int)) tk, y] } := (sb.2 _ (Nat.ne_of_gt eS)).trans hT
    have nw : ObjOk X.prog X.w (upd H s.heap.objs.size (.frz (tupO [.int (k + (i : Int)) tk, y]) (.tup [.int (k + (i : Int)), x]))) h2 s.heap.objs.size (.frz (tupO [.int (k + (i : Int)) tk, y]) (.tup [.int (k + (i : Int)), x])) := okT (.cons ⟨_, rfl⟩ (.cons ru .nil)) (by show (2 : Nat) ≤ sizeLine; decide) hT2
    have I2 := I.turnedNew (t' := tk + 1) (ch := [e, it]) (fun b o hb z => (sb.2 b fun y => hb (by simp [y])).trans (hk b o (fun y => hb (by simp [y])) (fun y => hb (by simp [y])) z)) hf (Nat.le_refl _) nw
    refine ⟨.ref s.heap.objs.size, _, I2, rfl, ⟨_, x, rfl, I.hok.fresh (Nat.le_refl _), ⟨_, rfl, rfl⟩, fun ys hy => by rw [I.list_inj hy hx]; exact hi⟩, ⟨⟨y, ?_⟩, hs.1.at fun o z => (sb.2 it fun q => t3 q.symm).trans z, t3, t4, t5⟩, fun b hb => ?_⟩
    · have ek : k + ((i + 1 : Nat) : Int) = k + (i : Int) + 1 := by omega
      rw [ek]
      exact e2
    · have bS : b < s.heap.objs.size := by
        rcases List.mem_cons.mp hb with rfl | hb
        · exact eS
        · rw [List.mem_singleton.mp hb]
          exact iS
      rw [upd_ne (Nat.ne_of_lt bS)]
      exact (hf b hb).1
  done := by
    intro X hP hw hK hc i pins s σ H E I hf t hg
    subst hP hw hK
    obtain ⟨⟨old, t1⟩, t2, t3, t4, t5⟩ := t
    obtain ⟨xs, hx, hl⟩ := hg
    obtain ⟨its, rv, pt, _⟩ := I.list hx
    have pt : s.heap.IsList a its.toArray := pt.isList
    have hd : X.A.in1.handled = none := I.ok.hd hc
    have len := rv.length
    have le : its.toArray[i]? = none := by
      simp
      omega
    have D : Draws X.prog X.w X.A.in1 it [it, a] i (fun _ _ => False) (fun j h => j = i ∧ h.IsListIter it a j ∧ h.IsList a its.toArray) :=
      { live := fun _ _ st => by
          obtain ⟨_, ⟨o, z, _⟩, _⟩ := st
          exact ⟨o, z⟩
        frame := fun _ _ _ st hk => ⟨st.1, st.2.1.at fun o z => hk it (by simp) o z, st.2.2.at fun o z => hk a (by simp) o z⟩
        item := fun j s Q E hj st _ => absurd hj (by rw [st.1]; exact Nat.lt_irrefl _)
        done := fun s Q E st hE => wpAny_nextOf_list_end hd st.2.1 st.2.2 le hE }
    exact wpAny_pyNext_enum_endD D t1 ⟨rfl, t2, pt⟩ fun h' eb => by
      obtain ⟨f0, f1, f2, f3, f4, f5⟩ := hf it (by simp)
      exact ⟨rfl, I.turned (t' := s.toks) (fun b o hb z => eb b o hb z) f0 f1 f3 f4 f5⟩
  self := fun A i s Q E t h => by
    obtain ⟨⟨_, t1⟩, _⟩ := t
    exact wpAny_pyIter_enum t1 h
section
variable {X : Cx}
/-- what enumerate(e) from k on walks -/
def iEn (K : PySem.W.Frag) (k : Int) (ta : TA) : TI := fun σ H R => ta σ H fun vs H1 => ∃ a, vs = [.ref a] ∧ (((∃ xs, SqT K H1 a xs) ∧ R (Iq (fun H xs => SqT K H a xs) k) H1) ∨ ((∃ xs, SqL K H1 a xs) ∧ R (Iq (fun H xs => SqL K H a xs) k) H1))
theorem come_enum {pins : List (Addr × Obj)} {σ : L2.St} {H : Hp} {s : Shared} {v : V} {u : Value} {k : Int} {elts : List Expr} {kk : Nat} {tpos : Pos} {R : It → Hp → Prop} {ps : List Value} {ks : List (Str × Value)} (I : Inv X pins σ H s) (ru : RelV v u)
    (q : ∃ a, v = .ref a ∧ (((∃ xs, SqT X.K H a xs) ∧ R (Iq (fun H xs => SqT X.K H a xs) k) H) ∨ ((∃ xs, SqL X.K H a xs) ∧ R (Iq (fun H xs => SqL X.K H a xs) k) H)))
    (mk : ∀ (o : Obj) (B : Heap → Prop) (Q : Value → Shared → Prop) (_ : Begins u o B) (_ : B s.heap), (∀ h', IsEnum h' (s.heap.objs.size + 1) s.heap.objs.size k .none → h'.get? s.heap.objs.size = some o → h'.objs.size = s.heap.objs.size + 2 → (∀ b o, s.heap.get? b = some o → h'.get? b = some o) → Q (.ref (s.heap.objs.size + 1)) { s with heap := h' }) →
      wpAny (model X.prog X.w) X.A (call (.type "enumerate") ps ks) Q X.xe s) :
    wpAny (model X.prog X.w) X.A (call (.type "enumerate") ps ks) (fun x s1 => wpAny (model X.prog X.w) X.A (pyIter x) (PIE X pins σ (.Tuple elts kk tpos) R) X.xe s1) X.xe s := by
  obtain ⟨a, rfl, q⟩ := q
  obtain rfl : u = Value.ref a := ru
  have new : ∀ b, b ∈ [s.heap.objs.size + 1, s.heap.objs.size] → FpOk X pins H b := fun b hb => by
    have le : s.heap.objs.size ≤ b := by
      rcases List.mem_cons.mp hb with rfl | hb
      · omega
      · rw [List.mem_singleton.mp hb]
        exact Nat.le_refl _
    exact I.fpOk le (I.hok.fresh le)
  rcases q with ⟨⟨xs, hx⟩, q⟩ | ⟨⟨xs, hx⟩, q⟩
  · obtain ⟨its, _, pt, _⟩ := I.tuple hx
    have pt : s.heap.IsTuple a its.toArray := pt
    have aS : a < s.heap.objs.size := by
      obtain ⟨_, z, _⟩ := pt
      exact Heap.lt_size z
    refine mk _ _ _ (begins_tuple a its.toArray) pt fun h' e1 e2 e3 kp => wpAny_pyIter_enum e1 ?_
    exact ⟨_, _, _, _, H, rfl, I.kept (t' := s.toks) kp, turnT a (s.heap.objs.size + 1) s.heap.objs.size k, ⟨⟨.none, by rw [show k + ((0 : Nat) : Int) = k from Int.add_zero k]; exact e1⟩, ⟨_, e2, rfl, rfl⟩, Nat.succ_ne_self _, Nat.ne_of_lt aS, Nat.ne_of_lt (Nat.lt_succ_of_lt aS)⟩, new, q⟩
  · obtain ⟨its, _, pt, _⟩ := I.list hx
    have pt : s.heap.IsList a its.toArray := pt.isList
    have aS : a < s.heap.objs.size := by
      obtain ⟨_, z, _⟩ := pt
      exact Heap.lt_size z
    refine mk _ _ _ (begins_list a its.toArray) pt fun h' e1 e2 e3 kp => wpAny_pyIter_enum e1 ?_
    exact ⟨_, _, _, _, H, rfl, I.kept (t' := s.toks) kp, turnL a (s.heap.objs.size + 1) s.heap.objs.size k, ⟨⟨.none, by rw [show k + ((0 : Nat) : Int) = k from Int.add_zero k]; exact e1⟩, ⟨_, e2, rfl, rfl⟩, Nat.succ_ne_self _, Nat.ne_of_lt aS, Nat.ne_of_lt (Nat.lt_succ_of_lt aS)⟩, new, q⟩
theorem pi_en0 {e : Expr} {ta : TA} {p pos tpos : Pos} {elts : List Expr} {kk : Nat} (hg : L2.Gl X "enumerate") (hm : X.mg "enumerate" = none) (ha : PA X [e] ta) (hs : starEach [e] X.env = (false, eval e X.env) :: starEach [] X.env := by rfl) :
    PI X (.Tuple elts kk tpos) (.Call (.Name "enumerate" p) [e] [] pos) (iEn X.K 0 ta) := by
  refine ⟨fun pins s σ H R I h => ?_⟩
  refine Call_ (ld_blt I hg hm boot_enumerate (PyProof.Rows.callWith_type1 (thn (ha.run pos pins s σ H _ I h) fun us s1 z => ?_) hs rfl))
  obtain ⟨vs, H1, I1, r1, a, ev, q1⟩ := z
  subst ev
  obtain ⟨u, rfl, ru⟩ := vals1 r1
  exact come_enum I1 ru ⟨a, rfl, q1⟩ fun o B Q b hb k => one_begins b hb k
end
end En
open PySem PySem.Spec PyProof.Rows L2
section
variable {X : Cx} {G : Gl} {W : WX}
/-- (k, x), (k + 1, y), .. -/
def enD : Int → List D → List D
  | _, [] => []
  | k, x :: l => .tup [.int k, x] :: enD (k + 1) l
theorem enD_get : ∀ (l : List D) (k : Int) (i : Nat), (enD k l)[i]? = (l[i]?).map fun d => .tup [.int (k + (i : Int)), d]
  | [], _, _ => rfl
  | x :: l, k, 0 => by
    show some (D.tup [.int k, x]) = some (.tup [.int (k + ((0 : Nat) : Int)), x])
    rw [show k + ((0 : Nat) : Int) = k from Int.add_zero k]
  | x :: l, k, i + 1 => by
    show (enD (k + 1) l)[i]? = (l[i]?).map _
    rw [enD_get l (k + 1) i, show k + 1 + (i : Int) = k + ((i + 1 : Nat) : Int) by omega]
theorem enD_len : ∀ (l : List D) (k : Int), (enD k l).length = l.length
  | [], _ => rfl
  | x :: l, k => congrArg Nat.succ (enD_len l (k + 1))
theorem iq_rep {S : Hp → List V → Prop} {k : Int} {hd : Addr → Prop} {H : Hp} {xs : List V} {ds : List D} (hS : ∀ hd' H', Ex (hide hd H) (hide hd' H') → S H' xs) (r : Ats G (hide hd H) ds xs) : ItRep G hd (En.Iq S k) (enD k ds) H := fun i nb hd' H1 e g => by
  have h1 : S H1 xs := hS hd' H1 e
  have r1 : Ats G (hide hd' H1) ds xs := r.mono e
  refine ⟨fun hi => ?_, fun hi => ⟨xs, h1, by rw [← r1.length]; rw [enD_len] at hi; exact hi⟩⟩
  rw [enD_len] at hi
  obtain ⟨x, hx, ax⟩ := r1.get' (List.getElem?_eq_getElem hi)
  refine ⟨⟨xs, x, h1, hx⟩, fun y H2 q => ?_⟩
  obtain ⟨T, z, rfl, nT, ⟨o, ho, rfl⟩, q⟩ := q
  have ez : z = x := Option.some.inj ((q xs h1).symm.trans hx)
  subst ez
  refine ⟨Lead.new nT, .tup [.int (k + (i : Int)), ds[i]], by rw [enD_get, List.getElem?_eq_getElem hi]; rfl, .tup (.new (g.seen nT) ho) (.cons .int (.cons (ax.mono (g.old nT)) .nil))⟩
def enR (k : Int) : List D → T (List D)
  | [.tup l] => .ret (enD k l)
  | [.lst l] => .ret (enD k l)
  | _ => .bad
theorem enR_wp {k : Int} {l : List D} {nb : Nat} {Q : List D → Nat → Prop} {E : Nat → List D → Nat → Prop} (h : (enR k l).wp nb Q E) : ∃ m, (l = [.tup m] ∨ l = [.lst m]) ∧ Q (enD k m) nb := by
  unfold enR at h
  split at h
  · exact ⟨_, .inl rfl, h⟩
  · exact ⟨_, .inr rfl, h⟩
  · exact h.elim
theorem ei_enum (hK : G.K = X.K) {e : Expr} {p pos tpos : Pos} {elts : List Expr} {kk : Nat} {fa : Env → T (List D)} (hg : L2.Gl X "enumerate") (hm : X.mg "enumerate" = none) (ha : EA X G W [e] fa) (hs : starEach [e] X.env = (false, eval e X.env) :: starEach [] X.env := by rfl) :
    EI X G W (.Tuple elts kk tpos) (.Call (.Name "enumerate" p) [e] [] pos) (fun ρ => fa ρ >>= enR 0) := by
  refine PI_imp (En.pi_en0 hg hm ha hs) fun σ H R q => ?_
  obtain ⟨nb, ρ, hd, Rp, q⟩ := q
  refine ⟨_, ρ, hd, Rp, T.wp_imp (wp_then q) fun l _ q1 vs H1 e1 h => ?_⟩
  obtain ⟨m, hm, q2⟩ := enR_wp q1
  rcases hm with rfl | rfl
  · cases h with
    | cons h1 h2 =>
      cases h2
      cases h1 with
      | tup h3 h4 => exact ⟨_, rfl, .inl ⟨⟨_, by rw [← hK]; exact hide_sub.sqM h3⟩, q2 _ _ e1 (iq_rep (fun hd' H' x => by rw [← hK]; exact hide_sub.sqT (x.sqT h3.t)) h4)⟩⟩
  · cases h with
    | cons h1 h2 =>
      cases h2
      cases h1 with
      | lst h3 h4 => exact ⟨_, rfl, .inr ⟨⟨_, .inl (.inl (hide_sub _ _ h3))⟩, q2 _ _ e1 (iq_rep (fun hd' H' x => .inl (.inl (hide_sub _ _ (x _ _ h3)))) h4)⟩⟩
end
end Py
set_option Elab.async false
set_option linter.all false
set_option maxRecDepth 100000
set_option maxHeartbeats 4000000
namespace Py
namespace En
open PySem PySem.W PySem.Spec PySem.Calls PyProof.Rows L2
/-! ### a built-in class called with keywords; enumerate(x, start=k) -/
section
variable {X : Cx}
end
end En
open PySem PySem.Spec PyProof.Rows L2
section
variable {X : Cx} {G : Gl} {W : WX}
end
end Py
set_option Elab.async false
set_option linter.all false
set_option maxRecDepth 100000
set_option maxHeartbeats 4000000
namespace Py
open PySem PySem.Spec PyProof.Rows L2
section
variable {X : Cx} {G : Gl} {W : WX}
/-! ### zip of two tuples, of two lists -/
def zipP : List D → List D → List D
  | x :: l, y :: m => .tup [x, y] :: zipP l m
  | _, _ => []
theorem zipP_get : ∀ (l m : List D) (i : Nat) (x y : D), l[i]? = some x → m[i]? = some y → (zipP l m)[i]? = some (.tup [x, y])
  | a :: l, b :: m, 0, x, y, h1, h2 => by
    cases h1
    cases h2
    rfl
  | a :: l, b :: m, i + 1, x, y, h1, h2 => zipP_get l m i x y h1 h2
  | [], _, _, _, _, h1, _ => by simp at h1
  | _ :: _, [], _, _, _, _, h2 => by simp at h2
theorem zipP_len : ∀ l m : List D, (zipP l m).length = min l.length m.length
  | [], _ => by simp [zipP]
  | _ :: _, [] => by simp [zipP]
  | x :: l, y :: m => by
    have := zipP_len l m
    simp only [zipP, List.length_cons]
    omega
def zipR : List D → T (List D)
  | [.tup l, .tup m] => .ret (zipP l m)
  | [.lst l, .lst m] => .ret (zipP l m)
  | _ => .bad
theorem zipR_wp {l : List D} {nb : Nat} {Q : List D → Nat → Prop} {E : Nat → List D → Nat → Prop} (h : (zipR l).wp nb Q E) : ∃ a b, (l = [.tup a, .tup b] ∨ l = [.lst a, .lst b]) ∧ Q (zipP a b) nb := by
  unfold zipR at h
  split at h
  · exact ⟨_, _, .inl rfl, h⟩
  · exact ⟨_, _, .inr rfl, h⟩
  · exact h.elim
end
end Py
set_option Elab.async false
set_option linter.all false
set_option maxRecDepth 100000
set_option maxHeartbeats 4000000
namespace Py
open PySem PySem.Spec PyProof.Rows L2
/-! ### dict comprehensions, keys ints or texts -/
def putF (ks vs : List D) (k : Key) (kd x : D) : List D × List D := if (lookN ks vs (fk k)).isSome then (ks, setN ks vs (fk k) x) else (ks ++ [kd], vs ++ [x])
section
variable {X : Cx} {G : Gl} {W : WX} {hs : Hid}
end
end Py
set_option Elab.async false
set_option linter.all false
set_option maxRecDepth 100000
set_option maxHeartbeats 4000000
/-! itertools.combinations over a list -/
namespace Cm
open PySem PySem.W PySem.Spec PySem.Calls PyProof PyProof.Rows
abbrev T0 : String := "itertools.combinations"
theorem mro_c : mroOf (.type T0) = pure [.type T0, .type "object"] := by rw [mroOf_type]; kernel_rfl
theorem sub_c : isSubtype (.type T0) (.type T0) = pure true := by rw [isSubtype_type]; kernel_rfl
theorem lookup_new : typeLookup (.type T0) "__new__" = pure (some (.builtin "itertools.combinations.__new__")) := by rw [typeLookup_type, builtinLookup_eq_fast]; kernel_rfl
theorem slot_init : Slot T0 "__init__" "object.__init__" :=
  .of (owner := "object") (n := "__init__") (by rw [typeLookup_type, builtinLookup_eq_fast]; kernel_rfl) (by decide +kernel) (by decide +kernel) (by decide +kernel)
    (by first | exact .inl (by decide +kernel) | exact .inr (by decide +kernel)) (by rw [isSubtype_type]; kernel_rfl)
theorem slot_next : Slot T0 "__next__" "itertools.combinations.__next__" :=
  .of (owner := T0) (n := "__next__") (by rw [typeLookup_type, builtinLookup_eq_fast]; kernel_rfl) (by decide +kernel) (by decide +kernel) (by decide +kernel)
    (by first | exact .inl (by decide +kernel) | exact .inr (by decide +kernel)) (by rw [isSubtype_type]; kernel_rfl)
theorem slot_iter : Slot T0 "__iter__" "itertools.combinations.__iter__" :=
  .of (owner := T0) (n := "__iter__") (by rw [typeLookup_type, builtinLookup_eq_fast]; kernel_rfl) (by decide +kernel) (by decide +kernel) (by decide +kernel)
    (by first | exact .inl (by decide +kernel) | exact .inr (by decide +kernel)) (by rw [isSubtype_type]; kernel_rfl)
theorem called : TypeCalled T0 "itertools.combinations.__new__" "object.__init__" :=
  ⟨by decide +kernel, by decide +kernel, ⟨_, _, mro_c⟩, madeBy_type mro_c lookup_new (by decide +kernel), by decide +kernel, sub_c, slot_init⟩
theorem typeCall (a b : Value) : checkTypeCall T0 ⟨[a, b], []⟩ = pure () := by kernel_rfl
theorem newCall (a b : Value) : checkBuiltinCall "itertools.combinations.__new__" ⟨[.type T0, a, b], []⟩ = pure () := by kernel_rfl
theorem entry_new : entryFor table "itertools.combinations.__new__" = some Builtin.«itertools.combinations.__new__» := entryFor_of_tree (by kernel_rfl)
theorem entry_next : entryFor table "itertools.combinations.__next__" = some Builtin.«itertools.combinations.__next__» := entryFor_of_tree (by kernel_rfl)
theorem args_next (a : Value) : argsOk "itertools.combinations.__next__" ⟨[a], []⟩ := by unfold argsOk; kernel_rfl
theorem args_init (a b c : Value) : argsOk "object.__init__" ⟨[a, b, c], []⟩ := by
  unfold argsOk; rw [signature?_of (id := "object.__init__") (n := ['_', '_', 't', 'i', 'n', 'i', '_', '_']) (o := ['t', 'c', 'e', 'j', 'b', 'o']) (by kernel_rfl) F.owner_object]; kernel_rfl
theorem entry_iter : entryFor table "itertools.combinations.__iter__" = some Builtin.«dict_keyiterator.__iter__» :=
  entryFor_alias (id' := "dict_keyiterator.__iter__") (by kernel_rfl) (by first | rfl | decide +kernel | (unfold String.splitOn; simp +decide [String.splitOnAux])) (by decide +kernel) (by kernel_rfl)
theorem args_iter (a : Value) : argsOk "itertools.combinations.__iter__" ⟨[a], []⟩ := by unfold argsOk; kernel_rfl
section
variable {prog : Program} {w : World} {A : Around} {E : Value → Shared → Prop} {s : Shared}
/-- the iterator's object: its pool, whether it began, what it gave last, its places -/
abbrev IsC (h : Heap) (a pa : Addr) (st : Int) (last : Value) (ix : List Nat) : Prop :=
  h.get? a = some { cls := .type T0, data := .fields ([.ref pa, rawInt st, last] ++ ix.map fun (i : Nat) => rawInt i).toArray }
theorem iter_c {a pa : Addr} {st : Int} {last : Value} {ix : List Nat} {Q : Value → Shared → Prop} (h : IsC s.heap a pa st last ix) (hQ : Q (.ref a) s) : wpAny (model prog w) A (pyIter (.ref a)) Q E s := by
  have hT : s.TypeIs (.ref a) T0 := ⟨_, h, rfl⟩
  refine wpAny_pyIter_slot hT slot_iter (wpAny_call_entry slot_iter hT entry_iter ?_ (args_iter _))
  show wpAny _ _ (ret (.ref a)) _ _ s
  exact wpAny_pure ⟨_, rfl, T0, _, hT, slot_next.lookup, hQ⟩
end
theorem bind_named (a b : Value) : Builtin.Itertools.itBindNamed "combinations" ["iterable", "r"] 2 2 [a, b] [] = pure [some a, some b] := by kernel_rfl
theorem ssize (r : Nat) (t : Tok) (hr : r ≤ 1000) : Builtin.Itertools.itSsizeArg (.int r t) = pure (r : Int) := by
  unfold Builtin.Itertools.itSsizeArg
  show (asIndex (.int r t) >>= fun i => if (decide (i < -(2 ^ 63 : Int)) || decide (i ≥ 2 ^ 63)) = true then _ else _) = _
  have e : asIndex (.int r t) = pure (r : Int) := rfl
  rw [e]
  show (if (decide ((r : Int) < -(2 ^ 63 : Int)) || decide ((r : Int) ≥ 2 ^ 63)) = true then _ else _) = _
  rw [if_neg (by simp; omega)]
theorem few (r : Nat) (hr : r ≤ 1000) : Builtin.Itertools.itTooMany (r : Int) = false := by
  unfold Builtin.Itertools.itTooMany
  simp
  omega
theorem no_dict : typeHasDict (.type T0) = false := by kernel_rfl
/-- a list's items, the heap grown -/
theorem items_of {prog : Program} {w : World} {A : Around} {E : Value → Shared → Prop} {s : Shared} {R : List Value → Shared → Prop} (l : Addr) {u : Obj} {its : Array Value} {k : Nat} (hu : s.heap.get? l = some u) (uc : u.cls = .type "list") (ud : u.data = .seq its k) (hz : its.size ≤ sizeLine)
    (hR : ∀ g, s.heap.objs.size ≤ g.objs.size → (∀ b v, s.heap.get? b = some v → g.get? b = some v) → R its.toList { s with heap := g }) : wpAny (model prog w) A (collect (.ref l)) R E s := by
  have n0 : (s.heap.push { cls := .type "list", data := .seq #[] 0 }).get? s.heap.objs.size = some { cls := .type "list", data := .seq #[] 0 } := Heap.get?_push_size _ rfl
  have n1 := Heap.get?_update_self (Obj.mapSeq (· ++ its)) n0 rfl
  have big : s.heap.objs.size ≤ ((s.heap.push { cls := .type "list", data := .seq #[] 0 }).update s.heap.objs.size (Obj.mapSeq (· ++ its))).objs.size := by
    rw [(Heap.SameBut.update (s.heap.push { cls := .type "list", data := .seq #[] 0 }) s.heap.objs.size (Obj.mapSeq (· ++ its))).1, Heap.size_push]
    omega
  have old : ∀ b v, s.heap.get? b = some v → ((s.heap.push { cls := .type "list", data := .seq #[] 0 }).update s.heap.objs.size (Obj.mapSeq (· ++ its))).get? b = some v := fun b v e =>
    (Heap.get?_update_other _ _ (Nat.ne_of_gt (Heap.lt_size e))).trans (Heap.get?_push_of_some _ e)
  generalize hg : (s.heap.push { cls := .type "list", data := .seq #[] 0 }).update s.heap.objs.size (Obj.mapSeq (· ++ its)) = g at big old n1
  have fin : wpAny (model prog w) A (load s.heap.objs.size >>= fun o => match o.data with
      | .seq xs _ => pure xs.toList
      | _ => unsupported "internal:collect") R E { s with heap := g } := by
    refine wpAny_bind (wpAny_load n1 (wpAny_pure ?_))
    have e : (#[] ++ its).toList = its.toList := by simp
    show R (#[] ++ its).toList _
    rw [e]
    exact hR g big old
  unfold collect
  refine wpAny_bind (wpAny_runValue (codeAny_builtin PySem.F.entry_proto_collect ?_))
  rw [Around.under_plainId PySem.F.plain_proto_collect _]
  refine wpAny_bind (m := newList []) (wpAny_newObj_type ?_ (by size_fits))
  refine wpAny_pure ⟨plainId_quiet PySem.F.plain_list_iadd _, codeAny_builtin PySem.F.entry_list_iadd ?_⟩
  rw [Around.under_plainId PySem.F.plain_list_iadd _]
  show wpAny _ A.in1 (Builtin.List.listExtendWith (.ref s.heap.objs.size) (.ref l) (.ref s.heap.objs.size)) _ _ _
  have ext := wpAny_extend_seq (hsz := hz) (prog := prog) (w := w) (A := A) (R := fun r s2 => r = .ok (.ret (.ref s.heap.objs.size)) ∧ s2 = { s with heap := g }) (s := { s with heap := s.heap.push { cls := .type "list", data := .seq #[] 0 } }) s.heap.objs.size l (.ref s.heap.objs.size) 0 (.inl rfl) n0 (Heap.get?_push_of_some _ hu) uc ud ⟨rfl, by rw [← hg]⟩
  refine wpAny_mono ext (fun f s2 z => ?_) fun e s2 z => absurd z.1 (by simp)
  cases f with
  | done f =>
    obtain ⟨e, rfl⟩ := z
    cases e
    exact fin
  | again c =>
    refine ⟨z.1, codeAny_mono z.2 fun r s3 y => ?_⟩
    obtain ⟨rfl, rfl⟩ := y
    exact fin
theorem meets_new (l : Addr) (o : Obj) (items : Array Value) (k : Nat) (r : Nat) (t : Tok) (hr : r ≤ 1000) (hc : o.cls = .type "list") (hd : o.data = .seq items k) (hsz : items.size ≤ sizeLine) :
    Meets (Builtin.«itertools.combinations.__new__» ⟨[.type T0, .ref l, .int r t], []⟩) (fun _ R s => s.heap.get? l = some o ∧ ∀ h' : Heap, s.heap.objs.size ≤ h'.objs.size → (∀ b o', s.heap.get? b = some o' → h'.get? b = some o') →
      R (.ok (.ret (.ref (h'.objs.size + 1)))) { s with heap := (h'.push { cls := .type "tuple", data := .seq items }).push { cls := .type T0, data := .fields ([.ref h'.objs.size, rawInt (if r > items.size then 2 else 0), .none] ++ (List.range r).map fun (i : Nat) => rawInt i).toArray } }) :=
  .of_wp fun prog w A R s h => by
    obtain ⟨hp, g, d, tk, os⟩ := s; obtain ⟨ht, h⟩ := h
    have hsub := sub_c
    wp_walk using wpAny_collect_seq (hsz := hsz) l (.inl rfl) ht hc hd
    · show wpAny _ _ (isSubtype (.type T0) (.type T0)) _ _ _
      rw [hsub]
      refine wpAny_pure ?_
      show wpAny _ _ (pure (Value.type T0, [Value.ref l, Value.int r t])) _ _ _
      refine wpAny_pure ?_
      show wpAny _ _ (Builtin.Itertools.itBindNamed "combinations" ["iterable", "r"] 2 2 [Value.ref l, Value.int r t] [] >>= _) _ _ _
      rw [bind_named]
      show wpAny _ _ (Builtin.Itertools.itSsizeArg (Value.int r t) >>= _) _ _ _
      rw [ssize r t hr]
      show wpAny _ _ (collect (.ref l) >>= _) _ _ _
      refine wpAny_bind (items_of l ht hc hd hsz fun h' le kp => ?_)
      have n0 : ¬ ((r : Int) < 0) := by omega
      have n1 : ¬ (Builtin.Itertools.itTooMany (r : Int) = true) := by rw [few r hr]; exact Bool.false_ne_true
      simp only [if_neg n0, if_neg n1]
      refine wpAny_bind (wpAny_newTuple ?_ (by simpa using hsz))
      refine wpAny_pure ?_
      show wpAny _ _ (Builtin.Itertools.itNewRecord (.type T0) _ >>= _) _ _ _
      unfold Builtin.Itertools.itNewRecord
      rw [no_dict, if_pos (show (!false) = true from rfl)]
      refine wpAny_bind (wpAny_newObj_type ?_ ?_)
      · have e1 : items.toList.toArray = items := by simp
        have e2 : items.toList.length = items.size := by simp
        have e3 : (r : Int).toNat = r := Int.toNat_natCast r
        refine wpAny_pure ⟨_, rfl, ?_⟩
        have z := h h' le kp
        simp only [e1, e2, e3, Heap.size_push]
        exact z
      · show _ ≤ _
        simp only [List.size_toArray, List.length_append, List.length_cons, List.length_nil, List.length_map, List.length_range, Int.toNat_natCast]
        rw [sizeLine_eq]
        omega
/-- the places behind some places of n -/
def stepC (n : Nat) (ix : List Nat) : Option (List Nat) :=
  match (List.range ix.length).reverse.find? (fun i => ix.getD i 0 != i + n - ix.length) with
  | none => none
  | some i => some (ix.take i ++ (List.range (ix.length - i)).map fun j => ix.getD i 0 + 1 + j)
section
variable {prog : Program} {w : World} {A : Around} {E : Value → Shared → Prop} {s : Shared}
theorem numbers {a pa : Addr} {st : Int} {last : Value} {ix : List Nat} {Q : List Nat → Shared → Prop} (h : IsC s.heap a pa st last ix) (hQ : Q ix s) : wpAny (model prog w) A (Builtin.Itertools.itNumbersFrom (.ref a) 3) Q E s := by
  unfold Builtin.Itertools.itNumbersFrom
  refine wpAny_bind (wpAny_load h ?_)
  refine wpAny_pure ?_
  have e : ((([Value.ref pa, rawInt st, last] ++ ix.map fun (i : Nat) => rawInt i).toArray.toList.drop 3).map fun v => match v with | .int n _ => n.toNat | _ => 0) = ix := by
    simp only [List.cons_append, List.nil_append, List.drop_succ_cons, List.drop_zero, List.map_map]
    conv => rhs; rw [← List.map_id ix]
    exact List.map_congr_left fun i _ => Int.toNat_natCast i
  exact (congrArg (fun z => Q z s) e).mpr hQ
/-- what is given: the items of the pool at some places -/
abbrev itemsO (items : Array Value) (ix : List Nat) : Obj := { cls := .type "tuple", data := .seq (ix.map fun i => items.getD i .none).toArray }
theorem hand {m : Sem PySem.Fin} {a pa : Addr} {st : Int} {last : Value} {ix : List Nat} {items : Array Value} {k : Nat} {Q : PySem.Fin → Shared → Prop} (h : IsC s.heap a pa st last ix) (hp : s.heap.get? pa = some { cls := .type "tuple", data := .seq items k }) (hl : ix.length ≤ 1000)
    (hm : m = (Builtin.Itertools.itPoolItems (.ref pa) >>= fun xs => newTuple (ix.map fun i => xs.getD i .none)) >>= fun result => field (.ref a) 2 >>= fun before => setField (.ref a) 2 result >>= fun _ => letGo [before] [result] >>= fun _ => ret result)
    (hQ : ∀ h', IsC h' a pa st (.ref s.heap.objs.size) ix → h'.get? s.heap.objs.size = some (itemsO items ix) → h'.objs.size = s.heap.objs.size + 1 → (∀ b o, b ≠ a → s.heap.get? b = some o → h'.get? b = some o) → Q (.done (.ret (.ref s.heap.objs.size))) { s with heap := h' }) :
    wpAny (model prog w) A m Q E s := by
  subst hm
  have la : a < s.heap.objs.size := Heap.lt_size h
  refine wpAny_bind (wpAny_bind ?_)
  unfold Builtin.Itertools.itPoolItems
  refine wpAny_bind (wpAny_seqItems hp rfl ?_)
  refine wpAny_pure (wpAny_newTuple ?_ (by rw [List.length_map, sizeLine_eq]; omega))
  have h1 : IsC (s.heap.push (itemsO items ix)) a pa st last ix := Heap.get?_push_of_some _ h
  refine wpAny_bind (wpAny_field h1 rfl (x := last) (by simp) ?_)
  refine wpAny_bind (wpAny_setField_rec h1 (by simp) fun h2 e2 sb => ?_)
  refine wpAny_bind (wpAny_letGo ?_)
  refine wpAny_pure ?_
  have sb : Heap.SameBut a (s.heap.push (itemsO items ix)) h2 := sb
  refine hQ h2 ?_ ?_ ?_ fun b o nb e => ?_
  · show h2.get? a = _
    rw [e2]
    simp
  · exact (sb.2 _ (Nat.ne_of_gt la)).trans (Heap.get?_push_size _ rfl)
  · rw [sb.1, Heap.size_push]
  · exact (sb.2 b nb).trans (Heap.get?_push_of_some _ e)
theorem next_0 {a pa : Addr} {last : Value} {ix : List Nat} {items : Array Value} {k : Nat} {Q : Option Value → Shared → Prop} (h : IsC s.heap a pa 0 last ix) (hp : s.heap.get? pa = some { cls := .type "tuple", data := .seq items k }) (ne : pa ≠ a) (hl : ix.length ≤ 1000)
    (hQ : ∀ h', IsC h' a pa 1 (.ref s.heap.objs.size) ix → h'.get? s.heap.objs.size = some (itemsO items ix) → h'.objs.size = s.heap.objs.size + 1 → (∀ b o, b ≠ a → s.heap.get? b = some o → h'.get? b = some o) → Q (some (.ref s.heap.objs.size)) { s with heap := h' }) :
    wpAny (model prog w) A (pyNext (.ref a)) Q E s := by
  have hT : s.TypeIs (.ref a) T0 := ⟨_, h, rfl⟩
  unfold pyNext
  refine wpAny_bind (wpAny_attempt (wpAny_callSpecial?_slot (name := Str.ofString "__next__") hT slot_next (wpAny_call_entry slot_next hT entry_next ?_ (args_next _))))
  show wpAny _ _ (field (.ref a) 0 >>= _) _ _ s
  refine wpAny_bind (wpAny_field h rfl (x := .ref pa) (by simp) ?_)
  show wpAny _ _ (Builtin.Itertools.itNumbersFrom (.ref a) 3 >>= _) _ _ s
  refine wpAny_bind (numbers h ?_)
  show wpAny _ _ (Builtin.Itertools.itIntField (.ref a) 1 >>= _) _ _ s
  refine wpAny_bind ?_
  unfold Builtin.Itertools.itIntField
  refine wpAny_bind (wpAny_field h rfl (x := rawInt 0) (by simp) ?_)
  refine wpAny_pure ?_
  show wpAny _ _ (setField (.ref a) 1 (rawInt 1) >>= _) _ _ s
  refine wpAny_bind (wpAny_setField_rec h (by simp) fun h1 e1 sb => ?_)
  have sb : Heap.SameBut a s.heap h1 := sb
  have i1 : IsC h1 a pa 1 last ix := by
    show h1.get? a = _
    rw [e1]
    simp
  have hp1 : h1.get? pa = some { cls := .type "tuple", data := .seq items k } := (sb.2 pa ne).trans hp
  refine hand (s := { s with heap := h1 }) i1 hp1 hl rfl fun h2 e2 e3 e4 kp => ⟨_, rfl, wpAny_pure ?_⟩
  have sz : h1.objs.size = s.heap.objs.size := sb.1
  rw [show ({ s with heap := h1 } : Shared).heap.objs.size = s.heap.objs.size from sz] at e2 e3 e4 ⊢
  exact hQ h2 e2 e3 e4 fun b o nb e => kp b o nb ((sb.2 b nb).trans e)
theorem next_1 {a pa : Addr} {last : Value} {ix ix' : List Nat} {items : Array Value} {k : Nat} {Q : Option Value → Shared → Prop} (h : IsC s.heap a pa 1 last ix) (hp : s.heap.get? pa = some { cls := .type "tuple", data := .seq items k }) (ne : pa ≠ a) (hs : stepC items.size ix = some ix') (hl : ix'.length ≤ 1000)
    (hQ : ∀ h', IsC h' a pa 1 (.ref s.heap.objs.size) ix' → h'.get? s.heap.objs.size = some (itemsO items ix') → h'.objs.size = s.heap.objs.size + 1 → (∀ b o, b ≠ a → s.heap.get? b = some o → h'.get? b = some o) → Q (some (.ref s.heap.objs.size)) { s with heap := h' }) :
    wpAny (model prog w) A (pyNext (.ref a)) Q E s := by
  have hT : s.TypeIs (.ref a) T0 := ⟨_, h, rfl⟩
  unfold pyNext
  refine wpAny_bind (wpAny_attempt (wpAny_callSpecial?_slot (name := Str.ofString "__next__") hT slot_next (wpAny_call_entry slot_next hT entry_next ?_ (args_next _))))
  show wpAny _ _ (field (.ref a) 0 >>= _) _ _ s
  refine wpAny_bind (wpAny_field h rfl (x := .ref pa) (by simp) ?_)
  show wpAny _ _ (Builtin.Itertools.itNumbersFrom (.ref a) 3 >>= _) _ _ s
  refine wpAny_bind (numbers h ?_)
  show wpAny _ _ (Builtin.Itertools.itIntField (.ref a) 1 >>= _) _ _ s
  refine wpAny_bind ?_
  unfold Builtin.Itertools.itIntField
  refine wpAny_bind (wpAny_field h rfl (x := rawInt 1) (by simp) ?_)
  refine wpAny_pure ?_
  show wpAny _ _ (Builtin.Itertools.itPoolItems (.ref pa) >>= _) _ _ s
  refine wpAny_bind ?_
  unfold Builtin.Itertools.itPoolItems
  refine wpAny_bind (wpAny_seqItems hp rfl ?_)
  refine wpAny_pure ?_
  show wpAny _ _ (match stepC items.size ix with | some nx => _ | none => _) _ _ s
  rw [hs]
  show wpAny _ _ (Builtin.Itertools.itSetNumbersFrom (.ref a) 3 ix' >>= _) _ _ s
  refine wpAny_bind ?_
  unfold Builtin.Itertools.itSetNumbersFrom
  refine wpAny_updateFields h rfl ?_ ?_
  · have sb : Heap.SameBut a s.heap (s.heap.update a (Obj.mapFields fun fs => fs.extract 0 3 ++ (ix'.map fun (n : Nat) => rawInt n).toArray)) := Heap.SameBut.update ..
    have e1 := Heap.get?_update_self (Obj.mapFields fun fs => fs.extract 0 3 ++ (ix'.map fun (n : Nat) => rawInt n).toArray) h rfl
    generalize s.heap.update a (Obj.mapFields fun fs => fs.extract 0 3 ++ (ix'.map fun (n : Nat) => rawInt n).toArray) = h1 at sb e1
    have i1 : IsC h1 a pa 1 last ix' := by
      show h1.get? a = _
      rw [e1]
      simp [Obj.mapFields]
    have hp1 : h1.get? pa = some { cls := .type "tuple", data := .seq items k } := (sb.2 pa ne).trans hp
    refine hand (s := { s with heap := h1 }) i1 hp1 hl rfl fun h2 e2 e3 e4 kp => ⟨_, rfl, wpAny_pure ?_⟩
    have sz : h1.objs.size = s.heap.objs.size := sb.1
    rw [show ({ s with heap := h1 } : Shared).heap.objs.size = s.heap.objs.size from sz] at e2 e3 e4 ⊢
    exact hQ h2 e2 e3 e4 fun b o nb e => kp b o nb ((sb.2 b nb).trans e)
  · simp
    rw [sizeLine_eq]
    omega
theorem stop_c {Q : Option Value → Shared → Prop} {h1 : Heap} (hh : A.handled = none) (hQ : ∀ h', (∀ b o, h1.get? b = some o → h'.get? b = some o) → Q none { s with heap := h' }) :
    wpAny (model prog w) A.in1 (Builtin.Itertools.itStop : Sem PySem.Fin) (fun fin s' => ∃ v, fin = Fin.done (Flow.ret v) ∧ wpAny (model prog w) A (match (Except.ok (some v) : Except Value (Option Value)) with
            | Except.ok (some v) => pure (some v)
            | Except.ok none => unsupported "iter:the-iterator's-class-has-lost-its-__next__-amid-the-walk"
            | Except.error e => do
              let __do_lift ← isInstance e (Value.type "StopIteration")
              if __do_lift = true then pure none else throw e)
            Q E s')
    (fun e s' =>
      wpAny (model prog w) A
        (match (Except.error e : Except Value (Option Value)) with
        | Except.ok (some v) => pure (some v)
        | Except.ok none => unsupported "iter:the-iterator's-class-has-lost-its-__next__-amid-the-walk"
        | Except.error e => do
          let __do_lift ← isInstance e (Value.type "StopIteration")
          if __do_lift = true then pure none else throw e)
        Q E s') { s with heap := h1 } := by
  unfold Builtin.Itertools.itStop
  refine wpAny_bind ?_
  simp only [newExc, newTuple]
  refine wpAny_bind (wpAny_newObj_type ?_ (by size_fits))
  refine wpAny_bind (m := firstArgMember _ _) (wpAny_of_eq (a := Value.none) (by first | rfl | (simp only [firstArgMember]; rfl)) ?_)
  refine wpAny_newObj_type ?_ (by size_fits)
  simp only [raiseNew]
  refine wpAny_bind (wpAny_handled ?_)
  first | rw [show A.in1.handled = none from hh] | rw [hh]
  refine wpAny_bind (wpAny_pure (wpAny_throw ?_))
  refine wpAny_bind (wpAny_isInstance (T := "StopIteration") (b := true) ⟨_, Heap.get?_push_size _ rfl, rfl⟩ isSubtype_stop ?_)
  exact wpAny_pure (hQ _ fun b o e => Heap.get?_push_of_some _ (Heap.get?_push_of_some _ e))
theorem end_1 {a pa : Addr} {last : Value} {ix : List Nat} {items : Array Value} {k : Nat} {Q : Option Value → Shared → Prop} (hh : A.handled = none) (h : IsC s.heap a pa 1 last ix) (hp : s.heap.get? pa = some { cls := .type "tuple", data := .seq items k }) (hs : stepC items.size ix = none)
    (hQ : ∀ h', (∀ b o, b ≠ a → s.heap.get? b = some o → h'.get? b = some o) → Q none { s with heap := h' }) : wpAny (model prog w) A (pyNext (.ref a)) Q E s := by
  have hT : s.TypeIs (.ref a) T0 := ⟨_, h, rfl⟩
  unfold pyNext
  refine wpAny_bind (wpAny_attempt (wpAny_callSpecial?_slot (name := Str.ofString "__next__") hT slot_next (wpAny_call_entry slot_next hT entry_next ?_ (args_next _))))
  show wpAny _ _ (field (.ref a) 0 >>= _) _ _ s
  refine wpAny_bind (wpAny_field h rfl (x := .ref pa) (by simp) ?_)
  show wpAny _ _ (Builtin.Itertools.itNumbersFrom (.ref a) 3 >>= _) _ _ s
  refine wpAny_bind (numbers h ?_)
  show wpAny _ _ (Builtin.Itertools.itIntField (.ref a) 1 >>= _) _ _ s
  refine wpAny_bind ?_
  unfold Builtin.Itertools.itIntField
  refine wpAny_bind (wpAny_field h rfl (x := rawInt 1) (by simp) ?_)
  refine wpAny_pure ?_
  show wpAny _ _ (Builtin.Itertools.itPoolItems (.ref pa) >>= _) _ _ s
  refine wpAny_bind ?_
  unfold Builtin.Itertools.itPoolItems
  refine wpAny_bind (wpAny_seqItems hp rfl ?_)
  refine wpAny_pure ?_
  show wpAny _ _ (match stepC items.size ix with | some nx => _ | none => _) _ _ s
  rw [hs]
  show wpAny _ _ (setField (.ref a) 1 (rawInt 2) >>= _) _ _ s
  refine wpAny_bind (wpAny_setField_rec h (by simp) fun h1 e1 sb => ?_)
  have sb : Heap.SameBut a s.heap h1 := sb
  exact stop_c hh fun h' kp => hQ h' fun b o nb e => kp b o ((sb.2 b nb).trans e)
theorem end_2 {a pa : Addr} {last : Value} {ix : List Nat} {Q : Option Value → Shared → Prop} (hh : A.handled = none) (h : IsC s.heap a pa 2 last ix)
    (hQ : ∀ h', (∀ b o, b ≠ a → s.heap.get? b = some o → h'.get? b = some o) → Q none { s with heap := h' }) : wpAny (model prog w) A (pyNext (.ref a)) Q E s := by
  have hT : s.TypeIs (.ref a) T0 := ⟨_, h, rfl⟩
  unfold pyNext
  refine wpAny_bind (wpAny_attempt (wpAny_callSpecial?_slot (name := Str.ofString "__next__") hT slot_next (wpAny_call_entry slot_next hT entry_next ?_ (args_next _))))
  show wpAny _ _ (field (.ref a) 0 >>= _) _ _ s
  refine wpAny_bind (wpAny_field h rfl (x := .ref pa) (by simp) ?_)
  show wpAny _ _ (Builtin.Itertools.itNumbersFrom (.ref a) 3 >>= _) _ _ s
  refine wpAny_bind (numbers h ?_)
  show wpAny _ _ (Builtin.Itertools.itIntField (.ref a) 1 >>= _) _ _ s
  refine wpAny_bind ?_
  unfold Builtin.Itertools.itIntField
  refine wpAny_bind (wpAny_field h rfl (x := rawInt 2) (by simp) ?_)
  refine wpAny_pure ?_
  show wpAny _ _ (rule "itertools.combinations.ended" >>= _) _ _ s
  refine wpAny_bind (wpAny_rule ?_)
  exact stop_c (h1 := s.heap) hh fun h' kp => hQ h' fun b o _ e => kp b o e
/-- combinations(l, r) -/
theorem begins {l : Addr} {o : Obj} {items : Array Value} {k r : Nat} {t : Tok} {Q : Value → Shared → Prop} (ho : s.heap.get? l = some o) (hc : o.cls = .type "list") (hd : o.data = .seq items k) (hr : r ≤ 1000) (hz : items.size ≤ sizeLine)
    (hQ : ∀ h' a pa, IsC h' a pa (if r > items.size then 2 else 0) .none (List.range r) → h'.get? pa = some { cls := .type "tuple", data := .seq items } → pa ≠ a → s.heap.objs.size ≤ a → s.heap.objs.size ≤ pa → (∀ b o, s.heap.get? b = some o → h'.get? b = some o) → Q (.ref a) { s with heap := h' }) :
    wpAny (model prog w) A (call (.type T0) [.ref l, .int r t]) Q E s := by
  refine callType_new called (by decide) (typeCall _ _) (newCall _ _) (fun obj => args_init obj _ _) entry_new (meets_new l o items k r t hr hc hd hz) ⟨ho, fun h' le kp => ?_⟩
  generalize hc0 : (if r > items.size then (2 : Int) else 0) = st at hQ ⊢
  have at2 := Heap.get?_push_size (h'.push { cls := .type "tuple", data := .seq items }) (o := { cls := .type T0, data := .fields ([.ref h'.objs.size, rawInt st, .none] ++ (List.range r).map fun (i : Nat) => rawInt i).toArray }) rfl
  have z2 : (h'.push { cls := .type "tuple", data := .seq items }).objs.size = h'.objs.size + 1 := Heap.size_push ..
  rw [z2] at at2
  show _ ∧ _
  refine ⟨⟨_, at2, rfl⟩, hQ _ _ _ at2 (Heap.get?_push_of_some _ (Heap.get?_push_size _ rfl)) (Nat.ne_of_lt (Nat.lt_succ_self _)) (Nat.le_succ_of_le le) le fun b o e => Heap.get?_push_of_some _ (Heap.get?_push_of_some _ (kp b o e))⟩
end
/-- lists of r places, rising, of n from m on -/
def cmbFrom : Nat → Nat → Nat → List (List Nat)
  | _, _, 0 => [[]]
  | _, 0, _ + 1 => []
  | m, n + 1, r + 1 => ((cmbFrom (m + 1) n r).map (m :: ·)) ++ cmbFrom (m + 1) n (r + 1)
def cmb (n r : Nat) : List (List Nat) := cmbFrom 0 n r
def chainOk (n r : Nat) : Bool := (if r > n then (cmb n r).isEmpty else (cmb n r)[0]? == some (List.range r)) && (List.range (cmb n r).length).all fun i => stepC n ((cmb n r).getD i []) == (cmb n r)[i + 1]?
theorem chain_all : (List.range 7).all (fun n => (List.range 8).all fun r => chainOk n r) = true := by decide +kernel
end Cm
set_option Elab.async false
set_option linter.all false
set_option maxRecDepth 100000
set_option maxHeartbeats 4000000
namespace Cm
open PySem PySem.W PySem.Spec PySem.Calls PyProof.Rows L2
theorem chain_of {n r : Nat} (hn : n ≤ 6) (hr : r ≤ 7) : chainOk n r = true := by
  have z := List.all_eq_true.mp (List.all_eq_true.mp chain_all n (List.mem_range.mpr (by omega))) r (List.mem_range.mpr (by omega))
  exact z
theorem chain_first {n r : Nat} (hn : n ≤ 6) (hr : r ≤ 7) : (n < r ∧ cmb n r = []) ∨ (r ≤ n ∧ (cmb n r)[0]? = some (List.range r)) := by
  have z := (Bool.and_eq_true_iff.mp (chain_of hn hr)).1
  by_cases q : r > n
  · rw [if_pos q] at z
    exact .inl ⟨q, List.isEmpty_iff.mp z⟩
  · rw [if_neg q] at z
    exact .inr ⟨by omega, by simpa using z⟩
theorem chain_step {n r i : Nat} {ix : List Nat} (hn : n ≤ 6) (hr : r ≤ 7) (h : (cmb n r)[i]? = some ix) : stepC n ix = (cmb n r)[i + 1]? := by
  have z := (Bool.and_eq_true_iff.mp (chain_of hn hr)).2
  have hi : i < (cmb n r).length := (List.getElem?_eq_some_iff.mp h).1
  have y := List.all_eq_true.mp z i (List.mem_range.mpr hi)
  have e : (cmb n r).getD i [] = ix := by rw [List.getD_eq_getElem?_getD, h]; rfl
  rw [e] at y
  simpa using y
theorem cmbFrom_len : ∀ (m n r : Nat) (ix : List Nat), ix ∈ cmbFrom m n r → ix.length = r
  | _, n, 0, ix, h => by
    cases n <;> (rw [cmbFrom, List.mem_singleton] at h; rw [h]; rfl)
  | _, 0, _ + 1, ix, h => by
    rw [cmbFrom] at h
    cases h
  | m, n + 1, r + 1, ix, h => by
    rw [cmbFrom, List.mem_append] at h
    rcases h with h | h
    · obtain ⟨jx, h1, rfl⟩ := List.mem_map.mp h
      rw [List.length_cons, cmbFrom_len _ _ _ _ h1]
    · exact cmbFrom_len _ _ _ _ h
theorem cmb_len {n r i : Nat} {ix : List Nat} (h : (cmb n r)[i]? = some ix) : ix.length = r := cmbFrom_len _ _ _ _ (List.mem_of_getElem? h)
/-- the items at some places -/
def atV (xs : List V) (ix : List Nat) : List V := ix.map fun i => xs.getD i .non
def Ic (xs : List V) (r : Nat) : It :=
  ⟨fun i _ => i < (cmb xs.length r).length, fun i H v H' => ∃ T ix, v = .ref T ∧ H T = none ∧ (∃ o, o.dict = none ∧ H' = upd H T (.frz o (.tup (atV xs ix)))) ∧ (cmb xs.length r)[i]? = some ix, fun i _ => (cmb xs.length r).length ≤ i⟩
theorem vals_at {xs : List V} {its : List Value} (r : Vals xs its) (i : Nat) : RelV (xs.getD i .non) (its.getD i .none) := by
  induction r generalizing i with
  | nil => exact rfl
  | cons h r ih =>
    cases i with
    | zero => exact h
    | succ i => exact ih i
theorem vals_ix {xs : List V} {its : List Value} (r : Vals xs its) : ∀ ix : List Nat, Vals (atV xs ix) (ix.map fun i => its.getD i .none)
  | [] => .nil
  | i :: ix => .cons (vals_at r i) (vals_ix r ix)
/-- the iterator's object and its pool at turn i -/
def Tn (a pa : Addr) (its : Array Value) (n r : Nat) (i : Nat) (h : Heap) : Prop := pa ≠ a ∧ h.get? pa = some { cls := .type "tuple", data := .seq its } ∧ ∃ st last ix, IsC h a pa st last ix ∧
  ((i = 0 ∧ ((n < r ∧ st = 2) ∨ (r ≤ n ∧ st = 0 ∧ ix = List.range r))) ∨ (0 < i ∧ st = 1 ∧ (cmb n r)[i - 1]? = some ix))
theorem turnC {P : Program} {w : World} {K : PySem.W.Frag} {tg : Expr} (a pa : Addr) {xs : List V} {its : Array Value} {r : Nat} (rv : Vals xs its.toList) (hn : xs.length ≤ 6) (hr : r ≤ 7) : Turn P w K tg (Ic xs r) [a, pa] a (Tn a pa its xs.length r) where
  mem := List.mem_cons_self ..
  obj := fun i h t b hb => by
    obtain ⟨_, hp, st, last, ix, hc, _⟩ := t
    rcases List.mem_cons.mp hb with rfl | hb
    · exact ⟨_, hc, fun v z => nomatch z⟩
    · rw [List.mem_singleton.mp hb]
      exact ⟨_, hp, fun v z => nomatch z⟩
  keep := fun i h h' t kp => by
    obtain ⟨ne, hp, st, last, ix, hc, e⟩ := t
    exact ⟨ne, kp pa (by simp) _ hp, st, last, ix, kp a (by simp) _ hc, e⟩
  item := by
    intro X hP hw hK hc i pins s σ H E I hf t hg
    subst hP hw hK
    obtain ⟨ne, hp, st, last, ix, h, e⟩ := t
    have hlt : i < (cmb xs.length r).length := hg
    have len : its.size = xs.length := by
      have := rv.length
      simpa using this.symm
    have fin : ∀ (jx : List Nat) (h' : Heap), (cmb xs.length r)[i]? = some jx → IsC h' a pa 1 (.ref s.heap.objs.size) jx → h'.get? s.heap.objs.size = some (itemsO its jx) → h'.objs.size = s.heap.objs.size + 1 → (∀ b o, b ≠ a → s.heap.get? b = some o → h'.get? b = some o) →
        ∃ u, some (Value.ref s.heap.objs.size) = some u ∧ wpAny (model X.prog X.w) X.A (letOwnedTupleGo tg (.ref a) u) (fun _ s2 => ∃ x H', Inv X pins σ H' s2 ∧ RelV x u ∧ (Ic xs r).yld i H x H' ∧ Tn a pa its xs.length r (i + 1) s2.heap ∧ ∀ b ∈ [a, pa], H' b = none) E { s with heap := h' } := fun jx h' hj hc' ht hz kp => by
      have hl := cmb_len hj
      have nw : ObjOk X.prog X.w (upd H s.heap.objs.size (.frz (itemsO its jx) (.tup (atV xs jx)))) h' s.heap.objs.size (.frz (itemsO its jx) (.tup (atV xs jx))) := by
        refine ⟨ht, ?_, jx.map fun j => its.toList.getD j .none, vals_ix rv jx, ⟨_, ht, rfl, 0, ?_⟩⟩
        · show (atV xs jx).length ≤ sizeLine
          unfold atV
          rw [List.length_map, hl, sizeLine_eq]
          omega
        · show Data.seq _ 0 = Data.seq _ 0
          congr 2
          refine List.map_congr_left fun j _ => ?_
          simp [Array.getD_eq_getD_getElem?, List.getD_eq_getElem?_getD]
      have I2 := I.turnedNew (t' := s.toks) (ch := [a]) (fun b o hb z => kp b o (fun y => hb (by simp [y])) z) (fun b hb => hf b (by rw [List.mem_singleton.mp hb]; simp)) (Nat.le_refl _) nw
      have aS : a < s.heap.objs.size := Heap.lt_size h
      have pS : pa < s.heap.objs.size := Heap.lt_size hp
      refine ⟨_, rfl, L2.go_of hc' rfl rfl (by decide) ⟨.ref s.heap.objs.size, _, I2, rfl, ⟨_, jx, rfl, I.hok.fresh (Nat.le_refl _), ⟨_, rfl, rfl⟩, hj⟩, ⟨ne, kp pa _ ne hp, 1, _, jx, hc', .inr ⟨Nat.succ_pos i, rfl, hj⟩⟩, fun b hb => ?_⟩⟩
      have bS : b < s.heap.objs.size := by
        rcases List.mem_cons.mp hb with rfl | hb
        · exact aS
        · rw [List.mem_singleton.mp hb]
          exact pS
      rw [upd_ne (Nat.ne_of_lt bS)]
      exact (hf b hb).1
    rcases e with ⟨rfl, ⟨q, _⟩ | ⟨q, rfl, rfl⟩⟩ | ⟨q, rfl, hx⟩
    · rcases chain_first hn hr with ⟨_, z⟩ | ⟨z, _⟩
      · rw [z] at hlt
        exact absurd hlt (Nat.not_lt_zero _)
      · omega
    · have e0 : (cmb xs.length r)[0]? = some (List.range r) := by
        rcases chain_first hn hr with ⟨z, _⟩ | ⟨_, z⟩
        · omega
        · exact z
      exact next_0 h hp ne (by rw [List.length_range]; omega) fun h' a1 a2 a3 a4 => fin _ h' e0 a1 a2 a3 a4
    · obtain ⟨j, rfl⟩ : ∃ j, i = j + 1 := ⟨i - 1, by omega⟩
      have hx : (cmb xs.length r)[j]? = some ix := hx
      have hj : (cmb xs.length r)[j + 1]? = some ((cmb xs.length r)[j + 1]) := List.getElem?_eq_getElem hlt
      have hs := chain_step hn hr hx
      have hs : stepC its.size ix = some ((cmb xs.length r)[j + 1]) := by
        rw [len, hs, hj]
      exact next_1 h hp ne hs (by rw [cmb_len hj]; omega) fun h' a1 a2 a3 a4 => fin _ h' hj a1 a2 a3 a4
  done := by
    intro X hP hw hK hc i pins s σ H E I hf t hg
    subst hP hw hK
    obtain ⟨ne, hp, st, last, ix, h, e⟩ := t
    have hlt : (cmb xs.length r).length ≤ i := hg
    have len : its.size = xs.length := by
      have := rv.length
      simpa using this.symm
    have hd : X.A.handled = none := I.ok.hd hc
    have fin : ∀ h', (∀ b o, b ≠ a → s.heap.get? b = some o → h'.get? b = some o) → (none : Option Value) = none ∧ Inv X pins σ H { s with heap := h' } := fun h' kp => by
      obtain ⟨f0, f1, f2, f3, f4, f5⟩ := hf a (by simp)
      exact ⟨rfl, I.turned (t' := s.toks) kp f0 f1 f3 f4 f5⟩
    rcases e with ⟨rfl, ⟨q, rfl⟩ | ⟨q, _, _⟩⟩ | ⟨q, rfl, hx⟩
    · exact end_2 hd h fin
    · rcases chain_first hn hr with ⟨z, _⟩ | ⟨_, z⟩
      · omega
      · rw [List.getElem?_eq_none hlt] at z
        cases z
    · obtain ⟨j, rfl⟩ : ∃ j, i = j + 1 := ⟨i - 1, by omega⟩
      have hx : (cmb xs.length r)[j]? = some ix := hx
      have hs := chain_step hn hr hx
      have hs : stepC its.size ix = none := by
        rw [len, hs, List.getElem?_eq_none hlt]
      exact end_1 hd h hp hs fin
  self := fun A i s Q E t h => by
    obtain ⟨_, _, _, _, _, hc, _⟩ := t
    exact iter_c hc h
section
variable {X : Cx} {tg : Expr}
/-- what combinations(l, r) walks -/
def iCmb (K : PySem.W.Frag) (ta : TA) : TI := fun σ H R => ta σ H fun vs H1 => ∃ (a : Addr) (xs : List V) (r : Nat), vs = [.ref a, .int r] ∧ SqL K H1 a xs ∧ xs.length ≤ 6 ∧ r ≤ 7 ∧ R (Ic xs r) H1
theorem pi_comb {a b : Expr} {ta : TA} {p pos : Pos} (hg : L2.Gl X "combinations") (hm : X.mg "combinations" = some (.type T0)) (ha : PA X [a, b] ta) (hs : starEach [a, b] X.env = [(false, eval a X.env), (false, eval b X.env)] := by rfl) (hs2 : starEach [b] X.env = [(false, eval b X.env)] := by rfl) :
    PI X tg (.Call (.Name "combinations" p) [a, b] [] pos) (iCmb X.K ta) := by
  refine ⟨fun pins s σ H R I h => ?_⟩
  refine Call_ (ld_glob I hg hm (PyProof.Rows.callWith_type1 (thn (ha.run pos pins s σ H _ I h) fun us s1 z => ?_) (by rw [hs, hs2]) (by rw [hs2]; rfl)))
  obtain ⟨vs, H1, I1, r1, l, xs, r, e, hx, h6, h7, q⟩ := z
  subst e
  cases r1 with
  | cons ra rr =>
    cases rr with
    | cons rb rr =>
      cases rr
      cases (show _ = Value.ref l from ra)
      obtain ⟨t, rfl⟩ := rb
      obtain ⟨its, rv, pt, hz⟩ := I1.list hx
      obtain ⟨o, k, ho, hc, hd⟩ := (show ∃ o k, s1.heap.get? l = some o ∧ o.cls = .type "list" ∧ o.data = .seq its.toArray k from by
        obtain ⟨o, h1, h2, k, h3⟩ := pt.isList
        exact ⟨o, k, h1, h2, h3⟩)
      have len : its.toArray.size = xs.length := by
        have := rv.length
        simpa using this.symm
      refine begins ho hc hd (by omega) (by rw [len, sizeLine_eq]; omega) fun h' c pa hi hp ne le1 le2 kp => iter_c hi ?_
      have I2 : Inv X pins σ H1 { s1 with heap := h' } := I1.kept (t' := s1.toks) kp
      refine ⟨c, [c, pa], Tn c pa its.toArray xs.length r, Ic xs r, H1, rfl, I2, turnC c pa (by simpa using rv) h6 h7, ⟨ne, hp, _, _, _, hi, .inl ⟨rfl, ?_⟩⟩, fun b hb => ?_, q⟩
      · rw [len]
        by_cases z : r > xs.length
        · rw [if_pos z]
          exact .inl ⟨z, rfl⟩
        · rw [if_neg z]
          exact .inr ⟨by omega, rfl, rfl⟩
      · have le : s1.heap.objs.size ≤ b := by
          rcases List.mem_cons.mp hb with rfl | hb
          · exact le1
          · rw [List.mem_singleton.mp hb]
            exact le2
        exact I1.fpOk le (I1.hok.fresh le)
end
end Cm
namespace Py
open PySem PySem.Spec PyProof.Rows L2
/-- the items at some places -/
def atD (l : List D) (ix : List Nat) : List D := ix.map fun i => l.getD i .non
def combD (l : List D) (r : Nat) : List (List D) := (Cm.cmb l.length r).map (atD l)
def combR : List D → T (List D)
  | [.lst l, .int r] => if 0 ≤ r ∧ r ≤ 7 ∧ l.length ≤ 6 then .ret ((combD l r.toNat).map D.tup) else .bad
  | _ => .bad
section
variable {X : Cx} {G : Gl} {W : WX} {tg : Expr}
theorem ats_at {H : Hp} {l : List D} {xs : List V} (h : Ats G H l xs) : ∀ ix : List Nat, Ats G H (atD l ix) (Cm.atV xs ix)
  | [] => .nil
  | i :: ix => by
    refine .cons ?_ (ats_at h ix)
    show At G H (l.getD i .non) (xs.getD i .non)
    rw [List.getD_eq_getElem?_getD, List.getD_eq_getElem?_getD]
    cases e : l[i]? with
    | none =>
      have hi : xs[i]? = none := List.getElem?_eq_none (by rw [← h.length]; exact List.getElem?_eq_none_iff.mp e)
      rw [hi]
      exact .non
    | some d =>
      obtain ⟨x, e2, a⟩ := h.get' e
      rw [e2]
      exact a
theorem ic_rep {hd : Addr → Prop} {H : Hp} {l : List D} {xs : List V} {r : Nat} (h : Ats G (hide hd H) l xs) : ItRep G hd (Cm.Ic xs r) ((combD l r).map D.tup) H := fun i nb hd' H1 e g => by
  have hl : ((combD l r).map D.tup).length = (Cm.cmb xs.length r).length := by unfold combD; rw [List.length_map, List.length_map, h.length]
  refine ⟨fun hi => ?_, fun hi => by rw [hl] at hi; exact hi⟩
  rw [hl] at hi
  refine ⟨hi, fun x H' q => ?_⟩
  obtain ⟨T, ix, rfl, nT, ⟨o, ho, rfl⟩, q⟩ := q
  refine ⟨Lead.new nT, .tup (atD l ix), ?_, .tup (.new (g.seen nT) ho) ((ats_at (h.mono e) ix).mono (g.old nT))⟩
  unfold combD
  rw [List.getElem?_map, List.getElem?_map, h.length, q]
  rfl
theorem ei_comb (hK : G.K = X.K) {a b : Expr} {p pos : Pos} {fa : Env → T (List D)} (hg : L2.Gl X "combinations") (hm : X.mg "combinations" = some (.type Cm.T0)) (ha : EA X G W [a, b] fa) (hs : starEach [a, b] X.env = [(false, eval a X.env), (false, eval b X.env)] := by rfl) (hs2 : starEach [b] X.env = [(false, eval b X.env)] := by rfl) :
    EI X G W tg (.Call (.Name "combinations" p) [a, b] [] pos) (fun ρ => fa ρ >>= combR) := by
  refine PI_imp (Cm.pi_comb hg hm ha hs hs2) fun σ H R q => ?_
  obtain ⟨nb, ρ, hd, Rp, q⟩ := q
  refine ⟨nb, ρ, hd, Rp, T.wp_imp (wp_then q) fun l _ q1 vs H1 e h => ?_⟩
  unfold combR at q1
  split at q1
  · obtain ⟨⟨c1, c2, c3⟩, q2⟩ := wp_if q1
    cases h with
    | cons h1 h2 =>
      cases h2 with
      | cons h3 h4 =>
        cases h4
        cases h3
        cases h1 with
        | lst h5 h6 =>
          refine ⟨_, _, _, by rw [Int.toNat_of_nonneg c1], .inl (.inl (hide_sub _ _ h5)), by rw [← h6.length]; exact c3, by omega, q2 _ _ e (ic_rep h6)⟩
  · exact q1.elim
end
end Py
set_option Elab.async false
set_option linter.all false
set_option maxRecDepth 100000
set_option maxHeartbeats 4000000
namespace Py
open PySem PySem.Spec PyProof.Rows L2
/-! ### comprehensions of two clauses -/
def few1 {α : Type} (ds : List D) (t : T α) : T α := if ds.length ≤ 1000 then t else .bad
def compL2 (b : Tg) (c : Env → T Bool) (it1 : Env → T (List D)) (b1 : Tg) (c1 : Env → T Bool) (e : Env → T D) (vs1 : List Nat) (ρ0 : Env) : List D → T (List D)
  | [] => .ret []
  | d :: ds => opt (b d ρ0) >>= fun ρ1 => noexc (c ρ1) >>= fun k => if k = true then noexc (it1 ρ1) >>= fun ds1 => few1 ds1 (compL b1 c1 e (wipeE ρ1 vs1) ds1 >>= fun r1 => compL2 b c it1 b1 c1 e vs1 ρ0 ds >>= fun r => .ret (r1 ++ r)) else compL2 b c it1 b1 c1 e vs1 ρ0 ds
def gComp2 (it : Env → T (List D)) (b : Tg) (c : Env → T Bool) (it1 : Env → T (List D)) (b1 : Tg) (c1 : Env → T Bool) (e : Env → T D) (own vs1 : List Nat) : Env → T D := fun ρ => it ρ >>= fun ds => few1 ds (compL2 b c it1 b1 c1 e vs1 (wipeE ρ own) ds >>= fun l => .ret (.lst l))
section
variable {X : Cx} {G : Gl} {W : WX}
theorem lc2_imp {it it1 : Env → T (List D)} {g g1 : TG} {b b1 : Tg} {c c1 : Env → T Bool} {e : Env → T D} {own : List (Str × Nat)} {vs1 : List Nat} {W : WX} (ht : Tgt G g b (own.map (·.2))) (ht1 : Tgt G g1 b1 vs1) {σ : L2.St} {H : Hp} {Q : VK}
    (q : tEE G W (gComp2 it b c it1 b1 c1 e (own.map (·.2)) vs1) σ H Q) : tLc2 (tEI G W it) g (tET G W0 c) (tEI G W0 it1) g1 (tET G W0 c1) (tEE G W0 e) (own.map (·.2)) vs1 σ H Q := by
  obtain ⟨nb, ρ, hd, R, q⟩ := q
  refine ⟨nb, ρ, hd, R, T.wp_imp (wp_then q) fun ds n1 q1 J H1 e1 hJ D0 hD => ?_⟩
  have q2 : ds.length ≤ 1000 ∧ (compL2 b c it1 b1 c1 e vs1 (wipeE ρ (own.map (·.2))) ds >>= fun l => T.ret (D.lst l)).wp n1 (fun d n' => ∀ v H', Lead G nb n' H H' → At G (hide hd H') d v → Q v H') (xE G W hd σ nb H) := wp_if q1
  obtain ⟨hlen, q2⟩ := q2
  have R1 := R.lead e1
  have nD : ¬ hd D0 := R1.fresh hD
  have nM : ¬ G.M D0 := fun m => nD (R.m D0 m)
  have notD : ∀ (k : Nat) (l : Ow) (v : Option V), (wipeE ρ (own.map (·.2)))[k]? = some (.own l) → (wipe σ (own.map (·.2)))[k]? = some v → v ≠ some (.ref D0) := fun k l u h6 h7 h8 => by
    rcases wipeE_own h6 with ⟨z, _⟩ | ⟨z, n⟩
    · cases z
    · have h9 : σ[k]? = some u := by
        rw [wipe_out n] at h7
        exact h7
      obtain ⟨a, e6, e7, _, ys, e8, _⟩ := R1.at_ k (.own l) u z h9
      rw [h8] at e6
      cases e6
      rw [hD] at e8
      cases e8
  have x0 : Ex (hide hd H1) (hide (orIs hd D0) (upd H1 D0 (.lst []))) := fun a u z => by
    have zn := hide_nt z
    obtain ⟨n, z⟩ := hide_get z
    have np : a ≠ D0 := ne_of_none z hD
    exact hide_put (fun y => y.elim n np) (by rw [upd_ne np]; exact z) zn
  refine ⟨fun i m H' => m = ds.length - i ∧ i ≤ ds.length ∧ ∃ n2 acc xs, H' D0 = some (.lst xs) ∧ Ats G (hide (orIs hd D0) H') acc xs ∧ xs.length ≤ 1000 * i ∧ Rep G n2 (orIs hd D0) (wipe σ (own.map (·.2))) (wipeE ρ (own.map (·.2))) H' ∧ Ex (hide hd H1) (hide (orIs hd D0) H') ∧ Lead G n1 n2 H1 H' ∧
    (compL2 b c it1 b1 c1 e vs1 (wipeE ρ (own.map (·.2))) (ds.drop i)).wp n2 (fun r n' => ∀ v H2, Lead G nb n' H H2 → At G (hide hd H2) (.lst (acc ++ r)) v → Q v H2) (fun _ _ _ => True),
    ⟨ds.length, rfl, Nat.zero_le _, n1, [], [], upd_same, .nil, Nat.zero_le _, (R1.wipe _).more hD, x0, Lead.new hD, T.wp_mono (wp_then q2) (fun r _ z => z) fun _ _ _ _ => trivial⟩, ?_⟩
  rintro i m H2 ⟨rfl, hi2, n2, acc, xs, hx, ha, hxl, R2, x2, L2', q3⟩
  obtain ⟨h1, h2⟩ := hJ i n2 (orIs hd D0) H2 x2 R2.good
  by_cases hlt : i < ds.length
  · obtain ⟨go, yl⟩ := h1 hlt
    refine .inr ⟨go, fun H' => i + 1 ≤ ds.length ∧ ∃ n2 acc xs, H' D0 = some (.lst xs) ∧ Ats G (hide (orIs hd D0) H') acc xs ∧ xs.length ≤ 1000 * (i + 1) ∧ Rep G n2 (orIs hd D0) (wipe σ (own.map (·.2))) (wipeE ρ (own.map (·.2))) H' ∧ Ex (hide hd H1) (hide (orIs hd D0) H') ∧ Lead G n1 n2 H1 H' ∧
      (compL2 b c it1 b1 c1 e vs1 (wipeE ρ (own.map (·.2))) (ds.drop (i + 1))).wp n2 (fun r n' => ∀ v H2, Lead G nb n' H H2 → At G (hide hd H2) (.lst (acc ++ r)) v → Q v H2) (fun _ _ _ => True), fun H' z => ⟨ds.length - (i + 1), by omega, rfl, z.1, z.2⟩, fun x H3 y => ?_⟩
    obtain ⟨e3, d, hd3, ax⟩ := yl x H3 y
    have ed : ds.drop i = d :: ds.drop (i + 1) := by
      have z := List.getElem?_eq_some_iff.mp hd3
      rw [← z.2]
      exact List.drop_eq_getElem_cons hlt
    rw [ed] at q3
    obtain ⟨ρ3, eb, q3⟩ := wp_opt (wp_then q3)
    refine ht (orIs hd D0) _ _ ρ3 H3 x d _ (R2.lead e3) ax eb fun σ4 R4 w4 kp4 => ?_
    have notD4 : ∀ (k : Nat) (l : Ow) (v : Option V), (wipeE ρ3 vs1)[k]? = some (.own l) → (wipe σ4 vs1)[k]? = some v → v ≠ some (.ref D0) := fun k l u h6 h7 => by
      rcases wipeE_own h6 with ⟨z, _⟩ | ⟨z, n⟩
      · cases z
      · rw [wipe_out n] at h7
        obtain ⟨k1, k2⟩ := kp4 k l z
        rw [k2] at h7
        exact notD k l u k1 h7
    refine ⟨w4.trans (wipe_get (wipe_length _ _) fun k hk => wipe_out hk), _, ρ3, orIs hd D0, R4, T.wp_mono (noexc_wp (E' := fun _ _ _ => False) (wp_then q3)) (fun k _ q4 H4 e4 => ?_) fun _ _ _ z => z.elim⟩
    have x4 : Ex (hide (orIs hd D0) H2) (hide (orIs hd D0) H4) := (e3.trans e4).hide R2.m
    have hx4 : H4 D0 = some (.lst xs) := (e3.trans e4).ex D0 _ nM (fun _ z => nomatch z) hx
    cases k with
    | true =>
      rw [if_pos rfl] at q4
      refine L2.iteT ?_
      refine ⟨_, ρ3, orIs hd D0, R4.lead e4, T.wp_mono (noexc_wp (E' := fun _ _ _ => False) (wp_then q4)) (fun ds1 n5 q5 J1 H5 e5 hJ1 => ?_) fun _ _ _ z => z.elim⟩
      obtain ⟨hlen1, q5⟩ := (show ds1.length ≤ 1000 ∧ _ from wp_if q5)
      have x5 : Ex (hide (orIs hd D0) H2) (hide (orIs hd D0) H5) := x4.trans (e5.hide R2.m)
      have hx5 : H5 D0 = some (.lst xs) := e5.ex D0 _ nM (fun _ z => nomatch z) hx4
      have R5 : Rep G n5 (orIs hd D0) (wipe σ (own.map (·.2))) (wipeE ρ (own.map (·.2))) H5 := R2.lead ((e3.trans e4).trans e5)
      have S5 : Rep G n5 (orIs hd D0) (wipe σ4 vs1) (wipeE ρ3 vs1) H5 := ((R4.lead e4).lead e5).wipe _
      refine ⟨fun j k H' => k = ds1.length - j ∧ j ≤ ds1.length ∧ ∃ n3 acc xs, H' D0 = some (.lst xs) ∧ Ats G (hide (orIs hd D0) H') acc xs ∧ xs.length ≤ 1000 * i + j ∧ Rep G n3 (orIs hd D0) (wipe σ (own.map (·.2))) (wipeE ρ (own.map (·.2))) H' ∧ Rep G n3 (orIs hd D0) (wipe σ4 vs1) (wipeE ρ3 vs1) H' ∧ Ex (hide hd H1) (hide (orIs hd D0) H') ∧ Ex (hide (orIs hd D0) H5) (hide (orIs hd D0) H') ∧ Lead G n1 n3 H1 H' ∧
        (compL b1 c1 e (wipeE ρ3 vs1) (ds1.drop j) >>= fun r1 => compL2 b c it1 b1 c1 e vs1 (wipeE ρ (own.map (·.2))) (ds.drop (i + 1)) >>= fun r => .ret (r1 ++ r)).wp n3 (fun r n' => ∀ v H2, Lead G nb n' H H2 → At G (hide hd H2) (.lst (acc ++ r)) v → Q v H2) (fun _ _ _ => True),
        ⟨ds1.length, rfl, Nat.zero_le _, n5, acc, xs, hx5, ha.mono x5, by omega, R5, S5, x2.trans x5, Ex.refl _, L2'.trans ((e3.trans e4).trans e5), q5⟩, ?_⟩
      rintro j k H6 ⟨rfl, hj2, n3, acc', xs', hx6, ha6, hxl6, R6, S6, x6, y6, L6, q6⟩
      obtain ⟨g1', g2'⟩ := hJ1 j n3 (orIs hd D0) H6 y6 R6.good
      by_cases hlt1 : j < ds1.length
      · obtain ⟨go1, yl1⟩ := g1' hlt1
        refine .inr ⟨go1, fun H' => j + 1 ≤ ds1.length ∧ ∃ n3 acc xs, H' D0 = some (.lst xs) ∧ Ats G (hide (orIs hd D0) H') acc xs ∧ xs.length ≤ 1000 * i + (j + 1) ∧ Rep G n3 (orIs hd D0) (wipe σ (own.map (·.2))) (wipeE ρ (own.map (·.2))) H' ∧ Rep G n3 (orIs hd D0) (wipe σ4 vs1) (wipeE ρ3 vs1) H' ∧ Ex (hide hd H1) (hide (orIs hd D0) H') ∧ Ex (hide (orIs hd D0) H5) (hide (orIs hd D0) H') ∧ Lead G n1 n3 H1 H' ∧
          (compL b1 c1 e (wipeE ρ3 vs1) (ds1.drop (j + 1)) >>= fun r1 => compL2 b c it1 b1 c1 e vs1 (wipeE ρ (own.map (·.2))) (ds.drop (i + 1)) >>= fun r => .ret (r1 ++ r)).wp n3 (fun r n' => ∀ v H2, Lead G nb n' H H2 → At G (hide hd H2) (.lst (acc ++ r)) v → Q v H2) (fun _ _ _ => True), fun H' z => ⟨ds1.length - (j + 1), by omega, rfl, z.1, z.2⟩, fun x1 H7 y1 => ?_⟩
        obtain ⟨e7, d1, hd7, ax7⟩ := yl1 x1 H7 y1
        have ed1 : ds1.drop j = d1 :: ds1.drop (j + 1) := by
          have z := List.getElem?_eq_some_iff.mp hd7
          rw [← z.2]
          exact List.drop_eq_getElem_cons hlt1
        rw [ed1] at q6
        have q6 := wp_then q6
        obtain ⟨ρ8, eb8, q6⟩ := wp_opt (wp_then q6)
        refine ht1 (orIs hd D0) _ _ ρ8 H7 x1 d1 _ (S6.lead e7) ax7 eb8 fun σ8 R8 w8 _ => ?_
        refine ⟨w8.trans (wipe_get (wipe_length _ _) fun k hk => wipe_out hk), _, ρ8, orIs hd D0, R8, T.wp_mono (noexc_wp (E' := fun _ _ _ => False) (wp_then q6)) (fun k _ q8 H8 e8 => ?_) fun _ _ _ z => z.elim⟩
        have x8 : Ex (hide (orIs hd D0) H6) (hide (orIs hd D0) H8) := (e7.trans e8).hide R6.m
        have hx8 : H8 D0 = some (.lst xs') := (e7.trans e8).ex D0 _ nM (fun _ z => nomatch z) hx6
        cases k with
        | true =>
          rw [if_pos rfl] at q8
          refine L2.iteT ?_
          refine ⟨_, ρ8, orIs hd D0, R8.lead e8, T.wp_mono (noexc_wp (E' := fun _ _ _ => False) (wp_then q8)) (fun dv n9 q9 v H9 e9 av => ?_) fun _ _ _ z => z.elim⟩
          have x9 : Ex (hide (orIs hd D0) H6) (hide (orIs hd D0) H9) := x8.trans (e9.hide R6.m)
          have hx9 : H9 D0 = some (.lst xs') := e9.ex D0 _ nM (fun _ z => nomatch z) hx8
          have E9 := (e7.trans e8).trans e9
          have R9 : Rep G n9 (orIs hd D0) (wipe σ (own.map (·.2))) (wipeE ρ (own.map (·.2))) H9 := R6.lead E9
          have S9 : Rep G n9 (orIs hd D0) (wipe σ4 vs1) (wipeE ρ3 vs1) H9 := S6.lead E9
          have yy : Ex (hide (orIs hd D0) H9) (hide (orIs hd D0) (upd H9 D0 (.lst (xs' ++ [v])))) := fun a u z => by
            have zn := hide_nt z
            obtain ⟨n, z⟩ := hide_get z
            exact hide_put n (by rw [upd_ne (fun y => n (.inr y))]; exact z) zn
          refine ⟨xs', hx9, by rw [sizeLine_eq]; omega, by omega, n9, acc' ++ [dv], xs' ++ [v], upd_same, ?_, by rw [List.length_append, List.length_singleton]; omega, ?_, ?_, ?_, ?_, ?_, ?_⟩
          · exact ((ha6.mono x9).mono yy).append (.cons (av.mono yy) .nil)
          · exact R9.poke (.inr rfl) nM notD
          · exact S9.poke (.inr rfl) nM notD4
          · exact (x6.trans x9).trans yy
          · exact (y6.trans x9).trans yy
          · have L9 : Lead G n1 n9 H1 H9 := L6.trans E9
            refine ⟨fun a o nm t z => ?_, fun j => G.stays _ H9 _ (L9.j j) (fun a m => upd_ne fun z => nM (by rw [← z]; exact m)) fun a φ ψ e => by
              rw [upd_ne fun z => by rw [z, hx9] at e; cases e]
              exact e⟩
            rw [upd_ne (ne_of_none z hD)]
            exact L9.ex a o nm t z
          · refine (T.wp_bind _ _ _ _ _).mpr (T.wp_imp (wp_then q9) fun r1 _ z => ?_)
            refine (T.wp_bind _ _ _ _ _).mpr (T.wp_imp (wp_then z) fun r _ z v' H' e' a' => z v' H' e' ?_)
            have ea : acc' ++ (dv :: r1 ++ r) = acc' ++ [dv] ++ (r1 ++ r) := by
              rw [List.append_assoc]
              rfl
            rw [ea]
            exact a'
        | false =>
          rw [if_neg Bool.false_ne_true] at q8
          refine L2.iteF ?_
          exact ⟨by omega, _, acc', xs', hx8, ha6.mono x8, by omega, R6.lead (e7.trans e8), S6.lead (e7.trans e8), x6.trans x8, y6.trans x8, L6.trans (e7.trans e8), (T.wp_bind _ _ _ _ _).mpr q8⟩
      · refine .inl ⟨g2' (by omega), by omega, n3, acc', xs', hx6, ha6, by omega, R6, x6, L6, ?_⟩
        rw [List.drop_eq_nil_of_le (by omega)] at q6
        exact T.wp_imp (wp_then q6) fun r _ z => z
    | false =>
      rw [if_neg Bool.false_ne_true] at q4
      refine L2.iteF ?_
      exact ⟨by omega, _, acc, xs, hx4, ha.mono x4, by omega, R2.lead (e3.trans e4), x2.trans x4, L2'.trans (e3.trans e4), q4⟩
  · refine .inl ⟨h2 (by omega), ?_⟩
    rw [List.drop_eq_nil_of_le (by omega)] at q3
    refine q3 (.ref D0) H2 (e1.trans L2') ?_
    rw [List.append_nil]
    exact .lst (hide_put nD hx (fun _ z => nomatch z)) (ha.mono (hide_le fun a z => .inl z))
theorem ee_comp2 {elt tg iter tg1 iter1 : Expr} {ifs ifs1 : List Expr} {scope : Scope} {own : List (Str × Nat)} {vs1 : List Nat} {it it1 : Env → T (List D)} {g g1 : TG} {b b1 : Tg} {c c1 : Env → T Bool} {e : Env → T D} {pos : Pos} (hc : X.calm = true) (hN : X.N.Nodup) (hi : EI X G W tg iter it) (ok : BlkOk X.N X.env.scope scope own) (hv : ∀ i ∈ vs1, i ∈ own.map (·.2)) (ht : Tgt G g b (own.map (·.2))) (ht1 : Tgt G g1 b1 vs1)
    (hg : ∀ (s : Shared) (H : Hp) (C : Addr) (cl : List (Str × Addr)) (fp : List Addr), PG (X.blk s H scope (compEnvC scope cl C X.env) fp) tg g)
    (hifs : ∀ (s : Shared) (H : Hp) (C : Addr) (cl : List (Str × Addr)) (fp : List Addr), PTs0 (X.blk s H scope (compEnvC scope cl C X.env) fp) G ifs c)
    (hi1 : ∀ (s : Shared) (H : Hp) (C : Addr) (cl : List (Str × Addr)) (fp : List Addr), EI (X.blk s H scope (compEnvC scope cl C X.env) fp) G W0 tg1 iter1 it1)
    (hg1 : ∀ (s : Shared) (H : Hp) (C : Addr) (cl : List (Str × Addr)) (fp : List Addr), PG (X.blk s H scope (compEnvC scope cl C X.env) fp) tg1 g1)
    (hifs1 : ∀ (s : Shared) (H : Hp) (C : Addr) (cl : List (Str × Addr)) (fp : List Addr), PTs0 (X.blk s H scope (compEnvC scope cl C X.env) fp) G ifs1 c1)
    (he : ∀ (s : Shared) (H : Hp) (C : Addr) (cl : List (Str × Addr)) (fp : List Addr), EE (X.blk s H scope (compEnvC scope cl C X.env) fp) G W0 elt e) (hs' : ∀ x, foldedSetIterable iter X.env x = pure x := by intro _; rfl) (hs1 : ∀ env x, foldedSetIterable iter1 env x = pure x := by intro _ _; rfl) :
    EE X G W (.ListComp elt [⟨tg, iter, ifs, 0⟩, ⟨tg1, iter1, ifs1, 0⟩] scope pos) (gComp2 it b c it1 b1 c1 e (own.map (·.2)) vs1) :=
  PE_imp (pe_lc2 hc hN hi ok hv hg hifs hi1 hg1 hifs1 he hs' hs1) fun σ H Q q => lc2_imp ht ht1 q
end
end Py
set_option Elab.async false
set_option linter.all false
set_option maxRecDepth 100000
set_option maxHeartbeats 4000000
/-! sets of small ints: laid anew, put together -/
namespace Se
open PySem PySem.Spec PyProof.Rows L2
theorem len_le {α : Type} [DecidableEq α] : ∀ (l m : List α), l.Nodup → (∀ x ∈ l, x ∈ m) → l.length ≤ m.length
  | [], _, _, _ => Nat.zero_le _
  | a :: l, m, h, s => by
    have ha : a ∈ m := s a (by simp)
    have h2 := List.nodup_cons.mp h
    have ih := len_le l (m.erase a) h2.2 fun x hx => (List.mem_erase_of_ne fun z => h2.1 (by rw [← z]; exact hx)).mpr (s x (by simp [hx]))
    rw [List.length_erase_of_mem ha] at ih
    have : 0 < m.length := List.length_pos_of_mem ha
    rw [List.length_cons]
    omega
theorem bits_nat (h : Nat) (h8 : h < 8) : SetTable.bits (h : Int) = h := by
  unfold SetTable.bits
  rw [Int.emod_eq_of_lt (by omega) (by omega)]
  rfl
/-- who lies where behind some hashes -/
structure Own (mask : Nat) (owner : Array (Option Nat)) (pre : List Nat) : Prop where
  size : owner.size = mask + 1
  at_ : ∀ j, j ≤ mask → owner[j]? = some (pre.findIdx? (· == j))
theorem free_at {mask h : Nat} {owner : Array (Option Nat)} {pre : List Nat} (hm : 7 ≤ mask) (O : Own mask owner pre) (h8 : h < 8) (hn : h ∉ pre) : SetTable.layClean.free mask owner (SetTable.turns mask) (SetTable.bits (h : Int) % (mask + 1)) (SetTable.bits (h : Int)) = some h := by
  rw [bits_nat h h8, Nat.mod_eq_of_lt (by omega)]
  unfold SetTable.turns
  rw [show mask + 15 = (mask + 14) + 1 from rfl]
  unfold SetTable.layClean.free
  have none : owner[h]? = some none := by
    rw [O.at_ h (by omega)]
    congr 1
    rw [List.findIdx?_eq_none_iff]
    intro x hx
    simp
    exact fun z => hn (by rw [← z]; exact hx)
  have len : 0 < SetTable.runEnd mask h + 1 - h := by
    unfold SetTable.runEnd
    split <;> omega
  have e : (List.range (SetTable.runEnd mask h + 1 - h)).find? (fun k => (owner.getD (h + k) (some 0)).isNone) = some 0 := by
    obtain ⟨m, hm'⟩ : ∃ m, SetTable.runEnd mask h + 1 - h = m + 1 := ⟨_, (Nat.succ_pred_eq_of_pos len).symm⟩
    rw [hm', List.range_succ_eq_map, List.find?_cons_of_pos]
    rw [Nat.add_zero, Array.getD_eq_getD_getElem?, none]
    rfl
  rw [e]
  rfl
theorem own_set {mask h : Nat} {owner : Array (Option Nat)} {pre : List Nat} (hm : 7 ≤ mask) (O : Own mask owner pre) (h8 : h < 8) (hn : h ∉ pre) : Own mask (owner.setIfInBounds h (some pre.length)) (pre ++ [h]) := by
  refine ⟨by rw [Array.size_setIfInBounds]; exact O.size, fun j hj => ?_⟩
  rw [List.findIdx?_append]
  by_cases e : h = j
  · subst e
    rw [Array.getElem?_setIfInBounds_self_of_lt (by rw [O.size]; omega)]
    have z : pre.findIdx? (· == h) = none := by
      rw [List.findIdx?_eq_none_iff]
      intro x hx
      simp
      exact fun z => hn (by rw [← z]; exact hx)
    rw [z]
    simp [List.findIdx?_cons]
  · rw [Array.getElem?_setIfInBounds_ne e, O.at_ j hj]
    cases pre.findIdx? (· == j) with
    | some i => rfl
    | none => simp [List.findIdx?_cons, e]
theorem lay_fold {mask : Nat} (hm : 7 ≤ mask) : ∀ (hs : List Nat) (owner : Array (Option Nat)) (pre : List Nat), Own mask owner pre → (∀ h ∈ hs, h < 8) → (pre ++ hs).Nodup →
    ∃ owner', (hs.map fun (h : Nat) => (h : Int)).foldl (init := some (owner, pre.length)) (fun acc h => do
      let (owner, k) ← acc
      let j ← SetTable.layClean.free mask owner (SetTable.turns mask) (SetTable.bits h % (mask + 1)) (SetTable.bits h)
      pure (owner.setIfInBounds j (some k), k + 1)) = some (owner', pre.length + hs.length) ∧ Own mask owner' (pre ++ hs)
  | [], owner, pre, O, _, _ => ⟨owner, rfl, by rw [List.append_nil]; exact O⟩
  | h :: hs, owner, pre, O, h8, nd => by
    have hn : h ∉ pre := fun z => by
      have := List.nodup_append.mp nd
      exact this.2.2 h z h (by simp) rfl
    have O2 := own_set hm O (h8 h (by simp)) hn
    have nd2 : (pre ++ [h] ++ hs).Nodup := by rw [List.append_assoc]; exact nd
    obtain ⟨owner', e, O'⟩ := lay_fold hm hs _ (pre ++ [h]) O2 (fun x hx => h8 x (by simp [hx])) nd2
    refine ⟨owner', ?_, by rw [List.append_assoc] at O'; exact O'⟩
    rw [List.map_cons, List.foldl_cons]
    rw [show (do
      let (owner, k) ← (some (owner, pre.length) : Option (Array (Option Nat) × Nat))
      let j ← SetTable.layClean.free mask owner (SetTable.turns mask) (SetTable.bits (h : Int) % (mask + 1)) (SetTable.bits (h : Int))
      pure (owner.setIfInBounds j (some k), k + 1) : Option (Array (Option Nat) × Nat)) = some (owner.setIfInBounds h (some pre.length), pre.length + 1) from by
        show (do
          let j ← SetTable.layClean.free mask owner (SetTable.turns mask) (SetTable.bits (h : Int) % (mask + 1)) (SetTable.bits (h : Int))
          pure (owner.setIfInBounds j (some pre.length), pre.length + 1) : Option (Array (Option Nat) × Nat)) = _
        rw [free_at hm O (h8 h (by simp)) hn]
        rfl]
    rw [List.length_append, List.length_singleton] at e
    rw [e, List.length_cons]
    congr 2
    omega
theorem lay_clean {mask : Nat} (hm : 7 ≤ mask) (hs : List Nat) (h8 : ∀ h ∈ hs, h < 8) (nd : hs.Nodup) : ∃ owner, SetTable.layClean mask (hs.map fun (h : Nat) => (h : Int)).toArray = some owner ∧ Own mask owner hs := by
  have O0 : Own mask (Array.replicate (mask + 1) none) [] := ⟨Array.size_replicate, fun j hj => by
    rw [Array.getElem?_replicate, if_pos (by omega)]
    rfl⟩
  obtain ⟨owner, e, O⟩ := lay_fold hm hs _ [] O0 h8 (by simpa using nd)
  refine ⟨owner, ?_, by simpa using O⟩
  unfold SetTable.layClean
  rw [List.foldl_toArray]
  rw [List.length_nil, Nat.zero_add] at e
  rw [e]
  rfl

theorem hash_small (k : Nat) (h : k < 7) : hashInt (k : Int) = k := by
  have : ∀ k : Fin 7, hashInt ((k : Nat) : Int) = ((k : Nat) : Int) := by decide +kernel
  exact this ⟨k, h⟩
/-- ints from 0 to 6 -/
def Sm7 (e : Int × Value) : Prop := GoodE e ∧ 0 ≤ keyOf e ∧ keyOf e < 7
def kN (e : Int × Value) : Nat := (keyOf e).toNat
theorem sm_hash {e : Int × Value} (h : Sm7 e) : e.1 = ((kN e : Nat) : Int) := by
  obtain ⟨⟨k, tk, e2, e1⟩, h0, h7⟩ := h
  obtain ⟨a, b⟩ := e
  dsimp only at e1 e2
  subst e2
  have ek : keyOf (a, Value.int k tk) = k := rfl
  rw [ek] at h0 h7
  unfold kN
  rw [ek]
  show a = _
  rw [e1]
  obtain ⟨n, rfl⟩ := Int.eq_ofNat_of_zero_le h0
  exact hash_small n (by omega)
theorem sm_hashes {l : List (Int × Value)} (h : ∀ e ∈ l, Sm7 e) : l.map (·.1) = (l.map kN).map fun (n : Nat) => (n : Int) := by
  rw [List.map_map]
  exact List.map_congr_left fun e he => sm_hash (h e he)
theorem sm_nodup {l : List (Int × Value)} (h : ∀ e ∈ l, Sm7 e) (nd : (l.map keyOf).Nodup) : (l.map kN).Nodup := by
  have e : l.map keyOf = (l.map kN).map fun (n : Nat) => (n : Int) := by
    rw [List.map_map]
    refine List.map_congr_left fun x hx => ?_
    have := (h x hx).2.1
    show keyOf x = (((keyOf x).toNat : Nat) : Int)
    omega
  rw [e] at nd
  exact List.Pairwise.of_map _ (fun a b z => fun q => z (by rw [q])) nd
theorem sm_len {l : List (Int × Value)} (h : ∀ e ∈ l, Sm7 e) (nd : (l.map keyOf).Nodup) : l.length ≤ 7 := by
  have := len_le (l.map kN) (List.range 7) (sm_nodup h nd) fun x hx => by
    obtain ⟨e, he, rfl⟩ := List.mem_map.mp hx
    have := (h e he).2
    rw [List.mem_range]
    unfold kN
    omega
  rwa [List.length_map, List.length_range] at this
theorem range_get {α : Type} : ∀ (l : List α), (List.range l.length).filterMap (l[·]?) = l
  | [] => rfl
  | a :: l => by
    rw [List.length_cons, List.range_succ_eq_map, List.filterMap_cons_some (b := a) (by rfl), List.filterMap_map]
    congr 1
    exact range_get l
theorem laid_ok {mask : Nat} (hm : 7 ≤ mask) (fi mv : Nat) (led pl : Bool) {es : Array (Int × Value)} (hg : ∀ e ∈ es.toList, Sm7 e) (nd : (es.toList.map keyOf).Nodup) :
    ∃ t order, SetTable.laid mask fi mv led pl (es.map (·.1)) = some (t, order) ∧ t.led = led ∧ t.mask = mask ∧ Ris t.place.toList ∧ t.fits es.size = true ∧ (order.filterMap (es[·]?)).toList.Perm es.toList := by
  have hl := sm_len hg nd
  have hsz : es.size = es.toList.length := by rw [Array.length_toList]
  have e1 : es.map (·.1) = ((es.toList.map kN).map fun (n : Nat) => (n : Int)).toArray := by
    rw [← sm_hashes hg]
    apply Array.toList_inj.mp
    simp
  have nd2 := sm_nodup hg nd
  obtain ⟨owner, el, O⟩ := lay_clean hm (es.toList.map kN) (fun h hh => by
    obtain ⟨e, he, rfl⟩ := List.mem_map.mp hh
    have := (hg e he).2
    unfold kN
    omega) nd2
  have own : ∀ j, j ≤ mask → owner.getD j none = (es.toList.map kN).findIdx? (· == j) := fun j hj => by
    rw [Array.getD_eq_getD_getElem?, O.at_ j hj]
    rfl
  let live := (List.range (mask + 1)).filterMap fun j => (owner.getD j none).map (j, ·)
  have er : SetTable.laid mask fi mv led pl (es.map (·.1)) = some ({ mask, place := (live.map (·.1)).toArray, dummies := #[], finger := fi, led, moves := mv, plain := pl }, (live.map (·.2)).toArray) := by
    rw [e1]
    unfold SetTable.laid
    rw [el]
    rfl
  have ml : ∀ j k, (j, k) ∈ live ↔ j ≤ mask ∧ (es.toList.map kN).findIdx? (· == j) = some k := fun j k => by
    show (j, k) ∈ (List.range (mask + 1)).filterMap _ ↔ _
    rw [List.mem_filterMap]
    constructor
    · rintro ⟨a, ha, e⟩
      rw [List.mem_range] at ha
      rw [own a (by omega)] at e
      cases q : (es.toList.map kN).findIdx? (· == a) with
      | none =>
        rw [q] at e
        cases e
      | some k' =>
        rw [q] at e
        cases e
        exact ⟨by omega, q⟩
    · rintro ⟨hj, q⟩
      exact ⟨j, List.mem_range.mpr (by omega), by rw [own j hj, q]; rfl⟩
  have mo : ∀ k, k ∈ live.map (·.2) ↔ k ∈ List.range es.toList.length := fun k => by
    rw [List.mem_map, List.mem_range]
    constructor
    · rintro ⟨⟨j, k'⟩, h, rfl⟩
      obtain ⟨_, q⟩ := (ml j k').mp h
      obtain ⟨hk, _⟩ := List.findIdx?_eq_some_iff_getElem.mp q
      rwa [List.length_map] at hk
    · intro hk
      have hk' : k < (es.toList.map kN).length := by rwa [List.length_map]
      refine ⟨((es.toList.map kN)[k], k), (ml _ _).mpr ⟨?_, ?_⟩, rfl⟩
      · rw [List.getElem_map]
        have := (hg _ (List.getElem_mem hk)).2
        unfold kN
        omega
      · refine List.findIdx?_eq_some_iff_getElem.mpr ⟨hk', by simp, fun j hj z => ?_⟩
        have z' := eq_of_beq z
        exact (List.pairwise_iff_getElem.mp nd2 j k (by omega) hk' hj) z'
  have nl : live.Nodup := by
    have rr := (ris_live (fun j => owner.getD j none) (List.range (mask + 1)) (by unfold Ris; first | exact List.pairwise_lt_range | exact List.pairwise_lt_range _)).1
    have : (live.map (·.1)).Nodup := List.Pairwise.imp (fun h => Nat.ne_of_lt h) rr
    exact List.Pairwise.of_map _ (fun a b z => fun q => z (by rw [q])) this
  have no : (live.map (·.2)).Nodup := by
    refine List.Pairwise.map _ (R := fun a b => a ∈ live ∧ b ∈ live ∧ a ≠ b) (fun a b h => ?_) ?_
    · obtain ⟨h1, h2, h3⟩ := h
      intro z
      refine h3 ?_
      obtain ⟨j, k⟩ := a
      obtain ⟨j', k'⟩ := b
      cases z
      obtain ⟨_, q1⟩ := (ml j k).mp h1
      obtain ⟨_, q2⟩ := (ml j' k).mp h2
      obtain ⟨hk, p1, _⟩ := List.findIdx?_eq_some_iff_getElem.mp q1
      obtain ⟨_, p2, _⟩ := List.findIdx?_eq_some_iff_getElem.mp q2
      rw [← eq_of_beq p1, ← eq_of_beq p2]
    · exact List.Pairwise.imp_of_mem (fun ha hb h => ⟨ha, hb, h⟩) nl
  have po : (live.map (·.2)).Perm (List.range es.toList.length) := (List.perm_ext_iff_of_nodup no List.nodup_range).mpr mo
  have ll : live.length = es.size := by
    have := po.length_eq
    rw [List.length_map, List.length_range] at this
    omega
  refine ⟨_, _, er, rfl, rfl, ?_, ?_, ?_⟩
  · exact (ris_live (fun j => owner.getD j none) (List.range (mask + 1)) (by unfold Ris; first | exact List.pairwise_lt_range | exact List.pairwise_lt_range _)).1
  · unfold SetTable.fits SetTable.fill
    simp only [List.size_toArray, List.length_map, ll, Bool.and_eq_true, beq_self_eq_true, decide_eq_true_eq, true_and]
    show es.size + 0 ≤ mask
    omega
  · have := po.filterMap (es.toList[·]?)
    rw [range_get] at this
    rw [Array.toList_filterMap]
    simpa using this
end Se
set_option Elab.async false
set_option linter.all false
set_option maxRecDepth 100000
set_option maxHeartbeats 4000000
/-! two sets of small ints put together -/
namespace Se
open PySem PySem.Spec PyProof.Rows L2
/-- the set at a, with its table -/
def SetT (w : World) (h : Heap) (a : Addr) (S : Int → Bool) (t : SetTable) (es : Array (Int × Value)) : Prop :=
  ∃ o ep, h.get? a = some o ∧ o.ExactSet ∧ o.data = .set es ep t ∧ (∀ e ∈ es.toList, Sm7 e) ∧ (es.toList.map keyOf).Nodup ∧ (∀ k, S k = true ↔ k ∈ es.toList.map keyOf) ∧
    t.fits es.size = true ∧ Ris t.place.toList ∧ (w.params.followText "set-order" = true ∨ t.led = true)
variable {P : Program} {w : World} {A : Around} {E : Value → Shared → Prop} {s : Shared} {h h' : Heap} {a b : Addr} {S S2 : Int → Bool} {n n2 : Nat} {t : SetTable} {es : Array (Int × Value)}
theorem SetT.few (R : SetT w h a S t es) : es.size ≤ 7 := by
  obtain ⟨o, ep, ho, hx, hd, g, nd, _⟩ := R
  rw [← Array.length_toList]
  exact sm_len g nd
theorem SetT.r (R : SetT w h a S t es) : SetR w h a S es.size := by
  have := R.few
  obtain ⟨o, ep, ho, hx, hd, g, nd, m, f, r, l⟩ := R
  exact ⟨o, es, ep, t, ho, hx, hd, fun e he => (g e he).1, nd, m, by unfold scanBound; omega, f, rfl, r, l⟩
theorem SetT.of (R : SetR w h a S n) (sm : ∀ k, S k = true → 0 ≤ k ∧ k < 7) : ∃ t es, SetT w h a S t es ∧ es.size = n := by
  obtain ⟨o, es, ep, t, ho, hx, hd, g, nd, m, _, f, hn, r, l⟩ := R
  exact ⟨t, es, ⟨o, ep, ho, hx, hd, fun e he => ⟨g e he, sm _ ((m _).2 (List.mem_map_of_mem he))⟩, nd, m, f, r, l⟩, hn⟩
theorem SetT.at (R : SetT w h a S t es) (k : ∀ o, h.get? a = some o → h'.get? a = some o) : SetT w h' a S t es := by
  obtain ⟨o, ep, ho, r⟩ := R
  exact ⟨o, ep, k o ho, r⟩
theorem SetT.state (R : SetT w s.heap a S t es) {Q : (Array (Int × Value) × Nat × SetTable) → Shared → Prop} (q : ∀ ep, Q (es, ep, t) s) : wpAny (model P w) A (setState a) Q E s := by
  obtain ⟨o, ep, ho, hx, hd, g, nd, m, f, r, l⟩ := R
  exact wpAny_setState_of ho hd f (q ep)
theorem SetT.congr (R : SetT w h a S t es) (e : ∀ k, S2 k = S k) : SetT w h a S2 t es := by
  have q : S2 = S := funext e
  rw [q]; exact R
/-- other entries, another table -/
theorem SetT.store (R : SetT w s.heap a S t es) {es' : Array (Int × Value)} {t' : SetTable} (g : ∀ e ∈ es'.toList, Sm7 e) (nd : (es'.toList.map keyOf).Nodup) (m : ∀ k, S2 k = true ↔ k ∈ es'.toList.map keyOf)
    (f : t'.fits es'.size = true) (r : Ris t'.place.toList) (l : w.params.followText "set-order" = true ∨ t'.led = true) {Q : Unit → Shared → Prop}
    (q : ∀ h', Heap.SameBut a s.heap h' → SetT w h' a S2 t' es' → Q () { s with heap := h' }) : wpAny (model P w) A (storeSet a es' t') Q E s := by
  obtain ⟨o, ep, ho, hx, hd, _⟩ := R
  have l7 : es'.size ≤ 7 := by
    rw [← Array.length_toList]
    exact sm_len g nd
  refine wpAny_storeSet_of ho hd (q _ (Heap.SameBut.update s.heap a (Obj.putSet es' t')) ⟨_, _, store_at ho hd, hx, rfl, g, nd, m, f, r, l⟩) (by rw [sizeLine_eq]; omega)
theorem above_small {n : Nat} (h : n ≤ 28) : 8 ≤ SetTable.sizeAbove n ∧ ¬ SetTable.sizeAbove n > sizeLine := by
  have : ∀ k : Fin 29, 8 ≤ SetTable.sizeAbove k ∧ SetTable.sizeAbove k ≤ 100 := by decide +kernel
  have := this ⟨n, by omega⟩
  refine ⟨this.1, ?_⟩
  have := this.2
  rw [sizeLine_eq]
  simp at this
  omega
theorem perm_keep {es es' : Array (Int × Value)} (p : es'.toList.Perm es.toList) (g : ∀ e ∈ es.toList, Sm7 e) (nd : (es.toList.map keyOf).Nodup) (m : ∀ k, S k = true ↔ k ∈ es.toList.map keyOf) :
    (∀ e ∈ es'.toList, Sm7 e) ∧ (es'.toList.map keyOf).Nodup ∧ (∀ k, S k = true ↔ k ∈ es'.toList.map keyOf) ∧ es'.size = es.size :=
  ⟨fun e he => g e (p.mem_iff.mp he), (p.map keyOf).nodup_iff.mpr nd, fun k => (m k).trans (p.map keyOf).mem_iff.symm, by rw [← Array.length_toList, p.length_eq, Array.length_toList]⟩
theorem relay_ok (R : SetT w s.heap a S t es) {wanted : Nat} (hw : wanted ≤ 28) {Q : Unit → Shared → Prop}
    (q : ∀ h' t' es', Heap.SameBut a s.heap h' → SetT w h' a S t' es' → 7 ≤ t'.mask → t'.dummies.isEmpty = true → Q () { s with heap := h' }) : wpAny (model P w) A (setRelay a wanted) Q E s := by
  have R0 := R
  obtain ⟨o, ep, ho, hx, hd, g, nd, m, f, r, l⟩ := R
  obtain ⟨a8, al⟩ := above_small hw
  obtain ⟨t', order, e, el, em, er, ef, ep2⟩ := laid_ok (mask := SetTable.sizeAbove wanted - 1) (by omega) t.finger (t.movedTo (SetTable.sizeAbove wanted - 1)) t.led t.plain g nd
  have ed : t'.dummies.isEmpty = true := by
    unfold SetTable.laid at e
    cases z : SetTable.layClean (SetTable.sizeAbove wanted - 1) (es.map (·.1)) with
    | none => rw [z] at e; cases e
    | some owner => rw [z] at e; cases e; rfl
  obtain ⟨g', nd', m', sz'⟩ := perm_keep ep2 g nd m
  unfold setRelay
  refine wpAny_bind (R0.state fun ep' => ?_)
  dsimp only
  rw [if_neg al]
  refine wpAny_bind (?_ : wpAny _ _ (do
    let some (t, order) := t.relaid (es.map (·.1)) wanted | unsupported "internal:set-table-without-room"
    let es' := order.filterMap (es[·]?)
    if es'.size != es.size then unsupported "internal:set-table-lost-an-element"
    pure (es', t)) _ _ _)
  unfold SetTable.relaid
  rw [e]
  dsimp only
  rw [if_neg (by rw [sz']; simp)]
  refine wpAny_pure ?_
  dsimp only
  exact R0.store g' nd' m' (by rw [sz']; exact ef) er (l.imp id fun z => by rw [el]; exact z) fun h' sb R' => q h' _ _ sb R' (by rw [em]; omega) ed

theorem walk_ok (R : SetT w s.heap b S2 t es) {Q : Array (Int × Value) → Shared → Prop} (q : ∀ xs d, xs.toList.Perm es.toList → Q xs { s with drawn := d }) : wpAny (model P w) A (setWalk b) Q E s := by
  have l : w.params.followText "set-order" = true ∨ t.led = true := by
    obtain ⟨o, ep, ho, hx, hd, g, nd, m, f, r, l⟩ := R
    exact l
  unfold setWalk
  refine wpAny_bind (R.state fun ep => ?_)
  dsimp only
  refine wpAny_bind (wpAny_byText ?_)
  cases hbt : w.params.followText "set-order" with
  | true =>
    refine wp_if_pos rfl ?_
    exact wpAny_bind (wpAny_askSetting (wpAny_pure (q _ s.drawn (pick_perm _ _))))
  | false =>
    refine wp_if_neg Bool.false_ne_true ?_
    show wpAny _ _ (if (!t.plain && decide (es.size > 1)) = true then _ else _) _ _ _
    cases hd : (!t.plain && decide (es.size > 1)) with
    | true =>
      refine wp_if_pos rfl ?_
      exact wpAny_bind (drawOrder_at _ _ _ _ (by simp) fun ys d p => wpAny_pure (q _ d (by simpa using p)))
    | false =>
      refine wp_if_neg Bool.false_ne_true ?_
      refine wpAny_bind (wpAny_of_eq (a := ()) ?_ ?_)
      · show (if (!t.led && decide (es.size > 1)) = true then unsupported "set:maker-not-led" else pure ()) = pure ()
        rw [l.resolve_left (by rw [hbt]; exact Bool.false_ne_true)] <;> rfl
      · exact wpAny_pure (q _ s.drawn (.refl _))
theorem quiet_inner : ∀ (l : List (Int × Value)) (f : (Int × Value) → (Option Bool × PUnit) → Sem (ForInStep (Option Bool × PUnit))),
    (∀ h k t r, f (h, .int k t) r = pure (.yield (none, PUnit.unit))) → (∀ e ∈ l, Sm7 e) → (forIn l ((none : Option Bool), PUnit.unit) f : Sem _) = pure (none, PUnit.unit)
  | [], f, _, _ => rfl
  | e :: l, f, hf, g => by
    obtain ⟨⟨k, tk, e2, e1⟩, _⟩ := g e (by simp)
    obtain ⟨x, v⟩ := e
    dsimp only at e2
    subst e2
    rw [List.forIn_cons, hf x k tk _]
    simp only [pure_bind]
    exact quiet_inner l f hf fun y hy => g y (by simp [hy])
theorem entries_ok (R : SetT w s.heap b S2 t es) {Q : Array (Int × Value) → Shared → Prop} (q : Q es s) : wpAny (model P w) A (setEntries b) Q E s := by
  unfold setEntries
  exact wpAny_bind (R.state fun ep => wpAny_pure q)
theorem quiet_ok {es2 : Array (Int × Value)} {t2 : SetTable} (R1 : SetT w s.heap a S t es) (R2 : SetT w s.heap b S2 t2 es2) {Q : Bool → Shared → Prop} (q : Q true s) : wpAny (model P w) A (setsQuiet [b, a]) Q E s := by
  have g1 : ∀ e ∈ es.toList, Sm7 e := by
    obtain ⟨o, ep, ho, hx, hd, g, r⟩ := R1
    exact g
  have g2 : ∀ e ∈ es2.toList, Sm7 e := by
    obtain ⟨o, ep, ho, hx, hd, g, r⟩ := R2
    exact g
  unfold setsQuiet
  rw [List.forIn_cons]
  simp only [bind_assoc]
  refine wpAny_bind (entries_ok R2 ?_)
  rw [← Array.forIn_toList, quiet_inner _ _ (fun h k t r => rfl) g2]
  simp only [pure_bind]
  rw [List.forIn_cons]
  simp only [bind_assoc]
  refine wpAny_bind (entries_ok R1 ?_)
  rw [← Array.forIn_toList, quiet_inner _ _ (fun h k t r => rfl) g1]
  simp only [pure_bind, List.forIn_nil]
  exact wpAny_pure q

theorem wp_ite {α : Type} {M : Model} {c : Prop} [Decidable c] {x y : Sem α} {Q : α → Shared → Prop} (h1 : c → wpAny M A x Q E s) (h2 : ¬ c → wpAny M A y Q E s) : wpAny M A (if c then x else y) Q E s := by
  by_cases h : c
  · rw [if_pos h]; exact h1 h
  · rw [if_neg h]; exact h2 h
theorem unseen_ok {es2 : Array (Int × Value)} {t2 : SetTable} (R1 : SetT w s.heap a S t es) (R2 : SetT w s.heap b S2 t2 es2) {Q : Array (Int × Value) → Shared → Prop}
    (q : ∀ xs h' t' d, xs.toList.Perm es2.toList → Heap.SameBut a s.heap h' → SetT w h' a S t' es → Q xs { s with heap := h', drawn := d }) : wpAny (model P w) A (setWalkUnseen b [a] (some a)) Q E s := by
  unfold setWalkUnseen
  refine wpAny_bind (R2.state fun ep => ?_)
  dsimp only
  refine wpAny_bind (wpAny_byText ?_)
  refine wp_ite (fun c => ?_) (fun c => ?_)
  · exact walk_ok R2 fun xs d p => q xs s.heap t d p (Heap.SameBut.refl a s.heap) R1
  · refine wpAny_bind (quiet_ok R1 R2 ?_)
    refine wp_if_neg (by simp) ?_
    refine wpAny_bind (wpAny_rule ?_)
    have l2 : w.params.followText "set-order" = true ∨ t2.led = true := by
      obtain ⟨o, ep, ho, hx, hd, g, nd, m, f, r, l⟩ := R2
      exact l
    refine wpAny_bind (R1.state fun ep => ?_)
    dsimp only
    refine wp_ite (fun c => ?_) (fun c => ?_)
    · have R1' := R1
      obtain ⟨o, ep, ho, hx, hd, g, nd, m, f, r, l⟩ := R1'
      refine wpAny_bind (R1.store (S2 := S) (t' := { t with led := t.led && t2.led, plain := t.plain && t2.plain }) g nd m f r (l.elim .inl fun z => l2.imp id fun z2 => by rw [z, z2]; rfl) fun h' sb R' => ?_)
      exact wpAny_pure (q es2 h' _ s.drawn (.refl _) sb R')
    · exact wpAny_pure (q es2 s.heap t s.drawn (.refl _) (Heap.SameBut.refl a s.heap) R1)
/-- one by one -/
theorem adds_ok {each : Sem Unit} {ep : Nat} (ne : a ≠ b)
    (he : ∀ (s1 : Shared) (Q : Unit → Shared → Prop), s1.heap.get? b = s.heap.get? b → Q () s1 → wpAny (model P w) A each Q E s1)
    (hb : ∀ (s1 : Shared) (Q : (Array (Int × Value) × Nat × SetTable) → Shared → Prop), s1.heap.get? b = s.heap.get? b → (∀ r, r.2.1 = ep → Q r s1) → wpAny (model P w) A (setState b) Q E s1) {Q : Unit → Shared → Prop} :
    ∀ (l : List (Int × Value)) (s1 : Shared) (S1 : Int → Bool) (n1 : Nat), s1.heap.get? b = s.heap.get? b → SetR w s1.heap a S1 n1 → (∀ e ∈ l, Sm7 e) → n1 + l.length < 100 →
    (∀ s' n', Heap.SameBut a s1.heap s'.heap → s' = { s1 with heap := s'.heap } → SetR w s'.heap a (fun k => S1 k || (l.map keyOf).contains k) n' → n' ≤ n1 + l.length → Q () s') →
    wpAny (model P w) A (forIn l PUnit.unit fun (e : Int × Value) (_ : PUnit) => do
      let _ ← holding [e.2] (setAddHashed a e.2 e.1)
      each
      let r ← setState b
      if (r.2.1 != ep) = true then (do
        unsupported "set.changed-during-merge"
        pure (ForInStep.yield PUnit.unit)) else pure (ForInStep.yield PUnit.unit)) (fun _ s' => Q () s') E s1 := by
  intro l
  induction l with
  | nil =>
    intro s1 S1 n1 hk R _ _ q
    rw [List.forIn_nil]
    exact wpAny_pure (q s1 n1 (Heap.SameBut.refl a s1.heap) rfl (R.congr fun k => by simp) (by simp))
  | cons e l ih =>
    intro s1 S1 n1 hk R g hn q
    obtain ⟨⟨k, tk, e2, e1⟩, _⟩ := g e (by simp)
    obtain ⟨x, v⟩ := e
    dsimp only at e2 e1
    subst e2
    rw [e1, List.forIn_cons]
    simp only [bind_assoc]
    rw [List.length_cons] at hn
    refine wpAny_bind (wpAny_holding (setR_add_hashed (k := k) (tk := tk) R (by unfold scanBound; omega) fun h' sb R' => ?_))
    have hk' : h'.get? b = s.heap.get? b := (sb.2 b (fun z => ne z.symm)).trans hk
    refine wpAny_bind (he _ _ hk' ?_)
    refine wpAny_bind (hb _ _ hk' fun r er => ?_)
    simp only [er, bne_self_eq_false, Bool.false_eq_true, ↓reduceIte, pure_bind]
    refine ih _ _ _ hk' R' (fun y hy => g y (by simp [hy])) (by split <;> omega) fun s' n' sb2 es' R2 le => ?_
    refine q s' n' (sb.trans sb2) (es'.trans rfl) (R2.congr fun j => ?_) (by
      rw [List.length_cons]
      split at le <;> omega)
    rw [List.map_cons, List.contains_cons]
    show (S1 j || (j == k || _)) = (S1 j || decide (j = k) || _)
    rw [Bool.or_assoc]
    congr 2

theorem fit_fill (f : t.fits es.size = true) : es.size ≤ t.fill ∧ (t.dummies.isEmpty = true → t.fill = es.size) := by
  simp only [SetTable.fits, Bool.and_eq_true, beq_iff_eq, decide_eq_true_eq] at f
  unfold SetTable.fill
  refine ⟨by omega, fun z => ?_⟩
  rw [Array.isEmpty_iff] at z
  rw [z]
  show _ + 0 = _
  omega
theorem SetT.empty (R : SetT w h a S t #[]) (k : Int) : S k = false := by
  obtain ⟨o, ep, ho, hx, hd, g, nd, m, r⟩ := R
  cases q : S k with
  | false => rfl
  | true => exact absurd ((m k).1 q) (by simp)
/-- with room made -/
theorem merge_road {each : Sem Unit} {ep : Nat} {es2 : Array (Int × Value)} {t2 : SetTable} (ne : a ≠ b) (R1 : SetT w s.heap a S t es) (h7 : 7 ≤ t.mask) (R2 : SetT w s.heap b S2 t2 es2) (hep : ∃ o, s.heap.get? b = some o ∧ o.data = .set es2 ep t2)
    (he : ∀ (s1 : Shared) (Q : Unit → Shared → Prop), s1.heap.get? b = s.heap.get? b → Q () s1 → wpAny (model P w) A each Q E s1) {Q : Unit → Shared → Prop}
    (q : ∀ h' n' d, Heap.SameBut a s.heap h' → SetR w h' a (fun k => S k || S2 k) n' → n' ≤ es.size + es2.size → (t.fill = 0 → ∃ t' es', SetT w h' a S2 t' es' ∧ 7 ≤ t'.mask) → Q () { s with heap := h', drawn := d }) :
    wpAny (model P w) A (match t.road t2 with
      | .slotForSlot => storeSet a es2 { t2 with finger := t.finger, led := t.led && t2.led, moves := t.moves, plain := t.plain && t2.plain }
      | .clean => do
        let (es, t) ← (do
          let some (t, order) := SetTable.laid t.mask t.finger t.moves (led := t.led && t2.led) (plain := t.plain && t2.plain) (es2.map (·.1)) | unsupported "internal:set-table-without-room"
          let es' := order.filterMap (es2[·]?)
          if es'.size != es2.size then unsupported "internal:set-table-lost-an-element"
          pure (es', t))
        storeSet a es t
      | .oneByOne =>
        do
        for (h, x) in ← setWalkUnseen b [a] (some a) do
          let _ ← holding [x] (setAddHashed a x h)
          each
          if (← setState b).2.1 != ep then unsupported "set.changed-during-merge") Q E s := by
  have F1 : t.fits es.size = true := by
    obtain ⟨o, ep, ho, hx, hd, g, nd, m, f, r, l⟩ := R1
    exact f
  have l1 : w.params.followText "set-order" = true ∨ t.led = true := by
    obtain ⟨o, ep, ho, hx, hd, g, nd, m, f, r, l⟩ := R1
    exact l
  have R2' := R2
  obtain ⟨o2, ep2, ho2, hx2, hd2, g2, nd2, m2, f2, r2, l2⟩ := R2'
  have ll : w.params.followText "set-order" = true ∨ (t.led && t2.led) = true := l1.elim .inl fun z => l2.imp id fun z2 => by rw [z, z2]; rfl
  by_cases fl : t.fill = 0
  · have z0 : es = #[] := by
      have := (fit_fill F1).1
      exact Array.eq_empty_of_size_eq_zero (by omega)
    subst z0
    have eS : ∀ k, (S k || S2 k) = S2 k := fun k => by rw [R1.empty k]; rfl
    have nb : (t.fill != 0) = false := by rw [fl]; rfl
    unfold SetTable.road
    rw [nb]
    simp only [Bool.false_eq_true, ↓reduceIte]
    by_cases c : (t.mask == t2.mask && t2.dummies.isEmpty) = true
    · rw [if_pos c]
      rw [Bool.and_eq_true] at c
      have em := eq_of_beq c.1
      exact R1.store (S2 := S2) g2 nd2 m2 f2 r2 (t' := { t2 with finger := t.finger, led := t.led && t2.led, moves := t.moves, plain := t.plain && t2.plain }) ll fun h' sb R' => q h' es2.size s.drawn sb (R'.r.congr eS) (by simp) fun _ => ⟨_, _, R', by show 7 ≤ t2.mask; omega⟩
    · rw [if_neg c]
      obtain ⟨t', order, e, el, em, er, ef, ep2⟩ := laid_ok (mask := t.mask) h7 t.finger t.moves (t.led && t2.led) (t.plain && t2.plain) g2 nd2
      obtain ⟨g', nd', m', sz'⟩ := perm_keep ep2 g2 nd2 m2
      dsimp only
      rw [e]
      simp only [bind_assoc]
      rw [if_neg (by rw [sz']; simp)]
      simp only [pure_bind]
      exact R1.store (S2 := S2) g' nd' m' (by rw [sz']; exact ef) er (by rw [el]; exact ll) fun h' sb R' => q h' _ s.drawn sb (R'.r.congr eS) (by rw [sz']; simp) fun _ => ⟨_, _, R', by omega⟩
  · have nb : (t.fill != 0) = true := by simp [fl]
    unfold SetTable.road
    rw [nb]
    simp only [↓reduceIte]
    refine wpAny_bind (unseen_ok R1 R2 fun xs h1 t1 d p sb1 R1' => ?_)
    have k1 : h1.get? b = s.heap.get? b := sb1.2 b fun z => ne z.symm
    have R2a := R2.at (h' := h1) (fun o z => by rw [k1]; exact z)
    have l1 := R1.few
    have l2 := R2.few
    have lx : xs.toList.length = es2.size := by rw [p.length_eq, Array.length_toList]
    rw [← Array.forIn_toList]
    refine wpAny_bind (adds_ok (Q := fun _ s' => wpAny (model P w) A (pure ()) Q E s') (s := s) (ep := ep) ne he (fun s1 Q' e q' => ?_) xs.toList { s with heap := h1, drawn := d } S es.size k1 R1'.r (fun e he' => g2 e (p.mem_iff.mp he')) (by omega) fun s' n' sb2 es' R' le => wpAny_pure ?_)
    · obtain ⟨o, ho, hd⟩ := hep
      exact wpAny_setState_of (by rw [e]; exact ho) hd f2 (q' _ rfl)
    · have := q s'.heap n' d (sb1.trans sb2) (R'.congr fun k => ?_) (by omega) (fun z => absurd z fl)
      · rw [es']
        exact this
      · congr 1
        cases h2 : S2 k with
        | true => exact (List.contains_iff_mem.mpr ((p.map keyOf).mem_iff.mpr ((m2 k).1 h2))).symm
        | false =>
          refine (Bool.eq_false_iff.mpr fun z => ?_).symm
          have := (m2 k).2 ((p.map keyOf).mem_iff.mp (List.contains_iff_mem.mp z))
          rw [h2] at this
          cases this
theorem merge_ok {each : Sem Unit} {es2 : Array (Int × Value)} {t2 : SetTable} (ne : a ≠ b) (R1 : SetT w s.heap a S t es) (h7 : 7 ≤ t.mask) (R2 : SetT w s.heap b S2 t2 es2)
    (he : ∀ (s1 : Shared) (Q : Unit → Shared → Prop), s1.heap.get? b = s.heap.get? b → Q () s1 → wpAny (model P w) A each Q E s1) {Q : Unit → Shared → Prop}
    (q : ∀ h' n' d, Heap.SameBut a s.heap h' → SetR w h' a (fun k => S k || S2 k) n' → n' ≤ es.size + es2.size → (t.fill = 0 → ∃ t' es', SetT w h' a S2 t' es' ∧ 7 ≤ t'.mask) → Q () { s with heap := h', drawn := d }) :
    wpAny (model P w) A (setMerge a b each) Q E s := by
  have l1 := R1.few
  have l2 := R2.few
  have F1 : t.fits es.size = true := by
    obtain ⟨o, ep, ho, hx, hd, g, nd, m, f, r, l⟩ := R1
    exact f
  have R2' := R2
  obtain ⟨o2, ep2, ho2, hx2, hd2, g2, nd2, m2, f2, r2, _⟩ := R2'
  unfold setMerge
  refine wp_if_neg (by simpa using ne) ?_
  try refine wpAny_bind (wpAny_pure ?_)
  refine wpAny_bind (wpAny_setState_of ho2 hd2 f2 ?_)
  dsimp only
  by_cases em : es2.isEmpty = true
  · refine wp_if_pos em (wpAny_pure ?_)
    have z0 : es2 = #[] := Array.isEmpty_iff.mp em
    subst z0
    have e2 := R2.empty
    refine q s.heap es.size s.drawn (Heap.SameBut.refl a s.heap) (R1.r.congr fun k => by rw [e2 k, Bool.or_false]) (by simp) fun fl => ⟨t, es, R1.congr fun k => ?_, h7⟩
    have := (fit_fill F1).1
    have z1 : es = #[] := Array.eq_empty_of_size_eq_zero (by omega)
    subst z1
    rw [e2 k, R1.empty k]
  · refine wp_if_neg em ?_
    try refine wpAny_bind (wpAny_pure ?_)
    unfold setRoomFor
    simp only [bind_assoc]
    refine wpAny_bind (R1.state fun ep => ?_)
    dsimp only
    cases rf : t.roomFor es2.size with
    | none =>
      simp only [pure_bind]
      refine wpAny_bind (R1.state fun ep => ?_)
      exact merge_road ne R1 h7 R2 ⟨o2, ho2, hd2⟩ he q
    | some wanted =>
      have hw : wanted ≤ 28 := by
        unfold SetTable.roomFor at rf
        split at rf
        · cases rf
          have : t.place.size = es.size := by
            simp only [SetTable.fits, Bool.and_eq_true, beq_iff_eq, decide_eq_true_eq] at F1
            exact F1.1
          omega
        · cases rf
      refine wpAny_bind (relay_ok R1 hw fun h1 t1 es1 sb1 R1' h7' de => ?_)
      have k1 : h1.get? b = s.heap.get? b := sb1.2 b fun z => ne z.symm
      refine wpAny_bind (R1'.state fun ep => ?_)
      have F1' : t1.fits es1.size = true := by
        obtain ⟨o, ep, ho, hx, hd, g, nd, m, f, r, l⟩ := R1'
        exact f
      have sz : es1.size = es.size := by
        obtain ⟨o, ep, ho, hx, hd, g, nd, m, _⟩ := R1
        obtain ⟨o', ep', ho', hx', hd', g', nd', m', _⟩ := R1'
        have := ((List.perm_ext_iff_of_nodup nd' nd).mpr fun k => (m' k).symm.trans (m k)).length_eq
        rwa [List.length_map, List.length_map, Array.length_toList, Array.length_toList] at this
      refine merge_road (s := { s with heap := h1 }) ne R1' h7' (R2.at fun o z => by rw [k1]; exact z) ⟨o2, k1.trans ho2, hd2⟩ (fun s1 Q' e q' => he s1 Q' (e.trans k1) q') fun h' n' d sb R le fr => ?_
      refine q h' n' d (sb1.trans sb) R (by omega) fun fl => fr ?_
      have := (fit_fill F1).1
      rw [(fit_fill F1').2 de]
      omega
end Se
set_option Elab.async false
set_option linter.all false
set_option maxRecDepth 100000
set_option maxHeartbeats 4000000
/-! set(x), x a list of ints -/
namespace Se
open PySem PySem.Spec PyProof.Rows L2
section
variable {P : Program} {w : World} {A : Around} {E : Value → Shared → Prop} {s : Shared}
/-- a bare set -/
abbrev bareS (w : World) : Obj := ⟨.type "set", none, .set #[] 0 (.fresh 0 0 (!w.params.followText "set-order")), #[]⟩
theorem set_of_ints {x : Addr} {its : Array Value} (ns : List Int) {Q : Value → Shared → Prop} (hh : A.handled = none) (hx : s.heap.IsList x its) (hi : IntsAre its.toList ns) (few : ns.length + 1 < scanBound)
    (q : ∀ (h2 : Heap) (tk c : Nat), SetR w h2 s.heap.objs.size (fun j => decide (j ∈ ns)) c → c ≤ ns.length → (∀ b o, s.heap.get? b = some o → h2.get? b = some o) → Q (.ref s.heap.objs.size) { s with heap := h2, toks := tk }) :
    wpAny (model P w) A (call (.type "set") [.ref x]) Q E s := by
  have sz : its.size = ns.length := by
    have l := hi.length
    rwa [Array.length_toList] at l
  obtain ⟨c, tl, mro⟩ := F.called_set.mro
  have g1 := F.called_set.made
  have g2 := F.called_set.sub
  refine wpAny_call (codeAny_of_tree ?_)
  show wpAny _ _ (callAny (.type "set") _) _ _ _
  refine wpAny_pure ⟨Code.quiet_builtin _ (by decide +kernel), codeAny_builtin F.entry_type_call ?_⟩
  rw [Around.under_plain (weight_type_call_type "set" [.ref x] []) rfl]
  have g3 := F.called_set.notType
  have g4 := F.called_set.canCreate
  have g5 := F.typeCall_set_1 (.ref x)
  repeat any_goals first | assumption | (wp_step; skip)
  refine codeAny_mono (code_set_led1 (.ref x) (E := E) (Q₁ := fun o s1 => o = .ref s.heap.objs.size ∧ s1 = { s with heap := s.heap.push (bareS w) }) ⟨rfl, rfl⟩) fun r s1 hr => ?_
  match r, hr with
  | .error e, hr => exact hr
  | .ok fl, hr =>
    match fl, hr with
    | .ret obj, hr =>
      obtain ⟨rfl, rfl⟩ := hr
      have hS : (s.heap.push (bareS w)).get? s.heap.objs.size = some (bareS w) := Heap.get?_push_size _ rfl
      have hT : Shared.TypeIs { s with heap := s.heap.push (bareS w) } (.ref s.heap.objs.size) "set" := ⟨_, hS, rfl⟩
      have g6 := F.called_set.init.lookup
      have g7 := F.called_set.init.bind (.ref s.heap.objs.size)
      repeat any_goals first | assumption | (wp_step; skip)
      refine codeAny_mono (codeAny_call_builtin (R := wants (fun r s2 => r = .none ∧ ∃ h2 tk c, s2 = { s with heap := h2, toks := tk } ∧ SetR w h2 s.heap.objs.size (fun j => decide (j ∈ ns)) c ∧ c ≤ ns.length ∧
        (∀ b o, s.heap.get? b = some o → h2.get? b = some o)) E) F.called_set.init.plain F.entry_set_init (check_set_init_1 hT ?_)) fun r2 s2 hr2 => ?_
      · obtain ⟨⟨xc, xd, xdata, xs⟩, hol, hc, nl, hdl⟩ := hx
        simp only at hc hdl
        subst hc
        subst hdl
        have k1 : (s.heap.push (bareS w)).get? x = some ⟨.type "list", xd, .seq its nl, xs⟩ := Heap.get?_push_of_some _ hol
        have l1 : (s.heap.push (bareS w)).IsList x its := ⟨_, k1, rfl, nl, rfl⟩
        have f1 := F.sub_list_set
        have f2 := F.sub_list_frozenset
        have f3 : (Value.type "list" == Value.type "dict") = false := by decide
        unfold Builtin.«set.__init__» noKeywords Builtin.Frozenset.updateFrom
        generalize hG : pyIter = It
        wp_walk
        subst hG
        refine wpAny_pyIter_list l1 ?_
        refine wpAny_bind (wpAny_runValue ?_)
        have xl : x < s.heap.objs.size := Heap.lt_size hol
        have hz : (s.heap.push (bareS w)).objs.size = s.heap.objs.size + 1 := Heap.size_push ..
        have n1 : x ≠ (s.heap.push (bareS w)).objs.size := fun z => Nat.lt_irrefl _ (Nat.lt_trans (z ▸ hz ▸ Nat.lt_succ_self _ : s.heap.objs.size < x) xl)
        have n2 : s.heap.objs.size ∉ [(s.heap.push (bareS w)).objs.size, x] := by
          intro z
          rcases List.mem_cons.mp z with z | z
          · rw [hz] at z
            exact absurd z (Nat.ne_of_lt (Nat.lt_succ_self _))
          · exact absurd (List.mem_singleton.mp z) (Nat.ne_of_gt xl)
        have it : ∀ (i : Nat) (v : Value), its[i]? = some v → ∃ k t, ns[i]? = some k ∧ v = .int k t := fun i v hv => by
          have hi2 : i < ns.length := by rw [← sz]; exact (Array.getElem?_eq_some_iff.mp hv).1
          obtain ⟨t, e⟩ := IntsAre.int_at hi i v (by rw [Array.getElem?_toList]; exact hv)
          exact ⟨ns[i], t, List.getElem?_eq_getElem hi2, by rw [e, List.getD_eq_getElem?_getD, List.getElem?_eq_getElem hi2]; rfl⟩
        refine set_update_ints ((Walks.list (by simp [hh]) _ x n1 its).toS) s.heap.objs.size n2 ns sz few it its.size 0 _ (by omega) (Nat.zero_le _) ⟨⟨_, Heap.get?_push_size _ rfl, rfl, rfl⟩, l1.push _⟩ ?_ ?_
        · exact ⟨0, Nat.le_refl 0, setR_new_at (Heap.get?_push_of_some _ hS)⟩
        · rintro ⟨h2, g, d, tk, os⟩ c2 hm hc2 R2
          obtain rfl : g = s.gens := hm.gens
          obtain rfl : d = s.drawn := hm.drawn
          obtain rfl : os = s.os := hm.os
          refine wpAny_pure ?_
          refine wpAny_pure ⟨rfl, h2, tk, c2, rfl, R2, by omega, fun b o e => ?_⟩
          have lb : b < s.heap.objs.size := Heap.lt_size e
          refine hm.heap b o ?_ (Heap.get?_push_of_some _ (Heap.get?_push_of_some _ e))
          intro z
          rcases List.mem_cons.mp z with z | z
          · exact absurd z (Nat.ne_of_lt lb)
          · have z := List.mem_singleton.mp z
            rw [hz] at z
            exact absurd z (Nat.ne_of_lt (Nat.lt_succ_of_lt lb))
      · match r2, hr2 with
        | .error e, hr2 => exact hr2
        | .ok (.ret v), hr2 =>
          obtain ⟨rfl, h2, tk, c2, rfl, R2, l2, k2⟩ := hr2
          repeat any_goals first | assumption | (wp_step; skip)
          exact q _ _ _ R2 l2 k2
end
end Se
set_option Elab.async false
set_option linter.all false
set_option maxRecDepth 100000
set_option maxHeartbeats 4000000
/-! the operator | of two sets of small ints -/
namespace Se
open PySem PySem.Spec PyProof.Rows L2
theorem entry_or : entryFor table "set.__or__" = some Builtin.«frozenset.__or__» :=
  entryFor_alias (id' := "frozenset.__or__") (by kernel_rfl) (by first | rfl | decide +kernel | (unfold String.splitOn; simp +decide [String.splitOnAux])) (by decide +kernel) (by kernel_rfl)
section
variable {P : Program} {w : World} {A : Around} {E : Value → Shared → Prop} {s : Shared} {a b : Addr} {S S2 : Int → Bool} {n n2 : Nat}
theorem anyset_ok (h : s.TypeIs (.ref a) "set") {Q : Bool → Shared → Prop} (q : Q true s) : wpAny (model P w) A (Builtin.Frozenset.isAnySet (.ref a)) Q E s := by
  unfold Builtin.Frozenset.isAnySet orM
  exact wpAny_bind (wpAny_isInstance h sub_set_self (wpAny_pure q))
theorem fresh_t {h : Heap} (w : World) : SetT w (h.push { cls := .type "set", dict := none, data := .set #[] 0 (.fresh 0 0 (!w.params.followText "set-order")) }) h.objs.size (fun _ => false) (.fresh 0 0 (!w.params.followText "set-order")) #[] :=
  ⟨_, 0, Heap.get?_push_size _ rfl, ⟨rfl, rfl, rfl⟩, rfl, (fun e he => by simp at he), (by simp), (fun k => by simp), (by rfl), List.Pairwise.nil, by
    show _ ∨ (!w.params.followText "set-order") = true
    cases w.params.followText "set-order"
    · exact .inr rfl
    · exact .inl rfl⟩
theorem newset_ok {Q : Value → Shared → Prop} (q : Q (.ref s.heap.objs.size) { s with heap := s.heap.push { cls := .type "set", dict := none, data := .set #[] 0 (.fresh 0 0 (!w.params.followText "set-order")) } }) :
    wpAny (model P w) A (newSet (.type "set")) Q E s := by
  unfold newSet setsByText
  refine wpAny_bind (wpAny_bind (wpAny_askSetting (wpAny_pure ?_)))
  dsimp only
  simp only [newObj]
  exact wpAny_bind (wpAny_alloc (wpAny_pure q))
theorem or_ok (ne : a ≠ b) (R1 : SetR w s.heap a S n) (R2 : SetR w s.heap b S2 n2) (s1 : ∀ k, S k = true → 0 ≤ k ∧ k < 7) (s2 : ∀ k, S2 k = true → 0 ≤ k ∧ k < 7) {Q : Value → Shared → Prop}
    (q : ∀ p h' n' d, s.heap.objs.size ≤ p → (∀ c o, s.heap.get? c = some o → h'.get? c = some o) → SetR w h' p (fun k => S k || S2 k) n' → n' ≤ 14 → Q (.ref p) { s with heap := h', drawn := d }) :
    wpAny (model P w) A (call (.builtin "set.__or__") [.ref a, .ref b]) Q E s := by
  obtain ⟨t1, es1, T1, _⟩ := SetT.of R1 s1
  obtain ⟨t2, es2, T2, _⟩ := SetT.of R2 s2
  have ty1 : s.TypeIs (.ref a) "set" := (R1.setOf (P := P)).typeIs
  have ty2 : s.TypeIs (.ref b) "set" := (R2.setOf (P := P)).typeIs
  refine wpAny_call_entry F.slot_set_or ty1 entry_or ?_ (F.args_set_or_2 _ _)
  show wpAny _ _ (do
    let (self, other) ← Builtin.Frozenset.slot1 "__or__" ⟨[.ref a, .ref b], []⟩
    let (l, r) := if false = true then (other, self) else (self, other)
    if !(← Builtin.Frozenset.isAnySet l <&&> Builtin.Frozenset.isAnySet r) then rule s!"frozenset.{"__or__"}.declined"; return ← ret .notImplemented
    ret (← (fun (id : String) (l : Addr) (r : Value) => do
      let result ← Builtin.Frozenset.copyOf l
      if r != .ref l then holding [result] (Builtin.Frozenset.updateFrom id (← Builtin.Frozenset.addrOf result) r)
      return result) s!"frozenset.{"__or__"}" (← Builtin.Frozenset.addrOf l) r)) _ _ s
  refine wpAny_bind (wpAny_pure ?_)
  dsimp only
  unfold andM
  refine wpAny_bind (wpAny_bind (anyset_ok ty1 ?_))
  show wpAny _ _ (Builtin.Frozenset.isAnySet (.ref b)) _ _ _
  refine anyset_ok ty2 ?_
  refine wp_if_neg (by simp) ?_
  refine wpAny_bind (wpAny_pure ?_)
  refine wpAny_bind ?_
  unfold Builtin.Frozenset.copyOf Builtin.Frozenset.baseOf
  simp only [bind_assoc]
  refine wpAny_bind (wpAny_isInstance ty1 sub_set_self ?_)
  simp only [↓reduceIte, pure_bind]
  refine wpAny_bind (newset_ok ?_)
  refine wpAny_bind (wpAny_pure ?_)
  have F0 := fresh_t (h := s.heap) w
  have n1 : s.heap.objs.size ≠ a := Nat.ne_of_gt R1.lt
  have n2 : s.heap.objs.size ≠ b := Nat.ne_of_gt R2.lt
  have kp : ∀ c o, s.heap.get? c = some o → (s.heap.push { cls := .type "set", dict := none, data := .set #[] 0 (.fresh 0 0 (!w.params.followText "set-order")) }).get? c = some o := fun c o e => Heap.get?_push_of_some _ e
  refine wpAny_bind (merge_ok n1 F0 (by show 7 ≤ 7; omega) (T1.at (kp a)) (fun s1 Q' _ q' => wpAny_pure q') fun h1 m1 d1 sb1 _ _ fr => ?_)
  obtain ⟨t3, es3, T3, h73⟩ := fr rfl
  have k1 : ∀ c o, s.heap.get? c = some o → h1.get? c = some o := fun c o e => (sb1.2 c (Nat.ne_of_lt (Heap.lt_size e))).trans (kp c o e)
  refine wp_if_pos (by simpa using fun z => ne z.symm) ?_
  refine wpAny_bind (wpAny_pure ?_)
  refine wpAny_bind (wpAny_holding ?_)
  unfold Builtin.Frozenset.updateFrom
  have T2' := T2.at (k1 b)
  have R2' := T2'.r
  refine wpAny_bind (anyset_ok (R2'.setOf (P := P)).typeIs ?_)
  refine wp_if_pos rfl ?_
  unfold Builtin.Frozenset.merge
  refine wpAny_bind (wpAny_pure ?_)
  have T2'' := T2'
  obtain ⟨o2, ep2, ho2, hx2, hd2, g2, nd2, m2, f2, r2, l2⟩ := T2''
  refine wpAny_bind (wpAny_setEpoch_of ho2 hd2 f2 ?_)
  refine merge_ok n2 T3 h73 T2' (fun s1 Q' e q' => ?_) fun h2 m2 d2 sb2 R _ _ => ?_
  · unfold Builtin.Frozenset.unchanged
    refine wpAny_bind (wpAny_setEpoch_of (e.trans ho2) hd2 f2 ?_)
    refine wp_if_neg (by simp) (wpAny_pure q')
  · refine wpAny_pure (wpAny_pure ⟨_, rfl, ?_⟩)
    have := T3.few
    have := T2.few
    exact q _ _ _ _ (Nat.le_refl _) (fun c o e => (sb2.2 c (Nat.ne_of_lt (Heap.lt_size e))).trans (k1 c o e)) R (by omega)
end

section
variable {X : Cx}
/-- set(t), t a tuple of ints -/
def rSetT (X : Cx) : List V → Hp → VK → Prop := fun xs H Q => ∃ (l : Addr) (ns : List Int), xs = [.ref l] ∧ (SqT X.K H l (ns.map V.int) ∨ SqL X.K H l (ns.map V.int)) ∧ ns.length ≤ 100 ∧
  ∀ p c, H p = none → c ≤ ns.length → Q (.ref p) (upd H p (SetO X.w p (fun j => decide (j ∈ ns)) c))
theorem cr_setT (hc : X.calm = true) : CallR X (.type "set") (rSetT X) := by
  intro pins s σ H xs us Q I r h
  obtain ⟨l, ns, rfl, hl, hn, q⟩ := h
  rw [Vals.ref1 r]
  rcases hl with hl | hl
  · obtain ⟨its, r, ht, _⟩ := I.tuple hl
    refine call_set_tupI ns (I.ok.hd hc) ht (by simpa using RZ.intsAre_vals r) (by unfold scanBound; omega) fun h' tk c R hcl k => ?_
    exact ⟨.ref _, _, I.laid (t' := tk) k (Nat.le_refl _) (setO_new R), rfl, q _ c (I.hok.fresh (Nat.le_refl _)) hcl⟩
  · obtain ⟨its, r, ht, _⟩ := I.list hl
    refine set_of_ints ns (I.ok.hd hc) ht.isList (by simpa using RZ.intsAre_vals r) (by unfold scanBound; omega) fun h' tk c R hcl k => ?_
    exact ⟨.ref _, _, I.laid (t' := tk) k (Nat.le_refl _) (setO_new R), rfl, q _ c (I.hok.fresh (Nat.le_refl _)) hcl⟩
/-- a | b, sets of small ints -/
def rOr (X : Cx) : R2 := fun x y H Q => ∃ (a b : Addr) (S S2 : Int → Bool) (n n2 : Nat), x = .ref a ∧ y = .ref b ∧ a ≠ b ∧ H a = some (SetO X.w a S n) ∧ H b = some (SetO X.w b S2 n2) ∧
  (∀ k, S k = true → 0 ≤ k ∧ k < 7) ∧ (∀ k, S2 k = true → 0 ≤ k ∧ k < 7) ∧ ∀ p n', H p = none → n' ≤ 14 → Q (.ref p) (upd H p (SetO X.w p (fun k => S k || S2 k) n'))
theorem op_or : OpR X (binaryOp .BitOr) (rOr X) := by
  intro pins s σ H x y v u Q I rx ry h
  obtain ⟨a, b, S, S2, n, n2, rfl, rfl, ne, ha, hb, s1, s2, q⟩ := h
  cases rx
  cases ry
  have R1 := setO_get I ha
  have R2 := setO_get I hb
  refine wpAny_binaryOp_same (T := "set") (id := "set.__or__") (R1.setOf (P := X.prog)).typeIs (R2.setOf (P := X.prog)).typeIs F.fills_set_or F.slot_set_or ?_
  refine or_ok ne R1 R2 s1 s2 fun p h' n' d hp k R hn => ⟨(fun z => nomatch z), ?_⟩
  exact ⟨.ref p, _, I.call (ch := []) (Un.laid k hp (I.hok.fresh hp)) (I.hok.laid k hp (setO_new R)) I.bare (fun _ z => nomatch z), rfl, q p n' (I.hok.fresh hp) hn⟩
end
end Se
namespace Py
open PySem PySem.Spec PyProof.Rows L2 Se
def small7 (l : List Int) : Bool := l.all fun k => decide (0 ≤ k) && decide (k < 7)
/-- two sets of ints below 7 put together -/
def unionI (as bs : List Int) : List Int := ((List.range 7).map fun (n : Nat) => (n : Int)).filter fun k => as.contains k || bs.contains k
def setI : D → Option (List Int)
  | .tup l => (intsD l).bind fun ns => if small7 ns && decide (ns.length ≤ 100) then some ns else none
  | .lst l => (intsD l).bind fun ns => if small7 ns && decide (ns.length ≤ 100) then some ns else none
  | _ => none
theorem setI_tup {d : D} {ns : List Int} (e : setI d = some ns) : ∃ l, (d = .tup l ∨ d = .lst l) ∧ intsD l = some ns ∧ small7 ns = true ∧ ns.length ≤ 100 := by
  have fin : ∀ l, ((intsD l).bind fun ns => if small7 ns && decide (ns.length ≤ 100) then some ns else none) = some ns → intsD l = some ns ∧ small7 ns = true ∧ ns.length ≤ 100 := fun l e1 => by
    cases q : intsD l with
    | none =>
      rw [q] at e1
      cases e1
    | some ms =>
      rw [q] at e1
      have e2 : (if small7 ms && decide (ms.length ≤ 100) then some ms else none) = some ns := e1
      split at e2
      · rename_i c
        cases e2
        rw [Bool.and_eq_true] at c
        exact ⟨rfl, c.1, of_decide_eq_true c.2⟩
      · cases e2
  cases d with
  | tup l => exact ⟨l, .inl rfl, fin l e⟩
  | lst l => exact ⟨l, .inr rfl, fin l e⟩
  | _ => cases e
theorem setI_at {G : Gl} {H : Hp} {d : D} {x : V} {ns : List Int} (e : setI d = some ns) (h : At G H d x) : ∃ a, x = .ref a ∧ (SqT G.K H a (ns.map V.int) ∨ SqL G.K H a (ns.map V.int)) ∧ small7 ns = true ∧ ns.length ≤ 100 := by
  obtain ⟨l, c, il, sl, ll⟩ := setI_tup e
  rcases c with rfl | rfl
  · cases h with
    | tup hs ht =>
      have ex := intsD_ats il ht
      subst ex
      exact ⟨_, rfl, .inl hs.t, sl, ll⟩
  · cases h with
    | lst hs ht =>
      have ex := intsD_ats il ht
      subst ex
      exact ⟨_, rfl, .inr (.inl (.inl hs)), sl, ll⟩
theorem small7_mem {l : List Int} (h : small7 l = true) (k : Int) (m : decide (k ∈ l) = true) : 0 ≤ k ∧ k < 7 := by
  have := List.all_eq_true.mp h k (of_decide_eq_true m)
  rw [Bool.and_eq_true] at this
  exact ⟨of_decide_eq_true this.1, of_decide_eq_true this.2⟩
theorem asc_one : ∀ {l m : List Int}, l.Pairwise (· < ·) → m.Pairwise (· < ·) → (∀ k, k ∈ l ↔ k ∈ m) → l = m := fun {l m} h1 h2 h => by
  refine sorted_one ((List.perm_ext_iff_of_nodup (h1.imp fun z => by omega) (h2.imp fun z => by omega)).mpr h) (h1.imp fun z => by omega) (h2.imp fun z => by omega)
theorem unionI_mem {as bs : List Int} (ha : small7 as = true) (hb : small7 bs = true) (k : Int) : k ∈ unionI as bs ↔ k ∈ as ∨ k ∈ bs := by
  unfold unionI
  rw [List.mem_filter, Bool.or_eq_true, List.contains_iff_mem, List.contains_iff_mem]
  constructor
  · exact fun z => z.2
  · intro z
    refine ⟨?_, z⟩
    have h7 : 0 ≤ k ∧ k < 7 := z.elim (fun z => small7_mem ha k (decide_eq_true z)) fun z => small7_mem hb k (decide_eq_true z)
    exact List.mem_map.mpr ⟨k.toNat, List.mem_range.mpr (by omega), by omega⟩
theorem unionI_asc (as bs : List Int) : (unionI as bs).Pairwise (· < ·) := by
  unfold unionI
  refine List.Pairwise.filter _ ?_
  decide
section
variable {X : Cx} {G : Gl} {W : WX}
def gUni (f1 f2 : Env → T D) : Env → T D := fun ρ => f1 ρ >>= fun a => opt (setI a) >>= fun as => f2 ρ >>= fun b => opt (setI b) >>= fun bs => .ret (.lst ((unionI as bs).map .int))
/-- sorted(set(a) | set(b)) -/
theorem ee_uni (hK : G.K = X.K) {a b : Expr} {f1 f2 : Env → T D} {p p1 p2 pos pos1 pos2 pos3 : Pos} (hc : X.calm = true) (hg : L2.Gl X "sorted") (hm : X.mg "sorted" = none) (hg2 : L2.Gl X "set") (hm2 : X.mg "set" = none) (ha : EE X G W a f1) (hb : EE X G W b f2)
    (ea : starEach [a] X.env = (false, eval a X.env) :: starEach [] X.env := by rfl) (eb : starEach [b] X.env = (false, eval b X.env) :: starEach [] X.env := by rfl) :
    EE X G W (.Call (.Name "sorted" p) [.BinOp (.Call (.Name "set" p1) [a] [] pos1) .BitOr (.Call (.Name "set" p2) [b] [] pos2) pos3] [] pos) (gUni f1 f2) := by
  refine PE_imp (pe_callB (cr_sortedSet hc) hg hm boot_sorted (pa_cons (pe_op Se.op_or (pe_callTy (cr_setT hc) hg2 hm2 boot_set (pa_cons ha pa_nil ea) (he := ea)) (pe_callTy (cr_setT hc) hg2 hm2 boot_set (pa_cons hb pa_nil eb) (he := eb))) pa_nil)) fun σ H Q q => ?_
  obtain ⟨n, ρ, hd, R, q⟩ := q
  refine ⟨n, ρ, hd, R, T.wp_imp (wp_then q) fun da n1 q1 x H1 e1 h1 => ?_⟩
  obtain ⟨as, ea', q3⟩ := wp_opt (wp_then q1)
  obtain ⟨a1, rfl, hs1, sl, ll⟩ := setI_at ea' h1
  refine ⟨_, as, rfl, hs1.imp (fun z => hide_sub.sqT (hK ▸ z)) (fun z => hide_sub.sqL (hK ▸ z)), ll, fun p1 c1 hp1 hc1 => ?_⟩
  have n1 : ¬ hd p1 := (R.good.lead e1).fresh hp1
  have L1 := e1.trans (Lead.new (G := G) (o := SetO X.w p1 (fun j => decide (j ∈ as)) c1) hp1)
  refine ⟨_, ρ, hd, R.lead L1, T.wp_mono (wp_then q3) (fun db n2 q4 y H2 e2 h2 => ?_) fun c l n2 z => xE.lead z L1⟩
  obtain ⟨bs, eb', q5⟩ := wp_opt (wp_then q4)
  obtain ⟨a2', rfl, hs2, sm, lm⟩ := setI_at eb' h2
  refine ⟨_, bs, rfl, hs2.imp (fun z => hide_sub.sqT (hK ▸ z)) (fun z => hide_sub.sqL (hK ▸ z)), lm, fun p2 c2 hp2 hc2 => ?_⟩
  have a2 : H2 p1 = some (SetO X.w p1 (fun j => decide (j ∈ as)) c1) := e2.ex p1 _ (fun z => n1 (R.m _ z)) (fun _ z => nomatch z) upd_same
  have ne : p1 ≠ p2 := fun z => by
    rw [z] at a2
    rw [hp2] at a2
    cases a2
  refine ⟨p1, p2, _, _, c1, c2, rfl, rfl, ne, (upd_ne ne).trans a2, upd_same, small7_mem sl, small7_mem sm, fun p3 n3 hp3 hn3 => ?_⟩
  refine ⟨p3, _, n3, rfl, upd_same, by omega, fun ns p4 asc mem len hp4 => ?_⟩
  have en : ns = unionI as bs := asc_one asc (unionI_asc as bs) fun k => by
    rw [mem k, unionI_mem sl sm, Bool.or_eq_true, decide_eq_true_eq, decide_eq_true_eq]
  subst en
  have L2 := (L1.trans e2).trans ((Lead.new (o := SetO X.w p2 (fun j => decide (j ∈ bs)) c2) hp2).trans ((Lead.new hp3).trans (Lead.new (o := HO.lst ((unionI as bs).map V.int)) hp4)))
  exact q5 _ _ L2 (.lst ((R.lead ((L1.trans e2).trans ((Lead.new (o := SetO X.w p2 (fun j => decide (j ∈ bs)) c2) hp2).trans (Lead.new hp3)))).good.seen hp4) (ats_ints _))
end
end Py
set_option Elab.async false
set_option linter.all false
set_option maxRecDepth 100000
set_option maxHeartbeats 4000000
/-! sorted(xs, key=lambda x: (len(x), x)) -/
namespace Sk
open PySem PySem.W PySem.Spec PySem.Calls PyProof.Rows L2 LamX
section
variable {prog : Program} {w : World} {A : Around} {s : Shared}
/-- what a call of the lambda sees -/
structure Sees (mg : Str → Option Value) (f c' : Addr) (q x : Str) (ps : Arguments) (b : Expr) (sc : Scope) (pm ctv : Value) (cl : List (Str × Addr)) (h : Heap) : Prop where
  f : h.get? f = some (kla_obj "<lambda>" q ps b sc cl pm c' ctv)
  c : ∃ oc vs t, h.get? c' = some oc ∧ oc.data = .fields vs ∧ vs[1]? = some (.str q t)
  g : h.Ns mainGlobals mg
  b : ∃ mb, h.Ns builtinsNs mb ∧ mb (Str.ofString "len") = some (.builtin "len")
  lim : h.NoLimit
theorem Sees.at {mg : Str → Option Value} {f c' : Addr} {q x : Str} {ps : Arguments} {b : Expr} {sc : Scope} {pm ctv : Value} {cl : List (Str × Addr)} {h h' : Heap} (S : Sees mg f c' q x ps b sc pm ctv cl h) (k : ∀ b o, h.get? b = some o → h'.get? b = some o) : Sees mg f c' q x ps b sc pm ctv cl h' := by
  obtain ⟨oc, vs, t, h1, h2, h3⟩ := S.c
  obtain ⟨mb, b1, b2⟩ := S.b
  exact ⟨k _ _ S.f, ⟨oc, vs, t, k _ _ h1, h2, h3⟩, S.g.keeps k, ⟨mb, b1.keeps k, b2⟩, S.lim.keeps k⟩
theorem turn {mg : Str → Option Value} {f c' : Addr} {q x : Str} {ps : Arguments} {sc : Scope} {pm ctv : Value} {cl : List (Str × Addr)} {p1 p2 p3 p4 p5 : Pos} {x1} {v : Value} {xs : List PyData}
    (S : Sees mg f c' q x ps (.Tuple [.Call (.Name (Str.ofString "len") p1) [.Name x p2] [] p3, .Name x p4] x1 p5) sc pm ctv cl s.heap) (hroom : A.depth < recursionLimit)
    (co : sc.isCoroutine = false) (gen : sc.isGenerator = false) (kd : sc.kind = .function) (nc : ∀ y ∈ sc.names, y.2 ≠ .cell) (hx : sc.names.lookup x = some .local) (hlen : (envX q sc 0 f (.ref c') cl).kindOf (Str.ofString "len") = some .globalImplicit) (hm : mg (Str.ofString "len") = none) (hdx : (x == ("__debug__" : Str)) = false)
    (bd : bindArgs (kla_fn "<lambda>" q ps (.Tuple [.Call (.Name (Str.ofString "len") p1) [.Name x p2] [] p3, .Name x p4] x1 p5) sc cl pm (.ref c') ctv) ⟨[v], []⟩ = pure [(x, v)])
    (r : Reads s.heap v (.tuple xs) []) (hfew : xs.length ≤ 100000) : wpAny (model prog w) A (call (.ref f) [v]) (KeyPure (.tuple [.int xs.length, .tuple xs]) s) (fun _ _ => False) s := by
  obtain ⟨oc, vs, t, e1, e2, e3⟩ := S.c
  refine wpAny_call (kla_callFunE hroom S.f rfl co gen rfl ⟨c', oc, vs, t, rfl, e1, e2, e3⟩ ?_)
  rw [bd]
  refine wpAny_pure (wpAny_newFunctionEnv (fun y hy => nc y hy) (fun y hy => by
    rw [List.mem_singleton] at hy
    rw [hy]
    exact hx) (fun h₁ hns hsb => ⟨S.lim.fresh _ hsb, ?_⟩) kd)
  have k : ∀ b o, s.heap.get? b = some o → h₁.get? b = some o := fun b o e => hsb.extBut b o (Nat.ne_of_lt (Heap.lt_size e)) (Heap.get?_push_of_some _ e)
  have S1 := S.at k
  show codeAny _ _ (.expr _ (envX q sc s.heap.objs.size f (.ref c') cl)) _ _
  have r1 : Reads h₁ v (.tuple xs) [] := PyProof.Rows.Reads.keeps k r
  obtain ⟨mb, b1, b2⟩ := S1.b
  have nameX : ∀ {p : Pos} {E : Value → Shared → Prop} {Q : Value → Shared → Prop} {g} {d} {tk} {o}, Q v ⟨h₁, g, d, tk, o⟩ → wpAny (model prog w) (A.deeper (envX q sc s.heap.objs.size f (.ref c') cl)) (eval (.Name x p) (envX q sc s.heap.objs.size f (.ref c') cl)) Q E ⟨h₁, g, d, tk, o⟩ := fun hq =>
    wpAny_Name (wpAny_loadName_local kd hx hns (by show List.lookup x [(x, v)] = some v; simp [List.lookup]) hq) hdx
  have r0 := r
  cases r1 with
  | @tuple a o vs n _ _ h1 h2 h3 h4 =>
    have hl : vs.size = xs.length := by simpa using PySem.SeqAt.ReadsAll.length _ _ _ h4
    refine kla_codeExpr (wpAny_Tuple_spliced (args_cons (Call_ (Name_function_global kd hlen (loadGlobal_builtin S1.g hm b1 b2 (callWith_builtin1 (args_cons (nameX (args_nil (PyProof.Rows.len_tuple ⟨o, h1, h2, n, h3⟩ (by rw [hl]; omega) ?_)))))))))) 
    refine args_cons (nameX (args_nil ⟨by show 2 ≤ sizeLine; decide, ?_⟩))
    refine ⟨_, _, rfl, fun b o e => Heap.get?_push_of_some _ (k b o e), ?_⟩
    refine .tuple (as := [] ++ ([] ++ [])) (Heap.get?_push_size _ rfl) rfl rfl (.cons ?_ (.cons (PyProof.Rows.Reads.keeps (fun b o e => Heap.get?_push_of_some _ (k b o e)) r0) .nil))
    rw [show (vs.size : Int) = (xs.length : Int) by rw [hl]]
    exact .int _ _
end
end Sk

namespace Py
open PySem PySem.Spec PyProof.Rows L2
/-! ### sorted by keys -/
def insB (le : D → D → Bool) (x : D) : List D → List D
  | [] => [x]
  | y :: l => if le x y then x :: y :: l else y :: insB le x l
def isortB (le : D → D → Bool) : List D → List D
  | [] => []
  | x :: l => insB le x (isortB le l)
section
variable {le : D → D → Bool}
theorem insB_perm (x : D) : ∀ l : List D, (insB le x l).Perm (x :: l)
  | [] => List.Perm.refl _
  | y :: l => by
    unfold insB
    by_cases h : le x y = true
    · rw [if_pos h]
    · rw [if_neg h]
      exact ((insB_perm x l).cons y).trans (List.Perm.swap x y l)
theorem isortB_perm : ∀ l : List D, (isortB le l).Perm l
  | [] => List.Perm.refl _
  | x :: l => (insB_perm x _).trans ((isortB_perm l).cons x)
theorem insB_sorted (T : PySem.W.TotalLe le) (x : D) : ∀ {l : List D}, l.Pairwise (fun a b => le a b = true) → (insB le x l).Pairwise (fun a b => le a b = true)
  | [], _ => List.pairwise_singleton ..
  | y :: l, h => by
    have h' := List.pairwise_cons.mp h
    unfold insB
    by_cases c : le x y = true
    · rw [if_pos c]
      refine List.pairwise_cons.mpr ⟨fun z hz => ?_, h⟩
      rcases List.mem_cons.mp hz with rfl | hz
      · exact c
      · exact T.trans x y z c (h'.1 z hz)
    · rw [if_neg c]
      refine List.pairwise_cons.mpr ⟨fun z hz => ?_, insB_sorted T x h'.2⟩
      rcases List.mem_cons.mp ((insB_perm x l).mem_iff.mp hz) with rfl | hz
      · exact (T.total z y).resolve_left c
      · exact h'.1 z hz
theorem isortB_sorted (T : PySem.W.TotalLe le) : ∀ l : List D, (isortB le l).Pairwise (fun a b => le a b = true)
  | [] => List.Pairwise.nil
  | x :: l => insB_sorted T x (isortB_sorted T l)
theorem insB_filter (T : PySem.W.TotalLe le) (c x : D) : ∀ l : List D, l.Pairwise (fun a b => le a b = true) → (insB le x l).filter (PySem.W.sameRank le c) = (x :: l).filter (PySem.W.sameRank le c)
  | [], _ => rfl
  | y :: l, h => by
    have h' := List.pairwise_cons.mp h
    unfold insB
    by_cases q : le x y = true
    · rw [if_pos q]
    · rw [if_neg q]
      have ih := insB_filter T c x l h'.2
      by_cases hx : PySem.W.sameRank le c x = true
      · have hy : ¬ PySem.W.sameRank le c y = true := fun z => by
          unfold PySem.W.sameRank at z hx
          rw [Bool.and_eq_true] at z hx
          exact q (T.trans x c y hx.2 z.1)
        rw [List.filter_cons_of_neg hy, ih, List.filter_cons_of_pos hx, List.filter_cons_of_pos hx, List.filter_cons_of_neg hy]
      · rw [List.filter_cons_of_neg hx] at ih ⊢
        by_cases hy : PySem.W.sameRank le c y = true
        · rw [List.filter_cons_of_pos hy, List.filter_cons_of_pos hy, ih]
        · rw [List.filter_cons_of_neg hy, List.filter_cons_of_neg hy, ih]
theorem isortB_filter (T : PySem.W.TotalLe le) (c : D) : ∀ l : List D, (isortB le l).filter (PySem.W.sameRank le c) = l.filter (PySem.W.sameRank le c)
  | [] => rfl
  | x :: l => by
    show (insB le x (isortB le l)).filter _ = _
    rw [insB_filter T c x _ (isortB_sorted T l)]
    by_cases hx : PySem.W.sameRank le c x = true
    · rw [List.filter_cons_of_pos hx, List.filter_cons_of_pos hx, isortB_filter T c l]
    · rw [List.filter_cons_of_neg hx, List.filter_cons_of_neg hx, isortB_filter T c l]
theorem isortB_eq (T : PySem.W.TotalLe le) (l : List D) : isortB le l = l.mergeSort le := PySem.W.sort_unique T (isortB_sorted T l) fun c => isortB_filter T c l
end
/-! ### keys (len(x), x) -/
def tlen : D → Nat
  | .tup l => l.length
  | _ => 0
def kd (d : D) : PyData := .tuple [.int ((tlen d : Nat) : Int), pd d]
def leK (a b : D) : Bool := !PySem.W.dataLt (kd b) (kd a)
theorem leK_eq : leK = PySem.W.dataLe false kd := rfl
theorem leK_total : PySem.W.TotalLe leK := PySem.W.sortLe_total (PyProof.Rows.listOrd PyProof.Rows.itemOrd) false fun b => PySem.W.keyToks (kd b)
mutual
/-- tuples and plain values -/
def frzP : PyData → Bool
  | .none => true
  | .bool _ => true
  | .int _ => true
  | .str _ => true
  | .tuple l => frzPs l
  | _ => false
def frzPs : List PyData → Bool
  | [] => true
  | d :: l => frzP d && frzPs l
end
mutual
theorem frz_reads {h : Heap} : ∀ {p : PyData} {v : Value} {as : List Addr}, Reads h v p as → frzP p = true → as = []
  | _, _, _, .none, _ => rfl
  | _, _, _, .bool _, _ => rfl
  | _, _, _, .int _ _, _ => rfl
  | _, _, _, .str _ _, _ => rfl
  | _, _, _, .list _ _ _ _, e => by cases e
  | _, _, _, .tuple _ _ _ r, e => frz_readsAll r e
  | _, _, _, .dict _ _ _ _ _, e => by cases e
theorem frz_readsAll {h : Heap} : ∀ {ps : List PyData} {vs : List Value} {as : List Addr}, ReadsAll h vs ps as → frzPs ps = true → as = []
  | _, _, _, .nil, _ => rfl
  | _, _, _, .cons r t, e => by
    unfold frzPs at e
    rw [Bool.and_eq_true] at e
    rw [frz_reads r e.1, frz_readsAll t e.2]
    rfl
end
def sortLOk (l : List D) : Bool :=
  decide (l.length ≤ 10000) && l.all fun a => decide (tlen a ≤ 100000) && ((pyD a).isSome && (isTupP (pd a) && (frzP (pd a) && (decide ((pd a).depth ≤ 40) && l.all fun b => PySem.W.alike (pd a) (pd b)))))
structure SortLOk (l : List D) : Prop where
  len : l.length ≤ 10000
  each : ∀ d ∈ l, tlen d ≤ 100000 ∧ pyD d = some (pd d) ∧ isTupP (pd d) = true ∧ frzP (pd d) = true ∧ (pd d).depth ≤ 40
  alike : ∀ a ∈ l, ∀ b ∈ l, PySem.W.alike (pd a) (pd b) = true
theorem sortLOk_of {l : List D} (h : sortLOk l = true) : SortLOk l := by
  unfold sortLOk at h
  simp only [Bool.and_eq_true, decide_eq_true_eq, List.all_eq_true] at h
  obtain ⟨h1, h2⟩ := h
  refine ⟨h1, fun d hd => ?_, fun a ha b hb => (h2 a ha).2.2.2.2.2 b hb⟩
  obtain ⟨q1, q2, q3, q4, q5, _⟩ := h2 d hd
  refine ⟨q1, ?_, q3, q4, q5⟩
  unfold pd
  cases e : pyD d with
  | none =>
    rw [e] at q2
    cases q2
  | some p => rfl
theorem tlen_len {d : D} (e : pyD d = some (pd d)) (t : isTupP (pd d) = true) : ∃ xs, pd d = .tuple xs ∧ xs.length = tlen d := by
  cases d with
  | tup l =>
    have e1 : (pyDs l).map PyData.tuple = some (pd (.tup l)) := e
    cases q : pyDs l with
    | none =>
      rw [q] at e1
      cases e1
    | some r =>
      rw [q] at e1
      refine ⟨r, (Option.some.inj e1).symm, ?_⟩
      have len : ∀ (l : List D) (r : List PyData), pyDs l = some r → r.length = l.length := by
        intro l
        induction l with
        | nil =>
          intro r h
          cases h
          rfl
        | cons x l ih =>
          intro r h
          have h1 : (match pyD x, pyDs l with
            | some a, some r => some (a :: r)
            | _, _ => none) = some r := h
          cases q1 : pyD x with
          | none =>
            rw [q1] at h1
            cases h1
          | some a =>
            rw [q1] at h1
            cases q2 : pyDs l with
            | none =>
              rw [q2] at h1
              cases h1
            | some r' =>
              rw [q2] at h1
              cases h1
              show r'.length + 1 = l.length + 1
              rw [ih r' q2]
      exact len l r q
  | lst l =>
    have e1 : (pyDs l).map PyData.list = some (pd (.lst l)) := e
    cases q : pyDs l with
    | none =>
      rw [q] at e1
      cases e1
    | some r =>
      rw [q] at e1
      have e2 := Option.some.inj e1
      rw [← e2] at t
      cases t
  | non => cases t
  | bl b => cases t
  | int i => cases t
  | str x => cases t
  | _ => cases e

structure LkS (x : Str) (sc : Scope) : Prop where
  kind : sc.kind = .function
  co : sc.isCoroutine = false
  gen : sc.isGenerator = false
  nc : ∀ y ∈ sc.names, y.2 ≠ .cell
  nf : ∀ y ∈ sc.names, y.2 ≠ .free
  hx : sc.names.lookup x = some .local
  hl : (PySem.W.envX "" sc 0 0 .none []).kindOf (Str.ofString "len") = some .globalImplicit
  db : (x == ("__debug__" : Str)) = false
def sortedL : D → Option D
  | .lst l => if sortLOk l = true then some (.lst (isortB leK l)) else none
  | _ => none
def gSortL (f : Env → T D) : Env → T D := fun ρ => f ρ >>= fun d => opt (sortedL d)
theorem sortedL_lst {d r : D} (e : sortedL d = some r) : ∃ l, d = .lst l ∧ SortLOk l ∧ r = .lst (isortB leK l) := by
  cases d with
  | lst l =>
    have e1 : (if sortLOk l = true then some (D.lst (isortB leK l)) else none) = some r := e
    by_cases c : sortLOk l = true
    · rw [if_pos c] at e1
      exact ⟨l, rfl, sortLOk_of c, (Option.some.inj e1).symm⟩
    · rw [if_neg c] at e1
      cases e1
  | _ => cases e
section
variable {X : Cx} {G : Gl} {W : WX}
open PySem.W in
/-- sorted(e, key=lambda x: (len(x), x)) -/
theorem ee_sortL {x : Str} {e : Expr} {f : Env → T D} {ps : Arguments} {sc : Scope} {c P : Addr} {k : Nat} {p p1 p2 p3 p4 p5 lpos kpos pos : Pos} {x1} (hK : G.K = X.K) (hc : X.calm = true) (hg : L2.Gl X "sorted") (hm : X.mg "sorted" = none) (hml : X.mg (Str.ofString "len") = none) (ha : EE X G W e f)
    (TB : LamX.TabB X.base X.mg c P) (hcode : X.env.code = .ref c) (hmT : (P, lq X) ∈ G.tb) (hu : ∀ p ∈ G.tb, p.1 = P → p.2 = lq X) (hr : Room k X.A) (hdef : defaultsOf ps X.env = ([], [])) (S : LkS x sc)
    (bd : ∀ (q : Str) (b : Expr) (cl : List (Str × Addr)) (pm cv ctv v : Value), bindArgs (PySem.W.kla_fn "<lambda>" q ps b sc cl pm cv ctv) ⟨[v], []⟩ = pure [(x, v)])
    (he0 : starEach [e] X.env = (false, eval e X.env) :: starEach [] X.env := by rfl) (he : backTo pos (starEach [e] X.env) = (false, eval e X.env) :: backTo pos (starEach [] X.env) := by rfl) (hpl : (backTo pos (starEach [e] X.env)).any (·.1) = false := by rfl) :
    EE X G W (.Call (.Name "sorted" p) [e] [⟨some "key", .Lambda ps (.Tuple [.Call (.Name (Str.ofString "len") p1) [.Name x p2] [] p3, .Name x p4] x1 p5) sc lpos, kpos⟩] pos) (gSortL f) := by
  refine ⟨fun pins s σ H Q I h => ?_⟩
  obtain ⟨nb, ρ, hd, R, q⟩ := h
  refine wpAny_Call_Name_kw (ld_blt I hg hm boot_sorted ?_)
  have hpa : PA X [e] (tCons (tEE G W f) tNil) := pa_cons ha pa_nil he0
  refine PyProof.Rows.callWith_kw (thn (hpa.run pos pins s σ H _ I (show tCons (tEE G W f) tNil σ H (fun us H1 => ∃ nb1 d v, us = [v] ∧ Lead G nb nb1 H H1 ∧ At G (hide hd H1) d v ∧ (opt (sortedL d)).wp nb1 (fun d b' => ∀ v H', Lead G nb b' H H' → At G (hide hd H') d v → Q v H') (xE G W hd σ nb H)) from ?_)) fun us s1 ⟨vs, H1, I1, r1, q1⟩ => ?_) he hpl rfl rfl
  · refine ⟨nb, ρ, hd, R, T.wp_imp (wp_then q) fun d nb1 q1 v H1 e1 h1 => ?_⟩
    exact ⟨nb1, d, v, rfl, e1, h1, q1⟩
  · obtain ⟨nb1, d, v, rfl, e1, h1, q1⟩ := q1
    obtain ⟨r, er, q2⟩ := wp_opt q1
    obtain ⟨l, rfl, ok, rfl⟩ := sortedL_lst er
    show wpAny _ _ (evalAll [do let v ← eval (.Lambda ps (.Tuple [.Call (.Name (Str.ofString "len") p1) [.Name x p2] [] p3, .Name x p4] x1 p5) sc lpos) X.env; standAt pos; pure v]) _ _ s1
    refine wpAny_evalAll_cons (wpAny_bind (LamX.lam_make2 I1 TB hcode hmT hu (G.tabs _ H1 (R.lead e1).j) hdef (fun y hy z => absurd z (S.nf y hy)) fun f' c' pm' ct' H2 s2 I2 eN T1 ho nf nfr hco => wpAny_bind (wpAny_standAt (wpAny_pure (wpAny_evalAll_nil ?_)))))
    have e2 : Lead G nb1 nb1 H1 H2 := ⟨fun b o _ t e => eN b o e t, fun j => G.lam _ H1 H2 j eN T1⟩
    have h2 := h1.mono (e2.hide R.m)
    show wpAny _ _ (call (.builtin "sorted") us [(Str.ofString "key", .ref f')]) _ _ s2
    cases h2 with
    | @lst _ a ys hs hy =>
      obtain ⟨its, rv, hl, hz⟩ := I2.list (.inl (.inl (hide_sub _ _ hs)))
      obtain ⟨u, rfl, ru⟩ := vals1 r1
      obtain rfl : u = Value.ref a := ru
      have e : PySem.W.EachIs (RD G (hide hd H2)) its l := each_in hy rv
      have hll : its.length = l.length := by rw [← rv.length, hy.length]
      have each : ∀ (v : Value) (d : D), RD G (hide hd H2) v d → d ∈ l → ∃ xs, pd d = .tuple xs ∧ xs.length = tlen d ∧ Reads s2.heap v (.tuple xs) [] := fun v d ⟨z, r1, h1⟩ hm => by
        obtain ⟨k1, k2, k3, k4, k5⟩ := ok.each d hm
        obtain ⟨xs, ex, el⟩ := tlen_len k2 k3
        obtain ⟨as, r⟩ := Dp.reads I2 _ z v (dp_of hK h1 k2) r1
        have e0 := frz_reads r k4
        subst e0
        rw [ex] at r
        exact ⟨xs, ex, el, r⟩
      have kde : ∀ d, kd d = .tuple [.int ((tlen d : Nat) : Int), pd d] := fun _ => rfl
      obtain ⟨mb, mb1, mb2⟩ := I2.mod.blt
      have sees : Sk.Sees X.mg f' c' (lq X) x ps (.Tuple [.Call (.Name (Str.ofString "len") p1) [.Name x p2] [] p3, .Name x p4] x1 p5) sc pm' ct' (cloFrom X.env.cells sc.names []) s2.heap := by
        obtain ⟨⟨oc, vs, t, hoc, hdc, hvc⟩, _⟩ := I2.hok c' _ hco
        exact ⟨ho, ⟨oc, vs, t, hoc, hdc, hvc⟩, I2.mod.glob.keeps I2.bk, ⟨mb, mb1.keeps I2.bk, mb2 _ (by decide)⟩, I2.mod.nolimit.keeps I2.bk⟩
      refine PySem.W.sorted_key_data (b := false) kd hl.isList e (fun x hx y hy => ?_) (PySem.W.Sortable.tuples fun _ => ⟨_, _, rfl⟩) (Nat.le_trans ok.len (by decide)) (fun d hd' => ?_) (PyProof.Rows.ksk_s1 _ _) (fun _ => PyProof.Rows.ksk_l1 _ _) (fun _ => PyProof.Rows.ksk_t1 _ _)
        (fun v d hR hm h tk kp => ?_) fun out c0 h' tk kp hf hD lo eo => ?_
      · obtain ⟨a, ha, rfl⟩ := List.mem_map.mp hx
        obtain ⟨b, hb, rfl⟩ := List.mem_map.mp hy
        have := ok.alike a ha b hb
        simp [kd, PySem.W.alike, PySem.W.alikeAll, this]
      · have := (ok.each d hd').2.2.2.2
        have hr' := hr.un
        have : (kd d).depth ≤ 41 := by
          rw [kde]
          simp [PyData.depth, PyData.depthAll]
          omega
        omega
      · obtain ⟨xs, ex, el, r⟩ := each v d hR hm
        have := Sk.turn (prog := X.prog) (w := X.w) (A := X.A.in1.in1) (s := { s2 with heap := h, toks := tk }) (xs := xs) (sees.at kp) (by
          have := hr.dp
          show X.A.depth < _
          omega) S.co S.gen S.kind S.nc S.hx S.hl hml S.db (bd _ _ _ _ _ _ _) (PyProof.Rows.Reads.keeps kp r) (by rw [el]; exact (ok.each d hm).1)
        rw [kde, ex, ← el]
        exact this
      · rw [← leK_eq, ← isortB_eq leK_total] at eo
        obtain ⟨zs, z1, z2⟩ := each_out eo
        have hzl : zs.length ≤ sizeLine := by
          rw [← z2.length, (isortB_perm l).length_eq]
          exact Nat.le_trans ok.len (by decide)
        have fr := I2.hok.fresh (Nat.le_succ s2.heap.objs.size)
        refine ⟨.ref _, upd H2 (s2.heap.objs.size + 1) (.lst zs), I2.laid (t' := tk) kp (Nat.le_succ _) ⟨hzl, _, c0, z1, hD⟩, rfl, q2 _ _ (e1.trans (e2.trans (Lead.new fr))) (.lst ((R.lead (e1.trans e2)).good.seen fr) (z2.mono ((R.lead (e1.trans e2)).good.old fr)))⟩
end
end Py
set_option Elab.async false
set_option linter.all false
set_option maxRecDepth 100000
set_option maxHeartbeats 4000000
/-! xs.append(ys.pop(e)), both own lists -/
namespace Py
open PySem PySem.Spec PyProof.Rows L2
section
variable {X : Cx} {G : Gl} {W : WX} {hs : Hid}
theorem Ats.eraseIdx {G : Gl} {H : Hp} : ∀ {l : List D} {xs : List V} (n : Nat), Ats G H l xs → Ats G H (l.eraseIdx n) (xs.eraseIdx n)
  | _, _, _, .nil => .nil
  | _, _, 0, .cons _ r => r
  | _, _, n + 1, .cons h r => .cons h (Ats.eraseIdx n r)
end
end Py
set_option Elab.async false
set_option linter.all false
set_option maxRecDepth 100000
set_option maxHeartbeats 4000000
/-! i ** j, xs[::-1], len(range(n)) -/
namespace Py
open PySem PySem.Spec PyProof.Rows L2
section
variable {X : Cx} {G : Gl} {W : WX}
def bkwD : D → Option D
  | .lst l => some (.lst l.reverse)
  | _ => none
def gRev (f : Env → T D) : Env → T D := fun ρ => f ρ >>= fun d => opt (bkwD d)
theorem ats_rev {G : Gl} {H : Hp} : ∀ {l : List D} {xs : List V}, Ats G H l xs → Ats G H l.reverse xs.reverse
  | _, _, .nil => .nil
  | _, _, .cons h r => by
    rw [List.reverse_cons, List.reverse_cons]
    exact (ats_rev r).append (.cons h .nil)
theorem ee_revL (hK : G.K = X.K) {e : Expr} {f : Env → T D} {k : Nat} {p1 p2 p3 pos : Pos} (he : EE X G W e f) : EE X G W (.Subscript e (.Slice none none (some (.UnaryOp .USub (.Constant (.int 1) k p1) p2)) p3) pos) (gRev f) := by
  refine PE_imp (pe_revL he) fun σ H Q q => ?_
  obtain ⟨nb, ρ, hd, R, q⟩ := q
  refine ⟨_, ρ, hd, R, T.wp_imp (wp_then q) fun d _ q1 x H1 e1 h1 => ?_⟩
  obtain ⟨r, er, q2⟩ := wp_opt q1
  cases d with
  | lst l =>
    cases er
    cases h1 with
    | @lst _ a xs h2 h3 =>
      have g := R.good.lead e1
      exact ⟨a, xs, rfl, .inl (.inl (hide_sub _ _ h2)), fun p hp => q2 _ _ (e1.trans (Lead.new hp)) (.lst (g.seen hp) ((ats_rev h3).mono (g.old hp)))⟩
  | _ => cases er
end
end Py
set_option Elab.async false
set_option linter.all false
set_option maxRecDepth 100000
set_option maxHeartbeats 4000000
/-! {k: v for ..}, the keys tuples -/
namespace Py
open PySem PySem.Spec PyProof.Rows L2
section
variable {X : Cx} {pins : List (Addr × Obj)} {σ : L2.St} {H : Hp} {s : Shared} {a b : Addr} {ps : List (NestedKey × Addr × V)} {k : NestedKey} {E : Value → Shared → Prop}
theorem nroom0 {P : Program} {w : World} {A : Around} (hu : A.units + 64 < cLine) : (nestedKind P w).room A := by
  show A.units + _ < cLine
  omega
theorem n_dictSet {A : Around} {v : V} {r : Value} {Q : Unit → Shared → Prop} (hu : A.units + 64 < cLine) (I : Inv X pins σ H s) (e : IsDN X.prog X.w H a ps) (ok : KeysOk X.K H ps) (hk : NKat X.K H k (.ref b)) (h8 : k.depth ≤ 8) (rv : RelV v r) (hl : ps.length < sizeLine)
    (h : ∀ s', Inv X pins σ (upd H a (DN X.prog X.w a (storeA ps k b v))) s' → Q () s') : wpAny (model X.prog X.w) A (dictSet a (.ref b) r) Q E s := by
  obtain ⟨z, hd, xs, rel, dd⟩ := dn_of I e.r ok
  have hz : xs.length ≤ sizeLine := by rw [← Paired.length rel]; exact z
  refine wpAny_dictSet_heap (hsz := hz) (nroom0 hu) ⟨hk.is I rfl, h8⟩ dd fun h' dd' hs => h _ ?_
  obtain ⟨q, es, ep, hq, h2, h3, h4, _, h5⟩ := dd'
  have hl2 := storeA_len ps k b v
  refine d_write I (by rcases e with e | ⟨_, e⟩ <;> (rw [e]; exact True.intro)) hs ⟨q, hq⟩ ⟨⟨by omega, hd, _, rel.store rv, q, es, ep, hq, h2, h3, h4, h5⟩, ⟨q, hq⟩, fun h1 h2' ⟨z1, z2, xs', z3, o', es', ep', z4, z5⟩ kk => ⟨z1, z2, xs', z3, o', es', ep', kk _ z4, z5⟩⟩
end
section
variable {X : Cx}
/-- the dict grows by one entry with a tuple as its key -/
def Grows (X : Cx) (D : Addr) (y z : V) (H : Hp) (N : Hp → Prop) : Prop := ∃ b ps k, y = .ref b ∧ IsDN X.prog X.w H D ps ∧ KeysOk X.K H ps ∧ NKat X.K H k (.ref b) ∧ k.depth ≤ 8 ∧ ps.length < sizeLine ∧ N (upd H D (DN X.prog X.w D (storeA ps k b z)))
def tDcN (X : Cx) (wi : TI) (g : TG) (tt : TT) (tk tv : TE) (vs : List Nat) : TE := fun σ H Q => wi σ H fun J H1 => ∀ D, H1 D = none → ∃ W : Nat → Nat → Hp → Prop, (∃ m, W 0 m (upd H1 D (.dK []))) ∧ ∀ i m H, W i m H →
  (J.stop i H ∧ Q (.ref D) H) ∨ (J.go i H ∧ ∃ Nx : Hp → Prop, (∀ H', Nx H' → ∃ m', m' < m ∧ W (i + 1) m' H') ∧ ∀ x H', J.yld i H x H' → g x (wipe σ vs) H' fun σ2 H2 => wipe σ2 vs = wipe σ vs ∧ tt σ2 H2 fun b H3 =>
    if b = true then tk σ2 H3 fun y H4 => tv σ2 H4 fun z H5 => Grows X D y z H5 Nx else Nx H3)
/-- the block's run, the dict at D new -/
theorem pe_dcN {kx vx tg iter : Expr} {ifs : List Expr} {scope : Scope} {own : List (Str × Nat)} {pos : Pos} {wi : TI} {g : TG} {tt : TT} {tk tv : TE} (hu : X.A.units + 64 < cLine) (hc : X.calm = true) (hN : X.N.Nodup) (hi : PI X tg iter wi) (ok : BlkOk X.N X.env.scope scope own)
    (hg : ∀ (s : Shared) (H : Hp) (C : Addr) (cl : List (Str × Addr)) (fp : List Addr), PG (X.blk s H scope (compEnvC scope cl C X.env) fp) tg g) (ht : ∀ (s : Shared) (H : Hp) (C : Addr) (cl : List (Str × Addr)) (fp : List Addr), PTs (X.blk s H scope (compEnvC scope cl C X.env) fp) ifs tt)
    (hk : ∀ (s : Shared) (H : Hp) (C : Addr) (cl : List (Str × Addr)) (fp : List Addr), PE (X.blk s H scope (compEnvC scope cl C X.env) fp) kx tk)
    (he : ∀ (s : Shared) (H : Hp) (C : Addr) (cl : List (Str × Addr)) (fp : List Addr), PE (X.blk s H scope (compEnvC scope cl C X.env) fp) vx tv) (hs : ∀ x, foldedSetIterable iter X.env x = pure x := by intro _; rfl) :
    PE X (.DictComp kx vx [⟨tg, iter, ifs, 0⟩] scope pos) (tDcN X wi g tt tk tv (own.map (·.2))) := by
  refine ⟨fun pins s σ H Q I h => ?_⟩
  rw [arm_eval_DictComp]
  have free : ∀ y ∈ scope.names, y.2 = .free → ∃ c, X.env.cells.lookup y.1 = some c := fun y hy e => (ok.free y hy e).elim (fun k => I.ok.has _ (.inl k)) fun k => I.ok.has _ (.inr k)
  refine wpAny_comprehension_free (use := none) rfl hs (closure_ok free) ok.kind (fun y hy e => by rw [ok.uniq y hy, e]) (thn (hi.run pins s σ H _ I h) fun xv s1 hx => thn hx fun itv s2 h2 => ?_)
  obtain ⟨it, fp, tn, J, H2, e, I2, T, st2, f2, q⟩ := h2
  subst e
  refine wpAny_newObj_type (newEnv_comp ?_)
  -- the new dict
  have nD : H2 s2.heap.objs.size = none := I2.hok.fresh (Nat.le_refl _)
  obtain ⟨W, ⟨m0, w0⟩, turn⟩ := q s2.heap.objs.size nD
  have I3 : Inv X pins σ (upd H2 s2.heap.objs.size (.dK [])) { s2 with heap := s2.heap.push { cls := .type "dict", data := .dict #[] } } :=
    I2.laid (t' := s2.toks) (fun b o e => Heap.get?_push_of_some _ e) (Nat.le_refl _) (dk_empty s2.heap I2.big)
  have below : ∀ b ∈ fp, b < s2.heap.objs.size := fun b hb => Heap.lt_size (T.obj _ _ st2 b hb).choose_spec.1
  have f3 : ∀ b ∈ fp, FpOk X pins (upd H2 s2.heap.objs.size (.dK [])) b ∧ b < (s2.heap.push { cls := .type "dict", data := .dict #[] }).objs.size := fun b hb => by
    have lt := below b hb
    exact ⟨⟨by rw [upd_ne (Nat.ne_of_lt lt)]; exact (f2 b hb).1, (f2 b hb).2⟩, by rw [Heap.size_push]; exact Nat.lt_succ_of_lt lt⟩
  have st3 : tn 0 (s2.heap.push { cls := .type "dict", data := .dict #[] }) := T.keep _ _ _ st2 fun b _ o e => Heap.get?_push_of_some _ e
  have I4 := block_start I3 ok hN f3
  have nfp : ∀ b ∈ fp, (upd H2 s2.heap.objs.size (.dK [])) b = none := fun b hb => (f3 b hb).1.1
  have st4 : tn 0 (pushCells ((s2.heap.push { cls := .type "dict", data := .dict #[] }).push { cls := .type "dict", data := .dict #[] }) scope.names) := T.keep _ _ _ st3 fun b _ o e => pushCells_keeps _ _ _ _ (Heap.get?_push_of_some _ e)
  generalize hs3 : ({ s2 with heap := s2.heap.push { cls := .type "dict", data := .dict #[] } } : Shared) = s3 at I3 I4
  have h3 : s2.heap.push { cls := .type "dict", data := .dict #[] } = s3.heap := by rw [← hs3]
  rw [h3] at f3 st3 st4
  generalize hH3 : upd H2 s2.heap.objs.size (.dK []) = H3 at I3 I4 w0 nfp f3
  generalize hD : s2.heap.objs.size = D at turn ⊢
  have pg := hg s3 H3 s3.heap.objs.size (cellsFrom (s3.heap.objs.size + 1) scope.names (cloFrom X.env.cells scope.names [])) fp
  have pt := ht s3 H3 s3.heap.objs.size (cellsFrom (s3.heap.objs.size + 1) scope.names (cloFrom X.env.cells scope.names [])) fp
  have pk := hk s3 H3 s3.heap.objs.size (cellsFrom (s3.heap.objs.size + 1) scope.names (cloFrom X.env.cells scope.names [])) fp
  have pe := he s3 H3 s3.heap.objs.size (cellsFrom (s3.heap.objs.size + 1) scope.names (cloFrom X.env.cells scope.names [])) fp
  show codeAny _ _ (.compStart (.DictComp kx vx [⟨tg, iter, ifs, 0⟩] scope pos) 0 (.ref it) (.ref D) (compEnvC scope (cellsFrom (s3.heap.objs.size + 1) scope.names (cloFrom X.env.cells scope.names [])) s3.heap.objs.size X.env)) (compPost (model X.prog X.w) X.A X.xe none (EP X pins σ Q) (.ref D) s3.heap.objs.size) { s3 with heap := pushCells (s3.heap.push { cls := .type "dict", data := .dict #[] }) scope.names }
  generalize hce : compEnvC scope (cellsFrom (s3.heap.objs.size + 1) scope.names (cloFrom X.env.cells scope.names [])) s3.heap.objs.size X.env = ce at I4 pg pt pk pe ⊢
  have cL : ce.locals = s3.heap.objs.size := by subst hce; rfl
  generalize hs4 : ({ s3 with heap := pushCells (s3.heap.push { cls := .type "dict", data := .dict #[] }) scope.names } : Shared) = s4 at I4 ⊢
  have st4' : tn 0 s4.heap := by rw [← hs4]; exact st4
  have stat : ∀ {σ' : L2.St} {H' : Hp} {s' : Shared}, Inv (X.blk s3 H3 scope ce fp) [] σ' H' s' → (∀ b ∈ fp, H' b = none) → ∀ b ∈ fp, FpOk (X.blk s3 H3 scope ce fp) [] H' b := fun {σ' H' s'} I' hn b hb =>
    ⟨hn b hb, (I'.ok.exf b hb).1, I'.ok.exfs b hb, .inl hb, fun x c e => (I'.ok.exf b hb).2 x c e, fun p hp => absurd (show p ∈ ([] : List (Addr × Obj)) ++ [] from hp) (by simp)⟩
  refine (fun loop => codeAny_compStart_dict loop (T.self X.A 0 _ _ _ st4' loop)) ?_
  refine compLoop_anyD (fun n s' => ∃ i H', Inv (X.blk s3 H3 scope ce fp) [] (wipe σ (own.map (·.2))) H' s' ∧ tn i s'.heap ∧ (∀ b ∈ fp, H' b = none) ∧ W i n H') ?_ m0 ⟨0, H3, I4, st4', nfp, w0⟩
  rintro n s5 ⟨i, H5, I5, st5, n5, w5⟩
  rcases turn i n H5 w5 with ⟨stop, qq⟩ | ⟨go, Nx, hNx, step⟩
  · refine thnF (T.done (X.blk s3 H3 scope ce fp) rfl rfl rfl hc i [] s5 _ H5 (fun _ _ => False) I5 (stat I5 n5) st5 stop) fun r s6 ⟨hr, I6⟩ => ?_
    subst hr
    have I7 : Inv X pins σ H5 s6 := I3.call' (ch := fp) I6.os I6.base I6.hok I6.bare fun b hb => ⟨(f3 b hb).1.2.2.2.1, (f3 b hb).1.2.1, (f3 b hb).1.2.2.2.2.1, (f3 b hb).1.2.2.2.2.2⟩
    have nC : H5 s3.heap.objs.size = none := by rw [← cL]; exact I6.free
    obtain ⟨m, hn, _⟩ := I6.loc
    have hn : s6.heap.Ns ce.locals m := hn
    rw [cL] at hn
    refine ⟨m, hn, fun h'' sb => ?_⟩
    obtain ⟨k0, k1, k2, k3, k4, k5⟩ := I3.fpOk (Nat.le_refl s3.heap.objs.size) nC
    exact ⟨.ref D, H5, I7.turned (t' := s6.toks) (fun b o hb e => (sb.2 b hb).trans e) k0 k1 k3 k4 k5, rfl, qq⟩
  · refine thnF (T.item (X.blk s3 H3 scope ce fp) rfl rfl rfl hc i [] s5 _ H5 (fun _ _ => False) I5 (stat I5 n5) st5 go) fun r s6 ⟨u, hr, h6⟩ => ?_
    subst hr
    refine thnF h6 fun _ s7 ⟨x, H7, I7, r7, y7, st7, n7⟩ => ?_
    refine thnF (pg.run _ s7 _ H7 x u _ (I7.pinned (stat I7 n7) (T.obj _ _ st7)) r7 (step x H7 y7)) fun _ s8 ⟨σ8, H8, I8, hw8, q8⟩ => ?_
    refine thnF (pt.run _ s8 σ8 H8 _ I8 q8) fun b s9 ⟨H9, I9, q9⟩ => ?_
    have fin : ∀ {s' : Shared} {H' : Hp}, Inv (X.blk s3 H3 scope ce fp) ([] ++ pinsAt fp s7.heap) σ8 H' s' → Nx H' → ∃ m, m < n ∧ ∃ i H', Inv (X.blk s3 H3 scope ce fp) [] (wipe σ (own.map (·.2))) H' s' ∧ tn i s'.heap ∧ (∀ b ∈ fp, H' b = none) ∧ W i m H' := fun {s' H'} I' nx => by
      obtain ⟨m', hm, w'⟩ := hNx H' nx
      have pin' : ∀ b ∈ fp, ∀ o, s7.heap.get? b = some o → s'.heap.get? b = some o ∧ H' b = none := fun b hb o e =>
        ⟨(I'.pin (b, o) (List.mem_append_right _ (List.mem_append_right _ (mem_pinsAt hb e)))).1, (I'.pin (b, o) (List.mem_append_right _ (List.mem_append_right _ (mem_pinsAt hb e)))).2.1⟩
      refine ⟨m', hm, i + 1, H', (I'.unpinned (pins := [])).weak (by rw [← hw8, wipe_length]) (fun j v e => ?_), T.keep _ _ _ st7 fun b hb o e => (pin' b hb o e).1, fun b hb => ?_, w'⟩
      · rw [← hw8] at e
        exact (wipe_some e).1
      · obtain ⟨o, e, _⟩ := T.obj _ _ st7 b hb
        exact (pin' b hb o e).2
    cases b with
    | false =>
      simp only [Bool.false_eq_true, if_false] at q9 ⊢
      exact fin I9 q9
    | true =>
      simp only [if_true] at q9 ⊢
      refine thnF (pk.run _ s9 σ8 H9 _ I9 q9) fun z s10 ⟨yk, H10, I10, r10, q10⟩ => ?_
      refine thnF (pe.run _ s10 σ8 H10 _ I10 q10) fun z2 s11 ⟨yv, H11, I11, r11, b, ps, k, ek, hD11, ok11, nk11, d8, l11, nx⟩ => ?_
      subst ek
      cases r10
      exact n_dictSet (X := X.blk s3 H3 scope ce fp) hu I11 hD11 ok11 nk11 d8 r11 l11 fun s12 I12 => fin I12 nx
end

def putNd (ks vs : List D) (z : NestedKey) (kd x : D) : List D × List D := if (lookN ks vs z).isSome then (ks, setN ks vs z x) else (ks ++ [kd], vs ++ [x])
theorem putNd_ne (ks vs : List D) (z : NestedKey) (kd x : D) : (putNd ks vs z kd x).1.isEmpty = false := by
  unfold putNd
  cases ks with
  | nil =>
    rw [if_neg (by rw [show lookN [] vs z = none from by cases vs <;> rfl]; simp)]
    rfl
  | cons a l => split <;> rfl
def endN (ks vs : List D) : D := if ks.isEmpty then .dic [] [] else .dicN ks vs
def dcNL (b : Tg) (c : Env → T Bool) (ek ev : Env → T D) (ρ0 : Env) (ks vs : List D) : List D → T D
  | [] => .ret (endN ks vs)
  | d :: ds => opt (b d ρ0) >>= fun ρ1 => noexc (c ρ1) >>= fun t => if t = true then noexc (ek ρ1) >>= fun kd => noexc (ev ρ1) >>= fun x => (match keyT kd with
    | some z => dcNL b c ek ev ρ0 (putNd ks vs z kd x).1 (putNd ks vs z kd x).2 ds
    | none => .bad) else dcNL b c ek ev ρ0 ks vs ds
def gDcN (it : Env → T (List D)) (b : Tg) (c : Env → T Bool) (ek ev : Env → T D) (own : List Nat) : Env → T D := fun ρ => it ρ >>= fun ds => few ds (dcNL b c ek ev (wipeE ρ own) [] [] ds)
section
variable {X : Cx} {G : Gl} {W : WX} {hs : Hid}
theorem dcN_imp (hK : G.K = X.K) (hP : G.P = X.prog) (hw : G.w = X.w) {it : Env → T (List D)} {g : TG} {b : Tg} {c : Env → T Bool} {ek ev : Env → T D} {own : List (Str × Nat)} {W : WX} (ht : Tgt G g b (own.map (·.2))) {σ : L2.St} {H : Hp} {Q : VK} (q : tEE G W (gDcN it b c ek ev (own.map (·.2))) σ H Q) : tDcN X (tEI G W it) g (tET G W0 c) (tEE G W0 ek) (tEE G W0 ev) (own.map (·.2)) σ H Q := by
  obtain ⟨nb, ρ, hd, R, q⟩ := q
  refine ⟨_, ρ, hd, R, T.wp_imp (wp_then q) fun ds n1 q1 J H1 e1 hJ D0 hD => ?_⟩
  have q2 : ds.length ≤ 100000 ∧ (dcNL b c ek ev (wipeE ρ (own.map (·.2))) [] [] ds).wp n1 (fun d n' => ∀ v H', Lead G nb n' H H' → At G (hide hd H') d v → Q v H') (xE G W hd σ nb H) := wp_if q1
  obtain ⟨hlen, q2⟩ := q2
  have R1 := R.lead e1
  have nD : ¬ hd D0 := R1.fresh hD
  have nM : ¬ G.M D0 := fun m => nD (R.m D0 m)
  have x0 : Ex (hide hd H1) (hide (orIs hd D0) (upd H1 D0 (.dK []))) := fun a u z => by
    have zn := hide_nt z
    obtain ⟨n, z⟩ := hide_get z
    have np : a ≠ D0 := ne_of_none z hD
    exact hide_put (fun y => y.elim n np) (by rw [upd_ne np]; exact z) zn
  let St : Nat → Hp → Prop := fun i H' => ∃ n2 ks vs ps, IsDN X.prog X.w H' D0 ps ∧ (∃ o, H' D0 = some o ∧ notT o ∧ ∀ a φ, o ≠ LamX.CodeO a φ) ∧ KN ks ps ∧ Ats G (hide (orIs hd D0) H') ks (ps.map fun q => V.ref q.2.1) ∧ Ats G (hide (orIs hd D0) H') vs (ps.map fun q => q.2.2) ∧ ps.length ≤ i ∧ (H' D0 = if ks.isEmpty = true then some (.dK []) else some (DN X.prog X.w D0 ps)) ∧
    Rep G n2 (orIs hd D0) (wipe σ (own.map (·.2))) (wipeE ρ (own.map (·.2))) H' ∧ Ex (hide hd H1) (hide (orIs hd D0) H') ∧ Lead G n1 n2 H1 H' ∧
    (dcNL b c ek ev (wipeE ρ (own.map (·.2))) ks vs (ds.drop i)).wp n2 (fun d n' => ∀ v H2, Lead G nb n' H H2 → At G (hide hd H2) d v → Q v H2) (fun _ _ _ => True)
  refine ⟨fun i m H' => m = ds.length - i ∧ i ≤ ds.length ∧ St i H', ⟨ds.length, rfl, Nat.zero_le _, n1, [], [], [], .inr ⟨rfl, upd_same⟩, ⟨_, upd_same, (fun _ z => nomatch z), fun _ _ z => by unfold LamX.CodeO at z; cases z⟩, ⟨rfl, fun p hp => by cases hp⟩, .nil, .nil, Nat.zero_le _, (upd_same : _ = some (HO.dK [])), (R1.wipe _).more hD, x0, Lead.new hD, T.wp_mono q2 (fun r _ z => z) fun _ _ _ _ => trivial⟩, ?_⟩
  rintro i m H2 ⟨rfl, hi2, n2, ks, vs, ps, hx, hxo, kn, hak, hav, hxl, hne, R2, x2, L2', q3⟩
  obtain ⟨h1, h2⟩ := hJ i n2 (orIs hd D0) H2 x2 R2.good
  by_cases hlt : i < ds.length
  · obtain ⟨go, yl⟩ := h1 hlt
    refine .inr ⟨go, fun H' => i + 1 ≤ ds.length ∧ St (i + 1) H', fun H' z => ⟨ds.length - (i + 1), by omega, rfl, z.1, z.2⟩, fun x H3 y => ?_⟩
    obtain ⟨e3, d, hd3, ax⟩ := yl x H3 y
    have ed : ds.drop i = d :: ds.drop (i + 1) := by
      have z := List.getElem?_eq_some_iff.mp hd3
      rw [← z.2]
      exact List.drop_eq_getElem_cons hlt
    rw [ed] at q3
    obtain ⟨ρ3, eb, q3⟩ := wp_opt (wp_then q3)
    refine ht (orIs hd D0) _ _ ρ3 H3 x d _ (R2.lead e3) ax eb fun σ4 R4 w4 _ => ?_
    refine ⟨w4.trans (wipe_get (wipe_length _ _) fun k hk => wipe_out hk), _, ρ3, orIs hd D0, R4, T.wp_mono (noexc_wp (E' := fun _ _ _ => False) (wp_then q3)) (fun k _ q4 H4 e4 => ?_) fun _ _ _ z => z.elim⟩
    have x4 : Ex (hide (orIs hd D0) H2) (hide (orIs hd D0) H4) := (e3.trans e4).hide R2.m
    obtain ⟨o2, ho2, nt2, nc2⟩ := hxo
    have up : ∀ {n n' : Nat} {H' : Hp}, Lead G n n' H2 H' → H' D0 = some o2 := fun e => e.ex D0 _ nM nt2 ho2
    have isdn : ∀ {n n' : Nat} {H' : Hp}, Lead G n n' H2 H' → IsDN X.prog X.w H' D0 ps := fun e => by
      have z := up e
      rcases hx with hx | ⟨hp, hx⟩
      · rw [ho2] at hx
        exact .inl (z.trans hx)
      · rw [ho2] at hx
        exact .inr ⟨hp, z.trans hx⟩
    cases k with
    | true =>
      rw [if_pos rfl] at q4
      refine L2.iteT ?_
      refine ⟨_, ρ3, orIs hd D0, R4.lead e4, T.wp_mono (noexc_wp (E' := fun _ _ _ => False) (wp_then q4)) (fun kd _ q5 yk H5 e5 ak => ?_) fun _ _ _ z => z.elim⟩
      refine ⟨_, ρ3, orIs hd D0, (R4.lead e4).lead e5, T.wp_mono (noexc_wp (E' := fun _ _ _ => False) (wp_then q5)) (fun xd n6 q6 yv H6 e6 av => ?_) fun _ _ _ z => z.elim⟩
      cases q7 : keyT kd with
      | none =>
        rw [q7] at q6
        exact q6.elim
      | some kz =>
        rw [q7] at q6
        obtain ⟨ek1, k8, kl, rfl⟩ := keyT_some q7
        have L26 := ((e3.trans e4).trans e5).trans e6
        have x5 : Ex (hide (orIs hd D0) H2) (hide (orIs hd D0) H6) := L26.hide R2.m
        have R6 : Rep G n6 (orIs hd D0) (wipe σ (own.map (·.2))) (wipeE ρ (own.map (·.2))) H6 := R2.lead L26
        have ak6 := ak.mono (e6.hide R2.m)
        cases ak6 with
        | @tup _ bk xs s1 s2 =>
          have ak6 : At G (hide (orIs hd D0) H6) (.tup kl) (.ref bk) := .tup s1 s2
          have y6 : ∀ o, Ex (hide (orIs hd D0) H6) (hide (orIs hd D0) (upd H6 D0 o)) := fun o a u z => by
            have zn := hide_nt z
            obtain ⟨n, z⟩ := hide_get z
            exact hide_put n (by rw [upd_ne (fun y => n (.inr y))]; exact z) zn
          have pf := put_nest (k := kz) kn (hak.mono x5) (hav.mono x5) ek1 k8 ak6 av
          have len := storeA_len ps kz bk yv
          refine ⟨bk, ps, kz, rfl, isdn L26, keys_ok hK kn (hak.mono x5), nkat_of hK ak6 ek1, k8, Nat.lt_of_le_of_lt hxl (Nat.lt_of_lt_of_le (Nat.lt_of_lt_of_le hlt hlen) (by decide)), by omega, n6, (putNd ks vs kz (.tup kl) xd).1, (putNd ks vs kz (.tup kl) xd).2, storeA ps kz bk yv, .inl upd_same, ⟨_, upd_same, (fun _ z => by unfold DN at z; cases z), fun _ _ z => DN_ne z⟩, pf.1, pf.2.1.mono (y6 _), pf.2.2.mono (y6 _), by omega, (by rw [putNd_ne]; exact upd_same), ?_, ?_, ?_, q6⟩
          · refine R6.poke (.inr rfl) nM (fun k l u h6 h7 h8 => ?_) ⟨(fun _ z => by unfold DN at z; cases z), fun _ _ z => DN_ne z⟩
            rcases wipeE_own h6 with ⟨z, _⟩ | ⟨z, n⟩
            · cases z
            · have h9 : σ[k]? = some u := by
                rw [wipe_out n] at h7
                exact h7
              obtain ⟨a, e6, e7, _, ys, e8, _⟩ := R1.at_ k (.own l) u z h9
              rw [h8] at e6
              cases e6
              rw [hD] at e8
              cases e8
          · exact (x2.trans x5).trans (y6 _)
          · have L6 : Lead G _ _ H1 H6 := L2'.trans L26
            refine ⟨fun a o nm t z => ?_, fun j => G.stays _ H6 _ (L6.j j) (fun a m => upd_ne fun z => nM (by rw [← z]; exact m)) fun a φ ψ e => by
              rw [upd_ne fun z => by rw [z, up L26] at e; exact nc2 _ _ (Option.some.inj e)]
              exact e⟩
            rw [upd_ne (ne_of_none z hD)]
            exact L6.ex a o nm t z
    | false =>
      rw [if_neg Bool.false_ne_true] at q4
      refine L2.iteF ?_
      exact ⟨by omega, _, ks, vs, ps, isdn (e3.trans e4), ⟨o2, up (e3.trans e4), nt2, nc2⟩, kn, hak.mono x4, hav.mono x4, by omega, (up (e3.trans e4)).trans (ho2.symm.trans hne), R2.lead (e3.trans e4), x2.trans x4, L2'.trans (e3.trans e4), q4⟩
  · refine .inl ⟨h2 (by omega), ?_⟩
    rw [List.drop_eq_nil_of_le (by omega)] at q3
    have q3 : ∀ v H', Lead G nb n2 H H' → At G (hide hd H') (endN ks vs) v → Q v H' := q3
    refine q3 (.ref D0) H2 (e1.trans L2') ?_
    unfold endN
    cases ek : ks.isEmpty with
    | true =>
      rw [if_pos rfl]
      rw [ek, if_pos rfl] at hne
      exact .dic (kvs := []) (.inl (hide_put nD hne (fun _ z => nomatch z))) .nil .nil
    | false =>
      rw [if_neg Bool.false_ne_true]
      rw [ek, if_neg Bool.false_ne_true] at hne
      have z' : H2 D0 = some (DN G.P G.w D0 ps) := by rw [hP, hw]; exact hne
      exact .dicN (hide_put nD z' (fun _ z => by unfold DN at z; cases z)) kn (hak.mono (hide_le fun a z => .inl z)) (hav.mono (hide_le fun a z => .inl z))
theorem ee_dcN (hK : G.K = X.K) (hP : G.P = X.prog) (hw : G.w = X.w) (hu : X.A.units + 64 < cLine) {kx vx tg iter : Expr} {ifs : List Expr} {scope : Scope} {own : List (Str × Nat)} {pos : Pos} {it : Env → T (List D)} {g : TG} {b : Tg} {c : Env → T Bool} {ek ev : Env → T D} (hc : X.calm = true) (hN : X.N.Nodup) (hi : EI X G W tg iter it) (ok : BlkOk X.N X.env.scope scope own) (ht : Tgt G g b (own.map (·.2)))
    (hg : ∀ (s : Shared) (H : Hp) (C : Addr) (cl : List (Str × Addr)) (fp : List Addr), PG (X.blk s H scope (compEnvC scope cl C X.env) fp) tg g)
    (hifs : ∀ (s : Shared) (H : Hp) (C : Addr) (cl : List (Str × Addr)) (fp : List Addr), PTs0 (X.blk s H scope (compEnvC scope cl C X.env) fp) G ifs c)
    (hk : ∀ (s : Shared) (H : Hp) (C : Addr) (cl : List (Str × Addr)) (fp : List Addr), EE (X.blk s H scope (compEnvC scope cl C X.env) fp) G W0 kx ek)
    (he : ∀ (s : Shared) (H : Hp) (C : Addr) (cl : List (Str × Addr)) (fp : List Addr), EE (X.blk s H scope (compEnvC scope cl C X.env) fp) G W0 vx ev) (hs : ∀ x, foldedSetIterable iter X.env x = pure x := by intro _; rfl) :
    EE X G W (.DictComp kx vx [⟨tg, iter, ifs, 0⟩] scope pos) (gDcN it b c ek ev (own.map (·.2))) := PE_imp (pe_dcN hu hc hN hi ok hg hifs hk he hs) fun σ H Q q => dcN_imp hK hP hw ht q
end
end Py
set_option Elab.async false
set_option linter.all false
set_option maxRecDepth 100000
set_option maxHeartbeats 4000000
/-! xs == ys, lists of instances of a class with an own __eq__ -/
namespace Py
open PySem PySem.Spec PyProof.Rows L2
def isTru : T D → Bool
  | .ret (.bl true) => true
  | _ => false
theorem isTru_eq {t : T D} (h : isTru t = true) : t = .ret (.bl true) := by
  cases t with
  | ret d =>
    cases d with
    | bl b =>
      cases b with
      | true => rfl
      | false => cases h
    | _ => cases h
  | _ => cases h
/-- two instances of the class c that the class's own __eq__ (read as m) says are equal -/
def eqOb (c : Nat) (m : List D → T D) (a b : D) : Bool := match a, b with
  | .obj c1 l1, .obj c2 l2 => decide (c1 = c) && (decide (c2 = c) && isTru (m [.obj c1 l1, .obj c2 l2]))
  | _, _ => false
def eqObs (c : Nat) (m : List D → T D) : List D → List D → Bool
  | [], [] => true
  | a :: l, b :: r => eqOb c m a b && eqObs c m l r
  | _, _ => false
theorem eqObs_len {c : Nat} {m : List D → T D} : ∀ {l r : List D}, eqObs c m l r = true → l.length = r.length
  | [], [], _ => rfl
  | a :: l, b :: r, h => by
    unfold eqObs at h
    rw [Bool.and_eq_true] at h
    rw [List.length_cons, List.length_cons, eqObs_len h.2]
  | [], _ :: _, h => by cases h
  | _ :: _, [], h => by cases h
theorem eqObs_at {c : Nat} {m : List D → T D} : ∀ {l r : List D} {i : Nat} {a b : D}, eqObs c m l r = true → l[i]? = some a → r[i]? = some b → eqOb c m a b = true
  | x :: l, y :: r, 0, a, b, h, h1, h2 => by
    unfold eqObs at h
    rw [Bool.and_eq_true] at h
    simp at h1 h2
    rw [← h1, ← h2]
    exact h.1
  | x :: l, y :: r, i + 1, a, b, h, h1, h2 => by
    unfold eqObs at h
    rw [Bool.and_eq_true] at h
    exact eqObs_at h.2 (by simpa using h1) (by simpa using h2)
  | [], _, _, _, _, _, h1, _ => by simp at h1
  | _ :: _, [], _, _, _, h, _, _ => by cases h
theorem at_obj {G : Gl} {H : Hp} {c : Nat} {l : List D} {v : V} (h : At G H (.obj c l) v) : ∃ b, v = .ref b := by
  cases h
  exact ⟨_, rfl⟩
theorem eqOb_is {c : Nat} {m : List D → T D} {a b : D} (h : eqOb c m a b = true) : ∃ l1 l2, a = .obj c l1 ∧ b = .obj c l2 ∧ m [.obj c l1, .obj c l2] = .ret (.bl true) := by
  unfold eqOb at h
  split at h
  · rename_i c1 l1 c2 l2
    simp only [Bool.and_eq_true, decide_eq_true_eq] at h
    obtain ⟨rfl, rfl, h⟩ := h
    exact ⟨l1, l2, rfl, rfl, isTru_eq h⟩
  · cases h
section
variable {X : Cx} {G : Gl} {W : WX}
/-- == of two instances, somewhere below the running body -/
theorem rc_own {k c nb : Nat} {f : Addr} {fd : FuncData} {ps : List Str} {m : List D → T D} {A : Around} {pins : List (Addr × Obj)} {σ : L2.St} {s : Shared} {H : Hp} {hd : Addr → Prop} {a b : Addr} {l1 l2 : List D}
    (F : FnOk X.prog X.w X.K X.mg X.base (L2.CX X.prog X.w) k f fd ps (spD G 2 m)) (hse : PySem.W.findIn X.K (.ref (G.cls c)) "__eq__" = some (some (.ref f))) (hf : PySem.W.isFn X.K (.ref f) = true) (hb : Binds X.K fd ps [])
    (sb : Sub X k A) (I : Inv X pins σ H s) (g : Good G nb hd H) (h1 : At G (hide hd H) (.obj c l1) (.ref a)) (h2 : At G (hide hd H) (.obj c l2) (.ref b)) (hm : m [.obj c l1, .obj c l2] = .ret (.bl true)) :
    wpAny (model X.prog X.w) A (richCompare .Eq (.ref a) (.ref b)) (fun r s' => r = .bool true ∧ ∃ H', Inv X pins σ H' s' ∧ Lead G nb nb H H') X.xe s := by
  have at1 := h1
  have at2 := h2
  cases h1 with
  | @obj _ _ _ dx fs u1 u2 u3 =>
  cases h2 with
  | @obj _ _ _ dy gs v1 v2 v3 =>
  obtain ⟨mA, J, _⟩ := ins_get I.hok (hide_sub _ _ u1)
  obtain ⟨mB, J', _⟩ := ins_get I.hok (hide_sub _ _ v1)
  obtain ⟨od, J, _⟩ := J.look
  obtain ⟨od', J', _⟩ := J'.look
  obtain ⟨mf, hF⟩ := I.fr
  refine PySem.W.cmp_K (op := .Eq) (tb := .ref (G.cls c)) sb.room.units0 hF I.ok.mod.kin J J'.type (by simp [PySem.W.notFirst]) hse hf ?_
  have hsp : spD G 2 m [.ref a, .ref b] H (fun v H' => v = .bl true ∧ Lead G nb nb H H') (fun _ _ _ => False) := by
    refine ⟨rfl, nb, [.obj c l1, .obj c l2], hd, g, .cons at1 (.cons at2 .nil), ?_⟩
    rw [hm]
    intro v H' _ e a
    cases a
    exact ⟨rfl, e⟩
  refine wpAny_mono (run_any (A := A) F sb.fr sb.room hb I (vs := [V.ref a, V.ref b]) (.cons rfl (.cons rfl .nil)) hsp) (fun z s' y => ?_) fun _ _ z => z
  obtain ⟨v, H', I', rv, ev, ex⟩ := y
  subst ev
  cases rv
  exact ⟨rfl, H', I', ex⟩
end
end Py
set_option Elab.async false
set_option linter.all false
set_option maxRecDepth 100000
set_option maxHeartbeats 4000000
namespace Py
open PySem PySem.Spec PyProof.Rows L2
/-! ### the deck {"rest": .., "mixed": .., "draws": ..} -/
abbrev kR : Key := .inr "rest"
abbrev kDr : Key := .inr "draws"
abbrev ddO (cl : Addr) (m d : Int) : HO := .dK [(kR, V.ref cl), (kM, V.int m), (kDr, V.int d)]
theorem put_dd {cl : Addr} {m a b : Int} : putK [(kR, V.ref cl), (kM, V.int m), (kDr, V.int a)] kDr (.int b) = [(kR, V.ref cl), (kM, V.int m), (kDr, V.int b)] := by
  unfold putK
  have e : ([(kR, V.ref cl), (kM, V.int m), (kDr, V.int a)].any fun kv => decide (kv.1 = kDr)) = true := by
    simp
  rw [if_pos e]
  have n : ¬ kR = kDr := by decide
  have n2 : ¬ kM = kDr := by decide
  show List.map _ _ = _
  rw [List.map_cons, List.map_cons, List.map_cons, List.map_nil, if_neg n, if_neg n2, if_pos rfl]
abbrev rMu : R2 := rI CMul fun i j => .int (i * j)
abbrev rDv : R2 := rI CDivS fun i j => .int (i.fdiv j)
/-- what is known of the two objects -/
structure Dx (p cl : Addr) (H : Hp) (m d : Int) (ns : List Int) : Prop where
  ne : cl ≠ p
  h1 : H p = some (ddO cl m d)
  h2 : H cl = some (.lst (ns.map V.int))
  few : ns.length ≤ 100
theorem Dx.new {p cl : Addr} {H : Hp} {m d : Int} {ns : List Int} {q : Addr} {o : HO} (x : Dx p cl H m d ns) (h : H q = none) : Dx p cl (upd H q o) m d ns := ⟨x.ne, by rw [upd_ne (ne_of_none x.h1 h)]; exact x.h1, by rw [upd_ne (ne_of_none x.h2 h)]; exact x.h2, x.few⟩
theorem Dx.cells {p cl : Addr} {H : Hp} {m d : Int} {ns ms : List Int} (x : Dx p cl H m d ns) (l : ms.length ≤ 100) : Dx p cl (upd H cl (.lst (ms.map V.int))) m d ms :=
  ⟨x.ne, by rw [upd_ne (Ne.symm x.ne)]; exact x.h1, upd_same, l⟩
theorem Dx.step {p cl : Addr} {H : Hp} {m d : Int} {ns : List Int} (x : Dx p cl H m d ns) {y : Int} : Dx p cl (upd H p (ddO cl m y)) m y ns :=
  ⟨x.ne, upd_same, by rw [upd_ne x.ne]; exact x.h2, x.few⟩
theorem Dx.put {p cl : Addr} {H : Hp} {m d : Int} {ns : List Int} (x : Dx p cl H m d ns) (y : Int) : DPut H p (.str "draws") (.int y) (upd H p (ddO cl m y)) := by
  have z := DPut.k (k := kDr) (v := .int y) x.h1 (by show 3 < sizeLine; rw [sizeLine_eq]; decide)
  rw [put_dd] at z
  exact z
section
variable {P : Program} {w : World} {K : PySem.W.Frag} {mg : Str → Option Value} {base : Heap} {cls : Nat → Addr} {flds : Nat → List Str} {p cl : Addr} {tb : List (Addr × Str)}
end
end Py
set_option Elab.async false
set_option linter.all false
set_option maxRecDepth 100000
set_option maxHeartbeats 4000000
namespace Py
open PySem PySem.Spec PyProof.Rows L2
/-- the def x makes lambdas: its code object, the table of these -/
structure Lm (K : PySem.W.Frag) (mg : Str → Option Value) (base : Heap) (tb : List (Addr × Str)) (x : Str) (st : Stmt) (ps : List Str) : Prop where
  ex : ∃ (c P : Addr), (∀ f fd, Dn K mg x st ps f fd → FunC K x x st f fd (.ref c)) ∧ LamX.TabB base mg c P ∧ (P, x ++ ".<locals>." ++ "<lambda>") ∈ tb ∧ ∀ p ∈ tb, p.1 = P → p.2 = x ++ ".<locals>." ++ "<lambda>"
namespace Hk
/-! ### a head's hook, several defs make lambdas -/
/-- the code object of the def x -/
def codeA (K : PySem.W.Frag) (x : Str) : Addr := match K.lookup (He.ga K x) with
  | some ⟨_, _, .func fd, _⟩ => (match fd.code with
    | .ref c => c
    | _ => 0)
  | _ => 0
/-- the table of a code object -/
def tabA (K : PySem.W.Frag) (c : Addr) : Addr := match K.lookup c with
  | some ⟨_, _, .fields vs, _⟩ => (match vs.getD 11 .none with
    | .ref P => P
    | _ => 0)
  | _ => 0
theorem frG_outs {g : Addr → Option Obj} {P : Addr} {q : Addr → Bool} (hq : q P = false) : ∀ as : List Addr, (He.frG g (as.filter q)).lookup P = none
  | [] => rfl
  | a :: as => by
    by_cases h : q a = true
    · rw [List.filter_cons_of_pos h]
      unfold He.frG
      rw [List.filterMap_cons]
      cases e : g a with
      | none => exact frG_outs hq as
      | some o =>
        show (match P == a with | true => some o | false => (He.frG g (as.filter q)).lookup P) = none
        have e2 : (P == a) = false := by
          simp
          intro z
          rw [z, h] at hq
          cases hq
        rw [e2]
        exact frG_outs hq as
    · rw [List.filter_cons_of_neg h]
      exact frG_outs hq as
def headsB (K : PySem.W.Frag) : List Str → List Addr → Bool
  | [], [] => true
  | x :: xs, P :: Ps => headB K (codeA K x) P && (!Ps.contains P && headsB K xs Ps)
  | _, _ => false
def obsKs (ck : List (PySem.W.Frag → Bool)) (fn : List He.DefD) (xs : List Str) (K : PySem.W.Frag) (Ps : List Addr) : He.AlD :=
  (headsB K xs Ps && ((ck.all fun f => f K) && fn.all fun d => d.ok K), fn.map fun d => He.fnW K d.at_)
def obsTs (ck : List (PySem.W.Frag → Bool)) (fn : List He.DefD) (xs : List Str) (g : Addr → Option Obj) (as : List Addr) (Ps : List Addr) : Bool × He.AlD :=
  (Ps.all fun P => tblB (g P), obsKs ck fn xs (He.frG g (as.filter fun a => !Ps.contains a)) Ps)
def tabsA (K : PySem.W.Frag) (xs : List Str) : List Addr := xs.map fun x => tabA K (codeA K x)
/-- what the end leans on -/
def SaysS (ck : List (PySem.W.Frag → Bool)) (fn : List He.DefD) (xs : List Str) (h : Heap) : Prop :=
  ∃ (K : PySem.W.Frag) (Ps : List Addr), K.In h ∧ (∀ P ∈ Ps, K.lookup P = none) ∧ (∀ P ∈ Ps, h.get? P = some { cls := .none, data := .fields #[] }) ∧ obsKs ck fn xs K Ps = He.valD fn
section
variable {ck : List (PySem.W.Frag → Bool)} {fn : List He.DefD} {xs : List Str} {K : PySem.W.Frag} {Ps : List Addr}
theorem headS (c : obsKs ck fn xs K Ps = He.valD fn) : headsB K xs Ps = true := (Bool.and_eq_true_iff.mp (congrArg (fun z : He.AlD => z.1) c)).1
theorem factS (c : obsKs ck fn xs K Ps = He.valD fn) (i : Nat) {f : PySem.W.Frag → Bool} (h : ck[i]? = some f := by rfl) : f K = true :=
  List.all_eq_true.mp (Bool.and_eq_true_iff.mp (Bool.and_eq_true_iff.mp (congrArg (fun z : He.AlD => z.1) c)).2).1 f (List.mem_of_getElem? h)
theorem defS (c : obsKs ck fn xs K Ps = He.valD fn) (i : Nat) {d : He.DefD} (h : fn[i]? = some d := by rfl) : ∃ fd, FunD K d.name d.qual d.params d.body d.scope (d.dvs K) (d.kws K) (He.fAd K d.at_) fd := by
  have c2 := (Bool.and_eq_true_iff.mp (Bool.and_eq_true_iff.mp (congrArg (fun z : He.AlD => z.1) c)).2).2
  have e : fn.map (fun d => He.fnW K d.at_) = fn.map He.DefD.val := congrArg (fun z : He.AlD => z.2) c
  have e2 : (fn.map fun d => He.fnW K d.at_)[i]? = (fn.map He.DefD.val)[i]? := by rw [e]
  rw [List.getElem?_map, List.getElem?_map, h] at e2
  exact He.DefD.funD (Option.some.inj e2) (List.all_eq_true.mp c2 d (List.mem_of_getElem? h))
end
/-- the codes and their tables -/
def pairsA (K : PySem.W.Frag) (xs : List Str) (Ps : List Addr) : List (Addr × Addr) := (xs.map (codeA K)).zip Ps
def namesA (xs : List Str) (Ps : List Addr) : List (Addr × Str) := Ps.zip (xs.map fun x => x ++ ".<locals>." ++ "<lambda>")
theorem pairs_in {K : PySem.W.Frag} : ∀ {xs : List Str} {Ps : List Addr} {p : Addr × Addr}, p ∈ pairsA K xs Ps → p.2 ∈ Ps
  | [], Ps, p, h => by
    unfold pairsA at h
    cases h
  | x :: xs, [], p, h => by
    unfold pairsA at h
    simp at h
  | x :: xs, P :: Ps, p, h => by
    have h : p ∈ (codeA K x, P) :: pairsA K xs Ps := h
    rcases List.mem_cons.mp h with rfl | h
    · exact List.mem_cons_self ..
    · exact List.mem_cons_of_mem _ (pairs_in h)
theorem heads_ok {K : PySem.W.Frag} {h : Heap} (X : K.In h) : ∀ {xs : List Str} {Ps : List Addr}, headsB K xs Ps = true → ∀ p ∈ pairsA K xs Ps, PySem.W.CodeHd h p.1 p.2
  | [], [], _, p, hp => by
    unfold pairsA at hp
    cases hp
  | x :: xs, P :: Ps, q, p, hp => by
    have q : (headB K (codeA K x) P && (!Ps.contains P && headsB K xs Ps)) = true := q
    rw [Bool.and_eq_true, Bool.and_eq_true] at q
    have hp : p ∈ (codeA K x, P) :: pairsA K xs Ps := hp
    rcases List.mem_cons.mp hp with rfl | hp
    · exact headB_ok X q.1
    · exact heads_ok X q.2.2 p hp
  | [], _ :: _, q, _, _ => by cases q
  | _ :: _, [], q, _, _ => by cases q
section
variable {K : PySem.W.Frag} {mg : Str → Option Value} {h : Heap} {x : Str} {st : Stmt} {kws : List (Str × V)} {ps : List Str}
theorem fun_code (F : ∃ fd, FunD K x x (defArgs st) (defBody st) (defScope st) [] kws (He.ga K x) fd) : ∃ fd, FunC K x x st (He.ga K x) fd (.ref (codeA K x)) := by
  obtain ⟨fd, F⟩ := F
  obtain ⟨oc, od, dV, kV, doc, pm, an, cdv, ct, osl, e1, e2, e3, hD, hK⟩ := F.ex
  rcases hD with ⟨_, rfl⟩ | ⟨z, _⟩
  · have ec : cdv = .ref (codeA K x) := by
      cases cdv with
      | ref c =>
        unfold codeA
        rw [e2, e1]
      | _ => cases e3
    subst ec
    exact ⟨fd, ⟨oc, od, kV, doc, pm, an, ct, osl, e1, e2, e3⟩, F.kp⟩
  · exact absurd rfl z
end
end Hk
end Py
set_option Elab.async false
set_option linter.all false
set_option maxRecDepth 100000
set_option maxHeartbeats 4000000
/-! own lists: made of ranges, their length -/
namespace Py
open PySem PySem.Spec PyProof.Rows L2
section
variable {X : Cx} {G : Gl} {W : WX}
end
end Py
set_option Elab.async false
set_option linter.all false
set_option maxRecDepth 100000
set_option maxHeartbeats 4000000
namespace Py
namespace Hk
open PySem PySem.Spec PyProof.Rows L2
section
variable {K : PySem.W.Frag} {h : Heap} {mg : Str → Option Value} {x : Str}
/-- a global that is a type of the library's -/
def tyvB (x : Str) (T : String) (K : PySem.W.Frag) : Bool := He.eqO (PySem.W.nsIn K mainGlobals x) (some (some (.type T)))
theorem tyv_ok {T : String} (X : K.In h) (G : h.Ns mainGlobals mg) (c : tyvB x T K = true) : mg x = some (.type T) := PySem.W.mg_of X G (He.eqO_ok c)
/-- isinstance(.., C), C an own class n -/
def tysB : List String := ["NoneType", "bool", "int", "str", "tuple", "list", "dict"]
def knB (names : List Str) (n : Nat) (os : List Nat) (K : PySem.W.Frag) : Bool :=
  (n :: os).all (fun m => ownB (clsK names K m) K) && ((tysB.all fun k => decide (PySem.W.kitOne K (.type k) (.ref (clsK names K n)) = some false) && PySem.W.notFirst K (clsK names K n) (.type k)) &&
    (n :: os).all fun m => decide (PySem.W.kitOne K (.ref (clsK names K m)) (.ref (clsK names K n)) = some (m == n)) && PySem.W.notFirst K (clsK names K n) (.ref (clsK names K m)))
theorem tabO_ty {n : Nat} {os : List Nat} {k : String} {b : Bool} (e : tabO n os (.ty k) = some b) : k ∈ tysB ∧ b = false := by
  have e : (if k = "NoneType" ∨ k = "bool" ∨ k = "int" ∨ k = "str" ∨ k = "tuple" ∨ k = "list" ∨ k = "dict" then some false else none) = some b := e
  split at e
  · rename_i c
    cases e
    refine ⟨?_, rfl⟩
    unfold tysB
    simp only [List.mem_cons, List.not_mem_nil, or_false]
    exact c
  · cases e
theorem tabO_own {n : Nat} {os : List Nat} {m : Nat} {b : Bool} (e : tabO n os (.own m) = some b) : m ∈ n :: os ∧ b = (m == n) := by
  have e : (if m = n then some true else if m ∈ os then some false else none) = some b := e
  split at e
  · rename_i c
    cases e
    rw [c]
    exact ⟨List.mem_cons_self .., by simp⟩
  · rename_i c
    split at e
    · rename_i c2
      cases e
      exact ⟨List.mem_cons_of_mem _ c2, by simp [c]⟩
    · cases e
theorem kn_ok {names : List Str} {n : Nat} {os : List Nat} (c : knB names n os K = true) : Kn K (clsK names K) n os := by
  obtain ⟨c1, c⟩ := Bool.and_eq_true_iff.mp c
  obtain ⟨c2, c3⟩ := Bool.and_eq_true_iff.mp c
  have at_ty : ∀ k ∈ tysB, PySem.W.kitOne K (.type k) (.ref (clsK names K n)) = some false ∧ PySem.W.notFirst K (clsK names K n) (.type k) = true := fun k hk => by
    obtain ⟨a, b⟩ := Bool.and_eq_true_iff.mp (List.all_eq_true.mp c2 k hk)
    exact ⟨of_decide_eq_true a, b⟩
  have at_own : ∀ m ∈ n :: os, PySem.W.kitOne K (.ref (clsK names K m)) (.ref (clsK names K n)) = some (m == n) ∧ PySem.W.notFirst K (clsK names K n) (.ref (clsK names K m)) = true := fun m hm => by
    obtain ⟨a, b⟩ := Bool.and_eq_true_iff.mp (List.all_eq_true.mp c3 m hm)
    exact ⟨of_decide_eq_true a, b⟩
  refine ⟨fun m hm => ?_, fun t b e => ?_, fun t e => ?_⟩
  · obtain ⟨b, e⟩ := Option.isSome_iff_exists.mp hm
    exact own_ok (List.all_eq_true.mp c1 m (tabO_own e).1)
  · cases t with
    | ty k =>
      obtain ⟨hk, rfl⟩ := tabO_ty e
      exact (at_ty k hk).1
    | own m =>
      obtain ⟨hm, rfl⟩ := tabO_own e
      exact (at_own m hm).1
  · obtain ⟨b, e⟩ := Option.isSome_iff_exists.mp e
    cases t with
    | ty k => exact (at_ty k (tabO_ty e).1).2
    | own m => exact (at_own m (tabO_own e).1).2
end
end Hk
end Py
set_option Elab.async false
set_option linter.all false
set_option maxRecDepth 100000
set_option maxHeartbeats 4000000
namespace Py
open PySem PySem.Spec PyProof.Rows L2
/-! ### the making of the deck {"rest": .., "mixed": .., "draws": ..} -/
section
variable {P : Program} {w : World} {K : PySem.W.Frag} {mg : Str → Option Value} {base : Heap} {cls : Nat → Addr} {flds : Nat → List Str} {tb : List (Addr × Str)}
end
end Py
set_option Elab.async false
set_option linter.all false
set_option maxRecDepth 100000
set_option maxHeartbeats 4000000
/-! sorted(x) of a tuple -/
namespace Py
open PySem PySem.Spec PyProof.Rows L2
section
variable {X : Cx} {G : Gl}
def rSortT (X : Cx) (G : Gl) : List V → Hp → VK → Prop := fun xs H Q => ∃ (a : Addr) (ys : List V) (l : List D) (hd : Addr → Prop), xs = [.ref a] ∧ SqT X.K H a ys ∧ Ats G (hide hd H) l ys ∧ SortOk l ∧
  ∀ zs p, Ats G (hide hd H) (isortD l) zs → H p = none → Q (.ref p) (upd H p (.lst zs))
theorem cr_sortT (hK : G.K = X.K) (hu : X.A.units + 64 < cLine) : CallR X (.builtin "sorted") (rSortT X G) := by
  intro pins s σ H xs us Q I r h
  obtain ⟨a, ys, l, hd, rfl, hs, hy, ok, q⟩ := h
  obtain ⟨its, rv, pt, hz⟩ := I.tuple hs
  have pt : s.heap.IsTuple a its.toArray := pt
  obtain ⟨o, e1, e2, k, e3⟩ := pt
  obtain ⟨u, rfl, ru⟩ := vals1 r
  obtain rfl : u = Value.ref a := ru
  obtain ⟨ps, hps⟩ := ok.py
  have hiz : its.toArray.size ≤ sizeLine := by
    rw [List.size_toArray, ← rv.length]
    exact hz
  refine Calls.call_function_entry PyProof.Rows.kind_sorted PyProof.Rows.plain_sorted PyProof.Rows.entry_sorted (PyProof.Rows.args_sorted1 _) ?_
  unfold Builtin.«sorted»
  refine wpAny_bind (m := checkCount "sorted" 1 1 _) (wpAny_pure ?_)
  refine wpAny_bind (wpAny_collect_seq (hsz := hiz) a (.inr rfl) e1 e2 e3 fun h' hkk => ?_)
  rw [List.toList_toArray]
  have I1 : Inv X pins σ H { s with heap := h' } := I.kept hkk
  have e : PySem.W.EachIs (RD G (hide hd H)) its l := each_in hy rv
  have er : PySem.W.EachIs (fun v b => ∃ as, Reads h' v (pd b) as) its l := each_imp e fun u d hm ⟨v, r1, h1⟩ => Dp.reads I1 _ v u (dp_of hK h1 (pyDs_each hps d hm)) r1
  have hll : its.length = l.length := by rw [← rv.length, hy.length]
  have hL : its.length ≤ sizeLine := by
    rw [hll]
    exact Nat.le_trans ok.len (by decide)
  refine wpAny_bind (wpAny_newList ?_ hL)
  have hoL : (h'.push (seqObj "list" its.toArray 0)).get? h'.objs.size = some (seqObj "list" its.toArray 0) := Heap.get?_push_size _ rfl
  show wpAny _ _ _ _ _ { s with heap := h'.push (seqObj "list" its.toArray 0) }
  have old : ∀ b o, h'.get? b = some o → (PySem.W.sortingHeap (h'.push (seqObj "list" its.toArray 0)) h'.objs.size its).get? b = some o := fun b o x =>
    PySem.W.sortingHeap_old (Nat.ne_of_lt (Heap.lt_size x)) (Heap.get?_push_of_some _ x)
  have er' : PySem.W.EachIs (fun v b => ∃ as, Reads (PySem.W.sortingHeap (h'.push (seqObj "list" its.toArray 0)) h'.objs.size its) v (pd b) as) its l := er.mono fun _ _ ⟨as, r⟩ => ⟨as, PyProof.Rows.Reads.keeps old r⟩
  refine wpAny_bind (wpAny_holding (wpAny_call_entry PyProof.Rows.slot_list_sort ⟨_, hoL, rfl⟩ PyProof.Rows.entry_list_sort
    (PySem.W.list_sort_vals (κ := PySem.W.dataKind (PySem.W.sortingHeap (h'.push (seqObj "list" its.toArray 0)) h'.objs.size its) (l.map pd)) (s := { s with heap := h'.push (seqObj "list" its.toArray 0) }) hoL
      (So.sortsAt (s := { s with heap := PySem.W.sortingHeap (h'.push (seqObj "list" its.toArray 0)) h'.objs.size its }) (PySem.W.each_map pd er') ok.alike ok.kind fun d hd' => ?_) hL ⟨_, rfl, ?_⟩)
    (PyProof.Rows.args_list_sort _)))
  · obtain ⟨b, hb, rfl⟩ := List.mem_map.mp hd'
    have := ok.deep b hb
    rw [Around.in1_units, Around.in1_units]
    omega
  · have eo := PySem.W.sortVals_data (R := RD G (hide hd H)) (h' := PySem.W.sortingHeap (h'.push (seqObj "list" its.toArray 0)) h'.objs.size its) false e er' ok.alike
    rw [← isortD_eq] at eo
    obtain ⟨zs, z1, z2⟩ := each_out eo
    obtain ⟨c, hcc⟩ := PyProof.Rows.sortedHeap_at (vs := its) (out := (PySem.W.sortVals (PySem.W.dataKind (PySem.W.sortingHeap (h'.push (seqObj "list" its.toArray 0)) h'.objs.size its) (l.map pd)) false its its).toArray) hoL
    have hzl : zs.length ≤ sizeLine := by
      rw [← z2.length, (isortD_perm l).length_eq, ← hll]
      exact hL
    refine wpAny_pure ⟨_, rfl, .ref h'.objs.size, upd H h'.objs.size (.lst zs), I1.laid (fun b u e => ?_) (Nat.le_refl _) ⟨hzl, _, c, z1, hcc⟩, rfl, q zs _ z2 (I1.hok.fresh (Nat.le_refl _))⟩
    have hb : b < h'.objs.size := Heap.lt_size e
    rw [PyProof.Rows.sortedHeap_old (Nat.ne_of_lt hb) (by rw [size_push']; exact Nat.lt_succ_of_lt hb)]
    exact Heap.get?_push_of_some _ e
def sortedU : List D → Option D
  | [.tup l] => if sortOk l = true then some (.lst (isortD l)) else none
  | _ => none
theorem d_sortT (hK : G.K = X.K) : DoesN G (rSortT X G) sortedU := fun hd H xs l d Q R h e k => by
  cases h with
  | nil => cases e
  | @cons d1 x1 l1 r1 a1 t1 =>
    cases t1 with
    | cons _ _ => cases a1 <;> cases e
    | nil =>
      cases a1 with
      | @tup m a ys h1 h2 =>
        have e0 : (if sortOk m = true then some (D.lst (isortD m)) else none) = some d := e
        by_cases c : sortOk m = true
        · rw [if_pos c] at e0
          cases e0
          exact ⟨a, ys, m, hd, rfl, by rw [← hK]; exact hide_sub.sqM h1, h2, sortOk_of c, fun zs p hz hp => k _ _ (Lead.new hp) (.lst (R.seen hp) (hz.mono (R.old hp)))⟩
        · rw [if_neg c] at e0
          cases e0
      | _ => cases e
/-- sorted of lists, dicts, tuples -/
def sortedY (l : List D) : Option D := (sortedX l).or (sortedU l)
end
end Py
set_option Elab.async false
set_option linter.all false
set_option maxRecDepth 100000
set_option maxHeartbeats 4000000
/-! x in xs: nested data -/
namespace Py
open PySem PySem.Spec PyProof.Rows L2
section
variable {X : Cx} {G : Gl}
/-- y is a list or a tuple of the data ds -/
def seqP : PyData → Option (List PyData)
  | .list ds => some ds
  | .tuple ds => some ds
  | _ => none
def rInN (K : PySem.W.Frag) (neg : Bool) : R2 := fun x y H Q => ∃ d e ds, Dp K H x d ∧ Dp K H y e ∧ seqP e = some ds ∧ SeqAt.shaped d = true ∧ SeqAt.shaped e = true ∧ d.depth ≤ 40 ∧ Q (.bl (if neg then !(ds.any fun z => PyData.eqv z d) else ds.any fun z => PyData.eqv z d)) H
theorem room_n {A : Around} {xs : List PyData} {d : PyData} (hd : d.depth ≤ 40) (hu : A.units + 64 < cLine) : A.units + 1 + min (PyData.depthAll xs) d.depth < cLine := by
  have h2 : min (PyData.depthAll xs) d.depth ≤ d.depth := Nat.min_le_right _ _
  omega
theorem op_inN (hu : X.A.units + 64 < cLine) : OpR X (compareOp .In) (rInN X.K false) := by
  intro pins s σ H x y v u Q I rx ry h
  obtain ⟨d, e, ds, hd, he, hs, sd, se, dd, q⟩ := h
  obtain ⟨as, r1⟩ := Dp.reads I d x v hd rx
  obtain ⟨bs, r2⟩ := Dp.reads I e y u he ry
  cases e with
  | list es =>
    cases hs
    exact SeqAt.in_list_reads r2 r1 (SeqAt.canLay_of_shaped se) (SeqAt.canLay_of_shaped sd) (room_n dd hu) ⟨.bl _, H, I, rfl, q⟩
  | tuple es =>
    cases hs
    exact SeqAt.in_tuple_reads r2 r1 (SeqAt.canLay_of_shaped se) (SeqAt.canLay_of_shaped sd) (room_n dd hu) ⟨.bl _, H, I, rfl, q⟩
  | _ => cases hs
theorem op_notInN (hu : X.A.units + 64 < cLine) : OpR X (compareOp .NotIn) (rInN X.K true) := by
  intro pins s σ H x y v u Q I rx ry h
  obtain ⟨d, e, ds, hd, he, hs, sd, se, dd, q⟩ := h
  obtain ⟨as, r1⟩ := Dp.reads I d x v hd rx
  obtain ⟨bs, r2⟩ := Dp.reads I e y u he ry
  cases e with
  | list es =>
    cases hs
    exact SeqAt.notIn_list_reads r2 r1 (SeqAt.canLay_of_shaped se) (SeqAt.canLay_of_shaped sd) (room_n dd hu) ⟨.bl _, H, I, rfl, q⟩
  | tuple es =>
    cases hs
    exact SeqAt.notIn_tuple_reads r2 r1 (SeqAt.canLay_of_shaped se) (SeqAt.canLay_of_shaped sd) (room_n dd hu) ⟨.bl _, H, I, rfl, q⟩
  | _ => cases hs
def inN (neg : Bool) (a b : D) : Option D := match pyD a, pyD b with
  | some p, some q => match seqP q with
    | some ds => if (SeqAt.shaped p && SeqAt.shaped q) && decide (p.depth ≤ 40) then some (.bl (if neg then !(ds.any fun z => PyData.eqv z p) else ds.any fun z => PyData.eqv z p)) else none
    | none => none
  | _, _ => none
theorem inN_some {neg : Bool} {a b d : D} (e : inN neg a b = some d) : ∃ p q ds, pyD a = some p ∧ pyD b = some q ∧ seqP q = some ds ∧ SeqAt.shaped p = true ∧ SeqAt.shaped q = true ∧ p.depth ≤ 40 ∧ d = .bl (if neg then !(ds.any fun z => PyData.eqv z p) else ds.any fun z => PyData.eqv z p) := by
  unfold inN at e
  split at e
  · rename_i p q h1 h2
    split at e
    · rename_i ds h3
      split at e
      · rename_i c
        rw [Bool.and_eq_true, Bool.and_eq_true, decide_eq_true_eq] at c
        exact ⟨p, q, ds, h1, h2, h3, c.1.1, c.1.2, c.2, (Option.some.inj e).symm⟩
      · cases e
    · cases e
  · cases e
theorem d_inN (hK : G.K = X.K) (neg : Bool) : Does2 G (rInN X.K neg) (inN neg) := fun hd H x y a b d Q R h1 h2 e k => by
  obtain ⟨p, q, ds, e1, e2, e3, s1, s2, s3, rfl⟩ := inN_some e
  exact ⟨p, q, ds, dp_of hK h1 e1, dp_of hK h2 e2, e3, s1, s2, s3, k _ H (Lead.refl H) .bl⟩
end
end Py
set_option Elab.async false
set_option linter.all false
set_option maxRecDepth 100000
set_option maxHeartbeats 4000000
/-! x == e, x an own list -/
namespace Py
open PySem PySem.Spec PyProof.Rows L2
section
variable {X : Cx} {G : Gl} {W : WX}
end
end Py
set_option Elab.async false
set_option linter.all false
set_option maxRecDepth 100000
set_option maxHeartbeats 4000000
/-! sorted(set(a)), a a tuple of small ints -/
namespace Py
open PySem PySem.Spec PyProof.Rows L2 Se
section
variable {X : Cx} {G : Gl} {W : WX}
end
end Py
set_option Elab.async false
set_option linter.all false
set_option maxRecDepth 100000
set_option maxHeartbeats 4000000
/-! dict(xs), xs a list of pairs, the keys all unlike -/
namespace Py
open PySem PySem.Spec PyProof.Rows L2
section
variable {X : Cx} {G : Gl}
def prs : List D → Option (List (Key × D × D))
  | [] => some []
  | .tup [k, v] :: l => match keyF k, prs l with
    | some z, some r => some ((z, k, v) :: r)
    | _, _ => none
  | _ => none
end
end Py
set_option Elab.async false
set_option linter.all false
set_option maxRecDepth 100000
set_option maxHeartbeats 4000000
/-! dict(t), t a tuple of pairs, the keys all unlike -/
namespace Py
open PySem PySem.Spec PyProof.Rows L2
section
variable {X : Cx} {G : Gl}
end
end Py
set_option Elab.async false
set_option linter.all false
set_option maxRecDepth 100000
set_option maxHeartbeats 4000000
/-! an own thing, looked at whole by an expression that lets nothing of it out -/
namespace Py
open PySem PySem.Spec PyProof.Rows L2
mutual
/-- numbers, texts, tuples of such: nothing that can be changed -/
def flatV : D → Bool
  | .non => true
  | .bl _ => true
  | .int _ => true
  | .str _ => true
  | .tup l => flatVs l
  | .lst _ => false
  | .dic _ _ => false
  | .dicN _ _ => false
  | .obj _ _ => false
  | .deck => false
def flatVs : List D → Bool
  | [] => true
  | d :: l => flatV d && flatVs l
end
section
variable {X : Cx} {G : Gl} {W : WX}
/-- not a tuple -/
structure NoTup (u : HO) : Prop where
  t : ∀ xs, u ≠ .tup xs
  f : ∀ o w, u ≠ .frz o w
theorem sqT_un {hd : Addr → Prop} {H : Hp} {p : Addr} {u : HO} (e : H p = some u) (n : NoTup u) {a : Addr} {xs : List V} (h : SqT G.K (hide (fun a => hd a ∧ a ≠ p) H) a xs) : SqT G.K (hide hd H) a xs := by
  have go : ∀ {o : HO}, (∀ w, o ≠ u) ∨ a ≠ p → hide (fun a => hd a ∧ a ≠ p) H a = some o → hide hd H a = some o := fun {o} c h => by
    obtain ⟨h1, h2⟩ := hide_get h
    refine hide_put (fun z => h1 ⟨z, fun y => ?_⟩) h2 (hide_nt h)
    rcases c with c | c
    · rw [y, e] at h2
      exact c u (Option.some.inj h2).symm
    · exact c y
  rcases h with h | h
  · rcases h with h | ⟨o, h⟩
    · have np : a ≠ p := fun y => by
        have := (hide_get h).2
        rw [y, e] at this
        exact n.t _ (Option.some.inj this)
      exact .inl (.inl (go (.inr np) h))
    · have np : a ≠ p := fun y => by
        have := (hide_get h).2
        rw [y, e] at this
        exact n.f _ _ (Option.some.inj this)
      exact .inl (.inr ⟨o, go (.inr np) h⟩)
  · exact .inr h
theorem sqN_un {hd : Addr → Prop} {H : Hp} {p : Addr} {u : HO} (e : H p = some u) (n : NoTup u) {a : Addr} {xs : List V} (h : SqN G.K (hide (fun a => hd a ∧ a ≠ p) H) a xs) : SqN G.K (hide hd H) a xs := ⟨sqT_un e n h.t, by
  rcases h.n with ⟨o, w, h1, h2⟩ | h
  · have np : a ≠ p := fun y => by
      have := (hide_get h1).2
      rw [y, e] at this
      exact n.f _ _ (Option.some.inj this)
    obtain ⟨g1, g2⟩ := hide_get h1
    exact .inl ⟨o, w, hide_put (fun z => g1 ⟨z, np⟩) g2 (hide_nt h1), h2⟩
  · exact .inr h⟩
mutual
theorem at_un {hd : Addr → Prop} {H : Hp} {p : Addr} {u : HO} (e : H p = some u) (n : NoTup u) : ∀ {d : D} {v : V}, flatV d = true → At G (hide (fun a => hd a ∧ a ≠ p) H) d v → At G (hide hd H) d v
  | _, _, _, .non => .non
  | _, _, _, .bl => .bl
  | _, _, _, .int => .int
  | _, _, _, .str => .str
  | _, _, h, .tup s r => .tup (sqN_un e n s) (ats_un e n (by simpa [flatV] using h) r)
  | _, _, h, .lst _ _ => by simp [flatV] at h
  | _, _, h, .dic _ _ _ => by simp [flatV] at h
  | _, _, h, .dicN _ _ _ _ => by simp [flatV] at h
  | _, _, h, .obj _ _ _ => by simp [flatV] at h
  | _, _, h, .deck => by simp [flatV] at h
theorem ats_un {hd : Addr → Prop} {H : Hp} {p : Addr} {u : HO} (e : H p = some u) (n : NoTup u) : ∀ {l : List D} {xs : List V}, flatVs l = true → Ats G (hide (fun a => hd a ∧ a ≠ p) H) l xs → Ats G (hide hd H) l xs
  | _, _, _, .nil => .nil
  | _, _, h, .cons a r => by
    simp only [flatVs, Bool.and_eq_true] at h
    exact .cons (at_un e n h.1 a) (ats_un e n h.2 r)
end
end
end Py
set_option Elab.async false
set_option linter.all false
set_option maxRecDepth 100000
set_option maxHeartbeats 4000000
/-! len(set(a)), a a tuple or list of ints -/
namespace Py
open PySem PySem.Spec PyProof.Rows L2 Se
section
variable {X : Cx} {G : Gl} {W : WX}
/-- each number once -/
def dd : List Int → List Int
  | [] => []
  | x :: l => if (dd l).contains x then dd l else x :: dd l
end
end Py
set_option Elab.async false
set_option linter.all false
set_option maxRecDepth 100000
set_option maxHeartbeats 4000000
/-! try with several clauses, each with a name for its error -/
namespace Tm
open PySem PySem.Spec PyProof.Rows L2
/-- what the clauses wish of an exception of the body, one after the other -/
def wMany (K : PySem.W.Frag) (Wout : WX) (D : Ends) : List (Value × Nat × (Addr → Value → Option Addr → TS)) → WX
  | [] => Wout
  | (c, i, ts) :: r => fun cls d σ H => ∃ b, PySem.W.exmOne K cls c = some b ∧
      (b = true → ∀ a, H a = none → ts a cls d { nx := fun σ' H' => D.nx (σ'.set i none) H', rt := D.rt, bk := fun σ' H' => D.bk (σ'.set i none) H', ct := fun σ' H' => D.ct (σ'.set i none) H' } (σ.set i (some (.ref a))) H) ∧
      (b = false → wMany K Wout D r cls d σ H)
inductive Hds (X : Cx) : List ExceptHandler → List (Value × Nat × (Addr → Value → Option Addr → TS)) → Prop
  | nil : Hds X [] []
  | cons {x n : Str} {c : Value} {i : Nat} {ts : Addr → Value → Option Addr → TS} {b₀ : Stmt} {suite : List Stmt} {np pos' : Pos} {hds : List ExceptHandler} {l : List (Value × Nat × (Addr → Value → Option Addr → TS))} (hN : X.N.Nodup) (hi : X.N[i]? = some n) (hln : X.env.kindOf n = some .local) (hc : Names X x c)
      (hsu : ∀ (a : Addr) (oe : Obj) (cls : Value) (d : Option Addr) (pn : List (Addr × Obj)), Zc cls d oe → (∃ vs, oe.data = .fields vs) → PSs (X.suite a ((a, oe) :: pn)) (b₀ :: suite) (ts a cls d)) (r : Hds X hds l) :
      Hds X (.ExceptHandler (some (.Name x np)) (some n) (b₀ :: suite) pos' :: hds) ((c, i, ts) :: l)
section
variable {X : Cx} {body : List Stmt} {h₀ : ExceptHandler} {hds : List ExceptHandler} {l : List (Value × Nat × (Addr → Value → Option Addr → TS))} {pos : Pos} {tb : WX → TS} {Wout : WX}
end
end Tm

namespace Py
open PySem PySem.Spec L2
/-- the clauses: slot of the name, which classes, suite -/
def hdM : List (Nat × (Nat → Option Bool) × Sm) → Nat → List D → Env → T Out
  | [], c, l, ρ' => .ret (.rz c l ρ')
  | (i, m, u) :: r, c, l, ρ' => match m c with
    | some true => u ((clr ρ').set i (.err c l)) >>= outT i
    | some false => hdM r c l ρ'
    | none => .bad
section
variable {X : Cx} {G : Gl} {W : WX} {hs : Hid}
inductive HdS (X : Cx) (G : Gl) (hs : Hid) : List ExceptHandler → List (Nat × (Nat → Option Bool) × Sm) → Prop
  | nil : HdS X G hs [] []
  | cons {x n : Str} {c : Value} {i : Nat} {m : Nat → Option Bool} {u : Sm} {b₀ : Stmt} {suite : List Stmt} {np pos' : Pos} {hds : List ExceptHandler} {l : List (Nat × (Nat → Option Bool) × Sm)} (hi : X.N[i]? = some n) (hln : X.env.kindOf n = some .local) (hc : Names X x c)
      (hm : ∀ k b, m k = some b → PySem.W.exmOne X.K (.ref (G.cls k)) c = some b)
      (hu : ∀ (a : Addr) (oe : Obj) (cls : Value) (d : Option Addr) (pn : List (Addr × Obj)), Zc cls d oe → (∃ vs, oe.data = .fields vs) → SSs (X.suite a ((a, oe) :: pn)) (G.to (some (a, cls, d)) G.fa) (fun _ _ _ _ => False) hs (b₀ :: suite) u)
      (r : HdS X G hs hds l) : HdS X G hs (.ExceptHandler (some (.Name x np)) (some n) (b₀ :: suite) pos' :: hds) ((i, m, u) :: l)
theorem HdS.to (hN : X.N.Nodup) {hds : List ExceptHandler} {l : List (Nat × (Nat → Option Bool) × Sm)} (h : HdS X G hs hds l) : ∃ L, Tm.Hds X hds L ∧ ∀ (Dn : Ends) (hd : Addr → Prop) (H : Hp) (nb : Nat) (k : Nat) (es : List D) (ρ' : Env) (hd1 : Addr → Prop) (cls : Value) (dx : Option Addr) (σ1 : L2.St) (H1 : Hp),
    SRep X G hs nb hd1 σ1 ρ' H1 → Ex (hide hd H) (hide hd1 H1) → ErrAt G (hide hd1 H1) k es cls dx → (hdM l k es ρ').wp nb (oQ X G W hs Dn hd H) (fun _ _ _ => False) → Tm.wMany X.K W Dn L cls dx σ1 H1 := by
  induction h with
  | nil =>
    refine ⟨[], .nil, fun Dn hd H nb k es ρ' hd1 cls dx σ1 H1 R1 x1 E1 q => ?_⟩
    exact q hd1 cls dx σ1 H1 R1 x1 E1
  | @cons x n c i m u b₀ suite np pos' hds l hi hln hc hm hu r ih =>
    obtain ⟨L, h1, h2⟩ := ih
    refine ⟨(c, i, fun a cls d => tSS X (G.to (some (a, cls, d)) G.fa) (fun _ _ _ _ => False) hs u) :: L, .cons hN hi hln hc (fun a oe cls d pn z f => PSs_imp (hu a oe cls d pn z f) fun Dn σ H q => tSS.cx (X := X) (Y := X.suite a ((a, oe) :: pn)) rfl q) h1, fun Dn hd H nb k es ρ' hd1 cls dx σ1 H1 R1 x1 E1 q => ?_⟩
    have q2 : (match m k with
      | some true => u ((clr ρ').set i (.err k es)) >>= outT i
      | some false => hdM l k es ρ'
      | none => .bad).wp nb (oQ X G W hs Dn hd H) (fun _ _ _ => False) := q
    cases e : m k with
    | none =>
      rw [e] at q2
      exact q2.elim
    | some b =>
      rw [e] at q2
      have ex := hm k b e
      have ecls := E1.1
      refine ⟨b, by rw [ecls]; exact ex, fun hb' a na => ?_, fun hb' => ?_⟩
      · rw [hb'] at q2
        have S1 : SRep X (G.to (some (a, cls, dx)) G.fa) hs nb hd1 σ1 (clr ρ') H1 := SRep.clear (x' := G.ea) R1
        have S2 := S1.put (i := i) (s := .err k es) (v := some (.ref a)) rfl ⟨a, cls, dx, rfl, rfl, by rw [err_er]; exact E1⟩
        refine ⟨_, _, hd1, S2, T.wp_imp (wp_then q2) fun o _ z => ?_⟩
        have back : ∀ {nb : Nat} {hd2 : Addr → Prop} {σ2 : L2.St} {ρ2 : Env} {H2 : Hp}, SRep X (G.to (some (a, cls, dx)) G.fa) hs nb hd2 σ2 ρ2 H2 → SRep X G hs nb hd2 (σ2.set i none) ((clr ρ2).set i .none) H2 := fun {nb hd2 σ2 ρ2 H2} S => by
          have S3 : SRep X (G.to G.ea G.fa) hs nb hd2 σ2 (clr ρ2) H2 := S.clear
          exact SRep.put (G := G) S3 rfl trivial
        cases o with
        | nx ρ2 => exact fun hd2 σ2 H2 S x2 => z hd2 _ H2 (back S) (x1.trans x2)
        | ret d =>
          intro v H2 j L2' a2
          rw [leadS_er] at L2'
          exact z v H2 j L2' a2.re
        | brk ρ2 => exact fun hd2 σ2 H2 S x2 => z hd2 _ H2 (back S) (x1.trans x2)
        | ct ρ2 => exact fun hd2 σ2 H2 S x2 => z hd2 _ H2 (back S) (x1.trans x2)
        | rz k2 l2 ρ2 => exact z.elim
      · rw [hb'] at q2
        exact h2 Dn hd H nb k es ρ' hd1 cls dx σ1 H1 R1 x1 E1 q2
end
end Py
set_option Elab.async false
set_option linter.all false
set_option maxRecDepth 100000
set_option maxHeartbeats 4000000
/-! tuple(x), x an own list -/
namespace Py
open PySem PySem.Spec PyProof.Rows L2
section
variable {X : Cx} {G : Gl} {W : WX}
end
end Py
set_option Elab.async false
set_option linter.all false
set_option maxRecDepth 100000
set_option maxHeartbeats 4000000
/-! t[:0:-1], t a tuple: all but the first one, the last ahead -/
namespace Rz
open PySem PySem.Spec PyProof.Rows L2 HT
section
variable {P : Program} {w : World} {A : Around} {E : Value → Shared → Prop} {s : Shared}
theorem back_adj (n : Nat) : Builtin.Slice.sliceAdjust none (some 0) (-1) (n : Int) = ((n : Int) - 1, if (0 : Int) ≤ (n : Int) - 1 then 0 else (n : Int) - 1) := by
  unfold Builtin.Slice.sliceAdjust
  have a : (-1 : Int) < 0 := by decide
  have b : ¬ (0 : Int) < 0 := by decide
  simp only [a, b, if_true, if_false]
  refine Prod.ext rfl ?_
  show min (0 : Int) ((n : Int) - 1) = _
  split <;> omega
theorem back_many (n : Nat) : Builtin.Slice.slicePlaces ((n : Int) - 1) (if (0 : Int) ≤ (n : Int) - 1 then 0 else (n : Int) - 1) (-1) = n - 1 := by
  unfold Builtin.Slice.slicePlaces
  have a : ¬ ((-1 : Int) > 0) := by decide
  have b : -(-1 : Int) = 1 := by decide
  simp only [a, if_false, b, Int.ediv_one]
  split <;> split <;> omega
theorem map_some {α β : Type} {f : α → Option β} {g : α → β} : ∀ {l : List α}, (∀ x ∈ l, f x = some (g x)) → l.filterMap f = l.map g
  | [], _ => rfl
  | a :: l, h => by
    rw [List.filterMap_cons_some (h a (by simp)), List.map_cons, map_some fun x hx => h x (List.mem_cons_of_mem _ hx)]
theorem back_pick (xs : Array Value) : ((List.range (xs.size - 1)).filterMap fun (m : Nat) => xs[(((xs.size : Int) - 1) + (m : Int) * (-1)).toNat]?).toArray = (xs.toList.drop 1).reverse.toArray := by
  congr 1
  have e : ∀ m ∈ List.range (xs.size - 1), xs[(((xs.size : Int) - 1) + (m : Int) * (-1)).toNat]? = some (((xs.toList.drop 1).reverse)[m]?.getD .none) := fun m hm => by
    have hm := List.mem_range.mp hm
    have i : (((xs.size : Int) - 1) + (m : Int) * (-1)).toNat = xs.size - 1 - m := by omega
    have l1 : (xs.toList.drop 1).length = xs.size - 1 := by rw [List.length_drop, Array.length_toList]
    have k : m < (xs.toList.drop 1).reverse.length := by rw [List.length_reverse, l1]; exact hm
    rw [i, List.getElem?_eq_getElem k, List.getElem_reverse]
    have k2 : xs.size - 1 - m < xs.size := by omega
    rw [Array.getElem?_eq_getElem k2]
    simp only [List.getElem_drop, Option.getD_some, Option.some.injEq]
    rw [← Array.getElem_toList]
    congr 1
    rw [l1]
    omega
  rw [map_some e]
  refine List.ext_getElem? fun j => ?_
  rw [List.getElem?_map]
  by_cases c : j < xs.size - 1
  · rw [List.getElem?_range c]
    have k : j < (xs.toList.drop 1).reverse.length := by rw [List.length_reverse, List.length_drop, Array.length_toList]; exact c
    rw [List.getElem?_eq_getElem k]
    show some (((xs.toList.drop 1).reverse)[j]?.getD .none) = _
    rw [List.getElem?_eq_getElem k]
    rfl
  · have k : ¬ j < (xs.toList.drop 1).reverse.length := by rw [List.length_reverse, List.length_drop, Array.length_toList]; exact c
    rw [List.getElem?_eq_none (by simpa using c), List.getElem?_eq_none (by omega)]
    rfl
theorem back_slice {sl : Addr} {vl vu vs : Value} {n : Nat} {Q : Int × Int × Nat → Shared → Prop} (hs : s.heap.IsSliceOf sl vl vu vs) (pl : IsPart vl none) (pu : IsPart vu (some 0)) (ps : IsPart vs (some (-1)))
    (h : Q ((n : Int) - 1, -1, n - 1) s) : wpAny (model P w) A (Builtin.Slice.sliceApplied (.ref sl) (pure (n : Int))) Q E s := by
  obtain ⟨os, g, _, d⟩ := id hs
  unfold Builtin.Slice.sliceApplied Builtin.Slice.sliceFields
  refine wpAny_bind (wpAny_bind (wpAny_field g d (x := vl) rfl (wpAny_bind (wpAny_field g d (x := vu) rfl (wpAny_bind (wpAny_field g d (x := vs) rfl (wpAny_pure ?_)))))))
  refine wpAny_bind (slicePart_ ps ?_)
  show wpAny _ _ (if ((-1 : Int) == 0) = true then _ else _) _ _ s
  rw [if_neg (by decide)]
  refine wpAny_bind (slicePart_ pl (wpAny_bind (slicePart_ pu (wpAny_bind (wpAny_pure ?_)))))
  show wpAny _ _ (match Builtin.Slice.sliceAdjust none (some 0) (-1) (n : Int) with | (a, b) => pure (a, (-1 : Int), Builtin.Slice.slicePlaces a b (-1))) _ _ s
  rw [back_adj]
  show wpAny _ _ (pure ((n : Int) - 1, (-1 : Int), Builtin.Slice.slicePlaces ((n : Int) - 1) (if (0 : Int) ≤ (n : Int) - 1 then 0 else (n : Int) - 1) (-1))) _ _ s
  rw [back_many]
  exact wpAny_pure h
theorem back_item {t sl : Addr} {items : Array Value} {vl vu vs : Value} {Q : Value → Shared → Prop} (ht : IsTup s.heap t items) (hs : s.heap.IsSliceOf sl vl vu vs) (pl : IsPart vl none) (pu : IsPart vu (some 0)) (ps : IsPart vs (some (-1)))
    (h : Q (.ref s.heap.objs.size) { s with heap := s.heap.push ⟨.type "tuple", none, .seq (items.toList.drop 1).reverse.toArray 0, #[]⟩ }) (few : items.size ≤ sizeLine) : wpAny (model P w) A (getItem (.ref t) (.ref sl)) Q E s := by
  have ok : sizeOk (.seq (items.toList.drop 1).reverse.toArray) := by
    show (items.toList.drop 1).reverse.toArray.size ≤ sizeLine
    rw [List.size_toArray, List.length_reverse, List.length_drop, Array.length_toList]
    omega
  obtain ⟨os, g, c, d⟩ := id hs
  have hT : s.TypeIs (.ref sl) "slice" := ⟨os, g, c⟩
  unfold getItem
  try with_reducible refine wpAny_holding ?_
  first | refine wpAny_bind (wpAny_pure ?_) | skip
  refine wpAny_bind (wpAny_sequenceKey ht.typeIs (by decide) ?_)
  refine wpAny_bind (wpAny_callSpecial?_slot (name := Str.ofString "__getitem__") ht.typeIs PyProof.Rows.slot_tuple_getitem (wpAny_call_entry PyProof.Rows.slot_tuple_getitem ht.typeIs entry_tuple_getitem ?_ (args_tuple_getitem _ _)))
  show wpAny _ _ (Builtin.Tuple.tupleItemsOf (.ref t) >>= _) _ _ s
  refine wpAny_bind (tupleItemsOf_ ht ?_)
  refine wpAny_bind (wpAny_typeOf hT ?_)
  rw [if_pos (by decide)]
  refine wpAny_bind (back_slice hs pl pu ps ?_)
  have no : ¬ ((((items.size : Int) - 1) == 0 && (-1 : Int) == 1 && (items.size - 1) == items.size) = true) := by
    intro q
    rw [Bool.and_eq_true, Bool.and_eq_true] at q
    exact absurd q.1.2 (by decide)
  show wpAny _ _ (if (((items.size : Int) - 1) == 0 && (-1 : Int) == 1 && (items.size - 1) == items.size) = true then _ else _) _ _ s
  rw [if_neg no, back_pick]
  first
    | exact wpAny_bind (m := Builtin.Tuple.tupleExact _) (wpAny_newObj_type (wpAny_pure ⟨_, rfl, wpAny_pure h⟩) ok)
    | exact wpAny_bind (m := Builtin.Tuple.tupleExact _) (wpAny_newObj_type (wpAny_bind (wpAny_pure (wpAny_pure ⟨_, rfl, wpAny_pure h⟩))) ok)
end
end Rz

namespace Py
open PySem PySem.Spec PyProof.Rows L2
section
variable {X : Cx} {G : Gl} {W : WX}
end
end Py
set_option Elab.async false
set_option linter.all false
set_option maxRecDepth 100000
set_option maxHeartbeats 4000000
/-! t[::k], t a tuple, k 1 or -1 -/
namespace Rw
open PySem PySem.Spec PyProof.Rows L2 HT
section
variable {P : Program} {w : World} {A : Around} {E : Value → Shared → Prop} {s : Shared}
theorem adj_f (n : Nat) : Builtin.Slice.sliceAdjust none none 1 (n : Int) = (0, (n : Int)) := rfl
theorem adj_b (n : Nat) : Builtin.Slice.sliceAdjust none none (-1) (n : Int) = ((n : Int) - 1, -1) := rfl
theorem many_f (n : Nat) : Builtin.Slice.slicePlaces 0 (n : Int) 1 = n := by
  unfold Builtin.Slice.slicePlaces
  have a : (1 : Int) > 0 := by decide
  simp only [a, if_true, Int.ediv_one]
  split <;> omega
theorem many_b (n : Nat) : Builtin.Slice.slicePlaces ((n : Int) - 1) (-1) (-1) = n := by
  unfold Builtin.Slice.slicePlaces
  have a : ¬ ((-1 : Int) > 0) := by decide
  have b : -(-1 : Int) = 1 := by decide
  simp only [a, if_false, b, Int.ediv_one]
  split <;> omega
theorem pick_b (xs : Array Value) : ((List.range xs.size).filterMap fun (m : Nat) => xs[(((xs.size : Int) - 1) + (m : Int) * (-1)).toNat]?).toArray = xs.toList.reverse.toArray := by
  congr 1
  have e : ∀ m ∈ List.range xs.size, xs[(((xs.size : Int) - 1) + (m : Int) * (-1)).toNat]? = some ((xs.toList.reverse)[m]?.getD .none) := fun m hm => by
    have hm := List.mem_range.mp hm
    have i : (((xs.size : Int) - 1) + (m : Int) * (-1)).toNat = xs.size - 1 - m := by omega
    have k : m < xs.toList.reverse.length := by rw [List.length_reverse, Array.length_toList]; exact hm
    rw [i, List.getElem?_eq_getElem k, List.getElem_reverse]
    have k2 : xs.size - 1 - m < xs.size := by omega
    rw [Array.getElem?_eq_getElem k2]
    simp only [Option.getD_some, Option.some.injEq]
    rw [← Array.getElem_toList]
    rfl
  rw [Rz.map_some e]
  refine List.ext_getElem? fun j => ?_
  rw [List.getElem?_map]
  by_cases c : j < xs.size
  · rw [List.getElem?_range c]
    have k : j < xs.toList.reverse.length := by rw [List.length_reverse, Array.length_toList]; exact c
    rw [List.getElem?_eq_getElem k]
    show some ((xs.toList.reverse)[j]?.getD .none) = _
    rw [List.getElem?_eq_getElem k]
    rfl
  · have k : ¬ j < xs.toList.reverse.length := by rw [List.length_reverse, Array.length_toList]; exact c
    rw [List.getElem?_eq_none (by simpa using c), List.getElem?_eq_none (by omega)]
    rfl
theorem slice_one {sl : Addr} {vl vu vs : Value} {n : Nat} {Q : Int × Int × Nat → Shared → Prop} (hs : s.heap.IsSliceOf sl vl vu vs) (pl : IsPart vl none) (pu : IsPart vu none) (ps : IsPart vs (some 1))
    (h : Q (0, 1, n) s) : wpAny (model P w) A (Builtin.Slice.sliceApplied (.ref sl) (pure (n : Int))) Q E s := by
  obtain ⟨os, g, _, d⟩ := id hs
  unfold Builtin.Slice.sliceApplied Builtin.Slice.sliceFields
  refine wpAny_bind (wpAny_bind (wpAny_field g d (x := vl) rfl (wpAny_bind (wpAny_field g d (x := vu) rfl (wpAny_bind (wpAny_field g d (x := vs) rfl (wpAny_pure ?_)))))))
  refine wpAny_bind (slicePart_ ps ?_)
  show wpAny _ _ (if ((1 : Int) == 0) = true then _ else _) _ _ s
  rw [if_neg (by decide)]
  refine wpAny_bind (slicePart_ pl (wpAny_bind (slicePart_ pu (wpAny_bind (wpAny_pure ?_)))))
  show wpAny _ _ (match Builtin.Slice.sliceAdjust none none 1 (n : Int) with | (a, b) => pure (a, (1 : Int), Builtin.Slice.slicePlaces a b 1)) _ _ s
  rw [adj_f]
  show wpAny _ _ (pure ((0 : Int), (1 : Int), Builtin.Slice.slicePlaces 0 (n : Int) 1)) _ _ s
  rw [many_f]
  exact wpAny_pure h
theorem slice_back {sl : Addr} {vl vu vs : Value} {n : Nat} {Q : Int × Int × Nat → Shared → Prop} (hs : s.heap.IsSliceOf sl vl vu vs) (pl : IsPart vl none) (pu : IsPart vu none) (ps : IsPart vs (some (-1)))
    (h : Q ((n : Int) - 1, -1, n) s) : wpAny (model P w) A (Builtin.Slice.sliceApplied (.ref sl) (pure (n : Int))) Q E s := by
  obtain ⟨os, g, _, d⟩ := id hs
  unfold Builtin.Slice.sliceApplied Builtin.Slice.sliceFields
  refine wpAny_bind (wpAny_bind (wpAny_field g d (x := vl) rfl (wpAny_bind (wpAny_field g d (x := vu) rfl (wpAny_bind (wpAny_field g d (x := vs) rfl (wpAny_pure ?_)))))))
  refine wpAny_bind (slicePart_ ps ?_)
  show wpAny _ _ (if ((-1 : Int) == 0) = true then _ else _) _ _ s
  rw [if_neg (by decide)]
  refine wpAny_bind (slicePart_ pl (wpAny_bind (slicePart_ pu (wpAny_bind (wpAny_pure ?_)))))
  show wpAny _ _ (match Builtin.Slice.sliceAdjust none none (-1) (n : Int) with | (a, b) => pure (a, (-1 : Int), Builtin.Slice.slicePlaces a b (-1))) _ _ s
  rw [adj_b]
  show wpAny _ _ (pure ((n : Int) - 1, (-1 : Int), Builtin.Slice.slicePlaces ((n : Int) - 1) (-1) (-1))) _ _ s
  rw [many_b]
  exact wpAny_pure h
theorem one_item {t sl : Addr} {items : Array Value} {vl vu vs : Value} {Q : Value → Shared → Prop} (ht : IsTup s.heap t items) (hs : s.heap.IsSliceOf sl vl vu vs) (pl : IsPart vl none) (pu : IsPart vu none) (ps : IsPart vs (some 1))
    (h : Q (.ref t) s) (few : items.size ≤ sizeLine) : wpAny (model P w) A (getItem (.ref t) (.ref sl)) Q E s := by
  obtain ⟨os, g, c, d⟩ := id hs
  have hT : s.TypeIs (.ref sl) "slice" := ⟨os, g, c⟩
  unfold getItem
  try with_reducible refine wpAny_holding ?_
  first | refine wpAny_bind (wpAny_pure ?_) | skip
  refine wpAny_bind (wpAny_sequenceKey ht.typeIs (by decide) ?_)
  refine wpAny_bind (wpAny_callSpecial?_slot (name := Str.ofString "__getitem__") ht.typeIs PyProof.Rows.slot_tuple_getitem (wpAny_call_entry PyProof.Rows.slot_tuple_getitem ht.typeIs entry_tuple_getitem ?_ (args_tuple_getitem _ _)))
  show wpAny _ _ (Builtin.Tuple.tupleItemsOf (.ref t) >>= _) _ _ s
  refine wpAny_bind (tupleItemsOf_ ht ?_)
  refine wpAny_bind (wpAny_typeOf hT ?_)
  rw [if_pos (by decide)]
  refine wpAny_bind (slice_one (n := items.size) hs pl pu ps ?_)
  have yes : (((0 : Int) == 0 && (1 : Int) == 1 && items.size == items.size) = true) := by simp
  show wpAny _ _ (if ((0 : Int) == 0 && (1 : Int) == 1 && items.size == items.size) = true then _ else _) _ _ s
  rw [if_pos yes]
  refine wpAny_bind ?_
  show wpAny _ _ (typeOf (.ref t) >>= fun T => pure (T == .type "tuple")) _ _ s
  refine wpAny_bind (wpAny_typeOf ht.typeIs (wpAny_pure ?_))
  first
    | rw [if_pos (by decide)]
    | simp only [beq_self_eq_true, if_true]
  first
    | exact wpAny_bind (wpAny_rule (wpAny_pure ⟨_, rfl, wpAny_pure h⟩))
    | exact wpAny_bind (wpAny_rule (wpAny_bind (wpAny_pure (wpAny_pure ⟨_, rfl, wpAny_pure h⟩))))
theorem back_item {t sl : Addr} {items : Array Value} {vl vu vs : Value} {Q : Value → Shared → Prop} (ht : IsTup s.heap t items) (hs : s.heap.IsSliceOf sl vl vu vs) (pl : IsPart vl none) (pu : IsPart vu none) (ps : IsPart vs (some (-1)))
    (h : Q (.ref s.heap.objs.size) { s with heap := s.heap.push ⟨.type "tuple", none, .seq items.toList.reverse.toArray 0, #[]⟩ }) (few : items.size ≤ sizeLine) : wpAny (model P w) A (getItem (.ref t) (.ref sl)) Q E s := by
  have ok : sizeOk (.seq items.toList.reverse.toArray) := by
    show items.toList.reverse.toArray.size ≤ sizeLine
    rw [List.size_toArray, List.length_reverse, Array.length_toList]
    omega
  obtain ⟨os, g, c, d⟩ := id hs
  have hT : s.TypeIs (.ref sl) "slice" := ⟨os, g, c⟩
  unfold getItem
  try with_reducible refine wpAny_holding ?_
  first | refine wpAny_bind (wpAny_pure ?_) | skip
  refine wpAny_bind (wpAny_sequenceKey ht.typeIs (by decide) ?_)
  refine wpAny_bind (wpAny_callSpecial?_slot (name := Str.ofString "__getitem__") ht.typeIs PyProof.Rows.slot_tuple_getitem (wpAny_call_entry PyProof.Rows.slot_tuple_getitem ht.typeIs entry_tuple_getitem ?_ (args_tuple_getitem _ _)))
  show wpAny _ _ (Builtin.Tuple.tupleItemsOf (.ref t) >>= _) _ _ s
  refine wpAny_bind (tupleItemsOf_ ht ?_)
  refine wpAny_bind (wpAny_typeOf hT ?_)
  rw [if_pos (by decide)]
  refine wpAny_bind (slice_back (n := items.size) hs pl pu ps ?_)
  have no : ¬ ((((items.size : Int) - 1) == 0 && (-1 : Int) == 1 && items.size == items.size) = true) := by
    intro q
    rw [Bool.and_eq_true, Bool.and_eq_true] at q
    exact absurd q.1.2 (by decide)
  show wpAny _ _ (if (((items.size : Int) - 1) == 0 && (-1 : Int) == 1 && items.size == items.size) = true then _ else _) _ _ s
  rw [if_neg no, pick_b]
  first
    | exact wpAny_bind (m := Builtin.Tuple.tupleExact _) (wpAny_newObj_type (wpAny_pure ⟨_, rfl, wpAny_pure h⟩) ok)
    | exact wpAny_bind (m := Builtin.Tuple.tupleExact _) (wpAny_newObj_type (wpAny_bind (wpAny_pure (wpAny_pure ⟨_, rfl, wpAny_pure h⟩))) ok)
end
end Rw

namespace Py
open PySem PySem.Spec PyProof.Rows L2
section
variable {X : Cx} {G : Gl} {W : WX}
def stpD : D → D → Option D
  | .tup l, .int 1 => some (.tup l)
  | .tup l, .int (-1) => some (.tup l.reverse)
  | _, _ => none
def gStp (f g : Env → T D) : Env → T D := gOp stpD f g
def stpR (X : Cx) (Q : VK) (x : V) (o : Option Int) (H2 : Hp) : Prop := ∃ a xs, x = .ref a ∧ SqT X.K H2 a xs ∧ ((o = some 1 ∧ Q (.ref a) H2) ∨ (o = some (-1) ∧ NewT H2 Q xs.reverse))
theorem pe_stp {e se : Expr} {te ts : TE} {p3 pos : Pos} (he : PE X e te) (hse : PE X se ts) : PE X (.Subscript e (.Slice none none (some se) p3) pos)
    (fun σ H Q => te σ H fun x H1 => ts σ H1 fun y H2 => ∃ i, y = .int i ∧ stpR X Q x (some i) H2) := by
  refine ⟨fun pins s σ H Q I h => ?_⟩
  refine Subscript_ (thn (he.run pins s σ H _ I h) fun v s1 ⟨x, H1, I1, r1, q⟩ => ?_)
  have st : PO X (some se) (tPart ts) := po_some hse
  refine wpAny_Slice (thn (po_none.run pins s1 σ H1 (fun o J => o = none ∧ J = H1) I1 ⟨rfl, rfl⟩) fun vl s2 ⟨l, J, I2, pl, el, ej⟩ => ?_)
  subst el ej
  refine thn (po_none.run pins s2 σ J (fun o J' => o = none ∧ J' = J) I2 ⟨rfl, rfl⟩) fun vu s3 ⟨u, J', I3, pu, eu, ej⟩ => ?_
  subst eu ej
  refine thn (st.run pins s3 σ J' (stpR X Q x) I3 q) fun vs s4 ⟨o, J2, I4, ps, a, xs, ex, hx, q2⟩ => ?_
  subst ex
  cases r1
  have I5 : Inv X pins σ J2 { s4 with heap := s4.heap.push ⟨.type "slice", none, .fields #[vl, vu, vs], #[]⟩ } := I4.kept (t' := s4.toks) fun b ob q => Heap.get?_push_of_some _ q
  obtain ⟨its, r, ht, hz⟩ := I5.tuple hx
  have hl := r.length
  show wpAny (model X.prog X.w) X.A (subscriptTail e (.Slice none none (some se) p3) (.ref a) (.ref s4.heap.objs.size)) (EP X pins σ Q) X.xe { s4 with heap := s4.heap.push ⟨.type "slice", none, .fields #[vl, vu, vs], #[]⟩ }
  refine tail_any (ops := [.ref a, .ref s4.heap.objs.size]) ht.typeIs (PyProof.Rows.slot_tuple_getitem.lookup) ?_ rfl
  rcases q2 with ⟨eo, q2⟩ | ⟨eo, q2⟩
  · subst eo
    exact Rw.one_item ht (Heap.IsSliceOf.new _ vl vu vs) pl pu ps ⟨.ref a, _, I5, rfl, q2⟩ (by rw [List.size_toArray]; omega)
  · subst eo
    refine Rw.back_item ht (Heap.IsSliceOf.new _ vl vu vs) pl pu ps ?_ (by rw [List.size_toArray]; omega)
    exact newT (t' := s4.toks) I5 r.reverse (by rw [List.length_reverse]; omega) q2
theorem ee_stp (hK : G.K = X.K) {e se : Expr} {f g : Env → T D} {p3 pos : Pos} (he : EE X G W e f) (hg : EE X G W se g) : EE X G W (.Subscript e (.Slice none none (some se) p3) pos) (gStp f g) := by
  refine PE_imp (pe_stp he hg) fun σ H Q q => ?_
  obtain ⟨n, ρ, hd, R, q⟩ := q
  refine ⟨n, ρ, hd, R, T.wp_imp (wp_then q) fun a n1 q1 x H1 e1 h1 => ?_⟩
  refine ⟨n1, ρ, hd, R.lead e1, T.wp_mono (wp_then q1) (fun b n2 q2 y H2 e2 h2 => ?_) fun c l n2 z => xE.lead z e1⟩
  obtain ⟨d, e3, q3⟩ := wp_opt q2
  have g := R.good.lead (e1.trans e2)
  have h1' := h1.mono (e2.hide R.m)
  unfold stpD at e3
  split at e3
  · cases e3
    cases h2
    cases h1' with
    | tup h3 h4 => exact ⟨1, rfl, _, _, rfl, hide_sub.sqM (hK ▸ h3), .inl ⟨rfl, q3 _ _ (e1.trans e2) (.tup h3 h4)⟩⟩
  · cases e3
    cases h2
    cases h1' with
    | tup h3 h4 => exact ⟨-1, rfl, _, _, rfl, hide_sub.sqM (hK ▸ h3), .inr ⟨rfl, fun p o hp ho => q3 _ _ ((e1.trans e2).trans (Lead.new hp)) (.tup (.new (g.seen hp) ho) ((ats_rev h4).mono (g.old hp)))⟩⟩
  · cases e3
end
end Py
set_option Elab.async false
set_option linter.all false
set_option maxRecDepth 100000
set_option maxHeartbeats 4000000
/-! xs[i] = v, xs an own list; x = [..] * n, one's own; i += e -/
namespace Py
open PySem PySem.Spec PyProof.Rows L2
section
variable {X : Cx} {G : Gl} {W : WX} {hs : Hid}
end
end Py
set_option Elab.async false
set_option linter.all false
set_option maxRecDepth 100000
set_option maxHeartbeats 4000000
/-! dict(t) as a dict of one's own; zip, its pairs without a dict -/
namespace Zf
open PySem PySem.Spec PyProof.Rows L2 Py
/-- the items of both that S1, S2 tell, in new pairs -/
def Itf (S1 S2 : Hp → List V → Prop) : It :=
  ⟨fun i H => ∃ (xs ys : List V) (x y : V), S1 H xs ∧ S2 H ys ∧ xs[i]? = some x ∧ ys[i]? = some y,
    fun i H v H' => ∃ T x y, v = .ref T ∧ H T = none ∧ (∃ o : Obj, o.dict = none ∧ H' = upd H T (.frz o (.tup [x, y]))) ∧ (∀ xs, S1 H xs → xs[i]? = some x) ∧ ∀ ys, S2 H ys → ys[i]? = some y,
    fun i H => ∃ xs ys : List V, S1 H xs ∧ S2 H ys ∧ (xs.length ≤ i ∨ ys.length ≤ i)⟩
section
variable {P : Program} {w : World} {K : PySem.W.Frag} {elts : List Expr} {kk : Nat} {tpos : Pos} {a b z TI TO i1 i2 : Addr}
theorem turnT (D : ZipApart z TI TO i1 i2 a b) : Turn P w K (.Tuple elts kk tpos) (Itf (fun H xs => SqT K H a xs) (fun H ys => SqT K H b ys)) [z, TI, TO, i1, i2] z (fun i h => IsZip h z TI TO .none ∧ IsPair h TI (.ref i1) (.ref i2) ∧ (∃ x y, IsPair h TO x y) ∧ h.IsTupleIter i1 a i ∧ h.IsTupleIter i2 b i) where
  mem := (RZ.turn_zipT (P := P) (w := w) (K := K) (elts := elts) (kk := kk) (tpos := tpos) D).mem
  obj := (RZ.turn_zipT (P := P) (w := w) (K := K) (elts := elts) (kk := kk) (tpos := tpos) D).obj
  keep := (RZ.turn_zipT (P := P) (w := w) (K := K) (elts := elts) (kk := kk) (tpos := tpos) D).keep
  self := (RZ.turn_zipT (P := P) (w := w) (K := K) (elts := elts) (kk := kk) (tpos := tpos) D).self
  done := (RZ.turn_zipT (P := P) (w := w) (K := K) (elts := elts) (kk := kk) (tpos := tpos) D).done
  item := by
    intro X hP hw hK hc i pins s σ H E I hf st hg
    subst hP hw hK
    obtain ⟨hz, hTI, ⟨x0, y0, hTO⟩, h1, h2⟩ := st
    obtain ⟨xs, ys, x, y, hqx, hqy, hx, hy⟩ := hg
    obtain ⟨its, rv, p, _⟩ := I.tuple hqx
    obtain ⟨its2, rv2, p2, _⟩ := I.tuple hqy
    obtain ⟨u, hu, ru⟩ := rv.get hx
    obtain ⟨u2, hu2, ru2⟩ := rv2.get hy
    have hzl : z < s.heap.objs.size := Heap.lt_size hz
    refine RZ.pyNext_zipT_item D hz hTI hTO h1 h2 p p2 (x := u) (y := u2) (by simpa using hu) (by simpa using hu2) fun h' z' TO' h1' h2' hT hsz hk => ?_
    refine ⟨_, rfl, wpAny_letOwnedTupleGo_zip (s := { s with heap := h' }) z' fun h'' z'' sb => ?_⟩
    have hT2 : h''.get? s.heap.objs.size = some (tupO [u, u2]) := (sb.2 _ (Nat.ne_of_gt hzl)).trans hT
    have nw : ObjOk X.prog X.w (upd H s.heap.objs.size (.frz (tupO [u, u2]) (.tup [x, y]))) h'' s.heap.objs.size (.frz (tupO [u, u2]) (.tup [x, y])) := okT (.cons ru (.cons ru2 .nil)) (by show (2 : Nat) ≤ sizeLine; decide) hT2
    have far : ∀ {c : Addr}, c ∉ [z, TI, TO, i1, i2] → c ≠ z ∧ c ≠ TI ∧ c ≠ TO ∧ c ≠ i1 ∧ c ≠ i2 := fun hb => ⟨fun e => hb (by simp [e]), fun e => hb (by simp [e]), fun e => hb (by simp [e]), fun e => hb (by simp [e]), fun e => hb (by simp [e])⟩
    have I1 := I.turnedNew (t' := s.toks) (ch := [z, TI, TO, i1, i2]) (fun c o hb q => by
      obtain ⟨c1, c2, c3, c4, c5⟩ := far hb
      exact (sb.2 c c1).trans (hk c o c1 c3 c4 c5 q)) hf (Nat.le_refl _) nw
    have live : ∀ c ∈ [z, TI, TO, i1, i2], c < s.heap.objs.size := fun c hc => by
      simp only [List.mem_cons, List.not_mem_nil, or_false] at hc
      rcases hc with rfl | rfl | rfl | rfl | rfl
      · exact hzl
      · exact Heap.lt_size hTI
      · exact Heap.lt_size hTO
      · exact Heap.lt_size h1.choose_spec.1
      · exact Heap.lt_size h2.choose_spec.1
    refine ⟨.ref s.heap.objs.size, _, I1, rfl, ⟨_, x, y, rfl, I.hok.fresh (Nat.le_refl _), ⟨_, rfl, rfl⟩, fun l hl => by rw [I.tuple_inj hl hqx]; exact hx, fun l hl => by rw [I.tuple_inj hl hqy]; exact hy⟩,
      ⟨z'', (sb.2 _ D.TIz).trans (hk _ _ D.TIz D.TITO D.TIi1 D.TIi2 hTI), ⟨u, u2, (sb.2 _ D.TOz).trans TO'⟩, h1'.at fun o q => (sb.2 _ D.i1z).trans q, h2'.at fun o q => (sb.2 _ D.i2z).trans q⟩, fun c hcm => ?_⟩
    rw [upd_ne (Nat.ne_of_lt (live c hcm))]
    exact (hf c hcm).1
theorem turnL (D : ZipApart z TI TO i1 i2 a b) : Turn P w K (.Tuple elts kk tpos) (Itf (fun H xs => SqL K H a xs) (fun H ys => SqL K H b ys)) [z, TI, TO, i1, i2] z (fun i h => IsZip h z TI TO .none ∧ IsPair h TI (.ref i1) (.ref i2) ∧ (∃ x y, IsPair h TO x y) ∧ h.IsListIter i1 a i ∧ h.IsListIter i2 b i) where
  mem := (turn_zip (P := P) (w := w) (K := K) (elts := elts) (kk := kk) (tpos := tpos) D).mem
  obj := (turn_zip (P := P) (w := w) (K := K) (elts := elts) (kk := kk) (tpos := tpos) D).obj
  keep := (turn_zip (P := P) (w := w) (K := K) (elts := elts) (kk := kk) (tpos := tpos) D).keep
  self := (turn_zip (P := P) (w := w) (K := K) (elts := elts) (kk := kk) (tpos := tpos) D).self
  done := (turn_zip (P := P) (w := w) (K := K) (elts := elts) (kk := kk) (tpos := tpos) D).done
  item := by
    intro X hP hw hK hc i pins s σ H E I hf st hg
    subst hP hw hK
    obtain ⟨hz, hTI, ⟨x0, y0, hTO⟩, h1, h2⟩ := st
    obtain ⟨xs, ys, x, y, hqx, hqy, hx, hy⟩ := hg
    obtain ⟨its, rv, p, _⟩ := I.list hqx
    obtain ⟨its2, rv2, p2, _⟩ := I.list hqy
    obtain ⟨u, hu, ru⟩ := rv.get hx
    obtain ⟨u2, hu2, ru2⟩ := rv2.get hy
    have hzl : z < s.heap.objs.size := Heap.lt_size hz
    refine wpAny_pyNext_zip_item D hz hTI hTO h1 h2 p.isList p2.isList (x := u) (y := u2) (by simpa using hu) (by simpa using hu2) fun h' z' TO' h1' h2' hT hsz hk => ?_
    refine ⟨_, rfl, wpAny_letOwnedTupleGo_zip (s := { s with heap := h' }) z' fun h'' z'' sb => ?_⟩
    have hT2 : h''.get? s.heap.objs.size = some (tupO [u, u2]) := (sb.2 _ (Nat.ne_of_gt hzl)).trans hT
    have nw : ObjOk X.prog X.w (upd H s.heap.objs.size (.frz (tupO [u, u2]) (.tup [x, y]))) h'' s.heap.objs.size (.frz (tupO [u, u2]) (.tup [x, y])) := okT (.cons ru (.cons ru2 .nil)) (by show (2 : Nat) ≤ sizeLine; decide) hT2
    have far : ∀ {c : Addr}, c ∉ [z, TI, TO, i1, i2] → c ≠ z ∧ c ≠ TI ∧ c ≠ TO ∧ c ≠ i1 ∧ c ≠ i2 := fun hb => ⟨fun e => hb (by simp [e]), fun e => hb (by simp [e]), fun e => hb (by simp [e]), fun e => hb (by simp [e]), fun e => hb (by simp [e])⟩
    have I1 := I.turnedNew (t' := s.toks) (ch := [z, TI, TO, i1, i2]) (fun c o hb q => by
      obtain ⟨c1, c2, c3, c4, c5⟩ := far hb
      exact (sb.2 c c1).trans (hk c o c1 c3 c4 c5 q)) hf (Nat.le_refl _) nw
    have live : ∀ c ∈ [z, TI, TO, i1, i2], c < s.heap.objs.size := fun c hc => by
      simp only [List.mem_cons, List.not_mem_nil, or_false] at hc
      rcases hc with rfl | rfl | rfl | rfl | rfl
      · exact hzl
      · exact Heap.lt_size hTI
      · exact Heap.lt_size hTO
      · exact Heap.lt_size h1.choose_spec.1
      · exact Heap.lt_size h2.choose_spec.1
    refine ⟨.ref s.heap.objs.size, _, I1, rfl, ⟨_, x, y, rfl, I.hok.fresh (Nat.le_refl _), ⟨_, rfl, rfl⟩, fun l hl => by rw [I.list_inj hl hqx]; exact hx, fun l hl => by rw [I.list_inj hl hqy]; exact hy⟩,
      ⟨z'', (sb.2 _ D.TIz).trans (hk _ _ D.TIz D.TITO D.TIi1 D.TIi2 hTI), ⟨u, u2, (sb.2 _ D.TOz).trans TO'⟩, h1'.at fun o q => (sb.2 _ D.i1z).trans q, h2'.at fun o q => (sb.2 _ D.i2z).trans q⟩, fun c hcm => ?_⟩
    rw [upd_ne (Nat.ne_of_lt (live c hcm))]
    exact (hf c hcm).1
end
def iZipF (K : PySem.W.Frag) (ta : TA) : TI := fun σ H R => ta σ H fun vs H1 => ∃ a b xs ys, vs = [.ref a, .ref b] ∧ ((SqL K H1 a xs ∧ SqL K H1 b ys ∧ R (Itf (fun H xs => SqL K H a xs) (fun H ys => SqL K H b ys)) H1) ∨ (SqT K H1 a xs ∧ SqT K H1 b ys ∧ R (Itf (fun H xs => SqT K H a xs) (fun H ys => SqT K H b ys)) H1))
theorem pi_zipF {X : Cx} {e e2 : Expr} {ta : TA} {p pos tpos : Pos} {elts : List Expr} {kk : Nat} (hg : L2.Gl X "zip") (hm : X.mg "zip" = none) (ha : PA X [e, e2] ta)
    (hs : starEach [e, e2] X.env = (false, eval e X.env) :: starEach [e2] X.env := by rfl) (hpl : (backTo pos (starEach [e2] X.env)).any (·.1) = false := by rfl) :
    PI X (.Tuple elts kk tpos) (.Call (.Name "zip" p) [e, e2] [] pos) (iZipF X.K ta) := by
  refine ⟨fun pins s σ H R I h => ?_⟩
  refine Call_ (ld_blt I hg hm PyProof.Rows.boot_zip (PyProof.Rows.callWith_type1 (thn (ha.run pos pins s σ H _ I h) fun us s1 ⟨vs, H1, I1, r1, q1⟩ => ?_) hs hpl))
  obtain ⟨a, b, xs, ys, rfl, q1⟩ := q1
  cases r1 with
  | cons r rr =>
    cases rr with
    | cons r' rr =>
      cases rr
      cases r
      cases r'
      have above : ∀ c, c ∈ [s1.heap.objs.size + 4, s1.heap.objs.size + 2, s1.heap.objs.size + 3, s1.heap.objs.size, s1.heap.objs.size + 1] → FpOk X pins H1 c := fun c hc => by
        have hle : s1.heap.objs.size ≤ c := by
          simp only [List.mem_cons, List.not_mem_nil, or_false] at hc
          omega
        exact I1.fpOk hle (I1.hok.fresh hle)
      rcases q1 with ⟨hqx, hqy, q⟩ | ⟨hqx, hqy, q⟩
      · obtain ⟨its, rv, p1, _⟩ := I1.list hqx
        obtain ⟨its2, rv2, p2, _⟩ := I1.list hqy
        refine call_zip_2 p1.isList p2.isList fun h' hz hTI hTO h1 h2 hsz hk => wpAny_pyIter_zip hz ?_
        exact ⟨s1.heap.objs.size + 4, [s1.heap.objs.size + 4, s1.heap.objs.size + 2, s1.heap.objs.size + 3, s1.heap.objs.size, s1.heap.objs.size + 1], _, _, H1, rfl, I1.kept (t' := s1.toks) hk, turnL (PySem.W.ktu_apart s1.heap.objs.size a b p1.lt p2.lt), ⟨hz, hTI, ⟨_, _, hTO⟩, h1, h2⟩, above, q⟩
      · obtain ⟨its, rv, p1, _⟩ := I1.tuple hqx
        obtain ⟨its2, rv2, p2, _⟩ := I1.tuple hqy
        refine RZ.call_zipT (show s1.heap.IsTuple a its.toArray from p1) (show s1.heap.IsTuple b its2.toArray from p2) fun h' hz hTI hTO h1 h2 hsz hk => wpAny_pyIter_zip hz ?_
        exact ⟨s1.heap.objs.size + 4, [s1.heap.objs.size + 4, s1.heap.objs.size + 2, s1.heap.objs.size + 3, s1.heap.objs.size, s1.heap.objs.size + 1], _, _, H1, rfl, I1.kept (t' := s1.toks) hk, turnT (PySem.W.ktu_apart s1.heap.objs.size a b p1.lt p2.lt), ⟨hz, hTI, ⟨_, _, hTO⟩, h1, h2⟩, above, q⟩
end Zf
namespace Py
open PySem PySem.Spec PyProof.Rows L2
section
variable {X : Cx} {G : Gl} {W : WX}
theorem zip_rep {S1 S2 : Hp → List V → Prop} {hd : Addr → Prop} {H : Hp} {xs ys : List V} {ds es : List D} (S : ∀ hd' H', Ex (hide hd H) (hide hd' H') → S1 H' xs ∧ S2 H' ys) (r1 : Ats G (hide hd H) ds xs) (r2 : Ats G (hide hd H) es ys) : ItRep G hd (Zf.Itf S1 S2) (zipP ds es) H := fun i nb hd' H1 e g => by
  obtain ⟨s1, s2⟩ := S hd' H1 e
  have r1' := r1.mono e
  have r2' := r2.mono e
  rw [zipP_len]
  refine ⟨fun hi => ?_, fun hi => ⟨xs, ys, s1, s2, by rw [← r1'.length, ← r2'.length]; omega⟩⟩
  have i1 : i < ds.length := by omega
  have i2 : i < es.length := by omega
  obtain ⟨x, hx, ax⟩ := r1'.get' (List.getElem?_eq_getElem i1)
  obtain ⟨y, hy, ay⟩ := r2'.get' (List.getElem?_eq_getElem i2)
  refine ⟨⟨xs, ys, x, y, s1, s2, hx, hy⟩, fun v H2 q => ?_⟩
  obtain ⟨T, x', y', rfl, nT, ⟨o, ho, rfl⟩, q1, q2⟩ := q
  have ex : x' = x := Option.some.inj ((q1 xs s1).symm.trans hx)
  have ey : y' = y := Option.some.inj ((q2 ys s2).symm.trans hy)
  subst ex
  subst ey
  exact ⟨Lead.new nT, _, zipP_get ds es i _ _ (List.getElem?_eq_getElem i1) (List.getElem?_eq_getElem i2), .tup (.new (g.seen nT) ho) (.cons (ax.mono (g.old nT)) (.cons (ay.mono (g.old nT)) .nil))⟩
theorem ei_zip (hK : G.K = X.K) {e e2 : Expr} {p pos tpos : Pos} {elts : List Expr} {kk : Nat} {fa : Env → T (List D)} (hg : L2.Gl X "zip") (hm : X.mg "zip" = none) (ha : EA X G W [e, e2] fa) (hs : starEach [e, e2] X.env = (false, eval e X.env) :: starEach [e2] X.env := by rfl) (hpl : (backTo pos (starEach [e2] X.env)).any (·.1) = false := by rfl) :
    EI X G W (.Tuple elts kk tpos) (.Call (.Name "zip" p) [e, e2] [] pos) (fun ρ => fa ρ >>= zipR) := by
  refine PI_imp (Zf.pi_zipF hg hm ha hs hpl) fun σ H R q => ?_
  obtain ⟨_, ρ, hd, Rp, q⟩ := q
  refine ⟨_, ρ, hd, Rp, T.wp_imp (wp_then q) fun l _ q1 vs H1 e1 h => ?_⟩
  obtain ⟨m, n, hm, q2⟩ := zipR_wp q1
  rcases hm with rfl | rfl
  · cases h with
    | cons h1 h2 =>
      cases h2 with
      | cons h3 h4 =>
        cases h4
        cases h1 with
        | @tup _ a xs t1 t2 =>
          cases h3 with
          | @tup _ b ys t3 t4 =>
            have k1 : SqN X.K (hide hd H1) a xs := hK ▸ t1
            have k2 : SqN X.K (hide hd H1) b ys := hK ▸ t3
            exact ⟨a, b, xs, ys, rfl, .inr ⟨hide_sub.sqM k1, hide_sub.sqM k2, q2 _ _ e1 (zip_rep (fun hd' H' x => ⟨hide_sub.sqM (x.sqN k1), hide_sub.sqM (x.sqN k2)⟩) t2 t4)⟩⟩
  · cases h with
    | cons h1 h2 =>
      cases h2 with
      | cons h3 h4 =>
        cases h4
        cases h1 with
        | @lst _ a xs t1 t2 =>
          cases h3 with
          | @lst _ b ys t3 t4 =>
            exact ⟨a, b, xs, ys, rfl, .inl ⟨.inl (.inl (hide_sub _ _ t1)), .inl (.inl (hide_sub _ _ t3)), q2 _ _ e1 (zip_rep (fun hd' H' x => ⟨.inl (.inl (hide_sub _ _ (x _ _ t1))), .inl (.inl (hide_sub _ _ (x _ _ t3)))⟩) t2 t4)⟩⟩
/-! ### x.get(k, e), x an own dict whose keys are ints, texts -/
end
end Py
set_option Elab.async false
set_option linter.all false
set_option maxRecDepth 100000
set_option maxHeartbeats 4000000
/-! sorted(d.items()), the keys ints, texts -/
namespace Py
open PySem PySem.Spec PyProof.Rows L2
section
variable {X : Cx} {G : Gl} {W : WX} {pins : List (Addr × Obj)} {σ : L2.St} {s : Shared}
end
end Py
set_option Elab.async false
set_option linter.all false
set_option maxRecDepth 100000
set_option maxHeartbeats 4000000
/-! a == b, both equal for sure: plain data, dicts without entries, lists and tuples of such -/
namespace Py
open PySem PySem.Spec PyProof.Rows L2
def leafP (a b : D) : Bool := match pyD a, pyD b with
  | some p, some q => p.canLay0 && (q.canLay0 && (decide (p.depth ≤ 50) && PyData.eqv p q))
  | _, _ => false
def isE0 : D → Bool
  | .dic ks vs => ks.isEmpty && vs.isEmpty
  | _ => false
def eqS : Nat → D → D → Bool
  | 0, a, b => leafP a b || (isE0 a && isE0 b)
  | n + 1, a, b => leafP a b || ((isE0 a && isE0 b) || (match a, b with
    | .lst l, .lst r => decide (l.length = r.length) && (l.zip r).all fun p => eqS n p.1 p.2
    | .tup l, .tup r => decide (l.length = r.length) && (l.zip r).all fun p => eqS n p.1 p.2
    | _, _ => false))
theorem leafP_is {a b : D} (h : leafP a b = true) : ∃ p q, pyD a = some p ∧ pyD b = some q ∧ p.canLay0 = true ∧ q.canLay0 = true ∧ p.depth ≤ 50 ∧ PyData.eqv p q = true := by
  unfold leafP at h
  split at h
  · rename_i p q e1 e2
    simp only [Bool.and_eq_true, decide_eq_true_eq] at h
    exact ⟨p, q, e1, e2, h.1, h.2.1, h.2.2.1, h.2.2.2⟩
  · cases h
theorem isE0_is {a : D} (h : isE0 a = true) : a = .dic [] [] := by
  unfold isE0 at h
  split at h
  · rename_i ks vs
    rw [Bool.and_eq_true, List.isEmpty_iff, List.isEmpty_iff] at h
    rw [h.1, h.2]
  · cases h
section
variable {X : Cx} {G : Gl} {pins : List (Addr × Obj)} {σ : L2.St} {s : Shared} {H : Hp} {hd : Addr → Prop}
theorem e0_at (I : Inv X pins σ H s) {x : V} (h : At G (hide hd H) (.dic [] []) x) : ∃ a, x = .ref a ∧ (a == sysModules) = false ∧ ∀ (P : Program) (w : World), s.heap.DictOf (mixKind P w) a [] := by
  cases h with
  | @dic _ _ a kvs e a1 a2 =>
    have hk : kvs = [] := by
      cases kvs with
      | nil => rfl
      | cons _ _ => cases a1
    subst hk
    obtain ⟨_, hm, vs, rel, o, es, ep, h1, h2, h3, _, prs, _⟩ := dk_rd I.hok (e.mono hide_sub).rd
    have hv : vs = [] := by
      cases rel
      rfl
    subst hv
    have he : es = #[] := by
      have : es.toList = [] := by
        cases hq : es.toList with
        | nil => rfl
        | cons _ _ =>
          rw [hq] at prs
          cases prs
      exact Array.toList_eq_nil_iff.mp this
    subst he
    exact ⟨a, rfl, hm, fun P w => ⟨o, #[], ep, h1, h2, h3, (fun e he => by simp at he), .nil, .nil⟩⟩
theorem refs_eq {A : Around} {a b : Addr} (h : a ≠ b → SeqAt.RcAt A s (.ref a) (.ref b) true) : SeqAt.EqAt A s (.ref a) (.ref b) true := by
  by_cases c : a = b
  · rw [c]
    exact SeqAt.EqAt.same _
  · exact SeqAt.EqAt.of_refs c (h c)
theorem all_true {α : Type} (l : List α) : (l.all fun _ => true) = true := by simp
theorem zip_all {f : D → D → Bool} : ∀ {l r : List D} {i : Nat} {a b : D}, ((l.zip r).all fun p => f p.1 p.2) = true → l[i]? = some a → r[i]? = some b → f a b = true
  | x :: l, y :: r, 0, a, b, h, h1, h2 => by
    rw [List.zip_cons_cons, List.all_cons, Bool.and_eq_true] at h
    cases h1
    cases h2
    exact h.1
  | x :: l, y :: r, i + 1, a, b, h, h1, h2 => by
    rw [List.zip_cons_cons, List.all_cons, Bool.and_eq_true] at h
    exact zip_all h.2 (by simpa using h1) (by simpa using h2)
  | [], _, _, _, _, _, h1, _ => by simp at h1
  | _ :: _, [], _, _, _, _, _, h2 => by simp at h2
theorem leaf_at (hK : G.K = X.K) (I : Inv X pins σ H s) {a b : D} {x y : V} {u v : Value} {A : Around} (h : (leafP a b || (isE0 a && isE0 b)) = true) (hu : A.units + 50 < cLine) (h1 : At G (hide hd H) a x) (h2 : At G (hide hd H) b y) (r1 : RelV x u) (r2 : RelV y v) : SeqAt.EqAt A s u v true := by
  rw [Bool.or_eq_true] at h
  rcases h with h | h
  · obtain ⟨p, q, e1, e2, c1, c2, dp, ev⟩ := leafP_is h
    obtain ⟨as, g1⟩ := Dp.reads I p x u (dp_of hK h1 e1) r1
    obtain ⟨bs, g2⟩ := Dp.reads I q y v (dp_of hK h2 e2) r2
    have := SeqAt.eqAt_reads p q A s u v as bs g1 g2 c1 c2 (Nat.lt_of_le_of_lt (Nat.add_le_add_left (Nat.le_trans (Nat.min_le_left _ _) dp) _) hu)
    rw [ev] at this
    exact this
  · rw [Bool.and_eq_true] at h
    have ea := isE0_is h.1
    have eb := isE0_is h.2
    subst ea
    subst eb
    obtain ⟨p, rfl, m1, d1⟩ := e0_at I h1
    obtain ⟨q, rfl, m2, d2⟩ := e0_at I h2
    cases r1
    cases r2
    exact refs_eq fun _ P w E Q hq => PySem.W.keq_eq (knd := mixKind P w) (r := true) m1 m2 (d1 P w) (d2 P w) (by omega) (fun _ => by first | exact .nil | exact trivial | (intro z; simp) | simp [PySem.W.KeqHits]) hq
theorem list_items (I : Inv X pins σ H s) {l : List D} {a : Addr} {xs : List V} (h1 : (hide hd H) a = some (.lst xs)) (h2 : Ats G (hide hd H) l xs) : ∃ its : List Value, Vals xs its ∧ s.heap.IsList a its.toArray ∧ its.length = l.length := by
  obtain ⟨its, r, pl, _⟩ := I.list (.inl (.inl (hide_sub _ _ h1)))
  exact ⟨its, r, pl.isList, by rw [← r.length, h2.length]⟩
theorem tup_items (hK : G.K = X.K) (I : Inv X pins σ H s) {l : List D} {a : Addr} {xs : List V} (h1 : SqN G.K (hide hd H) a xs) (h2 : Ats G (hide hd H) l xs) : ∃ its : List Value, Vals xs its ∧ s.heap.IsTuple a its.toArray ∧ its.length = l.length := by
  obtain ⟨its, r, pl, _⟩ := I.tuple (hide_sub.sqM (hK ▸ h1))
  exact ⟨its, r, pl, by rw [← r.length, h2.length]⟩
theorem item_at {l : List D} {xs : List V} {its : List Value} (h : Ats G (hide hd H) l xs) (r : Vals xs its) {j : Nat} (hj : j < its.toArray.size) : ∃ d x, l[j]? = some d ∧ At G (hide hd H) d x ∧ RelV x its.toArray[j] := by
  have hj' : j < its.length := by simpa using hj
  have hx : j < xs.length := by rw [r.length]; exact hj'
  obtain ⟨d, e1, a1⟩ := h.get (List.getElem?_eq_getElem hx)
  obtain ⟨w, e2, r1⟩ := r.get (List.getElem?_eq_getElem hx)
  have e3 : its[j] = w := by
    rw [List.getElem?_eq_getElem hj'] at e2
    exact Option.some.inj e2
  exact ⟨d, xs[j], e1, a1, by simpa [e3] using r1⟩
theorem eqS_at (hK : G.K = X.K) (I : Inv X pins σ H s) : ∀ (n : Nat) {a b : D} {x y : V} {u v : Value} {A : Around}, eqS n a b = true → A.units + n + 50 < cLine → At G (hide hd H) a x → At G (hide hd H) b y → RelV x u → RelV y v → SeqAt.EqAt A s u v true
  | 0, a, b, x, y, u, v, A, h, hu, h1, h2, r1, r2 => leaf_at hK I h (by omega) h1 h2 r1 r2
  | n + 1, a, b, x, y, u, v, A, h, hu, h1, h2, r1, r2 => by
    by_cases q : (leafP a b || (isE0 a && isE0 b)) = true
    · exact leaf_at hK I q (by omega) h1 h2 r1 r2
    · have h0 := h
      unfold eqS at h
      rw [← Bool.or_assoc, Bool.or_eq_true] at h
      have h := h.resolve_left q
      split at h
      · rename_i l r
        rw [Bool.and_eq_true, decide_eq_true_iff] at h
        cases h1 with
        | @lst _ p xs g1 g2 =>
          cases h2 with
          | @lst _ p' ys g3 g4 =>
            cases r1
            cases r2
            obtain ⟨i1, v1, l1, n1⟩ := list_items I g1 g2
            obtain ⟨i2, v2, l2, n2⟩ := list_items I g3 g4
            refine refs_eq fun _ => ?_
            have := SeqAt.RcAt.lists (A := A) (e := fun _ => true) l1 l2 (by simp only [List.size_toArray]; omega) (by omega) fun j j1 j2 => by
              obtain ⟨d1, x1, e1, t1, w1⟩ := item_at g2 v1 j1
              obtain ⟨d2, x2, e2, t2, w2⟩ := item_at g4 v2 j2
              exact eqS_at hK I n (zip_all (f := eqS n) h.2 e1 e2) (by rw [Around.in1_units]; omega) t1 t2 w1 w2
            rw [all_true] at this
            exact this
      · rename_i l r
        rw [Bool.and_eq_true, decide_eq_true_iff] at h
        cases h1 with
        | @tup _ p xs g1 g2 =>
          cases h2 with
          | @tup _ p' ys g3 g4 =>
            cases r1
            cases r2
            obtain ⟨i1, v1, l1, n1⟩ := tup_items hK I g1 g2
            obtain ⟨i2, v2, l2, n2⟩ := tup_items hK I g3 g4
            refine refs_eq fun _ => ?_
            have := SeqAt.RcAt.tuples (A := A) (e := fun _ => true) l1 l2 (by omega) fun j j1 j2 => by
              obtain ⟨d1, x1, e1, t1, w1⟩ := item_at g2 v1 j1
              obtain ⟨d2, x2, e2, t2, w2⟩ := item_at g4 v2 j2
              exact eqS_at hK I n (zip_all (f := eqS n) h.2 e1 e2) (by rw [Around.in1_units]; omega) t1 t2 w1 w2
            rw [all_true, show (i1.toArray.size == i2.toArray.size) = true from by simp only [List.size_toArray]; rw [n1, n2, h.1]; simp] at this
            exact this
      · cases h
theorem ls_parts (hK : G.K = X.K) (hu : X.A.units + 64 < cLine) (I : Inv X pins σ H s) {l r : List D} {p p' : Addr} {xs ys : List V} (g1 : (hide hd H) p = some (.lst xs)) (g2 : Ats G (hide hd H) l xs) (g3 : (hide hd H) p' = some (.lst ys)) (g4 : Ats G (hide hd H) r ys) (hl : l.length = r.length) (hz : ((l.zip r).all fun p => eqS 3 p.1 p.2) = true) :
    ∃ i1 i2 : List Value, s.heap.IsList p i1.toArray ∧ s.heap.IsList p' i2.toArray ∧ i1.toArray.size = i2.toArray.size ∧ ∀ j (h1 : j < i1.toArray.size) (h2 : j < i2.toArray.size), SeqAt.EqAt X.A.in1 s i1.toArray[j] i2.toArray[j] true := by
  obtain ⟨i1, v1, l1, n1⟩ := list_items I g1 g2
  obtain ⟨i2, v2, l2, n2⟩ := list_items I g3 g4
  refine ⟨i1, i2, l1, l2, by simp only [List.size_toArray]; omega, fun j j1 j2 => ?_⟩
  obtain ⟨d1, x1, e1, t1, w1⟩ := item_at g2 v1 j1
  obtain ⟨d2, x2, e2, t2, w2⟩ := item_at g4 v2 j2
  exact eqS_at hK I 3 (zip_all (f := eqS 3) hz e1 e2) (by rw [Around.in1_units]; omega) t1 t2 w1 w2
/-- {} -/
theorem ee_dic0 {W : WX} {pos : Pos} : EE X G W (.Dict [] [] pos) (gC (.dic [] [])) := by
  refine PE_imp pe_dnewK fun σ H Q q p hp => ?_
  obtain ⟨nb, ρ, hd, R, q⟩ := q
  exact q _ _ (Lead.new hp) (.dic (.inl (R.good.seen hp)) .nil .nil)
end
end Py
set_option Elab.async false
set_option linter.all false
set_option maxRecDepth 100000
set_option maxHeartbeats 4000000
/-! functions handed on: what they are lies in the base of all that runs below -/
namespace Fn
open PySem PySem.Spec PyProof.Rows L2
section
variable {P : Program} {w : World} {K : PySem.W.Frag} {mg : Str → Option Value} {b b' : Heap}
/-- all of b is in b' -/
abbrev Sub (b b' : Heap) : Prop := ∀ a o, b.get? a = some o → b'.get? a = some o
theorem frames_sub {h : Heap} (k : Sub b b') : ∀ {l : List Env}, h.FunFrames b' l → h.FunFrames b l
  | [], _ => trivial
  | e :: l, ⟨h1, ⟨L, o, h2, h3, h4, h5⟩, r⟩ => by
    have n : b.get? L = none := by
      cases q : b.get? L with
      | none => rfl
      | some o' =>
        rw [k L o' q] at h3
        cases h3
    exact ⟨h1, ⟨L, o, h2, n, h4, h5⟩, frames_sub k r⟩
theorem env0_less {A : Around} {outer : List Env} {s : Shared} {H : Hp} (e : Env0 P w K mg b' A outer s H) (m : Mod K mg b) (k : Sub b b') (z : b.objs.size ≤ b'.objs.size) : Env0 P w K mg b A outer s H :=
  ⟨e.frames, m, fun a o q => e.bs a o (k a o q), Nat.le_trans z e.bsz, frames_sub k e.funs, e.frf, e.hok, e.bare⟩
theorem tab_sub {c Pa : Addr} (t : LamX.TabB b mg c Pa) (k : Sub b b') : LamX.TabB b' mg c Pa := ⟨t.code.keeps k, t.bm.keeps k, t.gP⟩
end
section
variable {X : Cx} {pins : List (Addr × Obj)} {σ : L2.St} {H : Hp} {s : Shared}
end
/-- a function's scope: parameters of its own, names that it sees -/
structure LamP (sc : Scope) (N ps : List Str) (scope : Scope) : Prop where
  kind : scope.kind = .function
  co : scope.isCoroutine = false
  gen : scope.isGenerator = false
  nocell : ∀ y ∈ scope.names, y.2 ≠ .cell
  par : ∀ p ∈ ps, scope.names.lookup p = some .local
  own : ∀ y, scope.names.lookup y = some .local → y ∈ ps
  nd : ps.Nodup
  dis : ∀ p ∈ ps, p ∉ N
  free : ∀ y ∈ scope.names, y.2 = .free → sc.names.lookup y.1 = some .cell ∨ sc.names.lookup y.1 = some .free
section
variable {X : Cx} {pins : List (Addr × Obj)} {σ : L2.St} {H HZ : Hp} {s s1 : Shared}
end
end Fn
set_option Elab.async false
set_option linter.all false
set_option maxRecDepth 100000
set_option maxHeartbeats 4000000
/-! functions handed on: the rules -/
namespace Py
open PySem PySem.Spec PyProof.Rows L2 LamX
/-- the functions that are known -/
abbrev Gl.fz (G : Gl) (y : Nat → Option (Addr × Up)) : Gl := { G with fs := y }
section
variable {G : Gl} {y : Nat → Option (Addr × Up)}
mutual
theorem At.fz {H : Hp} : ∀ {d : D} {v : V}, At G H d v → At (G.fz y) H d v
  | _, _, .non => .non
  | _, _, .bl => .bl
  | _, _, .int => .int
  | _, _, .str => .str
  | _, _, .tup h r => .tup h (Ats.fz r)
  | _, _, .lst h r => .lst h (Ats.fz r)
  | _, _, .dic h r q => .dic h (Ats.fz r) (Ats.fz q)
  | _, _, .dicN h n r q => .dicN h n (Ats.fz r) (Ats.fz q)
  | _, _, .obj h n r => .obj h n (Ats.fz r)
  | _, _, .deck => .deck
theorem Ats.fz {H : Hp} : ∀ {l : List D} {xs : List V}, Ats G H l xs → Ats (G.fz y) H l xs
  | _, _, .nil => .nil
  | _, _, .cons h r => .cons (At.fz h) (Ats.fz r)
end
mutual
theorem At.zf {H : Hp} : ∀ {d : D} {v : V}, At (G.fz y) H d v → At G H d v
  | _, _, .non => .non
  | _, _, .bl => .bl
  | _, _, .int => .int
  | _, _, .str => .str
  | _, _, .tup h r => .tup h (Ats.zf r)
  | _, _, .lst h r => .lst h (Ats.zf r)
  | _, _, .dic h r q => .dic h (Ats.zf r) (Ats.zf q)
  | _, _, .dicN h n r q => .dicN h n (Ats.zf r) (Ats.zf q)
  | _, _, .obj h n r => .obj h n (Ats.zf r)
  | _, _, .deck => .deck
theorem Ats.zf {H : Hp} : ∀ {l : List D} {xs : List V}, Ats (G.fz y) H l xs → Ats G H l xs
  | _, _, .nil => .nil
  | _, _, .cons h r => .cons (At.zf h) (Ats.zf r)
end
end
structure ClOk (P : Program) (w : World) (K : PySem.W.Frag) (mg : Str → Option Value) (base : Heap) (k : Nat) (f : Addr) (sp : Sp) : Prop where
  at_ : PySem.W.FnAt f base
  run : ∀ (A : Around) (outer : List PySem.Env) (s : Shared) (H : Hp) (us : List Value) (vs : List V) (Q : VK) (E : XK), Room k A → Env0 P w K mg base A outer s H → Vals vs us → sp vs H Q E →
    codeAny (model P w) A (.call (.ref f) ⟨us, []⟩) (CR (L2.CX P w) outer P w H s Q E) s
theorem ClOk.sub {P : Program} {w : World} {K : PySem.W.Frag} {mg : Str → Option Value} {b b' : Heap} {j k : Nat} {f : Addr} {sp : Sp} (c : ClOk P w K mg b j f sp) (m : Mod K mg b) (s : Fn.Sub b b') (z : b.objs.size ≤ b'.objs.size) (h : j ≤ k) : ClOk P w K mg b' k f sp :=
  ⟨by
    obtain ⟨oc, od, fd, sl, e⟩ := c.at_
    exact ⟨oc, od, fd, sl, s _ _ e⟩, fun A outer st H us vs Q E hr e0 r q => c.run A outer st H us vs Q E (hr.mono h) (Fn.env0_less e0 m s z) r q⟩
section
variable {X : Cx} {G : Gl} {W : WX}
/-! ### a function called -/
/-! ### a def that is handed functions -/
def SlotsAt (G : Gl) (hs : Addr → Prop) (H : Hp) : List Slot → List V → Prop
  | [], [] => True
  | s :: ss, v :: vs => SlotAt G hs H s (some v) ∧ isOwn s = false ∧ SlotsAt G hs H ss vs
  | _, _ => False
theorem SlotsAt.len {hs : Addr → Prop} {H : Hp} : ∀ {ss : List Slot} {vs : List V}, SlotsAt G hs H ss vs → ss.length = vs.length
  | [], [], _ => rfl
  | _ :: _, _ :: _, ⟨_, _, h⟩ => by rw [List.length_cons, List.length_cons, h.len]
  | [], _ :: _, h => h.elim
  | _ :: _, [], h => h.elim
theorem SlotsAt.get {hs : Addr → Prop} {H : Hp} : ∀ {ss : List Slot} {vs : List V} {i : Nat} {s : Slot}, SlotsAt G hs H ss vs → ss[i]? = some s → ∃ v, vs[i]? = some v ∧ SlotAt G hs H s (some v) ∧ isOwn s = false
  | s' :: ss, v :: vs, 0, s, ⟨h1, h2, _⟩, e => by
    have e : s' = s := by simpa using e
    subst e
    exact ⟨v, rfl, h1, h2⟩
  | _ :: ss, _ :: vs, i + 1, s, ⟨_, _, h⟩, e => h.get (i := i) (by simpa using e)
  | [], [], _, _, _, e => by simp at e
  | [], _ :: _, _, _, h, _ => h.elim
  | _ :: _, [], _, _, h, _ => h.elim
end
section
variable {P : Program} {w : World} {K : PySem.W.Frag} {mg : Str → Option Value} {base : Heap} {G : Gl}
end
/-! ### a function made -/
section
variable {X : Cx} {G : Gl} {W : WX} {pins : List (Addr × Obj)} {σ : L2.St} {H : Hp} {s : Shared}
end
end Py
namespace Py
open PySem PySem.Spec PyProof.Rows L2 LamX
section
variable {X : Cx} {G : Gl} {W : WX}
/-- a function that was made: itself, its code -/
structure Made (X : Cx) (pa : Arguments) (b : Expr) (sc : Scope) (f c' : Addr) (pm ct : Value) (s : Shared) (H : Hp) : Prop where
  ho : s.heap.get? f = some (lobj X pa b sc pm c' ct)
  nf : H f = none
  nfr : f ∉ frs X.stack
  co : H c' = some (CodeO c' (lq X))
/-- arguments, a function the last of them -/
structure PAL (X : Cx) (G : Gl) (W : WX) (es : List Expr) (pa : Arguments) (b : Expr) (sc : Scope) (r : Env → T (List D)) : Prop where
  run : ∀ (pos : Pos) (pins : List (Addr × Obj)) (s : Shared) (σ : L2.St) (H : Hp) (Qf : List Value → Shared → Prop), L2.Inv X pins σ H s → ∀ (nb : Nat) (ρ : Env) (hd : Addr → Prop), Rep G nb hd σ ρ H →
    (r ρ).wp nb (fun l b' => ∀ (us : List Value) (vs : List V) (f c' : Addr) (pm ct : Value) (H' : Hp) (s' : Shared), L2.Inv X pins σ H' s' → Lead G nb b' H H' → Ats G (hide hd H') l vs → Vals vs us → Made X pa b sc f c' pm ct s' H' → Qf (us ++ [.ref f]) s') (xE G W hd σ nb H) →
    wpAny (model X.prog X.w) X.A (spliced (backTo pos (starEach es X.env))) Qf X.xe s
end
end Py
set_option Elab.async false
set_option linter.all false
set_option maxRecDepth 100000
set_option maxHeartbeats 4000000
/-! a def called with a function made there -/
namespace Py
open PySem PySem.Spec PyProof.Rows L2 LamX
def one (f : Addr) (Q : Up) : Nat → Option (Addr × Up) := fun j => if j = 0 then some (f, Q) else none
section
variable {X : Cx} {G : Gl} {W : WX}
end
end Py
namespace Py
open PySem PySem.Spec PyProof.Rows L2 LamX
theorem Lm.sub {K : PySem.W.Frag} {mg : Str → Option Value} {b b' : Heap} {tb : List (Addr × Str)} {x : Str} {st : Stmt} {ps : List Str} (l : Lm K mg b tb x st ps) (s : Fn.Sub b b') : Lm K mg b' tb x st ps := by
  obtain ⟨c, P, h1, h2, h3⟩ := l.ex
  exact ⟨c, P, h1, Fn.tab_sub h2 s, h3⟩
end Py
set_option Elab.async false
set_option linter.all false
set_option maxRecDepth 100000
set_option maxHeartbeats 4000000
/-! dict(xs), xs a list of pairs, the keys tuples, all unlike -/
namespace Py
open PySem PySem.Spec PyProof.Rows L2
section
variable {X : Cx}
end
section
variable {X : Cx} {G : Gl}
end
end Py
set_option Elab.async false
set_option linter.all false
set_option maxRecDepth 100000
set_option maxHeartbeats 4000000
/-! ### plain values behind the data, runs without draws -/
namespace Py
open PySem PySem.Spec L2
section
variable {α β : Type}
theorem ret_bind (a : α) (f : α → T β) : (T.ret a >>= f) = f a := rfl
theorem exc_bind (c : Nat) (l : List D) (f : α → T β) : ((T.exc c l : T α) >>= f) = .exc c l := rfl
theorem noexc_ret (a : α) : noexc (T.ret a) = .ret a := rfl
theorem opt_some (a : α) : opt (some a) = .ret a := rfl
end
/-! #### values -/
def eI (n : Nat) : D := .int (n : Int)
def eT (l : List Nat) : D := .tup (l.map eI)
def eL (l : List Nat) : D := .lst (l.map eI)
/-- a way to write plain values as data, nested at most k deep -/
structure PD {α : Type} [DecidableEq α] (enc : α → D) (k : Nat) : Prop where
  py : ∃ py : α → PyData, ∀ a, pyD (enc a) = some (py a) ∧ (py a).canLay0 = true ∧ (py a).depth ≤ k ∧ ∀ b, PyData.eqv (py a) (py b) = decide (a = b)
theorem PD.int : PD eI 0 := ⟨fun n => .int (n : Int), fun a => ⟨rfl, by simp [PyData.canLay0], by simp [PyData.depth], fun b => by
  simp only [PyData.eqv]
  by_cases h : a = b
  · subst h
    simp
  · simp [h]
    omega⟩⟩
theorem PD.bl : PD D.bl 0 := ⟨fun b => .bool b, fun a => ⟨rfl, by simp [PyData.canLay0], by simp [PyData.depth], fun b => by
  simp only [PyData.eqv]
  cases a <;> cases b <;> rfl⟩⟩
section
variable {α : Type} [DecidableEq α] {enc : α → D} {k : Nat}
theorem pd_all (h : PD enc k) : ∃ py : α → PyData, (∀ a, pyD (enc a) = some (py a)) ∧ ∀ l : List α, pyDs (l.map enc) = some (l.map py) ∧ PyData.canLayAll0 (l.map py) = true ∧ PyData.depthAll (l.map py) ≤ k ∧ ∀ m : List α, PyData.eqvAll (l.map py) (m.map py) = decide (l = m) := by
  obtain ⟨py, hp⟩ := h.py
  refine ⟨py, fun a => (hp a).1, fun l => ?_⟩
  induction l with
  | nil =>
    refine ⟨rfl, by simp [PyData.canLayAll0], by simp [PyData.depthAll], fun m => ?_⟩
    cases m with
    | nil => rfl
    | cons b m => rfl
  | cons a l ih =>
    obtain ⟨h1, h2, h3, h4⟩ := hp a
    obtain ⟨i1, i2, i3, i4⟩ := ih
    refine ⟨?_, ?_, ?_, fun m => ?_⟩
    · show (match pyD (enc a), pyDs (l.map enc) with
        | some a, some r => some (a :: r)
        | _, _ => none) = _
      rw [h1, i1]
      rfl
    · simp [PyData.canLayAll0, h2, i2]
    · simp only [List.map_cons, PyData.depthAll]
      omega
    · cases m with
      | nil => simp [PyData.eqvAll]
      | cons b m =>
        simp only [List.map_cons, PyData.eqvAll, h4 b, i4 m]
        rw [Bool.eq_iff_iff]
        simp
theorem PD.tup (h : PD enc k) : PD (fun l : List α => D.tup (l.map enc)) (k + 1) := by
  obtain ⟨py, _, hp⟩ := pd_all h
  refine ⟨fun l => .tuple (l.map py), fun l => ?_⟩
  obtain ⟨h1, h2, h3, h4⟩ := hp l
  refine ⟨?_, by simp only [PyData.canLay0]; exact h2, by simp only [PyData.depth]; omega, fun m => by simp only [PyData.eqv]; exact h4 m⟩
  show (pyDs (l.map enc)).map PyData.tuple = _
  rw [h1]
  rfl
theorem PD.lst (h : PD enc k) : PD (fun l : List α => D.lst (l.map enc)) (k + 1) := by
  obtain ⟨py, _, hp⟩ := pd_all h
  refine ⟨fun l => .list (l.map py), fun l => ?_⟩
  obtain ⟨h1, h2, h3, h4⟩ := hp l
  refine ⟨?_, by simp only [PyData.canLay0]; exact h2, by simp only [PyData.depth]; omega, fun m => by simp only [PyData.eqv]; exact h4 m⟩
  show (pyDs (l.map enc)).map PyData.list = _
  rw [h1]
  rfl
theorem eqD_pd (h : PD enc k) (hk : k ≤ 64) (neg : Bool) (a b : α) : eqD neg (enc a) (enc b) = some (.bl (if neg then !decide (a = b) else decide (a = b))) := by
  obtain ⟨py, hp⟩ := h.py
  obtain ⟨h1, h2, h3, h4⟩ := hp a
  obtain ⟨g1, g2, g3, _⟩ := hp b
  have s1 : SeqAt.shaped (py a) = true := by
    unfold SeqAt.shaped
    rw [h2]
    simp
    omega
  have s2 : SeqAt.shaped (py b) = true := by
    unfold SeqAt.shaped
    rw [g2]
    simp
    omega
  unfold eqD
  rw [h1, g1]
  simp only [s1, s2, Bool.and_self, if_true]
  rw [h4]
end
theorem pdT : PD eT 1 := PD.int.tup
theorem eq_int (a b : Nat) : eqD false (eI a) (eI b) = some (.bl (decide (a = b))) := eqD_pd PD.int (by decide) false a b
theorem ne_int (a b : Nat) : eqD true (eI a) (eI b) = some (.bl !(decide (a = b))) := eqD_pd PD.int (by decide) true a b
/-- tuples, lists of sets -/
def eTT (l : List (List Nat)) : D := .tup (l.map eT)
theorem eq_TT (a b : List (List Nat)) : eqD false (eTT a) (eTT b) = some (.bl (decide (a = b))) := eqD_pd pdT.tup (by decide) false a b
/-! #### membership -/
theorem flat_I (l : List Nat) : (l.map eI).all flatD = true := by
  rw [List.all_map]
  exact List.all_eq_true.mpr fun x _ => rfl
theorem any_I (x : Nat) (l : List Nat) : ((l.map eI).any fun y => eqF y (eI x)) = l.contains x := by
  induction l with
  | nil => rfl
  | cons a l ih =>
    rw [List.map_cons, List.any_cons, ih, List.contains_cons]
    congr 1
    show ((a : Int) == (x : Int)) = (x == a)
    by_cases h : a = x
    · subst h
      simp
    · have h1 : ¬ ((a : Int) = (x : Int)) := by omega
      have h2 : ¬ x = a := fun z => h z.symm
      rw [beq_eq_false_iff_ne.mpr h1, beq_eq_false_iff_ne.mpr h2]
theorem in_T (neg : Bool) (x : Nat) (l : List Nat) : inD neg (eI x) (eT l) = some (.bl (if neg then !l.contains x else l.contains x)) := by
  show (if flatD (eI x) && (l.map eI).all flatD then some (D.bl (if neg then !((l.map eI).any fun y => eqF y (eI x)) else (l.map eI).any fun y => eqF y (eI x))) else none) = _
  rw [flat_I, any_I]
  rfl
/-! #### loops -/
/-- a comprehension's loop, each turn told -/
theorem compL_ev {α : Type} {enc : α → D} {p : α → Bool} {f : α → D} {b : Tg} {c : Env → T Bool} {e : Env → T D} {ρ0 : Env} : ∀ l : List α, (∀ a ∈ l, ∃ ρ1, b (enc a) ρ0 = some ρ1 ∧ c ρ1 = .ret (p a) ∧ (p a = true → e ρ1 = .ret (f a))) → compL b c e ρ0 (l.map enc) = .ret ((l.filter p).map f)
  | [], _ => rfl
  | a :: l, h => by
    obtain ⟨ρ1, h1, h2, h3⟩ := h a (by simp)
    have ih := compL_ev (b := b) (c := c) (e := e) (ρ0 := ρ0) (p := p) (f := f) l fun x hx => h x (List.mem_cons_of_mem _ hx)
    show (opt (b (enc a) ρ0) >>= fun ρ1 => noexc (c ρ1) >>= fun k => if k = true then noexc (e ρ1) >>= fun x => compL b c e ρ0 (l.map enc) >>= fun r => .ret (x :: r) else compL b c e ρ0 (l.map enc)) = _
    rw [h1]
    show (noexc (c ρ1) >>= fun k => if k = true then noexc (e ρ1) >>= fun x => compL b c e ρ0 (l.map enc) >>= fun r => .ret (x :: r) else compL b c e ρ0 (l.map enc)) = _
    rw [h2, noexc_ret, ret_bind]
    cases q : p a with
    | true =>
      rw [if_pos rfl, h3 q, noexc_ret, ret_bind, ih, ret_bind, List.filter_cons_of_pos q]
      rfl
    | false =>
      rw [if_neg Bool.false_ne_true, ih, List.filter_cons_of_neg (by rw [q]; exact Bool.false_ne_true)]
/-- a comprehension -/
theorem gComp_ev {α : Type} (enc : α → D) (p : α → Bool) (f : α → D) {it : Env → T (List D)} {b : Tg} {c : Env → T Bool} {e : Env → T D} {own : List Nat} {ρ : Env} {l : List α} (hi : it ρ = .ret (l.map enc)) (hl : l.length ≤ 100000)
    (h : ∀ a ∈ l, ∃ ρ1, b (enc a) (wipeE ρ own) = some ρ1 ∧ c ρ1 = .ret (p a) ∧ (p a = true → e ρ1 = .ret (f a))) : gComp it b c e own ρ = .ret (.lst ((l.filter p).map f)) := by
  show (it ρ >>= fun ds => few ds (compL b c e (wipeE ρ own) ds >>= fun l => T.ret (D.lst l))) = _
  rw [hi, ret_bind, compL_ev l h, ret_bind]
  unfold few
  rw [if_pos (by rw [List.length_map]; exact hl)]
theorem filter_true {α : Type} (l : List α) : l.filter (fun _ => true) = l := by simp
/-- a comprehension without a test -/
theorem gComp_all {α : Type} (enc : α → D) (f : α → D) {it : Env → T (List D)} {b : Tg} {e : Env → T D} {own : List Nat} {ρ : Env} {l : List α} (hi : it ρ = .ret (l.map enc)) (hl : l.length ≤ 100000)
    (h : ∀ a ∈ l, ∃ ρ1, b (enc a) (wipeE ρ own) = some ρ1 ∧ e ρ1 = .ret (f a)) : gComp it b gYes e own ρ = .ret (.lst (l.map f)) := by
  have := gComp_ev enc (fun _ => true) f (c := gYes) hi hl fun a ha => by
    obtain ⟨ρ1, h1, h2⟩ := h a ha
    exact ⟨ρ1, h1, rfl, fun _ => h2⟩
  rw [filter_true] at this
  exact this
/-- a for loop that runs to its end: what holds of the slots is told by a state -/
theorem forL_ev {α σ : Type} {enc : α → D} {b : Tg} {body : Sm} (R : σ → Env → Prop) (f : σ → α → σ) : ∀ (l : List α) (s : σ) (ρ : Env), R s ρ →
    (∀ a ∈ l, ∀ s ρ, R s ρ → ∃ ρ1 ρ2, b (enc a) ρ = some ρ1 ∧ (body ρ1 = .ret (.nx ρ2) ∨ body ρ1 = .ret (.ct ρ2)) ∧ R (f s a) ρ2) → ∃ ρ', forL b body (l.map enc) ρ = .ret (.nx ρ') ∧ R (l.foldl f s) ρ'
  | [], s, ρ, r, _ => ⟨ρ, rfl, r⟩
  | a :: l, s, ρ, r, h => by
    obtain ⟨ρ1, ρ2, h1, h2, r2⟩ := h a (by simp) s ρ r
    obtain ⟨ρ', e, r'⟩ := forL_ev R f l (f s a) ρ2 r2 fun x hx => h x (List.mem_cons_of_mem _ hx)
    refine ⟨ρ', ?_, r'⟩
    show (opt (b (enc a) ρ) >>= fun ρ1 => body ρ1 >>= fun o => match o with
      | .nx ρ2 => forL b body (l.map enc) ρ2
      | .ct ρ2 => forL b body (l.map enc) ρ2
      | .brk ρ2 => .ret (.nx ρ2)
      | o => .ret o) = _
    rw [h1]
    show (body ρ1 >>= fun o => match o with
      | .nx ρ2 => forL b body (l.map enc) ρ2
      | .ct ρ2 => forL b body (l.map enc) ρ2
      | .brk ρ2 => .ret (.nx ρ2)
      | o => .ret o) = _
    rcases h2 with h2 | h2 <;> rw [h2] <;> exact e
/-! #### runs decided by the kernel -/
mutual
def beqD : D → D → Bool
  | .non, .non => true
  | .bl a, .bl b => a == b
  | .int a, .int b => decide (a = b)
  | .str a, .str b => decide (a = b)
  | .tup l, .tup m => beqDs l m
  | .lst l, .lst m => beqDs l m
  | .dic l m, .dic l' m' => beqDs l l' && beqDs m m'
  | .dicN l m, .dicN l' m' => beqDs l l' && beqDs m m'
  | .obj c l, .obj c' l' => decide (c = c') && beqDs l l'
  | .deck, .deck => true
  | _, _ => false
def beqDs : List D → List D → Bool
  | [], [] => true
  | a :: l, b :: m => beqD a b && beqDs l m
  | _, _ => false
end
mutual
theorem beqD_eq : ∀ {a b : D}, beqD a b = true → a = b
  | .non, b, h => by cases b <;> first | rfl | (unfold beqD at h; cases h)
  | .bl a, b, h => by
    cases b <;> first | (unfold beqD at h; rw [eq_of_beq h]) | (unfold beqD at h; cases h)
  | .int a, b, h => by
    cases b <;> first | (unfold beqD at h; rw [of_decide_eq_true h]) | (unfold beqD at h; cases h)
  | .str a, b, h => by
    cases b <;> first | (unfold beqD at h; rw [of_decide_eq_true h]) | (unfold beqD at h; cases h)
  | .tup l, b, h => by
    cases b <;> first | (unfold beqD at h; rw [beqDs_eq h]) | (unfold beqD at h; cases h)
  | .lst l, b, h => by
    cases b <;> first | (unfold beqD at h; rw [beqDs_eq h]) | (unfold beqD at h; cases h)
  | .dic l m, b, h => by
    cases b <;> first | (unfold beqD at h; rw [Bool.and_eq_true] at h; rw [beqDs_eq h.1, beqDs_eq h.2]) | (unfold beqD at h; cases h)
  | .dicN l m, b, h => by
    cases b <;> first | (unfold beqD at h; rw [Bool.and_eq_true] at h; rw [beqDs_eq h.1, beqDs_eq h.2]) | (unfold beqD at h; cases h)
  | .obj c l, b, h => by
    cases b <;> first | (unfold beqD at h; rw [Bool.and_eq_true] at h; rw [of_decide_eq_true h.1, beqDs_eq h.2]) | (unfold beqD at h; cases h)
  | .deck, b, h => by cases b <;> first | rfl | (unfold beqD at h; cases h)
theorem beqDs_eq : ∀ {a b : List D}, beqDs a b = true → a = b
  | [], b, h => by cases b <;> first | rfl | (unfold beqDs at h; cases h)
  | a :: l, b, h => by
    cases b <;> first | (unfold beqDs at h; rw [Bool.and_eq_true] at h; rw [beqD_eq h.1, beqDs_eq h.2]) | (unfold beqDs at h; cases h)
end
/-- a run that gives this -/
def isR (t : T D) (d : D) : Bool := match t with
  | .ret e => beqD e d
  | _ => false
theorem isR_eq {t : T D} {d : D} (h : isR t d = true) : t = .ret d := by
  unfold isR at h
  cases t with
  | ret e => rw [beqD_eq h]
  | _ => cases h
/-! #### sets of offers, in order -/
def combs : List Nat → Nat → List (List Nat)
  | _, 0 => [[]]
  | [], _ + 1 => []
  | x :: xs, k + 1 => (combs xs k).map (x :: ·) ++ combs xs (k + 1)
def partsS (s : List Nat) : List (List Nat) := (List.range (s.length + 1)).flatMap fun k => combs s k
@[irreducible] def allS (n : Nat) : List (List Nat) := partsS (List.range n)
theorem combs_sub : ∀ {l : List Nat} {k : Nat} {s : List Nat}, s ∈ combs l k → s.Sublist l ∧ s.length = k
  | l, 0, s, h => by
    cases l <;> (simp [combs] at h; subst h; exact ⟨List.nil_sublist _, rfl⟩)
  | [], k + 1, s, h => by simp [combs] at h
  | x :: xs, k + 1, s, h => by
    simp only [combs, List.mem_append, List.mem_map] at h
    rcases h with ⟨t, ht, rfl⟩ | h
    · obtain ⟨h1, h2⟩ := combs_sub ht
      exact ⟨h1.cons_cons x, by rw [List.length_cons, h2]⟩
    · obtain ⟨h1, h2⟩ := combs_sub h
      exact ⟨h1.cons x, h2⟩
theorem sub_combs : ∀ {s l : List Nat}, s.Sublist l → s ∈ combs l s.length
  | [], l, _ => by cases l <;> simp [combs]
  | a :: s, l, h => by
    cases h with
    | @cons _ l b h =>
      have := sub_combs h
      simp only [combs, List.length_cons, List.mem_append]
      exact .inr this
    | @cons_cons _ l _ h =>
      have := sub_combs h
      simp only [combs, List.length_cons, List.mem_append, List.mem_map]
      exact .inl ⟨s, this, rfl⟩
theorem mem_parts {s l : List Nat} : s ∈ partsS l ↔ s.Sublist l := by
  unfold partsS
  rw [List.mem_flatMap]
  constructor
  · rintro ⟨k, _, h⟩
    exact (combs_sub h).1
  · intro h
    exact ⟨s.length, List.mem_range.mpr (by have := h.length_le; omega), sub_combs h⟩
theorem mem_all {s : List Nat} {n : Nat} : s ∈ allS n ↔ s.Sublist (List.range n) := by
  unfold allS
  exact mem_parts
theorem all_lt {s : List Nat} {n : Nat} (h : s ∈ allS n) : ∀ x ∈ s, x < n := fun x hx => List.mem_range.mp ((mem_all.mp h).subset hx)
theorem all_len {s : List Nat} {n : Nat} (h : s ∈ allS n) : s.length ≤ n := by
  have := (mem_all.mp h).length_le
  rwa [List.length_range] at this
theorem all_asc {s : List Nat} {n : Nat} (h : s ∈ allS n) : s.Pairwise (· < ·) := List.Pairwise.sublist (mem_all.mp h) (by first | exact List.pairwise_lt_range | exact List.pairwise_lt_range _)
/-- an ascending list below n is a set -/
theorem filter_all {n : Nat} (p : Nat → Bool) : (List.range n).filter p ∈ allS n := mem_all.mpr (List.filter_sublist)
/-- ascending lists with the same members -/
theorem asc_eq : ∀ {l m : List Nat}, l.Pairwise (· < ·) → m.Pairwise (· < ·) → (∀ x, x ∈ l ↔ x ∈ m) → l = m
  | [], [], _, _, _ => rfl
  | [], b :: m, _, _, h => absurd ((h b).mpr (by simp)) (by simp)
  | a :: l, [], _, _, h => absurd ((h a).mp (by simp)) (by simp)
  | a :: l, b :: m, hl, hm, h => by
    have hl' := List.pairwise_cons.mp hl
    have hm' := List.pairwise_cons.mp hm
    have e : a = b := by
      rcases List.mem_cons.mp ((h a).mp (by simp)) with e | h1
      · exact e
      · rcases List.mem_cons.mp ((h b).mpr (by simp)) with e | h2
        · exact e.symm
        · have := hm'.1 a h1
          have := hl'.1 b h2
          omega
    subst e
    congr 1
    refine asc_eq hl'.2 hm'.2 fun x => ?_
    have := h x
    simp only [List.mem_cons] at this
    constructor
    · intro hx
      rcases this.mp (.inr hx) with e | z
      · have := hl'.1 x hx
        omega
      · exact z
    · intro hx
      rcases this.mpr (.inr hx) with e | z
      · have := hm'.1 x hx
        omega
      · exact z
theorem all_ext {s t : List Nat} {n : Nat} (hs : s ∈ allS n) (ht : t ∈ allS n) (h : ∀ x, x < n → (x ∈ s ↔ x ∈ t)) : s = t := asc_eq (all_asc hs) (all_asc ht) fun x => ⟨fun z => (h x (all_lt hs x z)).mp z, fun z => (h x (all_lt ht x z)).mpr z⟩
end Py
set_option Elab.async false
set_option linter.all false
set_option maxRecDepth 100000
set_option maxHeartbeats 1000000
/-! plain data that == tells apart: pairs, what may be None -/
namespace Py
open PySem PySem.Spec L2
section
variable {α β : Type} [DecidableEq α] [DecidableEq β] {enc : α → D} {enc2 : β → D} {k k2 : Nat}
theorem PD.up (h : PD enc k) (hk : k ≤ k2) : PD enc k2 := by
  obtain ⟨py, hp⟩ := h.py
  exact ⟨py, fun a => ⟨(hp a).1, (hp a).2.1, by have := (hp a).2.2.1; omega, (hp a).2.2.2⟩⟩
theorem PD.pair (h : PD enc k) (h2 : PD enc2 k) : PD (fun p : α × β => D.tup [enc p.1, enc2 p.2]) (k + 1) := by
  obtain ⟨py, hp⟩ := h.py
  obtain ⟨py2, hp2⟩ := h2.py
  refine ⟨fun p => .tuple [py p.1, py2 p.2], fun a => ?_⟩
  obtain ⟨a1, a2, a3, a4⟩ := hp a.1
  obtain ⟨b1, b2, b3, b4⟩ := hp2 a.2
  refine ⟨?_, by simp only [PyData.canLay0, PyData.canLayAll0, a2, b2, Bool.and_self], by simp only [PyData.depth, PyData.depthAll]; omega, fun b => ?_⟩
  · show (pyDs [enc a.1, enc2 a.2]).map PyData.tuple = _
    simp only [pyDs, a1, b1, Option.bind_some, Option.map_some]
  · simp only [PyData.eqv, PyData.eqvAll, a4, b4, Bool.and_true]
    rw [Bool.eq_iff_iff, Bool.and_eq_true, decide_eq_true_iff, decide_eq_true_iff, decide_eq_true_iff]
    exact ⟨fun h => Prod.ext h.1 h.2, fun h => ⟨by rw [h], by rw [h]⟩⟩
def oD (enc : α → D) : Option α → D
  | some a => enc a
  | none => .non
theorem PD.opt (h : PD enc k) (ht : ∀ a, ∃ l, enc a = .tup l) : PD (oD enc) k := by
  obtain ⟨py, hp⟩ := h.py
  have tu : ∀ a, ∃ l, py a = .tuple l := fun a => by
    obtain ⟨l, e⟩ := ht a
    have := (hp a).1
    rw [e] at this
    have e2 : (pyDs l).map PyData.tuple = some (py a) := this
    cases q : pyDs l with
    | none =>
      rw [q] at e2
      cases e2
    | some m =>
      rw [q] at e2
      exact ⟨m, (Option.some.inj e2).symm⟩
  refine ⟨fun o => match o with | some a => py a | none => .none, fun o => ?_⟩
  cases o with
  | none =>
    refine ⟨rfl, by simp [PyData.canLay0], by simp [PyData.depth], fun b => ?_⟩
    cases b with
    | none => simp [PyData.eqv]
    | some b =>
      obtain ⟨l, e⟩ := tu b
      have z : decide ((none : Option α) = some b) = false := by simp
      rw [z]
      show PyData.eqv PyData.none (py b) = false
      rw [e]
      simp only [PyData.eqv]
  | some a =>
    obtain ⟨a1, a2, a3, a4⟩ := hp a
    refine ⟨a1, a2, a3, fun b => ?_⟩
    cases b with
    | none =>
      obtain ⟨l, e⟩ := tu a
      have z : decide (some a = (none : Option α)) = false := by simp
      rw [z]
      show PyData.eqv (py a) PyData.none = false
      rw [e]
      simp only [PyData.eqv]
    | some b =>
      show PyData.eqv (py a) (py b) = _
      rw [a4]
      simp
end
end Py
set_option Elab.async false
set_option linter.all false
set_option maxRecDepth 100000
set_option maxHeartbeats 4000000
/-! displays and arguments with a star -/
namespace Py
open PySem PySem.Spec PyProof.Rows L2
section
variable {X : Cx} {G : Gl} {W : WX}
end
end Py
set_option Elab.async false
set_option linter.all false
set_option maxRecDepth 100000
set_option maxHeartbeats 4000000
/-! dicts that are walked over: locked for so long -/
namespace Py
open PySem PySem.Spec PyProof.Rows L2
section
variable {G : Gl}
/-- H', the dict at p locked -/
structure Lkd (G : Gl) (hd : Addr → Prop) (H : Hp) (p : Addr) (kvs : List (Key × V)) (od : Obj) : Prop where
  l : G.lk
  n : ¬ hd p
  e : H p = some (.dK kvs)
theorem Lkd.put {hd : Addr → Prop} {H : Hp} {p : Addr} {kvs : List (Key × V)} {od : Obj} (L : Lkd G hd H p kvs od) {a : Addr} {u : HO} (h : hide hd H a = some u) (n : u ≠ .dK kvs) : hide hd (upd H p (.frz od (.dK kvs))) a = some u := by
  obtain ⟨n1, e⟩ := hide_get h
  have np : a ≠ p := fun z => by
    rw [z, L.e] at e
    exact n (Option.some.inj e).symm
  exact hide_put n1 (by rw [upd_ne np]; exact e) (hide_nt h)
theorem Lkd.sqT {hd : Addr → Prop} {H : Hp} {p : Addr} {kvs : List (Key × V)} {od : Obj} (L : Lkd G hd H p kvs od) {K : PySem.W.Frag} {a : Addr} {xs : List V} (h : SqT K (hide hd H) a xs) : SqT K (hide hd (upd H p (.frz od (.dK kvs)))) a xs := by
  rcases h with (h | ⟨o, h⟩) | h
  · exact .inl (.inl (L.put h fun z => nomatch z))
  · exact .inl (.inr ⟨o, L.put h fun z => nomatch z⟩)
  · exact .inr h
theorem Lkd.sqN {hd : Addr → Prop} {H : Hp} {p : Addr} {kvs : List (Key × V)} {od : Obj} (L : Lkd G hd H p kvs od) {K : PySem.W.Frag} {a : Addr} {xs : List V} (h : SqN K (hide hd H) a xs) : SqN K (hide hd (upd H p (.frz od (.dK kvs)))) a xs := ⟨L.sqT h.t, by
  rcases h.n with ⟨o, u, h1, h2⟩ | h
  · exact .inl ⟨o, u, L.put h1 (fun z => nomatch z), h2⟩
  · exact .inr h⟩
mutual
theorem at_lock {hd : Addr → Prop} {H : Hp} {p : Addr} {kvs : List (Key × V)} {od : Obj} (L : Lkd G hd H p kvs od) : ∀ {d : D} {v : V}, At G (hide hd H) d v → At G (hide hd (upd H p (.frz od (.dK kvs)))) d v
  | _, _, .non => .non
  | _, _, .bl => .bl
  | _, _, .int => .int
  | _, _, .str => .str
  | _, _, .tup h r => .tup (L.sqN h) (ats_lock L r)
  | _, _, .lst h r => .lst (L.put h fun z => nomatch z) (ats_lock L r)
  | _, _, .dic (a := a) (kvs := k2) h r q => .dic (by
    rcases h with h | ⟨l, o, h⟩
    · by_cases c : a = p
      · have e := (hide_get h).2
        rw [c, L.e] at e
        cases e
        rw [c]
        exact .inr ⟨L.l, od, hide_put L.n upd_same (fun _ z => nomatch z)⟩
      · obtain ⟨n1, e⟩ := hide_get h
        exact .inl (hide_put n1 (by rw [upd_ne c]; exact e) (hide_nt h))
    · exact .inr ⟨l, o, L.put h fun z => nomatch z⟩) (ats_lock L r) (ats_lock L q)
  | _, _, .dicN h n r q => .dicN (L.put h (by unfold DN; exact fun z => nomatch z)) n (ats_lock L r) (ats_lock L q)
  | _, _, .obj h n r => .obj (L.put h fun z => nomatch z) n (ats_lock L r)
  | _, _, .deck => .deck
theorem ats_lock {hd : Addr → Prop} {H : Hp} {p : Addr} {kvs : List (Key × V)} {od : Obj} (L : Lkd G hd H p kvs od) : ∀ {l : List D} {xs : List V}, Ats G (hide hd H) l xs → Ats G (hide hd (upd H p (.frz od (.dK kvs)))) l xs
  | _, _, .nil => .nil
  | _, _, .cons a r => .cons (at_lock L a) (ats_lock L r)
end
/-! ### unlocked again -/
/-- the dict at p is locked in H -/
structure Lks (G : Gl) (H : Hp) (p : Addr) (kvs : List (Key × V)) (od : Obj) : Prop where
  e : H p = some (.frz od (.dK kvs))
  k : ∀ o, G.K.lookup p = some o → o = od
theorem Lks.put {hd : Addr → Prop} {H : Hp} {p : Addr} {kvs : List (Key × V)} {od : Obj} (L : Lks G H p kvs od) {a : Addr} {u : HO} (h : hide hd H a = some u) (n : u ≠ .frz od (.dK kvs)) : hide hd (upd H p (.dK kvs)) a = some u := by
  obtain ⟨n1, e⟩ := hide_get h
  have np : a ≠ p := fun z => by
    rw [z, L.e] at e
    exact n (Option.some.inj e).symm
  exact hide_put n1 (by rw [upd_ne np]; exact e) (hide_nt h)
theorem Lks.sqN {hd : Addr → Prop} {H : Hp} {p : Addr} {kvs : List (Key × V)} {od : Obj} (L : Lks G H p kvs od) {a : Addr} {xs : List V} (h : SqN G.K (hide hd H) a xs) : SqN G.K (hide hd (upd H p (.dK kvs))) a xs := by
  have t : SqT G.K (hide hd (upd H p (.dK kvs))) a xs := by
    rcases h.t with (h | ⟨o, h⟩) | h
    · exact .inl (.inl (L.put h fun z => nomatch z))
    · exact .inl (.inr ⟨o, L.put h fun z => by injection z with _ z; nomatch z⟩)
    · exact .inr h
  refine ⟨t, ?_⟩
  rcases h.n with ⟨o, u, h1, h2⟩ | hn
  · by_cases c : a = p
    · have e := (hide_get h1).2
      rw [c, L.e] at e
      cases e
      rcases h.t with (q | ⟨o', q⟩) | ⟨o', its, m, q, _⟩
      · have q := (hide_get q).2
        rw [c, L.e] at q
        cases q
      · have q := (hide_get q).2
        rw [c, L.e] at q
        cases q
      · refine .inr ⟨o', q, ?_⟩
        rw [c] at q
        rw [L.k o' q]
        exact h2
    · obtain ⟨n1, e⟩ := hide_get h1
      exact .inl ⟨o, u, hide_put n1 (by rw [upd_ne c]; exact e) (hide_nt h1), h2⟩
  · exact .inr hn
mutual
theorem at_unlock {hd : Addr → Prop} {H : Hp} {p : Addr} {kvs : List (Key × V)} {od : Obj} (L : Lks G H p kvs od) : ∀ {d : D} {v : V}, At G (hide hd H) d v → At G (hide hd (upd H p (.dK kvs))) d v
  | _, _, .non => .non
  | _, _, .bl => .bl
  | _, _, .int => .int
  | _, _, .str => .str
  | _, _, .tup h r => .tup (L.sqN h) (ats_unlock L r)
  | _, _, .lst h r => .lst (L.put h fun z => nomatch z) (ats_unlock L r)
  | _, _, .dic (a := a) (kvs := k2) h r q => .dic (by
    rcases h with h | ⟨l, o, h⟩
    · exact .inl (L.put h fun z => nomatch z)
    · by_cases c : a = p
      · obtain ⟨n1, e⟩ := hide_get h
        rw [c, L.e] at e
        cases e
        rw [c] at n1 ⊢
        exact .inl (hide_put n1 upd_same (fun _ z => nomatch z))
      · obtain ⟨n1, e⟩ := hide_get h
        exact .inr ⟨l, o, hide_put n1 (by rw [upd_ne c]; exact e) (hide_nt h)⟩) (ats_unlock L r) (ats_unlock L q)
  | _, _, .dicN h n r q => .dicN (L.put h (by unfold DN; exact fun z => nomatch z)) n (ats_unlock L r) (ats_unlock L q)
  | _, _, .obj h n r => .obj (L.put h fun z => nomatch z) n (ats_unlock L r)
  | _, _, .deck => .deck
theorem ats_unlock {hd : Addr → Prop} {H : Hp} {p : Addr} {kvs : List (Key × V)} {od : Obj} (L : Lks G H p kvs od) : ∀ {l : List D} {xs : List V}, Ats G (hide hd H) l xs → Ats G (hide hd (upd H p (.dK kvs))) l xs
  | _, _, .nil => .nil
  | _, _, .cons a r => .cons (at_unlock L a) (ats_unlock L r)
end
end
section
variable {X : Cx} {G : Gl} {W : WX}
end
end Py
set_option Elab.async false
set_option linter.all false
set_option maxRecDepth 100000
set_option maxHeartbeats 4000000
/-! dict([pairs]) as a new own thing, d.pop(k, e), d.get(k, e) of a value, t.index(x) of a tuple of ints -/
namespace Py
open PySem PySem.Spec PyProof.Rows L2
section
variable {X : Cx} {G : Gl} {W : WX}
/-! ### a new dict from a list of pairs -/
/-! ### d.pop(k, e): the entry gone, if it is there -/
/-! ### x.get(k, e), x a value -/
/-! ### t.index(x), t a tuple of ints -/
/-! ### dict(l), l a list of pairs, keys twice: the last one's value -/
end
end Py
set_option Elab.async false
set_option linter.all false
set_option maxRecDepth 100000
/-! a class called by keywords alone: C(k = v, ..) -/
namespace Py
open PySem PySem.Spec L2 PyProof.Rows
variable {X : Cx} {G : Gl} {W : WX}
theorem perm_up {α : Type} (js : List Nat) (a : α) (l : List α) : permL (0 :: js.map (· + 1)) (a :: l) = a :: permL js l := by
  unfold permL
  rw [List.filterMap_cons]
  show a :: List.filterMap _ _ = _
  rw [List.filterMap_map]
  rfl
end Py
set_option Elab.async false
set_option linter.all false
set_option maxRecDepth 100000
set_option maxHeartbeats 4000000
/-! a tuple times an int: anew (its object known), or itself, when the int is 1 -/
namespace Py
open PySem PySem.Spec PyProof.Rows L2
section
variable {X : Cx} {G : Gl}
end
end Py
set_option Elab.async false
set_option linter.all false
set_option maxRecDepth 100000
set_option maxHeartbeats 4000000
namespace Py
open PySem PySem.Spec L2
section
variable {X : Cx} {G : Gl} {W : WX}
end
end Py
set_option Elab.async false
set_option linter.all false
set_option maxRecDepth 100000
set_option maxHeartbeats 4000000
namespace Py
open PySem PySem.Spec PyProof.Rows L2
/-! ### the deck {"cells": .., "stirred": .., "turn": ..} -/
abbrev kSt : Key := .inr "stirred"
abbrev kTu : Key := .inr "turn"
abbrev dcO (cl : Addr) (s t : Int) : HO := .dK [(kC, V.ref cl), (kSt, V.int s), (kTu, V.int t)]
theorem put_dc {cl : Addr} {s a b : Int} : putK [(kC, V.ref cl), (kSt, V.int s), (kTu, V.int a)] kTu (.int b) = [(kC, V.ref cl), (kSt, V.int s), (kTu, V.int b)] := by
  unfold putK
  have e : ([(kC, V.ref cl), (kSt, V.int s), (kTu, V.int a)].any fun kv => decide (kv.1 = kTu)) = true := by
    simp
  rw [if_pos e]
  have n : ¬ kC = kTu := by decide
  have n2 : ¬ kSt = kTu := by decide
  show List.map _ _ = _
  rw [List.map_cons, List.map_cons, List.map_cons, List.map_nil, if_neg n, if_neg n2, if_pos rfl]
theorem get_cc {H : Hp} {p cl : Addr} {s t : Int} (h : H p = some (dcO cl s t)) : DGet H p (.str "cells") (some (.ref cl)) := by
  have z := DGet.k (k := kC) h
  rw [valV_pos rfl] at z
  exact z
theorem get_cs {H : Hp} {p cl : Addr} {s t : Int} (h : H p = some (dcO cl s t)) : DGet H p (.str "stirred") (some (.int s)) := by
  have z := DGet.k (k := kSt) h
  rw [valV_neg (show ¬ kC = kSt by decide), valV_pos rfl] at z
  exact z
theorem get_ct {H : Hp} {p cl : Addr} {s t : Int} (h : H p = some (dcO cl s t)) : DGet H p (.str "turn") (some (.int t)) := by
  have z := DGet.k (k := kTu) h
  rw [valV_neg (show ¬ kC = kTu by decide), valV_neg (show ¬ kSt = kTu by decide), valV_pos rfl] at z
  exact z
abbrev tSti : TE := tDGet (tVar 0) (tC (.str "stirred"))
abbrev tTrn : TE := tDGet (tVar 0) (tC (.str "turn"))
abbrev tInt (t : TE) : TE := tCB (fun xs H Q => (∃ i, xs = [.int i] ∧ Q (.int i) H) ∨ ∃ k, xs = [.bl k] ∧ Q (.int (if k then 1 else 0)) H) (tCons t tNil)
/-- what the def's text is read as -/
def tDrawC (K : PySem.W.Frag) : TS :=
  tSeq (sDPut (tVar 0) (tC (.str "turn")) (tOp rPl tTrn (tC (.int 1))))
  (tSeq (tAsg (tOp rPl tSti (tOp rMu (tOp rMu (tC (.int 50021)) tTrn) tTrn)) (gName 2))
  (tSeq (tIfS (tTest (tOp (rNeD K) tCell (tLst tNil)))
    (tSeq (tAsg (tBM0 K "list" rPop tCell) (gName 3))
    (tSeq (tIfS (tTest (tOp (rI0 fun i j => .bl (decide (j ≤ i))) (tVar 3) (tOp (rI CPow fun i j => .int (i ^ j.toNat)) (tC (.int 10)) (tC (.int 18)))))
      (tSeq (tDrop (tBM K "list" rAppend tCell (tCons (tOp rDv (tVar 3) (tVar 1)) tNil)))
        (tRet (tOp rMod (tInt (tVar 3)) (tVar 1)))) tNext)
      (tAsg (tOp rPl (tVar 2) (tOp rMod (tInt (tVar 3)) (tC (.int 2147483549)))) (gName 2)))) tNext)
  (tSeq (tAsg (tOp rMod (tInt (tOp rPl (tOp rMu (tOp rMod (tVar 2) (tC (.int 2147483477))) (tC (.int 16807))) tTrn)) (tC (.int 2147483647))) (gName 2))
  (tSeq (tAsg (tOp rMod (tInt (tOp rPl (tOp rPl (tOp rMu (tVar 2) (tVar 2)) (tOp rMu (tC (.int 7919)) tTrn)) (tC (.int 13)))) (tC (.int 2147483587))) (gName 2))
    (tRet (tOp rMod (tOp rDv (tOp rMod (tInt (tOp rMu (tVar 2) (tC (.int 40014)))) (tC (.int 2147483563))) (tC (.int 64))) (tVar 1)))))))
/-- what is known of the two objects -/
structure Cx2 (p cl : Addr) (H : Hp) (s t : Int) (ns : List Int) : Prop where
  ne : cl ≠ p
  h1 : H p = some (dcO cl s t)
  h2 : H cl = some (.lst (ns.map V.int))
  few : ns.length ≤ 100
theorem Cx2.new {p cl : Addr} {H : Hp} {s t : Int} {ns : List Int} {q : Addr} {o : HO} (x : Cx2 p cl H s t ns) (h : H q = none) : Cx2 p cl (upd H q o) s t ns := ⟨x.ne, by rw [upd_ne (ne_of_none x.h1 h)]; exact x.h1, by rw [upd_ne (ne_of_none x.h2 h)]; exact x.h2, x.few⟩
theorem Cx2.cells {p cl : Addr} {H : Hp} {s t : Int} {ns ms : List Int} (x : Cx2 p cl H s t ns) (l : ms.length ≤ 100) : Cx2 p cl (upd H cl (.lst (ms.map V.int))) s t ms :=
  ⟨x.ne, by rw [upd_ne (Ne.symm x.ne)]; exact x.h1, upd_same, l⟩
theorem Cx2.step {p cl : Addr} {H : Hp} {s t : Int} {ns : List Int} (x : Cx2 p cl H s t ns) {y : Int} : Cx2 p cl (upd H p (dcO cl s y)) s y ns :=
  ⟨x.ne, upd_same, by rw [upd_ne x.ne]; exact x.h2, x.few⟩
theorem Cx2.put {p cl : Addr} {H : Hp} {s t : Int} {ns : List Int} (x : Cx2 p cl H s t ns) (y : Int) : DPut H p (.str "turn") (.int y) (upd H p (dcO cl s y)) := by
  have z := DPut.k (k := kTu) (v := .int y) x.h1 (by show 3 < sizeLine; rw [sizeLine_eq]; decide)
  rw [put_dc] at z
  exact z
/-- the three last rows -/
theorem finC {p cl : Addr} {H0 H : Hp} {b s t y : Int} {ns : List Int} {Q : VK} {v3 : Option V} (hb : 0 < b) (hb2 : b < 1000000) (x : Cx2 p cl H s t ns) (e0 : Els p cl H0 H)
    (k : ∀ (r : Int) (H' : Hp) (ms : List Int), 0 ≤ r → r < b → Els p cl H0 H' → Cx2 p cl H' s t ms → Q (.int r) H') :
    tSeq (tAsg (tOp rMod (tInt (tOp rPl (tOp rMu (tOp rMod (tVar 2) (tC (.int 2147483477))) (tC (.int 16807))) tTrn)) (tC (.int 2147483647))) (gName 2))
      (tSeq (tAsg (tOp rMod (tInt (tOp rPl (tOp rPl (tOp rMu (tVar 2) (tVar 2)) (tOp rMu (tC (.int 7919)) tTrn)) (tC (.int 13)))) (tC (.int 2147483587))) (gName 2))
        (tRet (tOp rMod (tOp rDv (tOp rMod (tInt (tOp rMu (tVar 2) (tC (.int 40014)))) (tC (.int 2147483563))) (tC (.int 64))) (tVar 1)))) { nx := fun _ H' => Q .non H', rt := Q } [some (.ref p), some (.int b), some (.int y), v3] H := by
  refine ⟨.int y, rfl, y, 2147483477, rfl, rfl, (show (2147483477 : Int) ≠ 0 by decide), _, 16807, rfl, rfl, .inr ⟨by decide, by decide⟩, .ref p, rfl, p, .int t, rfl, get_ct x.h1, _, t, rfl, rfl, .inl ⟨_, rfl, _, 2147483647, rfl, rfl, (show (2147483647 : Int) ≠ 0 by decide), ?_⟩⟩
  have md := fmod_in (x := y.fmod 2147483477 * 16807 + t) (b := 2147483647) (by decide)
  have key : ∀ y2 : Int, 0 ≤ y2 → y2 < 2147483647 → (tSeq (tAsg (tOp rMod (tInt (tOp rPl (tOp rPl (tOp rMu (tVar 2) (tVar 2)) (tOp rMu (tC (.int 7919)) tTrn)) (tC (.int 13)))) (tC (.int 2147483587))) (gName 2))
        (tRet (tOp rMod (tOp rDv (tOp rMod (tInt (tOp rMu (tVar 2) (tC (.int 40014)))) (tC (.int 2147483563))) (tC (.int 64))) (tVar 1)))) { nx := fun _ H' => Q .non H', rt := Q } [some (.ref p), some (.int b), some (.int y2), v3] H := fun y2 m1 m2 => by
    refine ⟨.int y2, rfl, .int y2, rfl, y2, y2, rfl, rfl, .inl ⟨by omega, by omega⟩, .ref p, rfl, p, .int t, rfl, get_ct x.h1, 7919, t, rfl, rfl, .inl ⟨by decide, by decide⟩, _, _, rfl, rfl, _, 13, rfl, rfl, .inl ⟨_, rfl, _, 2147483587, rfl, rfl, (show (2147483587 : Int) ≠ 0 by decide), ?_⟩⟩
    refine ⟨_, rfl, _, 40014, rfl, rfl, .inr ⟨by decide, by decide⟩, .inl ⟨_, rfl, _, 2147483563, rfl, rfl, (show (2147483563 : Int) ≠ 0 by decide), _, 64, rfl, rfl, ⟨by decide, .inl (by decide)⟩, .int b, rfl, _, b, rfl, rfl, by omega, ?_⟩⟩
    exact k _ _ _ (fmod_in hb).1 (fmod_in hb).2 e0 x
  exact key _ md.1 md.2
theorem pure_drawC {K : PySem.W.Frag} {p cl : Addr} {H : Hp} {b s d : Int} {ns : List Int} {Q : VK} (hb : 0 < b) (hb2 : b < 1000000) (hd0 : 0 ≤ d) (hd1 : d < 1000000) (x : Cx2 p cl H s d ns)
    (k : ∀ (r : Int) (H' : Hp) (ms : List Int), 0 ≤ r → r < b → Els p cl H H' → Cx2 p cl H' s (d + 1) ms → Q (.int r) H') :
    tDrawC K { nx := fun _ H' => Q .non H', rt := Q } [some (.ref p), some (.int b), none, none] H := by
  refine ⟨.ref p, rfl, p, .int d, rfl, get_ct x.h1, d, 1, rfl, rfl, .ref p, rfl, p, _, rfl, x.put (d + 1), ?_⟩
  have x0 := x.step (y := d + 1)
  have e0 : Els p cl H (upd H p (dcO cl s (d + 1))) := Els.p
  generalize upd H p (dcO cl s (d + 1)) = H0 at x0 e0
  refine ⟨.ref p, rfl, p, .int s, rfl, get_cs x0.h1, .ref p, rfl, p, .int (d + 1), rfl, get_ct x0.h1, 50021, d + 1, rfl, rfl, .inl ⟨by decide, by decide⟩, .ref p, rfl, p, .int (d + 1), rfl, get_ct x0.h1, _, d + 1, rfl, rfl, .inr ⟨by omega, by omega⟩, s, _, rfl, rfl, ?_⟩
  refine ⟨.ref p, rfl, p, .ref cl, rfl, get_cc x0.h1, (show ([] : List V).length ≤ sizeLine from Nat.zero_le _), fun q hq => ?_⟩
  have x1 : Cx2 p cl (upd H0 q (.lst [])) s (d + 1) ns := x0.new hq
  have e1 : Els p cl H (upd H0 q (.lst [])) := e0.trans (Els.new hq)
  have s1 : SqL K (upd H0 q (.lst [])) cl (ns.map V.int) := .inl (.inl x1.h2)
  refine ⟨.list (ns.map PyData.int), .list [], .lst s1 (dp_ints ns), .lst (.inl (.inl upd_same)) .nil, PySem.W.ke_shaped_ints ns, by decide, _, rfl, ?_⟩
  rcases List.eq_nil_or_concat ns with rfl | ⟨r, c, rfl⟩
  · rw [show (!PyData.eqv (.list (List.map PyData.int [])) (.list [])) = false from rfl]
    refine L2.iteF ?_
    exact finC hb hb2 x1 e1 k
  · have nn : (!PyData.eqv (.list (List.map PyData.int (r.concat c))) (.list [])) = true := by
      rw [List.concat_eq_append]
      cases r <;> rfl
    rw [nn]
    refine L2.iteT ?_
    have hl : (r.concat c).map V.int = r.map V.int ++ [V.int c] := by rw [List.concat_eq_append, List.map_append]; rfl
    have hc : upd H0 q (.lst []) cl = some (.lst (r.map V.int ++ [V.int c])) := by rw [← hl]; exact x1.h2
    have few : r.length + 1 ≤ 100 := by
      have := x1.few
      rw [List.concat_eq_append, List.length_append] at this
      exact this
    refine ⟨.ref p, rfl, p, .ref cl, rfl, get_cc x1.h1, .inl ⟨rfl, _, .inl (.inl hc)⟩, cl, _, .int c, rfl, rfl, hc, by simp, ?_⟩
    rw [List.dropLast_concat]
    have x2 : Cx2 p cl (upd (upd H0 q (.lst [])) cl (.lst (r.map V.int))) s (d + 1) r := x1.cells (by omega)
    have e2 := e1.trans (Els.c (o := .lst (r.map V.int)))
    refine ⟨.int c, rfl, 10, 18, rfl, rfl, ⟨by decide, by decide, by decide⟩, c, _, rfl, rfl, _, rfl, ?_⟩
    by_cases big : (10 : Int) ^ (18 : Int).toNat ≤ c
    · rw [decide_eq_true big]
      refine L2.iteT ?_
      have hc2 : (upd (upd H0 q (.lst [])) cl (.lst (r.map V.int))) cl = some (.lst (r.map V.int)) := upd_same
      refine ⟨.ref p, rfl, p, .ref cl, rfl, get_cc x2.h1, .inl ⟨rfl, _, .inl (.inl hc2)⟩, .int c, rfl, .int b, rfl, c, b, rfl, rfl, ⟨by omega, .inl (by omega)⟩, cl, _, _, rfl, rfl, hc2, ?_, ?_⟩
      · rw [List.length_map, sizeLine_eq]
        omega
      · have ey : (r.map V.int ++ [(fun i j : Int => V.int (i.fdiv j)) c b]) = (r ++ [c.fdiv b]).map V.int := by
          rw [List.map_append]
          rfl
        rw [ey]
        have x3 : Cx2 p cl (upd (upd (upd H0 q (.lst [])) cl (.lst (r.map V.int))) cl (.lst ((r ++ [c.fdiv b]).map V.int))) s (d + 1) (r ++ [c.fdiv b]) := x2.cells (by rw [List.length_append]; exact few)
        refine ⟨.int c, rfl, .inl ⟨c, rfl, .int b, rfl, c, b, rfl, rfl, by omega, ?_⟩⟩
        exact k _ _ _ (fmod_in hb).1 (fmod_in hb).2 (e2.trans Els.c) x3
    · rw [decide_eq_false big]
      refine L2.iteF ?_
      refine ⟨.int (s + 50021 * (d + 1) * (d + 1)), rfl, .int c, rfl, .inl ⟨c, rfl, c, 2147483549, rfl, rfl, (show (2147483549 : Int) ≠ 0 by decide), _, _, rfl, rfl, ?_⟩⟩
      exact finC hb hb2 x2 e2 k
/-- the kind: fewer than a million draws in all -/
def kdC : DkK where
  ok := fun n cl o1 o2 => ∃ (s d : Int) (ns : List Int), o1 = dcO cl s d ∧ o2 = .lst (ns.map V.int) ∧ ns.length ≤ 100 ∧ 0 ≤ d ∧ d + n ≤ 1000000
  pl := fun _ cl o1 o2 ⟨a, d, ns, e1, e2, _⟩ => by
    subst e1
    subst e2
    exact ⟨⟨(fun _ z => nomatch z), fun _ _ z => nomatch z⟩, ⟨(fun _ z => nomatch z), fun _ _ z => nomatch z⟩⟩
section
variable {P : Program} {w : World} {K : PySem.W.Frag} {mg : Str → Option Value} {base : Heap} {cls : Nat → Addr} {flds : Nat → List Str} {p cl : Addr} {tb : List (Addr × Str)}
theorem drawC_ok {x : Str} {st : Stmt} {f : Addr} {fd : FuncData} {y1 y2 y3 y4 : Str} {k : Nat} (F : Fun K x x st f fd) (S : FnScope [y1, y2, y3, y4] [y1, y2] (defScope st))
    (hb : ∀ (cdv : Value) (A : Around) (outer : List PySem.Env) (s0 : Shared) (H : Hp) (E : XK), Room k (A.deeper (PyProof.Rows.envOfC x (defScope st) s0.heap.objs.size f cdv)) → PSs (cxOf (L2.CX P w) P w K mg base [y1, y2, y3, y4] x (defScope st) f cdv A outer s0 H E) (defBody st) (tDrawC K)) :
    FnOk P w K mg base (L2.CX P w) (k + 1) f fd [y1, y2] (spD (mkG P w K cls flds kdC p cl tb) 2 (drawB 1000000)) := by
  refine drawG_ok F S (tDrawC K) hb fun b n H o1 o2 Q hb0 hb1 hn ne e1 e2 ok k => ?_
  obtain ⟨s, d, ns, rfl, rfl, e3, e4, e5⟩ := ok
  refine pure_drawC (p := p) (cl := cl) hb0 hb1 e4 (by omega) ⟨ne, e1, e2, e3⟩ fun r H' ms r0 r1 el x => ?_
  exact k r H' _ _ r0 r1 el x.h1 x.h2 ⟨s, d + 1, ms, rfl, rfl, x.few, by omega, by omega⟩
end
end Py
set_option Elab.async false
set_option linter.all false
set_option maxRecDepth 100000
set_option maxHeartbeats 4000000
namespace Py
open PySem PySem.Spec PyProof.Rows L2
/-! ### the making of the deck {"cells": .., "stirred": .., "turn": ..} -/
def cBody : Sm := (sSet 3 (gOp iMod (gCall int1 (gCons (gOp (fun a b => (iAdd a b).or (catD a b)) (gOp (fun a b => (iAdd a b).or (catD a b)) (gOp iMul (gVar 3) (gC (.int 69069))) (gOp iMod (gCall int1 (gCons (gVar 1) (gNil))) (gC (.int 2147483579)))) (gC (.int 41))) (gNil))) (gC (.int 2147483563))))
def deckMC (ns : List Int) : List D → T D := fn 4 (sSeq (sPar [2, 3] (iVal (gCall asL (gCons (gScr ns 0 (optI none) (optI (some (gC (.int 63))))) (gNil))) (iVal (gC (.int 1087201)) (iNil)))) (sSeq (sFor ((fun ρ => (gVar 2) ρ >>= seqD)) (bName 1) cBody) (sRet (gDicS ["cells", "stirred", "turn"] (gCons (gRev (gVar 2)) (gCons (gVar 3) (gCons (gC (.int 0)) (gNil))))))))
def cMix (m c : Int) : Int := (m * 69069 + c.fmod 2147483579 + 41).fmod 2147483563
theorem rbD {α β : Type} (a : α) (f : α → T β) : ((T.ret a : T α) >>= f) = f a := rfl
theorem osD {α : Type} (a : α) : opt (some a) = T.ret a := rfl
theorem cBody_eq {x0 x2 : Slot} {c m : Int} : cBody [x0, .val (.int c), x2, .val (.int m)] = .ret (.nx [x0, .val (.int c), x2, .val (.int (cMix m c))]) := by
  have e : iMul (.int m) (.int 69069) = some (.int (m * 69069)) := if_pos (.inr ⟨by decide, by decide⟩)
  have e2 : iMod (.int c) (.int 2147483579) = some (.int (c.fmod 2147483579)) := by
    show (if (2147483579 : Int) ≠ 0 then some (D.int (c.fmod 2147483579)) else none) = _
    rw [if_pos (by decide)]
  have e3 : iMod (.int (m * 69069 + c.fmod 2147483579 + 41)) (.int 2147483563) = some (.int (cMix m c)) := by
    show (if (2147483563 : Int) ≠ 0 then some (D.int (cMix m c)) else none) = _
    rw [if_pos (by decide)]
  have g3 : gVar 3 [x0, .val (.int c), x2, .val (.int m)] = .ret (.int m) := rfl
  have g1 : gVar 1 [x0, .val (.int c), x2, .val (.int m)] = .ret (.int c) := rfl
  have i1 : ∀ z : Int, int1 [.int z] = some (.int z) := fun z => rfl
  have a1 : ∀ y z : Int, (iAdd (.int y) (.int z)).or (catD (.int y) (.int z)) = some (.int (y + z)) := fun y z => rfl
  simp only [cBody, sSet, gOp, gCall, gCons, gNil, gC, g3, g1, rbD, i1, osD, e, e2, a1, e3, bindS, List.set]
theorem cFor_eq {x0 x2 : Slot} : ∀ (l : List Int) (x1 : Slot) (m : Int), ∃ x1', forL (bName 1) cBody (l.map D.int) [x0, x1, x2, .val (.int m)] = .ret (.nx [x0, x1', x2, .val (.int (l.foldl cMix m))])
  | [], x1, m => ⟨x1, rfl⟩
  | c :: l, x1, m => by
    obtain ⟨x1', e⟩ := cFor_eq (x0 := x0) (x2 := x2) l (.val (.int c)) (cMix m c)
    refine ⟨x1', ?_⟩
    show (cBody [x0, .val (.int c), x2, .val (.int m)] >>= fun o => match o with
      | .nx ρ2 => forL (bName 1) cBody (l.map D.int) ρ2
      | .ct ρ2 => forL (bName 1) cBody (l.map D.int) ρ2
      | .brk ρ2 => .ret (.nx ρ2)
      | o => .ret o) = _
    rw [cBody_eq]
    exact e
def cCut (ns : List Int) : List Int := (ns.drop (HT.sIx ns.length 0 none)).take (HT.sIx ns.length ns.length (some 63) - HT.sIx ns.length 0 none)
theorem cCut_len (ns : List Int) : (cCut ns).length ≤ ns.length := by
  unfold cCut
  rw [List.length_take, List.length_drop]
  omega
theorem deckMC_eq (ns : List Int) : deckMC ns [.deck] = .ret (.dic ((["cells", "stirred", "turn"] : List Str).map D.str) [.lst ((cCut ns).map D.int).reverse, .int ((cCut ns).foldl cMix 1087201), .int 0]) := by
  have ec : cutD (ns.map D.int) none (some 63) = (cCut ns).map D.int := by
    unfold cutD cCut
    rw [List.length_map, List.map_take, List.map_drop]
  obtain ⟨x1', e3⟩ := cFor_eq (x0 := .val .deck) (x2 := .val (.lst ((cCut ns).map D.int))) (cCut ns) .none 1087201
  have e4 : sPar [2, 3] (iVal (gCall asL (gCons (gScr ns 0 (optI none) (optI (some (gC (.int 63))))) (gNil))) (iVal (gC (.int 1087201)) (iNil))) (env0 4 [.deck]) = .ret (.nx [.val .deck, .none, .val (.lst ((cCut ns).map D.int)), .val (.int 1087201)]) := by
    show bindS (opt (asL [.lst (cutD (ns.map D.int) none (some 63))]) >>= fun d => iVal (gC (.int 1087201)) iNil (env0 4 [.deck]) >>= fun ss => T.ret (Slot.val d :: ss)) _ _ = _
    rw [ec]
    rfl
  show runS (sPar [2, 3] _ (env0 4 [.deck]) >>= fun o => match o with
    | .nx ρ' => _
    | o => T.ret o) = _
  rw [e4]
  show runS (forL (bName 1) cBody ((cCut ns).map D.int) [.val .deck, .none, .val (.lst ((cCut ns).map D.int)), .val (.int 1087201)] >>= fun o => match o with
    | .nx ρ' => sRet (gDicS ["cells", "stirred", "turn"] (gCons (gRev (gVar 2)) (gCons (gVar 3) (gCons (gC (.int 0)) (gNil))))) ρ'
    | o => T.ret o) = _
  rw [e3]
  rfl
section
variable {P : Program} {w : World} {K : PySem.W.Frag} {mg : Str → Option Value} {base : Heap} {cls : Nat → Addr} {flds : Nat → List Str} {tb : List (Addr × Str)}
theorem deck_spC {k : Nat} {f : Addr} {fd : FuncData} {x : Str} {N0 : Nat} (hN : N0 ≤ 1000000)
    (F : ∀ (o0 : Option HO) (pl : ∀ o, o0 = some o → Plain o) (as : Addr) (ns : List Int), (∀ H, ScJ o0 as tb H → SqL K H as (ns.map V.int)) → FnOk P w K mg base (L2.CX P w) k f fd [x] (spD (mk0 P w K cls flds o0 pl as tb) 1 (deckMC ns))) :
    FnOk P w K mg base (L2.CX P w) k f fd [x] (spDeck K kdC N0 tb) := by
  refine deckG_sp kdC N0 deckMC ["cells", "stirred", "turn"] (fun ns => [.lst ((cCut ns).map D.int).reverse, .int ((cCut ns).foldl cMix 1087201), .int 0]) F (fun ns hl => deckMC_eq ns) fun ns G H kvs hl hk hv => ?_
  match kvs, hk, hv with
  | [(_, v1), (_, v2), (_, v3)], hk, .cons h1 (.cons h2 (.cons h3 .nil)) =>
    simp at hk
    obtain ⟨rfl, rfl, rfl⟩ := hk
    have h1' : At G H (.lst ((cCut ns).map D.int).reverse) v1 := h1
    have h2' : At G H (.int ((cCut ns).foldl cMix 1087201)) v2 := h2
    have h3' : At G H (.int 0) v3 := h3
    cases h2'
    cases h3'
    rw [← List.map_reverse] at h1'
    cases h1' with
    | @lst _ cl xs g1 g2 =>
      have e1 := ats_intsL g2
      subst e1
      refine ⟨cl, _, g1, _, 0, _, rfl, rfl, ?_, by omega, by omega⟩
      rw [List.length_reverse]
      have := cCut_len ns
      omega
  | [], hk, _ => exact nomatch hk
  | [_], hk, _ => simp at hk
  | [_, _], hk, _ => simp at hk
  | _ :: _ :: _ :: _ :: _, hk, _ => simp at hk
end
end Py
set_option Elab.async false
set_option linter.all false
set_option maxRecDepth 100000
set_option maxHeartbeats 4000000
/-! more new things: list(e), a + b of lists; a new thing as a value -/
namespace Py
open PySem PySem.Spec PyProof.Rows L2
section
variable {X : Cx} {G : Gl} {W : WX}
end
end Py
set_option Elab.async false
set_option linter.all false
set_option maxRecDepth 100000
set_option maxHeartbeats 4000000
/-! a == b, both equal for sure: dicts with one number as a key too; tuples at the top -/
namespace Py
open PySem PySem.Spec PyProof.Rows L2
section
variable {X : Cx} {G : Gl} {pins : List (Addr × Obj)} {σ : L2.St} {s : Shared} {H : Hp} {hd : Addr → Prop}
end
end Py
set_option Elab.async false
set_option linter.all false
set_option maxRecDepth 100000
set_option maxHeartbeats 1000000
namespace Py
open PySem PySem.Spec PyProof.Rows L2
/-! ### {k: v}, k a number -/
section
variable {X : Cx} {G : Gl} {W : WX}
end
end Py
set_option Elab.async false
set_option linter.all false
set_option maxRecDepth 100000
set_option maxHeartbeats 1000000
/-! t[::3], t a tuple; str(i), i a number -/
namespace Rw
open PySem PySem.Spec PyProof.Rows L2 HT
section
variable {P : Program} {w : World} {A : Around} {E : Value → Shared → Prop} {s : Shared}
end
end Rw
namespace Py
open PySem PySem.Spec PyProof.Rows L2
section
variable {X : Cx} {G : Gl} {W : WX}
end
end Py
set_option Elab.async false
set_option linter.all false
set_option maxRecDepth 100000
set_option maxHeartbeats 1000000
namespace Py
open PySem PySem.Spec PyProof.Rows L2
section
variable {P : Program} {w : World} {A : Around} {E : Value → Shared → Prop} {s : Shared} {K : PySem.W.Frag} {x C : Addr} {ox : Obj} {od : Option Obj}
end
def tysR : List String := ["NoneType", "bool", "int", "str", "tuple", "list", "dict"]
/-- of which kinds of the language an own class is none -/
structure Kr (K : PySem.W.Frag) (C : Addr) : Prop where
  no : ∀ k ∈ tysR, PySem.W.mroIn K C (.type k) = some false
end Py
namespace Py.Hk
open PySem PySem.Spec PyProof.Rows L2
def krB (names : List Str) (n : Nat) (K : PySem.W.Frag) : Bool := tysR.all fun k => decide (PySem.W.mroIn K (clsK names K n) (.type k) = some false)
theorem kr_ok {K : PySem.W.Frag} {names : List Str} {n : Nat} (c : krB names n K = true) : Kr K (clsK names K n) := ⟨fun k hk => of_decide_eq_true (List.all_eq_true.mp c k hk)⟩
end Py.Hk
namespace Py
open PySem PySem.Spec PyProof.Rows L2
section
variable {X : Cx} {G : Gl} {W : WX}
end
end Py
set_option Elab.async false
set_option linter.all false
set_option maxRecDepth 100000
set_option maxHeartbeats 4000000
/-! expressions that change own things: what pop gives, in a tuple, in a sum; name = such -/
namespace Py
open PySem PySem.Spec PyProof.Rows L2
section
variable {X : Cx} {G : Gl} {W : WX} {hs : Hid}
end
end Py
set_option Elab.async false
set_option linter.all false
set_option maxRecDepth 100000
set_option maxHeartbeats 4000000
/-! try with several clauses, with or without a name for the error -/
namespace Tn
open PySem PySem.Spec PyProof.Rows L2
/-- what the clauses wish of an exception of the body, one after the other -/
def wMany (K : PySem.W.Frag) (Wout : WX) (D : Ends) : List (Value × Option Nat × (Addr → Value → Option Addr → TS)) → WX
  | [] => Wout
  | (c, i, ts) :: r => fun cls d σ H => ∃ b, PySem.W.exmOne K cls c = some b ∧
      (b = true → ∀ a, H a = none → match i with
        | some i => ts a cls d { nx := fun σ' H' => D.nx (σ'.set i none) H', rt := D.rt, bk := fun σ' H' => D.bk (σ'.set i none) H', ct := fun σ' H' => D.ct (σ'.set i none) H' } (σ.set i (some (.ref a))) H
        | none => ts a cls d D σ H) ∧
      (b = false → wMany K Wout D r cls d σ H)
inductive Hds (X : Cx) : List ExceptHandler → List (Value × Option Nat × (Addr → Value → Option Addr → TS)) → Prop
  | nil : Hds X [] []
  | cons {x n : Str} {c : Value} {i : Nat} {ts : Addr → Value → Option Addr → TS} {b₀ : Stmt} {suite : List Stmt} {np pos' : Pos} {hds : List ExceptHandler} {l : List (Value × Option Nat × (Addr → Value → Option Addr → TS))} (hN : X.N.Nodup) (hi : X.N[i]? = some n) (hln : X.env.kindOf n = some .local) (hc : Names X x c)
      (hsu : ∀ (a : Addr) (oe : Obj) (cls : Value) (d : Option Addr) (pn : List (Addr × Obj)), Zc cls d oe → (∃ vs, oe.data = .fields vs) → PSs (X.suite a ((a, oe) :: pn)) (b₀ :: suite) (ts a cls d)) (r : Hds X hds l) :
      Hds X (.ExceptHandler (some (.Name x np)) (some n) (b₀ :: suite) pos' :: hds) ((c, some i, ts) :: l)
  | bare {x : Str} {c : Value} {ts : Addr → Value → Option Addr → TS} {b₀ : Stmt} {suite : List Stmt} {np pos' : Pos} {hds : List ExceptHandler} {l : List (Value × Option Nat × (Addr → Value → Option Addr → TS))} (hc : Names X x c)
      (hsu : ∀ (a : Addr) (oe : Obj) (cls : Value) (d : Option Addr) (pn : List (Addr × Obj)), Zc cls d oe → (∃ vs, oe.data = .fields vs) → PSs (X.suite a ((a, oe) :: pn)) (b₀ :: suite) (ts a cls d)) (r : Hds X hds l) :
      Hds X (.ExceptHandler (some (.Name x np)) none (b₀ :: suite) pos' :: hds) ((c, none, ts) :: l)
section
variable {X : Cx} {body : List Stmt} {h₀ : ExceptHandler} {hds : List ExceptHandler} {l : List (Value × Option Nat × (Addr → Value → Option Addr → TS))} {pos : Pos} {tb : WX → TS} {Wout : WX}
end
end Tn

namespace Py
open PySem PySem.Spec L2
def outN : Out → T Out
  | .nx ρ => .ret (.nx (clr ρ))
  | .brk ρ => .ret (.brk (clr ρ))
  | .ct ρ => .ret (.ct (clr ρ))
  | .ret d => .ret (.ret d)
  | .rz _ _ _ => .bad
/-- the clauses: slot of the name, which classes, suite -/
def hdN : List (Option Nat × (Nat → Option Bool) × Sm) → Nat → List D → Env → T Out
  | [], c, l, ρ' => .ret (.rz c l ρ')
  | (i, m, u) :: r, c, l, ρ' => match m c with
    | some true => (match i with
      | some i => u ((clr ρ').set i (.err c l)) >>= outT i
      | none => u (clr ρ') >>= outN)
    | some false => hdN r c l ρ'
    | none => .bad
section
variable {X : Cx} {G : Gl} {W : WX} {hs : Hid}
inductive HdN (X : Cx) (G : Gl) (hs : Hid) : List ExceptHandler → List (Option Nat × (Nat → Option Bool) × Sm) → Prop
  | nil : HdN X G hs [] []
  | cons {x n : Str} {c : Value} {i : Nat} {m : Nat → Option Bool} {u : Sm} {b₀ : Stmt} {suite : List Stmt} {np pos' : Pos} {hds : List ExceptHandler} {l : List (Option Nat × (Nat → Option Bool) × Sm)} (hi : X.N[i]? = some n) (hln : X.env.kindOf n = some .local) (hc : Names X x c)
      (hm : ∀ k b, m k = some b → PySem.W.exmOne X.K (.ref (G.cls k)) c = some b)
      (hu : ∀ (a : Addr) (oe : Obj) (cls : Value) (d : Option Addr) (pn : List (Addr × Obj)), Zc cls d oe → (∃ vs, oe.data = .fields vs) → SSs (X.suite a ((a, oe) :: pn)) (G.to (some (a, cls, d)) G.fa) (fun _ _ _ _ => False) hs (b₀ :: suite) u)
      (r : HdN X G hs hds l) : HdN X G hs (.ExceptHandler (some (.Name x np)) (some n) (b₀ :: suite) pos' :: hds) ((some i, m, u) :: l)
  | bare {x : Str} {c : Value} {m : Nat → Option Bool} {u : Sm} {b₀ : Stmt} {suite : List Stmt} {np pos' : Pos} {hds : List ExceptHandler} {l : List (Option Nat × (Nat → Option Bool) × Sm)} (hc : Names X x c)
      (hm : ∀ k b, m k = some b → PySem.W.exmOne X.K (.ref (G.cls k)) c = some b)
      (hu : ∀ (a : Addr) (oe : Obj) (cls : Value) (d : Option Addr) (pn : List (Addr × Obj)), Zc cls d oe → (∃ vs, oe.data = .fields vs) → SSs (X.suite a ((a, oe) :: pn)) (G.to (some (a, cls, d)) G.fa) (fun _ _ _ _ => False) hs (b₀ :: suite) u)
      (r : HdN X G hs hds l) : HdN X G hs (.ExceptHandler (some (.Name x np)) none (b₀ :: suite) pos' :: hds) ((none, m, u) :: l)
theorem HdN.to (hN : X.N.Nodup) {hds : List ExceptHandler} {l : List (Option Nat × (Nat → Option Bool) × Sm)} (h : HdN X G hs hds l) : ∃ L, Tn.Hds X hds L ∧ ∀ (Dn : Ends) (hd : Addr → Prop) (H : Hp) (nb : Nat) (k : Nat) (es : List D) (ρ' : Env) (hd1 : Addr → Prop) (cls : Value) (dx : Option Addr) (σ1 : L2.St) (H1 : Hp),
    SRep X G hs nb hd1 σ1 ρ' H1 → Ex (hide hd H) (hide hd1 H1) → ErrAt G (hide hd1 H1) k es cls dx → (hdN l k es ρ').wp nb (oQ X G W hs Dn hd H) (fun _ _ _ => False) → Tn.wMany X.K W Dn L cls dx σ1 H1 := by
  induction h with
  | nil =>
    refine ⟨[], .nil, fun Dn hd H nb k es ρ' hd1 cls dx σ1 H1 R1 x1 E1 q => ?_⟩
    exact q hd1 cls dx σ1 H1 R1 x1 E1
  | @cons x n c i m u b₀ suite np pos' hds l hi hln hc hm hu r ih =>
    obtain ⟨L, h1, h2⟩ := ih
    refine ⟨(c, some i, fun a cls d => tSS X (G.to (some (a, cls, d)) G.fa) (fun _ _ _ _ => False) hs u) :: L, .cons hN hi hln hc (fun a oe cls d pn z f => PSs_imp (hu a oe cls d pn z f) fun Dn σ H q => tSS.cx (X := X) (Y := X.suite a ((a, oe) :: pn)) rfl q) h1, fun Dn hd H nb k es ρ' hd1 cls dx σ1 H1 R1 x1 E1 q => ?_⟩
    have q2 : (match m k with
      | some true => u ((clr ρ').set i (.err k es)) >>= outT i
      | some false => hdN l k es ρ'
      | none => .bad).wp nb (oQ X G W hs Dn hd H) (fun _ _ _ => False) := q
    cases e : m k with
    | none =>
      rw [e] at q2
      exact q2.elim
    | some b =>
      rw [e] at q2
      have ex := hm k b e
      have ecls := E1.1
      refine ⟨b, by rw [ecls]; exact ex, fun hb' a na => ?_, fun hb' => ?_⟩
      · rw [hb'] at q2
        have S1 : SRep X (G.to (some (a, cls, dx)) G.fa) hs nb hd1 σ1 (clr ρ') H1 := SRep.clear (x' := G.ea) R1
        have S2 := S1.put (i := i) (s := .err k es) (v := some (.ref a)) rfl ⟨a, cls, dx, rfl, rfl, by rw [err_er]; exact E1⟩
        refine ⟨_, _, hd1, S2, T.wp_imp (wp_then q2) fun o _ z => ?_⟩
        have back : ∀ {nb : Nat} {hd2 : Addr → Prop} {σ2 : L2.St} {ρ2 : Env} {H2 : Hp}, SRep X (G.to (some (a, cls, dx)) G.fa) hs nb hd2 σ2 ρ2 H2 → SRep X G hs nb hd2 (σ2.set i none) ((clr ρ2).set i .none) H2 := fun {nb hd2 σ2 ρ2 H2} S => by
          have S3 : SRep X (G.to G.ea G.fa) hs nb hd2 σ2 (clr ρ2) H2 := S.clear
          exact SRep.put (G := G) S3 rfl trivial
        cases o with
        | nx ρ2 => exact fun hd2 σ2 H2 S x2 => z hd2 _ H2 (back S) (x1.trans x2)
        | ret d =>
          intro v H2 j L2' a2
          rw [leadS_er] at L2'
          exact z v H2 j L2' a2.re
        | brk ρ2 => exact fun hd2 σ2 H2 S x2 => z hd2 _ H2 (back S) (x1.trans x2)
        | ct ρ2 => exact fun hd2 σ2 H2 S x2 => z hd2 _ H2 (back S) (x1.trans x2)
        | rz k2 l2 ρ2 => exact z.elim
      · rw [hb'] at q2
        exact h2 Dn hd H nb k es ρ' hd1 cls dx σ1 H1 R1 x1 E1 q2
  | @bare x c m u b₀ suite np pos' hds l hc hm hu r ih =>
    obtain ⟨L, h1, h2⟩ := ih
    refine ⟨(c, none, fun a cls d => tSS X (G.to (some (a, cls, d)) G.fa) (fun _ _ _ _ => False) hs u) :: L, .bare hc (fun a oe cls d pn z f => PSs_imp (hu a oe cls d pn z f) fun Dn σ H q => tSS.cx (X := X) (Y := X.suite a ((a, oe) :: pn)) rfl q) h1, fun Dn hd H nb k es ρ' hd1 cls dx σ1 H1 R1 x1 E1 q => ?_⟩
    have q2 : (match m k with
      | some true => u (clr ρ') >>= outN
      | some false => hdN l k es ρ'
      | none => .bad).wp nb (oQ X G W hs Dn hd H) (fun _ _ _ => False) := q
    cases e : m k with
    | none =>
      rw [e] at q2
      exact q2.elim
    | some b =>
      rw [e] at q2
      have ex := hm k b e
      have ecls := E1.1
      refine ⟨b, by rw [ecls]; exact ex, fun hb' a na => ?_, fun hb' => ?_⟩
      · rw [hb'] at q2
        have S1 : SRep X (G.to (some (a, cls, dx)) G.fa) hs nb hd1 σ1 (clr ρ') H1 := SRep.clear (x' := G.ea) R1
        refine ⟨_, _, hd1, S1, T.wp_imp (wp_then q2) fun o _ z => ?_⟩
        have back : ∀ {nb : Nat} {hd2 : Addr → Prop} {σ2 : L2.St} {ρ2 : Env} {H2 : Hp}, SRep X (G.to (some (a, cls, dx)) G.fa) hs nb hd2 σ2 ρ2 H2 → SRep X G hs nb hd2 σ2 (clr ρ2) H2 := fun {nb hd2 σ2 ρ2 H2} S => by
          have S3 : SRep X (G.to G.ea G.fa) hs nb hd2 σ2 (clr ρ2) H2 := S.clear
          exact S3
        cases o with
        | nx ρ2 => exact fun hd2 σ2 H2 S x2 => z hd2 _ H2 (back S) (x1.trans x2)
        | ret d =>
          intro v H2 j L2' a2
          rw [leadS_er] at L2'
          exact z v H2 j L2' a2.re
        | brk ρ2 => exact fun hd2 σ2 H2 S x2 => z hd2 _ H2 (back S) (x1.trans x2)
        | ct ρ2 => exact fun hd2 σ2 H2 S x2 => z hd2 _ H2 (back S) (x1.trans x2)
        | rz k2 l2 ρ2 => exact z.elim
      · rw [hb'] at q2
        exact h2 Dn hd H nb k es ρ' hd1 cls dx σ1 H1 R1 x1 E1 q2
end
end Py
set_option Elab.async false
set_option linter.all false
set_option maxRecDepth 100000
set_option maxHeartbeats 4000000
/-! which except clauses take which errors, errors without parameters among them -/
namespace Py
open PySem PySem.Spec PyProof.Rows L2
structure Xz (K : PySem.W.Frag) (cls : Nat → Addr) (base : Nat) (zs : List Nat) : Prop where
  exm : ∀ n k b, exM base zs n k = some b → PySem.W.exmOne K (.ref (cls k)) (.ref (cls n)) = some b
namespace Hk
end Hk
end Py
set_option Elab.async false
set_option linter.all false
set_option maxRecDepth 100000
set_option maxHeartbeats 4000000
/-! xs == [], xs != []: lists of anything -/
namespace Py
open PySem PySem.Spec PyProof.Rows L2
section
variable {X : Cx} {G : Gl} {W : WX}
theorem isE {α β : Type} {l : List α} {m : List β} (h : l.length = m.length) : l.isEmpty = m.isEmpty := by
  cases l <;> cases m <;> simp at h ⊢
end
end Py
set_option Elab.async false
set_option linter.all false
set_option maxRecDepth 100000
set_option maxHeartbeats 4000000
/-! for x in e: d.setdefault(k, []).append(v): the lists of a dict by tuples -/
namespace Py
open PySem PySem.Spec PyProof.Rows L2
section
variable {X : Cx}
end
/-! #### the lists by keys -/
inductive Lz (P : List D → V → Prop) : List (List D) → List (NestedKey × Addr × V) → Prop
  | nil : Lz P [] []
  | cons {l p vs ps} : P l p.2.2 → Lz P vs ps → Lz P (l :: vs) (p :: ps)
theorem Lz.imp {P P' : List D → V → Prop} {vs : List (List D)} {ps : List (NestedKey × Addr × V)} (h : Lz P vs ps) (f : ∀ l p, p ∈ ps → P l p.2.2 → P' l p.2.2) : Lz P' vs ps := by
  induction h with
  | nil => exact .nil
  | cons h _ ih => exact .cons (f _ _ List.mem_cons_self h) (ih fun l p hp => f l p (List.mem_cons_of_mem _ hp))
theorem Lz.mem {P : List D → V → Prop} {vs : List (List D)} {ps : List (NestedKey × Addr × V)} (h : Lz P vs ps) : ∀ p ∈ ps, ∃ l, P l p.2.2 := by
  induction h with
  | nil => exact fun p hp => nomatch hp
  | cons h _ ih =>
    intro p hp
    rcases List.mem_cons.mp hp with z | z
    · rw [z]
      exact ⟨_, h⟩
    · exact ih p z
/-! #### the loop -/
section
variable {X : Cx} {G : Gl} {W : WX} {hs : Hid}
/-- a list that only the dict holds -/
def Lv (X : Cx) (G : Gl) (hd : Addr → Prop) (H : Hp) (A : Addr) (m : Nat) (l : List D) (v : V) : Prop := ∃ q xs, v = .ref q ∧ H q = some (.lst xs) ∧ Ats G (hide hd H) l xs ∧ hd q ∧ ¬ G.M q ∧ newIn X.H_0 q ∧ q ≠ A ∧ xs.length ≤ m
structure Gs (X : Cx) (G : Gl) (hs : Hid) (n : Nat) (hd : Addr → Prop) (σ : L2.St) (ρ : Env) (H : Hp) (i : Nat) (A : Addr) (m : Nat) (ks : List D) (vs : List (List D)) (ps : List (NestedKey × Addr × V)) : Prop where
  rep : SRep X G hs n hd σ ρ H
  sl : σ[i]? = some (some (.ref A))
  dn : IsDN X.prog X.w H A ps
  dh : hd A
  dm : ¬ G.M A
  dw : newIn X.H_0 A
  kn : KN ks ps
  ka : Ats G (hide hd H) ks (ps.map fun q => V.ref q.2.1)
  va : Lz (Lv X G hd H A m) vs ps
  nd : (ps.map (·.2.2)).Nodup
  no : ∀ (k : Nat) (l : Ow) (v : Option V), ρ[k]? = some (.own l) → σ[k]? = some v → v ≠ some (.ref A) ∧ ∀ p ∈ ps, v ≠ some p.2.2
  len : ps.length ≤ m
  em : ps = [] → H A = some (.dK [])
theorem IsDN.pl {P : Program} {w : World} {H : Hp} {A : Addr} {ps : List (NestedKey × Addr × V)} (h : IsDN P w H A ps) : ∃ o, H A = some o ∧ Plain o := by
  rcases h with e | ⟨_, e⟩
  · exact ⟨_, e, (fun _ z => by unfold DN at z; cases z), fun _ _ z => DN_ne z⟩
  · exact ⟨_, e, (fun _ z => nomatch z), fun _ _ z => by unfold LamX.CodeO at z; cases z⟩
theorem IsDN.to {P : Program} {w : World} {H H' : Hp} {A : Addr} {ps : List (NestedKey × Addr × V)} (h : IsDN P w H A ps) (e : H' A = H A) : IsDN P w H' A ps := by
  unfold IsDN
  rw [e]
  exact h
theorem Lv.lead {n n' : Nat} {hd : Addr → Prop} {H H' : Hp} {A : Addr} {m m' : Nat} {l : List D} {v : V} (e : Lead G n n' H H') (x : Ex (hide hd H) (hide hd H')) (hm : m ≤ m') (h : Lv X G hd H A m l v) : Lv X G hd H' A m' l v := by
  obtain ⟨q, xs, rfl, h1, h2, h3, h4, h5, h6, h7⟩ := h
  exact ⟨q, xs, rfl, e.ex q _ h4 (fun _ z => nomatch z) h1, h2.mono x, h3, h4, h5, h6, Nat.le_trans h7 hm⟩
theorem Gs.lead {n n' : Nat} {hd : Addr → Prop} {σ : L2.St} {ρ : Env} {H H' : Hp} {i : Nat} {A : Addr} {m : Nat} {ks : List D} {vs : List (List D)} {ps : List (NestedKey × Addr × V)} (g : Gs X G hs n hd σ ρ H i A m ks vs ps) (e : Lead G n n' H H') : Gs X G hs n' hd σ ρ H' i A m ks vs ps := by
  have x := e.hide g.rep.rep.m
  obtain ⟨o, h1, h2⟩ := g.dn.pl
  exact ⟨g.rep.to e, g.sl, g.dn.to (by rw [h1]; exact e.ex A o g.dm h2.nt h1), g.dh, g.dm, g.dw, g.kn, g.ka.mono x, g.va.imp fun l p _ => Lv.lead e x (Nat.le_refl _), g.nd, g.no, g.len, fun z => e.ex A _ g.dm (fun _ z => nomatch z) (g.em z)⟩
/-- a hidden thing of no slot changes -/
theorem SRep.poke {n : Nat} {hd : Addr → Prop} {σ : L2.St} {ρ : Env} {H : Hp} {p : Addr} {o : HO} (R : SRep X G hs n hd σ ρ H) (hp : hd p) (nm : ¬ G.M p) (nw : newIn X.H_0 p) (no : ∀ (i : Nat) (l : Ow) (v : Option V), ρ[i]? = some (.own l) → σ[i]? = some v → v ≠ some (.ref p)) (t : Plain o) : SRep X G hs n hd σ ρ (upd H p o) := by
  refine ⟨R.rep.poke hp nm no t, ⟨fun a u m s k e => ?_, fun j => (R.rep.poke hp nm no t).j⟩, R.sub, R.old, fun a h => ?_, R.mine⟩
  · have np : a ≠ p := fun z => nw u (by rw [← z]; exact e) k
    rw [upd_ne np]
    exact R.lead.ex a u m s k e
  · obtain ⟨h1, u, h2, h3⟩ := R.selfs a h
    by_cases z : a = p
    · exact ⟨h1, o, by rw [z]; exact upd_same, t.nt⟩
    · exact ⟨h1, u, by rw [upd_ne z]; exact h2, h3⟩
theorem SRep.more {n : Nat} {hd : Addr → Prop} {σ : L2.St} {ρ : Env} {H : Hp} {p : Addr} {o : HO} (R : SRep X G hs n hd σ ρ H) (hp : H p = none) (t : Plain o) : SRep X G hs n (orIs hd p) σ ρ (upd H p o) ∧ Ex (hide hd H) (hide (orIs hd p) (upd H p o)) := by
  have L : Lead G n n H (upd H p o) := Lead.new hp
  refine ⟨⟨R.rep.more hp t, R.lead.trans L, fun a h => .inl (R.sub a h), R.old, R.self_to L, R.mine⟩, fun a u e => ?_⟩
  have en := hide_nt e
  obtain ⟨n, e⟩ := hide_get e
  have np : a ≠ p := ne_of_none e hp
  exact hide_put (fun z => z.elim n np) (by rw [upd_ne np]; exact e) en
/-- what is hidden of no slot is seen again -/
theorem SRep.part {n : Nat} {hd : Addr → Prop} {σ : L2.St} {ρ : Env} {H : Hp} (R : SRep X G hs n hd σ ρ H) (S : Addr → Prop) (hm : ∀ a, S a → ¬ G.M a) (nw : ∀ a, S a → newIn X.H_0 a) (no : ∀ (k : Nat) (l : Ow) (v : Option V), ρ[k]? = some (.own l) → σ[k]? = some v → ∀ a, S a → v ≠ some (.ref a)) :
    SRep X G hs n (fun a => hd a ∧ ¬ S a) σ ρ H ∧ Ex (hide hd H) (hide (fun a => hd a ∧ ¬ S a) H) := by
  have x : Ex (hide hd H) (hide (fun a => hd a ∧ ¬ S a) H) := hide_le fun a z => z.1
  refine ⟨⟨⟨R.rep.j, fun a m => ⟨R.rep.m a m, fun z => hm a z m⟩, ⟨fun a h => R.rep.live.ne a h.1, fun a o h m e => R.rep.live.nt a o h.1 m e⟩, R.rep.len, fun k s v h1 h2 => ?_, R.rep.lone⟩, R.lead, fun a z => ⟨R.sub a z, fun y => ?_⟩, R.old, R.selfs, R.mine⟩, x⟩
  · have := R.rep.at_ k s v h1 h2
    cases s with
    | none => trivial
    | val d =>
      obtain ⟨y, e1, a⟩ := this
      exact ⟨y, e1, a.mono x⟩
    | own l =>
      obtain ⟨a, e1, h, nm', u, e2, r⟩ := this
      exact ⟨a, e1, ⟨h, fun z => no k l v h1 h2 a z e1⟩, nm', u, e2, r.mono x⟩
    | err c l =>
      obtain ⟨a, cls, dx, e1, e2, r⟩ := this
      exact ⟨a, cls, dx, e1, e2, r.mono x⟩
    | thk =>
      obtain ⟨f, Q, e1, e2, r⟩ := this
      exact ⟨f, Q, e1, e2, Q.2 _ _ x r⟩
    | fn _ =>
      obtain ⟨f, Q, e1, e2, r⟩ := this
      exact ⟨f, Q, e1, e2, Q.2 _ _ x r⟩
  · rcases R.old a z with m | ⟨o, e1, e2⟩
    · exact hm a y m
    · exact nw a y o e1 e2
theorem setSelf {α : Type} {l : List α} {i : Nat} {a : α} (h : l[i]? = some a) : l.set i a = l := by
  apply List.ext_getElem?
  intro k
  by_cases c : i = k
  · subst c
    have hi : i < l.length := (List.getElem?_eq_some_iff.mp h).1
    rw [List.getElem?_set_self hi, h]
  · rw [List.getElem?_set_ne c]
theorem Gs.up {n : Nat} {hd : Addr → Prop} {σ : L2.St} {ρ : Env} {H : Hp} {i : Nat} {A : Addr} {m m' : Nat} {ks : List D} {vs : List (List D)} {ps : List (NestedKey × Addr × V)} (hm : m ≤ m') (g : Gs X G hs n hd σ ρ H i A m ks vs ps) : Gs X G hs n hd σ ρ H i A m' ks vs ps :=
  ⟨g.rep, g.sl, g.dn, g.dh, g.dm, g.dw, g.kn, g.ka, g.va.imp fun l p _ ⟨q, xs, a, b, c, d, e, f, h, j⟩ => ⟨q, xs, a, b, c, d, e, f, h, by omega⟩, g.nd, g.no, Nat.le_trans g.len hm, g.em⟩
theorem SRep.drop {n : Nat} {hd : Addr → Prop} {σ : L2.St} {ρ : Env} {H : Hp} {i : Nat} (R : SRep X G hs n hd σ ρ H) : SRep X G hs n hd σ (ρ.set i .none) H := by
  by_cases hi : i < σ.length
  · have := R.put (i := i) (s := .none) (v := σ[i]) rfl trivial
    rw [setSelf (List.getElem?_eq_getElem hi)] at this
    exact this
  · have : ρ.set i .none = ρ := List.set_eq_of_length_le (by rw [R.rep.len]; omega)
    rw [this]
    exact R
end
end Py
set_option Elab.async false
set_option linter.all false
set_option maxRecDepth 100000
set_option maxHeartbeats 4000000
/-! sum(xs): a list, a tuple of ints -/
namespace Py
open PySem PySem.Spec PyProof.Rows L2
def rSumT (K : PySem.W.Frag) : List V → Hp → VK → Prop := fun vs H Q => ∃ (a : Addr) (ns : List Int), vs = [V.ref a] ∧ SqT K H a (ns.map V.int) ∧ Q (.int ns.sum) H
section
variable {X : Cx} {G : Gl}
theorem cr_sumT (hc : X.calm = true) : CallR X (.builtin "sum") (rSumT X.K) := by
  intro pins s σ H vs us Q I r h
  obtain ⟨a, ns, rfl, hs, q⟩ := h
  obtain ⟨its, rv, ht, _⟩ := I.tuple hs
  rw [Vals.ref1 r]
  have hi : IntsAre its ns := rv.ints
  obtain ⟨xs, e⟩ := hi.allInts.items
  have hn : numsOf (intItems xs).toList = ns := by rw [← e]; exact hi.numsOf
  rw [nums_intItems] at hn
  rw [e] at ht
  refine PySem.W.ktm_sumG (I.ok.hd hc) ht fun h' tk t' hk => ?_
  rw [preSum_eq, List.take_of_length_le (by simp), hn]
  exact ⟨.int _, H, I.kept hk, ⟨_, rfl⟩, q⟩
def sumX : List D → Option D
  | [.lst l] => (intsD l).map fun ns => .int ns.sum
  | [.tup l] => (intsD l).map fun ns => .int ns.sum
  | _ => none
theorem ats_intsV {H : Hp} : ∀ {l : List D} {xs : List V} {ns : List Int}, Ats G H l xs → intsD l = some ns → xs = ns.map V.int
  | _, _, ns, .nil, e => by
    cases e
    rfl
  | d :: l, x :: xs, ns, .cons h r, e => by
    cases d with
    | int i =>
      have e1 : (intsD l).map (i :: ·) = some ns := e
      cases e2 : intsD l with
      | none =>
        rw [e2] at e1
        cases e1
      | some m =>
        rw [e2] at e1
        cases h
        rw [← Option.some.inj e1, ats_intsV r e2]
        rfl
    | _ => cases e
theorem d_sumX (hK : G.K = X.K) : DoesN G (fun xs H Q => rSum X.K xs H Q ∨ rSumT X.K xs H Q) sumX := fun hd H xs l d Q R h e k => by
  unfold sumX at e
  split at e
  · rename_i l0
    cases e2 : intsD l0 with
    | none =>
      rw [e2] at e
      cases e
    | some ns =>
      rw [e2] at e
      cases e
      cases h with
      | cons h1 h2 =>
        cases h2
        cases h1 with
        | lst a b => exact .inl ⟨_, ns, rfl, .inl (.inl (by rw [← ats_intsV b e2]; exact hide_sub _ _ a)), k _ H (Lead.refl H) .int⟩
  · rename_i l0
    cases e2 : intsD l0 with
    | none =>
      rw [e2] at e
      cases e
    | some ns =>
      rw [e2] at e
      cases e
      cases h with
      | cons h1 h2 =>
        cases h2
        cases h1 with
        | tup a b => exact .inr ⟨_, ns, rfl, by rw [← hK, ← ats_intsV b e2]; exact hide_sub.sqM a, k _ H (Lead.refl H) .int⟩
  · cases e
theorem call_sumX (hc : X.calm = true) : CallR X (.builtin "sum") (fun xs H Q => rSum X.K xs H Q ∨ rSumT X.K xs H Q) := CallR_or (cr_sum hc) (cr_sumT hc)
end
end Py
set_option Elab.async false
set_option linter.all false
set_option maxRecDepth 100000
/-! ints by bits: & | << >>; a method called by keywords alone -/
namespace Py
open PySem PySem.Spec L2 PyProof.Rows
variable {X : Cx} {G : Gl} {W : WX}
def iBnd : D → D → Option D
  | .int i, .int j => some (.int (Builtin.bitAnd i j))
  | _, _ => none
def iBor : D → D → Option D
  | .int i, .int j => some (.int (Builtin.bitOr i j))
  | _, _ => none
def iShl : D → D → Option D
  | .int i, .int j => if 0 ≤ j ∧ j ≤ 1000000 ∧ i.natAbs < 2 ^ 64 then some (.int (i * 2 ^ j.toNat)) else none
  | _, _ => none
def iShr : D → D → Option D
  | .int i, .int j => if 0 ≤ j then some (.int (i / 2 ^ j.toNat)) else none
  | _, _ => none
theorem d_bnd : Does2 G (rI0 fun i j => V.int (Builtin.bitAnd i j)) iBnd := does_I0 fun a b d e => by
  unfold iBnd at e
  split at e
  · cases e
    exact ⟨_, _, rfl, rfl, fun _ => .int⟩
  · cases e
theorem d_bor : Does2 G (rI0 fun i j => V.int (Builtin.bitOr i j)) iBor := does_I0 fun a b d e => by
  unfold iBor at e
  split at e
  · cases e
    exact ⟨_, _, rfl, rfl, fun _ => .int⟩
  · cases e
theorem d_shl : Does2 G (rI CPow fun i j => V.int (i * 2 ^ j.toNat)) iShl := does_I fun a b d e => by
  unfold iShl at e
  split at e
  · split at e
    · cases e
      exact ⟨_, _, rfl, rfl, (by assumption), fun _ => .int⟩
    · cases e
  · cases e
theorem d_shr : Does2 G (rI (fun _ j => 0 ≤ j) fun i j => V.int (i / 2 ^ j.toNat)) iShr := does_I fun a b d e => by
  unfold iShr at e
  split at e
  · split at e
    · cases e
      exact ⟨_, _, rfl, rfl, (by assumption), fun _ => .int⟩
    · cases e
  · cases e
theorem pe_methKS {CX : CXT} {k : Nat} {f C : Addr} {fd : FuncData} {ps ks : List Str} {js : List Nat} {sp : Sp} {E : L2.St → XK} {m : Str} {pos apos : Pos} {o : Expr} {kws : List Keyword} {ta : TE} {tk : TA} {pl : Sem Bool} (he : PE X o ta) (c : Cls X.K C) (hm : Meth X.K C m f) (F : FnOk X.prog X.w X.K X.mg X.base CX k f fd ps sp) (hr : Room k X.A) (hb : KBd X.K fd ps 1 ks (0 :: js.map (· + 1))) (hx : ∀ σ, PassesAt CX X σ (E σ)) (hkw : PK X kws tk)
    (hall : (backToKw pos (keywordEach kws X.env)).all (·.1.isSome) = true := by rfl) (hks : (backToKw pos (keywordEach kws X.env)).filterMap (·.1) = ks := by rfl)
    (hpl : ((backTo pos (starEach [] X.env)).any (·.1) || (backToKw pos (keywordEach kws X.env)).any (·.1.isNone)) = false := by rfl)
    (ht : eval (.Call (.Attribute o m apos) [] kws pos) X.env = (do
      let ov ← eval o X.env
      standAt apos.atName
      let (f, first) ← holding [ov] (getMethod ov m pl)
      callWith pos f first (backTo pos (starEach [] X.env)) (backToKw pos (keywordEach kws X.env))) := by rfl) :
    PE X (.Call (.Attribute o m apos) [] kws pos) (fun σ H Q => ta σ H fun x H1 => ∃ a dx fs, x = .ref a ∧ H1 a = some (.ins C dx fs) ∧ fs.lookup m = none ∧ tk σ H1 fun zs H2 => zs.length = ks.length ∧ sp (x :: permL js zs) H2 Q (E σ)) := by
  refine ⟨fun pins s σ H Q I h => PySem.W.methodCall_KW (pl := pl) (thn (he.run pins s σ H _ I h) fun u s1 y => ?_) ht⟩
  obtain ⟨x, H1, I1, rx, a, dx, fs, rfl, ea, l, q⟩ := y
  cases (show u = Value.ref a from rx)
  refine getmeth_ok I1 ea c hm l (PySem.W.callWith_KW0 (first := [.ref a]) (h₀ := X.base) I.ok.mod.kin hm.kp hall ?_ hpl)
  refine thn (hkw.run pos pins s1 σ H1 _ I1 q) fun ws s2 ⟨zs, H2, I2, rz, l2, q2⟩ => ⟨I2.kIn, ?_⟩
  rw [hks]
  exact run_fnKS (us := [Value.ref a]) (vs := [V.ref a]) F hr hb (hx σ) I2 (.cons rfl .nil) rz rfl l2 (by
    rw [List.singleton_append, perm_up]
    exact q2)
/-- o.m(k = v, ..) -/
def gMethK (n a c : Nat) (js : List Nat) (m : List D → T D) (f : Env → T D) (r : Env → T (List D)) : Env → T D := fun ρ => f ρ >>= fun d => match d with
  | .obj c' l => if c' = c then r ρ >>= fun z => if z.length = a ∧ (permL js z).length + 1 = n then m (.obj c' l :: permL js z) else .bad else .bad
  | _ => .bad
theorem ee_methK {k n c : Nat} {f : Addr} {fd : FuncData} {ps ks : List Str} {js : List Nat} {nm : Str} {apos pos : Pos} {o : Expr} {kws : List Keyword} {m : List D → T D} {g : Env → T D} {fk : Env → T (List D)} {pl : Sem Bool} (cl : Cls X.K (G.cls c)) (hm : Meth X.K (G.cls c) nm f) (hno : nsIx (G.flds c) nm = none) (F : FnOk X.prog X.w X.K X.mg X.base (L2.CX X.prog X.w) k f fd ps (spD G n m)) (hr : Room k X.A)
    (hb : KBd X.K fd ps 1 ks (0 :: js.map (· + 1))) (tk : Takes X W) (ho : EE X G W o g) (hkw : EK X G W kws fk)
    (hall : (backToKw pos (keywordEach kws X.env)).all (·.1.isSome) = true := by rfl) (hks : (backToKw pos (keywordEach kws X.env)).filterMap (·.1) = ks := by rfl)
    (hpl : ((backTo pos (starEach [] X.env)).any (·.1) || (backToKw pos (keywordEach kws X.env)).any (·.1.isNone)) = false := by rfl)
    (ht : eval (.Call (.Attribute o nm apos) [] kws pos) X.env = (do
      let ov ← eval o X.env
      standAt apos.atName
      let (f, first) ← holding [ov] (getMethod ov nm pl)
      callWith pos f first (backTo pos (starEach [] X.env)) (backToKw pos (keywordEach kws X.env))) := by rfl) :
    EE X G W (.Call (.Attribute o nm apos) [] kws pos) (gMethK n ks.length c js m g fk) := by
  refine PE_imp (pe_methKS ho cl hm F hr hb (fun σ => passAt tk σ) hkw hall hks hpl ht) fun σ H Q q => ?_
  obtain ⟨nb, ρ, hd, R, q⟩ := q
  refine ⟨_, ρ, hd, R, T.wp_imp (wp_then q) fun d _ q1 v H1 e1 h1 => ?_⟩
  cases d with
  | obj c' l =>
    obtain ⟨hc, q2⟩ := wp_if q1
    subst hc
    cases h1 with
    | @obj _ _ a dx fs h2 h3 h4 =>
      refine ⟨a, dx, fs, rfl, hide_sub _ _ h2, lookup_no (by rw [h3]; exact hno), _, ρ, hd, R.lead e1, T.wp_mono (wp_then q2) (fun l' _ q3 vs H2 e2 a2 => ?_) fun c l _ z => xE.lead z e1⟩
      obtain ⟨⟨c1, c2⟩, q4⟩ := wp_if q3
      have aself : At G (hide hd H2) (.obj c' l) (.ref a) := (At.obj h2 h3 h4).mono (e2.hide R.m)
      have a3 := perm_ats js a2
      exact ⟨by rw [← a2.length]; exact c1, by rw [List.length_cons, ← a3.length]; exact c2, _, _, hd, R.good.lead (e1.trans e2), .cons aself a3, T.wp_mono q4 (fun d _ q5 v H' j e3 a => q5 v H' ((e1.trans e2).trans e3) a) fun c es _ z cls dx H' e3 a => z cls dx H' ((e1.trans e2).trans e3) a⟩
  | _ => exact q1.elim
end Py
set_option Elab.async false
set_option linter.all false
set_option maxRecDepth 100000
set_option maxHeartbeats 4000000
/-! a == b of data that is equal for sure (lists, tuples, dicts without entries); tuples of instances with an own __eq__ -/
namespace Py
open PySem PySem.Spec PyProof.Rows L2
def eqA (a b : D) : Option D := match a, b with
  | .lst l, .lst r => if (decide (l.length = r.length) && (l.zip r).all fun p => eqS 3 p.1 p.2) = true then some (.bl true) else none
  | .tup l, .tup r => if (decide (l.length = r.length) && (l.zip r).all fun p => eqS 3 p.1 p.2) = true then some (.bl true) else none
  | .dic ks vs, .dic ks' vs' => if (isE0 (.dic ks vs) && isE0 (.dic ks' vs')) = true then some (.bl true) else none
  | _, _ => none
def eqTo (c : Nat) (m : List D → T D) (a b : D) : Option D := match a, b with
  | .tup l, .tup r => if eqObs c m l r = true then some (.bl true) else none
  | _, _ => none
section
variable {X : Cx} {G : Gl} {W : WX}
def rEqA (G : Gl) : R2 := fun x y H Q => ∃ nb hd a b d, Good G nb hd H ∧ At G (hide hd H) a x ∧ At G (hide hd H) b y ∧ eqA a b = some d ∧ Q (.bl true) H
theorem eqA_true {a b d : D} (h : eqA a b = some d) : d = .bl true := by
  unfold eqA at h
  split at h
  · split at h
    · cases h; rfl
    · cases h
  · split at h
    · cases h; rfl
    · cases h
  · split at h
    · cases h; rfl
    · cases h
  · cases h
theorem op_eqA (hK : G.K = X.K) (hu : X.A.units + 64 < cLine) : OpR X (compareOp .Eq) (rEqA G) := by
  intro pins s σ H x y v u Q I rx ry h
  obtain ⟨nb, hd, a, b, d, g, h1, h2, e, q⟩ := h
  unfold eqA at e
  split at e
  · rename_i l r
    split at e
    · rename_i z
      rw [Bool.and_eq_true, decide_eq_true_iff] at z
      cases h1 with
      | @lst _ p xs g1 g2 =>
        cases h2 with
        | @lst _ p' ys g3 g4 =>
          cases rx
          cases ry
          obtain ⟨i1, i2, l1, l2, sz, it⟩ := ls_parts hK hu I g1 g2 g3 g4 z.1 z.2
          have := SeqAt.RcAt.lists (A := X.A) (e := fun _ => true) l1 l2 sz (by omega) it
          rw [all_true] at this
          exact this X.prog X.w X.xe _ ⟨.bl true, H, I, rfl, q⟩
    · cases e
  · rename_i l r
    split at e
    · rename_i z
      rw [Bool.and_eq_true, decide_eq_true_iff] at z
      cases h1 with
      | @tup _ p xs g1 g2 =>
        cases h2 with
        | @tup _ p' ys g3 g4 =>
          cases rx
          cases ry
          obtain ⟨i1, v1, l1, n1⟩ := tup_items hK I g1 g2
          obtain ⟨i2, v2, l2, n2⟩ := tup_items hK I g3 g4
          have := SeqAt.RcAt.tuples (A := X.A) (e := fun _ => true) l1 l2 (by omega) fun j j1 j2 => by
            obtain ⟨d1, x1, e1, t1, w1⟩ := item_at g2 v1 j1
            obtain ⟨d2, x2, e2, t2, w2⟩ := item_at g4 v2 j2
            exact eqS_at hK I 3 (zip_all (f := eqS 3) z.2 e1 e2) (by rw [Around.in1_units]; omega) t1 t2 w1 w2
          rw [all_true, show (i1.toArray.size == i2.toArray.size) = true from by simp only [List.size_toArray]; rw [n1, n2, z.1]; simp] at this
          exact this X.prog X.w X.xe _ ⟨.bl true, H, I, rfl, q⟩
    · cases e
  · rename_i ks vs ks' vs'
    split at e
    · rename_i z
      rw [Bool.and_eq_true] at z
      have ea := isE0_is z.1
      have eb := isE0_is z.2
      rw [ea] at h1
      rw [eb] at h2
      obtain ⟨p, rfl, m1, d1⟩ := e0_at I h1
      obtain ⟨q', rfl, m2, d2⟩ := e0_at I h2
      cases rx
      cases ry
      have : SeqAt.RcAt X.A s (.ref p) (.ref q') true := fun P w E Q hq => PySem.W.keq_eq (knd := mixKind P w) (r := true) m1 m2 (d1 P w) (d2 P w) (by omega) (fun _ => by first | exact .nil | exact trivial | (intro z; simp) | simp [PySem.W.KeqHits]) hq
      exact this X.prog X.w X.xe _ ⟨.bl true, H, I, rfl, q⟩
    · cases e
  · cases e
theorem d_eqA : Does2 G (rEqA G) eqA := fun hd H x y a b d Q R h1 h2 e k => by
  have e0 := eqA_true e
  subst e0
  exact ⟨_, hd, a, b, _, R, h1, h2, e, k _ H (Lead.refl H) .bl⟩
def rEqTo (G : Gl) (c : Nat) (m : List D → T D) : R2 := fun x y H Q => ∃ nb hd a b, Good G nb hd H ∧ At G (hide hd H) a x ∧ At G (hide hd H) b y ∧ eqTo c m a b = some (.bl true) ∧ ∀ H', Lead G nb nb H H' → Q (.bl true) H'
theorem eqTo_is {c : Nat} {m : List D → T D} {a b d : D} (h : eqTo c m a b = some d) : ∃ l r, a = .tup l ∧ b = .tup r ∧ eqObs c m l r = true ∧ d = .bl true := by
  unfold eqTo at h
  split at h
  · rename_i l r
    split at h
    · rename_i q
      cases h
      exact ⟨l, r, rfl, rfl, q, rfl⟩
    · cases h
  · cases h
theorem op_eqTo {k c : Nat} {f : Addr} {fd : FuncData} {ps : List Str} {m : List D → T D} (hK : G.K = X.K) (F : FnOk X.prog X.w X.K X.mg X.base (L2.CX X.prog X.w) k f fd ps (spD G 2 m)) (hr : Room (k + 1) X.A) (hse : PySem.W.findIn X.K (.ref (G.cls c)) "__eq__" = some (some (.ref f))) (hf : PySem.W.isFn X.K (.ref f) = true) (hb : Binds X.K fd ps []) :
    OpR X (compareOp .Eq) (rEqTo G c m) := by
  intro pins s σ H x y v u Q I rx ry h
  obtain ⟨nb, hd, a, b, g, h1, h2, e, q⟩ := h
  obtain ⟨l, r, rfl, rfl, ok, _⟩ := eqTo_is e
  cases h1 with
  | @tup _ p xs h3 h4 =>
  cases h2 with
  | @tup _ p' ys h5 h6 =>
  cases rx
  cases ry
  have len := eqObs_len ok
  obtain ⟨i1, v1, l1, n1⟩ := tup_items hK I h3 h4
  obtain ⟨i2, v2, l2, n2⟩ := tup_items hK I h5 h6
  show wpAny (model X.prog X.w) X.A (richCompare .Eq (.ref p) (.ref p')) (EP X pins σ Q) X.xe s
  refine GQ.rc_tupG (by simp only [List.size_toArray]; omega) hr.units0 (fun _ s' => ∃ H', Inv X pins σ H' s' ∧ Lead G nb nb H H') l1 l2 (fun i j1 j2 s' z => ?_) (fun s' z => ?_) ⟨H, I, Lead.refl H⟩
  · obtain ⟨H1, I1, e1⟩ := z
    obtain ⟨d1, x1, g1, t1, w1⟩ := item_at h4 v1 j1
    obtain ⟨d2, x2, g2, t2, w2⟩ := item_at h6 v2 j2
    obtain ⟨o1, o2, rfl, rfl, hm⟩ := eqOb_is (eqObs_at ok g1 g2)
    have t1' := t1.mono (e1.hide g.m)
    have t2' := t2.mono (e1.hide g.m)
    obtain ⟨b1, u1⟩ := at_obj t1
    obtain ⟨b2, u2⟩ := at_obj t2
    subst u1
    subst u2
    generalize i1.toArray[i] = a1 at w1 ⊢
    generalize i2.toArray[i] = a2 at w2 ⊢
    cases w1
    cases w2
    by_cases hab : b1 = b2
    · subst hab
      exact SeqAt.EqAt.same (A := X.A.in1) (s := s') (.ref b1) X.prog X.w X.xe _ ⟨rfl, H1, I1, e1⟩
    · refine GQ.eqBool_refG hab (wpAny_mono (rc_own F hse hf hb ⟨hr.in1, rfl⟩ I1 (g.lead e1) t1' t2' hm) (fun r s2 z => ?_) fun _ _ x => x)
      obtain ⟨rfl, H2, I2, e2⟩ := z
      exact ⟨true, rfl, rfl, H2, I2, e1.trans e2⟩
  · obtain ⟨H1, I1, e1⟩ := z
    exact ⟨.bl true, H1, I1, rfl, q H1 e1⟩
theorem d_eqTo {c : Nat} {m : List D → T D} : Does2 G (rEqTo G c m) (eqTo c m) := fun hd H x y a b d Q R h1 h2 e k => by
  obtain ⟨l, r, rfl, rfl, ok, rfl⟩ := eqTo_is e
  exact ⟨_, hd, _, _, R, h1, h2, e, fun H' L => k _ H' L .bl⟩
/-- xs == (), xs a tuple of anything -/
def eqTz (a b : D) : Option D := match a, b with
  | .tup l, .tup [] => some (.bl l.isEmpty)
  | _, _ => none
def rEqTz (G : Gl) : R2 := fun x y H Q => ∃ nb hd l, Good G nb hd H ∧ At G (hide hd H) (.tup l) x ∧ At G (hide hd H) (.tup []) y ∧ Q (.bl l.isEmpty) H
theorem op_eqTz (hK : G.K = X.K) (hu : X.A.units + 64 < cLine) : OpR X (compareOp .Eq) (rEqTz G) := by
  intro pins s σ H x y v u Q I rx ry h
  obtain ⟨nb, hd, l, g, h1, h2, q⟩ := h
  cases h1 with
  | @tup _ p xs g1 g2 =>
    cases h2 with
    | @tup _ p' ys g3 g4 =>
      cases rx
      cases ry
      obtain ⟨i1, v1, l1, n1⟩ := tup_items hK I g1 g2
      obtain ⟨i2, v2, l2, n2⟩ := tup_items hK I g3 g4
      have e2 : i2 = [] := List.length_eq_zero_iff.mp n2
      subst e2
      have := SeqAt.RcAt.tuples (A := X.A) (e := fun _ => true) l1 l2 (by omega) fun j j1 j2 => absurd j2 (by simp)
      rw [all_true, show (i1.toArray.size == (#[] : Array Value).size) = l.isEmpty from by
        rw [← isE n1]
        cases i1 <;> simp] at this
      exact this X.prog X.w X.xe _ ⟨.bl l.isEmpty, H, I, (by rw [Bool.true_and]; rfl), q⟩
theorem d_eqTz : Does2 G (rEqTz G) eqTz := fun hd H x y a b d Q R h1 h2 e k => by
  unfold eqTz at e
  split at e
  · cases e
    exact ⟨_, hd, _, R, h1, h2, k _ H (Lead.refl H) .bl⟩
  · cases e
/-- isinstance against a kind of the language, also of instances of the own class c -/
def tabBO (n : String) (c : Nat) : Ty → Option Bool
  | .ty k => kitB k n
  | .own m => if m = c then some false else none
theorem ans_bo (hK : G.K = X.K) {n : String} {c : Nat} (ow : OwnC X.K (G.cls c)) (kr : Kr X.K (G.cls c)) (hn : n ∈ tysR := by decide) (hm : PySem.W.kitMeta n = true := by decide +kernel) : Answers X G (.type n) (ansD (tabBO n c)) := ans_d hK (fun m h => by
  have h : (if m = c then some false else none : Option Bool).isSome = true := h
  split at h
  · rename_i z
    rw [z]
    exact ow
  · cases h) fun t b e => by
  cases t with
  | ty k => exact kit_ty e
  | own m =>
    have e : (if m = c then some false else none : Option Bool) = some b := e
    split at e
    · rename_i z
      cases e
      subst z
      show PySem.W.kitOne X.K (.ref (G.cls m)) (.type n) = some false
      unfold PySem.W.kitOne PySem.W.kitCls PySem.W.subIn
      rw [if_neg (by simp)]
      show (if PySem.W.kitMeta n = true then PySem.W.mroIn X.K (G.cls m) (.type n) else none) = some false
      rw [if_pos hm]
      exact kr.no n hn
    · cases e
end
end Py
set_option Elab.async false
set_option linter.all false
set_option maxRecDepth 100000
namespace Py
open PySem PySem.Spec L2
abbrev N0 : Nat := 1000
def m_parts_of : List D → T D := fn 4 (sSeq (sSet 1 (gCall asL (gCons (gVar 0) (gNil)))) (sRet (gComp2 ((fun ρ => (gCons (gOp (fun a b => (iAdd a b).or (catD a b)) (gCall lenX (gCons (gVar 1) (gNil))) (gC (.int 1))) (gNil)) ρ >>= rng1)) (bName 2) (gYes) ((fun ρ => (gCons (gVar 1) (gCons (gVar 2) (gNil))) ρ >>= combR)) (bName 3) (gYes) (gVar 3) [2, 3] [3])))
def m_all_sets : List D → T D := fn 1 (sRet (gCall asT (gCons ((fun ρ => (gCons ((gRg1 .tup (gVar 0))) (gNil)) ρ >>= fun l => if l.length = 1 then m_parts_of l else .bad)) (gNil))))
def m_is_integer : List D → T D := fn 1 (sRet (gAndV (gIsi (ansD (tabB "int")) (gVar 0)) (gNotV (gIsi (ansD (tabB "bool")) (gVar 0)))))
def m_is_integer_within : List D → T D := fn 3 (sRet (gAndV ((fun ρ => (gCons (gVar 0) (gNil)) ρ >>= fun l => if l.length = 1 then m_is_integer l else .bad)) (gChain (cmpI (fun i j => decide (i ≤ j))) (cmpI (fun i j => decide (i ≤ j))) (gVar 1) (gVar 0) (gVar 2))))
def m_is_set : List D → T D := fn 4 (sSeq (sIf (gNotT ((fun ρ => (gIsi (ansD (tabBO "tuple" 25)) (gVar 1)) ρ >>= truth))) (sRet (gC (.bl false))) (sNext)) (sSeq (sSet 2 (gC (.int 0))) (sSeq (sFor ((fun ρ => (gVar 1) ρ >>= seqD)) (bName 3) (sSeq (sIf (gNotT ((fun ρ => ((fun ρ => (gCons (gVar 3) (gCons (gVar 2) (gCons (gOp iSub (gVar 0) (gC (.int 1))) (gNil)))) ρ >>= fun l => if l.length = 3 then m_is_integer_within l else .bad)) ρ >>= truth))) (sRet (gC (.bl false))) (sNext)) (sSet 2 (gOp (fun a b => (iAdd a b).or (catD a b)) (gVar 3) (gC (.int 1)))))) (sRet (gC (.bl true))))))
def m_is_within : List D → T D := fn 3 (sRet (gCall allB (gCons (gComp ((fun ρ => (gVar 0) ρ >>= seqD)) (bName 2) (gYes) (gOp (fun a b => (inD false a b).or ((inDic false a b).or (inN false a b))) (gVar 2) (gVar 1)) [2]) (gNil))))
def m_Chooser_init : List D → T (List D) := ini 6 25 ["offers", "picks", "_table"] (sSeq (sIf (gNotT ((fun ρ => ((fun ρ => (gCons (gVar 1) (gCons (gC (.int 1)) (gCons (gC (.int 6)) (gNil)))) ρ >>= fun l => if l.length = 3 then m_is_integer_within l else .bad)) ρ >>= truth))) (sRaise1 3 (gC (.str "offers"))) (sNext)) (sSeq (sSet 3 ((fun ρ => (gCons (gVar 1) (gNil)) ρ >>= fun l => if l.length = 1 then m_all_sets l else .bad))) (sSeq (sIf (gOrT (gNotT ((fun ρ => (gIsi (ansD (tabB "tuple")) (gVar 2)) ρ >>= truth))) ((fun ρ => gOp (eqD true) (gCall lenX (gCons (gVar 2) (gNil))) (gCall lenX (gCons (gVar 3) (gNil))) ρ >>= asB))) (sRaise1 3 (gC (.str "picks"))) (sNext)) (sSeq (sFor ((fun ρ => (gCons (gVar 3) (gNil)) ρ >>= enR 0)) (bTup 2 (bCons (bName 4) (bCons (bName 5) (bNil)))) (sIf (gOrT (gNotT ((fun ρ => ((fun ρ => (gCons (gVar 1) (gCons (gOp ixA (gVar 2) (gVar 4)) (gNil))) ρ >>= fun l => if l.length = 2 then m_is_set l else .bad)) ρ >>= truth))) (gNotT ((fun ρ => ((fun ρ => (gCons (gOp ixA (gVar 2) (gVar 4)) (gCons (gVar 5) (gNil))) ρ >>= fun l => if l.length = 2 then m_is_within l else .bad)) ρ >>= truth)))) (sRaise1 3 (gVar 4)) (sNext))) (sSeq (sFld' 0 25 "offers" (gVar 1)) (sSeq (sFld' 0 25 "picks" (gVar 2)) (sFld' 0 25 "_table" (gDcN ((fun ρ => (gCons (gVar 3) (gNil)) ρ >>= enR 0)) (bTup 2 (bCons (bName 4) (bCons (bName 5) (bNil)))) (gYes) (gVar 5) (gOp ixA (gVar 2) (gVar 4)) [4, 5]))))))))
def m_Chooser_eq : List D → T D := fn 2 (sRet (gAndV (gIsi (ansD (tabO 25 [25])) (gVar 1)) (gAndV (gOp (eqD false) ((fun ρ => (gVar 0) ρ >>= fldD 25 0)) ((fun ρ => (gVar 1) ρ >>= fldD 25 0))) (gOp (eqD false) ((fun ρ => (gVar 0) ρ >>= fldD 25 1)) ((fun ρ => (gVar 1) ρ >>= fldD 25 1))))))
def m_L_deck (ns : List Int) : List D → T D := fn 4 (sSeq (sPar [2, 3] (iVal (gCall asL (gCons (gScr ns 0 (optI none) (optI (some (gC (.int 63))))) (gNil))) (iVal (gC (.int 1087201)) (iNil)))) (sSeq (sFor ((fun ρ => (gVar 2) ρ >>= seqD)) (bName 1) (sSet 3 (gOp iMod (gCall int1 (gCons (gOp (fun a b => (iAdd a b).or (catD a b)) (gOp (fun a b => (iAdd a b).or (catD a b)) (gOp iMul (gVar 3) (gC (.int 69069))) (gOp iMod (gCall int1 (gCons (gVar 1) (gNil))) (gC (.int 2147483579)))) (gC (.int 41))) (gNil))) (gC (.int 2147483563))))) (sRet (gDicS ["cells", "stirred", "turn"] (gCons (gRev (gVar 2)) (gCons (gVar 3) (gCons (gC (.int 0)) (gNil))))))))
def m_L_set : List D → T D := fn 3 (sRet (gCall asT (gCons (gComp ((fun ρ => (gCons (gVar 1) (gNil)) ρ >>= rng1)) (bName 2) ((fun ρ => (gOp iBnd (gOp iShr (gVar 0) (gVar 2)) (gC (.int 1))) ρ >>= truth)) (gVar 2) [2]) (gNil))))
def m_L_bits : List D → T D := fn 7 (sSeq (sNew1 1 (oLst (gNil))) (sSeq (sFor ((fun ρ => (gCons (gOp (fun a b => (iAdd a b).or (catD a b)) (gVar 0) (gC (.int 1))) (gNil)) ρ >>= rng1)) (bName 2) (sSeq (sSet 3 (gComp ((fun ρ => (gCons (gOp iShl (gC (.int 1)) (gVar 0)) (gNil)) ρ >>= rng1)) (bName 4) (gYes) ((fun ρ => (gCons (gVar 4) (gCons (gVar 0) (gNil))) ρ >>= fun l => if l.length = 2 then m_L_set l else .bad)) [4])) (sExt 1 (gComp ((fun ρ => (gCall sortedY (gCons (gVar 3) (gNil))) ρ >>= seqD)) (bName 5) ((fun ρ => gOp (eqD false) (gCall lenX (gCons (gVar 5) (gNil))) (gVar 2) ρ >>= asB)) (gCall sumX (gCons (gComp ((fun ρ => (gVar 5) ρ >>= seqD)) (bName 6) (gYes) (gOp iShl (gC (.int 1)) (gVar 6)) [6]) (gNil))) [5])))) (sFrz 1 (sRet (gVar 1)))))
abbrev m_L_draw : List D → T D := drawB 1000000
def m_L_pick : List D → T D := fn 2 (sRet (gOp ixA (gVar 1) ((fun ρ => (gCons (gVar 0) (gCons (gCall lenX (gCons (gVar 1) (gNil))) (gNil))) ρ >>= fun l => if l.length = 2 then m_L_draw l else .bad))))
def m_together : List D → T D := fn 2 (sRet (gCall asT (gCons (gUni (gVar 0) (gVar 1)) (gNil))))
def m_L_odd : List D → T D := fn 5 (sSeq (sNew1 3 (oLst (gCons (gCall asL (gCons (gVar 2) (gNil))) (gCons (gC .non) (gCons (gC (.str "()")) (gCons (gC (.int 0)) (gCons (gC (.bl true)) (gCons (gC (.dic [] [])) (gCons (gTup (gCons (gVar 1) (gNil))) (gCons (gTup (gCons ((fun ρ => (gC (.int 1)) ρ >>= fun d => opt (iNeg d))) (gNil))) (gCons (gTup (gCons (gC (.str "0")) (gNil))) (gCons (gTup (gCons (gTup (gNil)) (gNil))) (gCons (gTup (gCons (gC .non) (gNil))) (gCons (gOp (fun a b => (iAdd a b).or (catD a b)) (gVar 2) (gTup (gCons (gVar 2) (gNil)))) (gNil))))))))))))))) (sSeq (sExt 3 (gOp (fun a b => (iAdd a b).or (catD a b)) (gOp (fun a b => (iAdd a b).or (catD a b)) (gComp ((fun ρ => (gSl (gVar 2) (optI none) (optI (some (gC (.int 1))))) ρ >>= seqD)) (bName 4) (gYes) (gTup (gCons (gVar 4) (gCons (gVar 4) (gNil)))) [4]) (gComp ((fun ρ => (gSl (gVar 2) (optI (some (gC (.int 1)))) (optI (some (gC (.int 2))))) ρ >>= seqD)) (bName 4) (gYes) (gStp (gVar 2) ((fun ρ => (gC (.int 1)) ρ >>= fun d => opt (iNeg d)))) [4])) (gComp ((fun ρ => (gSl (gVar 2) (optI none) (optI (some (gC (.int 1))))) ρ >>= seqD)) (bName 4) (gYes) (gOp (fun a b => (iAdd a b).or (catD a b)) (gVar 2) (gSl (gVar 2) (optI none) (optI (some (gC (.int 1)))))) [4]))) (sSeq (sIf ((fun ρ => gOp (eqD false) (gSl (gVar 2) (optI none) (optI (some (gC (.int 1))))) (gTup (gCons (gC (.int 0)) (gNil))) ρ >>= asB)) (sApp 3 (gOp (fun a b => (iAdd a b).or (catD a b)) (gTup (gCons (gC (.bl false)) (gNil))) (gSl (gVar 2) (optI (some (gC (.int 1)))) (optI none)))) (sNext)) (sSeq (sIf ((fun ρ => gOp (fun a b => (inD false a b).or ((inDic false a b).or (inN false a b))) (gC (.int 1)) (gVar 2) ρ >>= asB)) (sApp 3 (gCall asT (gCons (gComp ((fun ρ => (gVar 2) ρ >>= seqD)) (bName 4) (gYes) (gIf ((fun ρ => gOp (eqD false) (gVar 4) (gC (.int 1)) ρ >>= asB)) (gC (.bl true)) (gVar 4)) [4]) (gNil)))) (sNext)) (sFrz 3 (sRet ((fun ρ => (gCons (gVar 0) (gCons (gVar 3) (gNil))) ρ >>= fun l => if l.length = 2 then m_L_pick l else .bad))))))))
def m_L_sets_right : List D → T D := fn 9 (sSeq (sSet 1 (gOp (fun a b => (iAdd a b).or (catD a b)) (gC (.int 1)) ((fun ρ => (gCons (gVar 0) (gCons (gC (.int 6)) (gNil))) ρ >>= fun l => if l.length = 2 then m_L_draw l else .bad)))) (sSeq (sSet 2 ((fun ρ => (gCons (gVar 1) (gNil)) ρ >>= fun l => if l.length = 1 then m_L_bits l else .bad))) (sSeq (sIf (gOrT ((fun ρ => gOp (eqD true) ((fun ρ => (gCons (gVar 1) (gNil)) ρ >>= fun l => if l.length = 1 then m_all_sets l else .bad)) (gCall asT (gCons (gComp ((fun ρ => (gVar 2) ρ >>= seqD)) (bName 8) (gYes) ((fun ρ => (gCons (gVar 8) (gCons (gVar 1) (gNil))) ρ >>= fun l => if l.length = 2 then m_L_set l else .bad)) [8]) (gNil))) ρ >>= asB)) ((fun ρ => gOp (eqD true) ((gFnK 0 1 1 [0] m_all_sets gNil (gCons (gC (.int 1)) (gNil)))) (gTup (gCons (gTup (gNil)) (gCons (gTup (gCons (gC (.int 0)) (gNil))) (gNil)))) ρ >>= asB))) (sRet (gC (.bl false))) (sNext)) (sSeq (sFor ((fun ρ => (gCons (gC (.int 6)) (gNil)) ρ >>= rng1)) (bName 3) (sSeq (sPar [4, 5] (iVal ((fun ρ => (gCons (gVar 0) (gCons (gVar 2) (gNil))) ρ >>= fun l => if l.length = 2 then m_L_pick l else .bad)) (iVal ((fun ρ => (gCons (gVar 0) (gCons (gVar 2) (gNil))) ρ >>= fun l => if l.length = 2 then m_L_pick l else .bad)) (iNil)))) (sSeq (sPar [6, 7] (iVal ((fun ρ => (gCons (gVar 4) (gCons (gVar 1) (gNil))) ρ >>= fun l => if l.length = 2 then m_L_set l else .bad)) (iVal ((fun ρ => (gCons (gVar 5) (gCons (gVar 1) (gNil))) ρ >>= fun l => if l.length = 2 then m_L_set l else .bad)) (iNil)))) (sSeq (sIf (gOrT ((fun ρ => gOp (eqD true) ((fun ρ => (gCons (gVar 6) (gCons (gVar 7) (gNil))) ρ >>= fun l => if l.length = 2 then m_together l else .bad)) ((fun ρ => (gCons (gOp iBor (gVar 4) (gVar 5)) (gCons (gVar 1) (gNil))) ρ >>= fun l => if l.length = 2 then m_L_set l else .bad)) ρ >>= asB)) ((fun ρ => gOp (eqD true) ((gFnK 0 2 2 [1, 0] m_together gNil (gCons (gVar 6) (gCons (gVar 7) (gNil))))) ((fun ρ => (gCons (gVar 6) (gCons (gVar 7) (gNil))) ρ >>= fun l => if l.length = 2 then m_together l else .bad)) ρ >>= asB))) (sRet (gC (.bl false))) (sNext)) (sSeq (sIf (gOrT ((fun ρ => gOp (isB true) ((fun ρ => (gCons (gVar 1) (gCons (gVar 6) (gNil))) ρ >>= fun l => if l.length = 2 then m_is_set l else .bad)) (gC (.bl true)) ρ >>= asB)) ((fun ρ => gOp (isB true) ((gFnK 0 2 2 [1, 0] m_is_set gNil (gCons (gVar 6) (gCons (gVar 1) (gNil))))) (gC (.bl true)) ρ >>= asB))) (sRet (gC (.bl false))) (sNext)) (sSeq (sIf ((fun ρ => gOp (isB true) ((fun ρ => (gCons (gVar 1) (gCons ((fun ρ => (gCons (gVar 0) (gCons (gVar 1) (gCons (gVar 6) (gNil)))) ρ >>= fun l => if l.length = 3 then m_L_odd l else .bad)) (gNil))) ρ >>= fun l => if l.length = 2 then m_is_set l else .bad)) (gC (.bl false)) ρ >>= asB)) (sRet (gC (.bl false))) (sNext)) (sIf (gAndT ((fun ρ => gOp (cmpI (fun i j => decide (j < i))) (gVar 1) (gC (.int 1)) ρ >>= asB)) ((fun ρ => gOp (eqD true) ((fun ρ => (gCons (gOp iSub (gVar 1) (gC (.int 1))) (gCons (gVar 6) (gNil))) ρ >>= fun l => if l.length = 2 then m_is_set l else .bad)) (gOp (fun a b => (inD true a b).or ((inDic true a b).or (inN true a b))) (gOp iSub (gVar 1) (gC (.int 1))) (gVar 6)) ρ >>= asB))) (sRet (gC (.bl false))) (sNext)))))))) (sRet (gC (.bl true)))))))
def m_require_set : List D → T D := fn 2 (sIf (gNotT ((fun ρ => ((fun ρ => (gCons ((fun ρ => (gVar 0) ρ >>= fldD 25 0)) (gCons (gVar 1) (gNil))) ρ >>= fun l => if l.length = 2 then m_is_set l else .bad)) ρ >>= truth))) (sRaise1 18 (gVar 1)) (sNext))
def m_Chooser_taken : List D → T D := fn 2 (sSeq (sExpr ((fun ρ => (gCons (gVar 0) (gCons (gVar 1) (gNil))) ρ >>= fun l => if l.length = 2 then m_require_set l else .bad))) (sRet (gOp ixA ((fun ρ => (gVar 0) ρ >>= fldD 25 2)) (gVar 1))))
def m_L_refused : List D → T D := fn 4 (sSeq (sTry 3 (exM 39 [3, 18, 21] 18) (sIf ((fun ρ => (gVar 2) ρ >>= truth)) (sExpr ((gMethK 2 1 25 [0] m_Chooser_taken (gVar 0) (gCons (gVar 1) (gNil))))) (sExpr ((gMeth 2 25 m_Chooser_taken (gVar 0) (gCons (gVar 1) (gNil)))))) (sRet (gIf ((fun ρ => (gXi 3 (exM 39 [3, 18, 21] 39)) ρ >>= truth)) (gTup (gCons (gXf 3 18 0) (gNil))) (gTup (gNil))))) (sRet (gTup (gNil))))
def m_L_taken_right : List D → T D := fn 12 (sSeq (sSet 1 (gOp (fun a b => (iAdd a b).or (catD a b)) (gC (.int 1)) ((fun ρ => (gCons (gVar 0) (gCons (gC (.int 4)) (gNil))) ρ >>= fun l => if l.length = 2 then m_L_draw l else .bad)))) (sSeq (sSet 2 ((fun ρ => (gCons (gVar 1) (gNil)) ρ >>= fun l => if l.length = 1 then m_L_bits l else .bad))) (sSeq (sSet 3 (gComp ((fun ρ => (gVar 2) ρ >>= seqD)) (bName 7) (gYes) (gOp iBnd (gVar 7) ((fun ρ => (gCons (gVar 0) (gCons (gOp iShl (gC (.int 1)) (gVar 1)) (gNil))) ρ >>= fun l => if l.length = 2 then m_L_draw l else .bad))) [7])) (sSeq (sSet 4 (gMake 2 25 m_Chooser_init (gCons (gVar 1) (gCons (gCall asT (gCons (gComp ((fun ρ => (gVar 3) ρ >>= seqD)) (bName 7) (gYes) ((fun ρ => (gCons (gVar 7) (gCons (gVar 1) (gNil))) ρ >>= fun l => if l.length = 2 then m_L_set l else .bad)) [7]) (gNil))) (gNil))))) (sSeq (sSet 5 ((fun ρ => (gVar 4) ρ >>= fldD 25 1))) (sSeq (sFor ((fun ρ => (gCons (gVar 2) (gCons (gVar 3) (gNil))) ρ >>= zipR)) (bTup 2 (bCons (bName 7) (bCons (bName 8) (bNil)))) (sIf ((fun ρ => gOp (eqD true) ((gMeth 2 25 m_Chooser_taken (gVar 4) (gCons ((fun ρ => (gCons (gVar 7) (gCons (gVar 1) (gNil))) ρ >>= fun l => if l.length = 2 then m_L_set l else .bad)) (gNil)))) ((fun ρ => (gCons (gVar 8) (gCons (gVar 1) (gNil))) ρ >>= fun l => if l.length = 2 then m_L_set l else .bad)) ρ >>= asB)) (sRet (gC (.bl false))) (sNext))) (sSeq (sFor ((fun ρ => (gCons (gC (.int 4)) (gNil)) ρ >>= rng1)) (bName 6) (sSeq (sSet 9 ((fun ρ => (gCons ((fun ρ => (gCons (gVar 0) (gCons (gVar 2) (gNil))) ρ >>= fun l => if l.length = 2 then m_L_pick l else .bad)) (gCons (gVar 1) (gNil))) ρ >>= fun l => if l.length = 2 then m_L_set l else .bad))) (sSeq (sSet 10 ((fun ρ => (gCons (gVar 0) (gCons (gVar 1) (gCons (gVar 9) (gNil)))) ρ >>= fun l => if l.length = 3 then m_L_odd l else .bad))) (sSeq (sSet 11 ((fun ρ => (gCons (gVar 4) (gCons (gVar 10) (gCons (gOp (eqD false) (gVar 6) (gC (.int 1))) (gNil)))) ρ >>= fun l => if l.length = 3 then m_L_refused l else .bad))) (sSeq (sIf (gOrT ((fun ρ => gOp (fun a b => (eqD false a b).or (eqTz a b)) (gVar 11) (gTup (gNil)) ρ >>= asB)) (gOrT (gNotT ((fun ρ => gOp (fun a b => (eqD false a b).or (eqA a b)) (gOp ixA (gVar 11) (gC (.int 0))) (gVar 10) ρ >>= asB))) ((fun ρ => gOp (eqD true) (gIsi (ansD (tabB "bool")) (gOp ixA (gVar 11) (gC (.int 0)))) (gIsi (ansD (tabB "bool")) (gVar 10)) ρ >>= asB)))) (sRet (gC (.bl false))) (sNext)) (sIf (gOrT ((fun ρ => gOp (eqD true) ((gMethK 2 1 25 [0] m_Chooser_taken (gVar 4) (gCons (gVar 9) (gNil)))) ((gMeth 2 25 m_Chooser_taken (gVar 4) (gCons (gVar 9) (gNil)))) ρ >>= asB)) ((fun ρ => gOp (eqD true) ((fun ρ => (gCons (gVar 4) (gCons (gVar 9) (gCons (gC (.bl false)) (gNil)))) ρ >>= fun l => if l.length = 3 then m_L_refused l else .bad)) (gTup (gNil)) ρ >>= asB))) (sRet (gC (.bl false))) (sNext))))))) (sRet (gAndV (gOp (eqTo 25 m_Chooser_eq) ((fun ρ => (gCons (gVar 4) (gCons (gVar 4) (gCons (gC (.bl false)) (gNil)))) ρ >>= fun l => if l.length = 3 then m_L_refused l else .bad)) (gTup (gCons (gVar 4) (gNil)))) (gOp (eqD false) ((fun ρ => (gVar 4) ρ >>= fldD 25 1)) (gVar 5)))))))))))
def sL : Sm := sRet (gAndV ((fun ρ => (gCons (gVar 1) (gNil)) ρ >>= fun l => if l.length = 1 then m_L_sets_right l else .bad)) ((fun ρ => (gCons (gVar 1) (gNil)) ρ >>= fun l => if l.length = 1 then m_L_taken_right l else .bad)))
end Py
set_option Elab.async false
set_option linter.all false
set_option maxRecDepth 100000
set_option maxHeartbeats 4000000
namespace Py
open PySem PySem.Spec PyProof.Rows L2
def top (i : Nat) : Stmt := PySem.Challenge.pw_offerstands_k03_sets_and_what_is_taken.main.body.getD i (.Pass ⟨0, 0, 0, 0⟩)
def meth (i j : Nat) : Stmt := match top i with
  | .ClassDef _ _ _ b _ _ _ _ _ _ _ => b.getD j (.Pass ⟨0, 0, 0, 0⟩)
  | _ => .Pass ⟨0, 0, 0, 0⟩
structure Facts (K : PySem.W.Frag) (mg : Str → Option Value) (cls : Nat → Addr) (flds : Nat → List Str) : Prop where
  d_Chooser_len : ∃ f fd, Mn K "__len__" "Chooser.__len__" (meth 15 1) ["self"] (cls 25) f fd
  d_parts_of : ∃ f fd, Dn K mg "parts_of" (top 19) ["some"] f fd
  d_all_sets : ∃ f fd, Dn K mg "all_sets" (top 18) ["offers"] f fd
  d_is_integer : ∃ f fd, Dn K mg "is_integer" (top 7) ["thing"] f fd
  d_is_integer_within : ∃ f fd, Dn K mg "is_integer_within" (top 8) ["thing", "low", "high"] f fd
  d_is_set : ∃ f fd, Dn K mg "is_set" (top 16) ["offers", "thing"] f fd
  d_is_within : ∃ f fd, Dn K mg "is_within" (top 21) ["part", "some"] f fd
  d_Chooser_init : ∃ f fd, Mn K "__init__" "Chooser.__init__" (meth 15 0) ["self", "offers", "picks"] (cls 25) f fd
  d_Chooser_eq : ∃ f fd, Mn K "__eq__" "Chooser.__eq__" (meth 15 2) ["self", "other"] (cls 25) f fd
  d_L_deck : ∃ f fd, Dn K mg "_law_deck" (top 25) ["_law_script"] f fd
  d_L_set : ∃ f fd, Dn K mg "_law_set" (top 29) ["_law_number", "_law_offers"] f fd
  d_L_bits : ∃ f fd, Dn K mg "_law_bits" (top 28) ["_law_offers"] f fd
  d_L_draw : ∃ f fd, Dn K mg "_law_draw" (top 26) ["_law_deck_here", "_law_below"] f fd
  d_L_pick : ∃ f fd, Dn K mg "_law_pick" (top 27) ["_law_deck_here", "_law_some"] f fd
  d_together : ∃ f fd, Dn K mg "together" (top 20) ["one", "other"] f fd
  d_L_odd : ∃ f fd, Dn K mg "_law_odd" (top 30) ["_law_deck_here", "_law_offers", "_law_some"] f fd
  d_L_sets_right : ∃ f fd, Dn K mg "_law_sets_right" (top 32) ["_law_deck_here"] f fd
  d_require_set : ∃ f fd, Dn K mg "require_set" (top 17) ["chooser", "thing"] f fd
  d_Chooser_taken : ∃ f fd, Mn K "taken" "Chooser.taken" (meth 15 5) ["self", "some"] (cls 25) f fd
  d_L_refused : ∃ f fd, Dn K mg "_law_refused" (top 31) ["_law_chooser", "_law_thing", "_law_by_name"] f fd
  d_L_taken_right : ∃ f fd, Dn K mg "_law_taken_right" (top 33) ["_law_deck_here"] f fd
  d_all_sets_k0 : ∀ f fd, Fun K "all_sets" "all_sets" (top 18) f fd → KBd K fd ["offers"] 0 ["offers"] [0]
  d_together_k1 : ∀ f fd, Fun K "together" "together" (top 20) f fd → KBd K fd ["one", "other"] 0 ["other", "one"] [1, 0]
  d_is_set_k2 : ∀ f fd, Fun K "is_set" "is_set" (top 16) f fd → KBd K fd ["offers", "thing"] 0 ["thing", "offers"] [1, 0]
  d_Chooser_taken_k3 : ∀ f fd, Fun K "taken" "Chooser.taken" (meth 15 5) f fd → KBd K fd ["self", "some"] 1 ["some"] [0, 1]
  n_all : mg "all" = none
  n_bool : mg "bool" = none
  n_enumerate : mg "enumerate" = none
  n_int : mg "int" = none
  n_isinstance : mg "isinstance" = none
  n_len : mg "len" = none
  n_list : mg "list" = none
  n_range : mg "range" = none
  n_set : mg "set" = none
  n_sorted : mg "sorted" = none
  n_sum : mg "sum" = none
  n_tuple : mg "tuple" = none
  n_zip : mg "zip" = none
  k_MOST_OFFERS : ∃ t, mg "MOST_OFFERS" = some (.int 6 t)
  c_Chooser : Cn K mg (cls 25) (flds 25) "Chooser" ["offers", "picks", "_table"]
  q_Chooser : Kn K cls 25 [25]
  r_Chooser : Kr K (cls 25)
  e_BadChooser : En K mg (cls 3) (flds 3) "BadChooser" "part"
  e_BadSet : En K mg (cls 18) (flds 18) "BadSet" "thing"
  x : Xn K mg cls flds 39 "OfferError" [3, 18, 21]
  i_comb : mg "combinations" = some (.type Cm.T0)
  own : ∀ c, ownOk c = true → OwnC K (cls c)
structure LmAll (K : PySem.W.Frag) (mg : Str → Option Value) (base : Heap) (tb : List (Addr × Str)) : Prop where
  t : True
theorem LmAll.sub {K : PySem.W.Frag} {mg : Str → Option Value} {b b' : Heap} {tb : List (Addr × Str)} (l : LmAll K mg b tb) (s : Fn.Sub b b') : LmAll K mg b' tb := ⟨trivial⟩
section
variable {P : Program} {w : World} {K : PySem.W.Frag} {mg : Str → Option Value} {base : Heap} {G : Gl}
theorem sc_parts_of : FnScope ["some", "rows", "many", "part"] ["some"] (defScope (top 19)) := ⟨rfl, rfl, rfl, by decide +kernel, rfl, by decide +kernel, by decide +kernel⟩
theorem ok_parts_of (hK : G.K = K) (hP : G.P = P) (hw0 : G.w = w ∧ G.lk) (c : Facts K mg G.cls G.flds) (lm : LmAll K mg base G.tb) {f : Addr} {fd : FuncData} (d : Dn K mg "parts_of" (top 19) ["some"] f fd) : FnOk P w K mg base (L2.CX P w) 2 f fd ["some"] (spD G 1 m_parts_of) := by
  obtain ⟨hw, hl⟩ := hw0
  refine fn_ok d.F sc_parts_of (by decide) fun cdv A outer s0 H hs E hr => ?_
  have tk : Takes (cxOf (L2.CX P w) P w K mg base ["some", "rows", "many", "part"] "parts_of" (defScope (top 19)) f cdv A outer s0 H E) (fun cls dx _ H' => E cls dx H') := takes_of rfl rfl rfl rfl
  have hu : (A.deeper (PyProof.Rows.envOfC "parts_of" (defScope (top 19)) s0.heap.objs.size f cdv)).units + 64 < cLine := room64 hr
  exact (ss_cons (ss_set (i := 1) sc_parts_of.nd rfl (by first | exact Or.inl rfl | exact Or.inr rfl) (ee_bty call_list_of (d_asL hK) rfl c.n_list (by decide +kernel) (ea_cons (ee_pv (pv 0)) ea_nil))) (ss_one (ss_ret (ee_comp2 (own := [("many", 2), ("part", 3)]) (vs1 := [3]) rfl sc_parts_of.nd (ei_range1 rfl c.n_range (ea_cons (ee_op (op_add.or (of_cat.or op_cat)) (d_add.or (d_cat hK)) (ee_blt (CallR_or call_len_seq cr_lenK) (DoesN.or (d_lenS hK) (d_lenK hK hP hw)) rfl c.n_len (by decide +kernel) (ea_cons (ee_pv (pv 1)) ea_nil)) ee_int) ea_nil)) (blkOk_by (N := ["some", "rows", "many", "part"]) (sc := defScope (top 19)) (by decide +kernel)) (by decide) (tgt_name 2 (by decide)) (tgt_name 3 (by decide)) (fun _ _ _ _ _ => (pg_name (i := 2) sc_parts_of.nd rfl (by first | exact Or.inl rfl | exact Or.inr rfl))) (fun _ _ _ _ _ => ets_nil) (fun _ _ _ _ _ => (ei_comb hK rfl c.i_comb (ea_cons (ee_pv (pv 1)) (ea_cons (ee_pv (pv 2)) ea_nil)))) (fun _ _ _ _ _ => (pg_name (i := 3) sc_parts_of.nd rfl (by first | exact Or.inl rfl | exact Or.inr rfl))) (fun _ _ _ _ _ => ets_nil) (fun _ _ _ _ _ => (ee_pv (pv 3)))))))
theorem sc_all_sets : FnScope ["offers"] ["offers"] (defScope (top 18)) := ⟨rfl, rfl, rfl, by decide +kernel, rfl, by decide +kernel, by decide +kernel⟩
theorem ok_all_sets (hK : G.K = K) (hP : G.P = P) (hw0 : G.w = w ∧ G.lk) (c : Facts K mg G.cls G.flds) (lm : LmAll K mg base G.tb) {f : Addr} {fd : FuncData} (d : Dn K mg "all_sets" (top 18) ["offers"] f fd) : FnOk P w K mg base (L2.CX P w) 3 f fd ["offers"] (spD G 1 m_all_sets) := by
  obtain ⟨hw, hl⟩ := hw0
  obtain ⟨f_parts_of, fd_parts_of, d_parts_of⟩ := c.d_parts_of
  have F_parts_of := ok_parts_of (P := P) (w := w) (base := base) hK hP ⟨hw, hl⟩ c lm d_parts_of
  refine fn_ok d.F sc_all_sets (by decide) fun cdv A outer s0 H hs E hr => ?_
  have tk : Takes (cxOf (L2.CX P w) P w K mg base ["offers"] "all_sets" (defScope (top 18)) f cdv A outer s0 H E) (fun cls dx _ H' => E cls dx H') := takes_of rfl rfl rfl rfl
  have hu : (A.deeper (PyProof.Rows.envOfC "all_sets" (defScope (top 18)) s0.heap.objs.size f cdv)).units + 64 < cLine := room64 hr
  exact (ss_one (ss_ret (ee_bty cf_tuple (d_asT hK) rfl c.n_tuple (by decide +kernel) (ea_cons (ee_call F_parts_of (hr.mono (by decide)) rfl d_parts_of.g d_parts_of.k d_parts_of.b tk (ea_cons (ee_tupRg1 rfl rfl c.n_tuple rfl c.n_range (ee_pv (pv 0))) ea_nil)) ea_nil))))
theorem sc_is_integer : FnScope ["thing"] ["thing"] (defScope (top 7)) := ⟨rfl, rfl, rfl, by decide +kernel, rfl, by decide +kernel, by decide +kernel⟩
theorem ok_is_integer (hK : G.K = K) (hP : G.P = P) (hw0 : G.w = w ∧ G.lk) (c : Facts K mg G.cls G.flds) (lm : LmAll K mg base G.tb) {f : Addr} {fd : FuncData} (d : Dn K mg "is_integer" (top 7) ["thing"] f fd) : FnOk P w K mg base (L2.CX P w) 2 f fd ["thing"] (spD G 1 m_is_integer) := by
  obtain ⟨hw, hl⟩ := hw0
  refine fn_ok d.F sc_is_integer (by decide) fun cdv A outer s0 H hs E hr => ?_
  have tk : Takes (cxOf (L2.CX P w) P w K mg base ["thing"] "is_integer" (defScope (top 7)) f cdv A outer s0 H E) (fun cls dx _ H' => E cls dx H') := takes_of rfl rfl rfl rfl
  have hu : (A.deeper (PyProof.Rows.envOfC "is_integer" (defScope (top 7)) s0.heap.objs.size f cdv)).units + 64 < cLine := room64 hr
  exact (ss_one (ss_ret (ee_and (ee_isi (ans_b hK c.own "int") rfl c.n_isinstance (ee_pv (pv 0)) (pe_bltn (v := .ty "int") rfl c.n_int (by decide +kernel) rfl) (.ty _)) (ee_one (ee_not (ee_isi (ans_b hK c.own "bool") rfl c.n_isinstance (ee_pv (pv 0)) (pe_bltn (v := .ty "bool") rfl c.n_bool (by decide +kernel) rfl) (.ty _)))))))
theorem sc_is_integer_within : FnScope ["thing", "low", "high"] ["thing", "low", "high"] (defScope (top 8)) := ⟨rfl, rfl, rfl, by decide +kernel, rfl, by decide +kernel, by decide +kernel⟩
theorem ok_is_integer_within (hK : G.K = K) (hP : G.P = P) (hw0 : G.w = w ∧ G.lk) (c : Facts K mg G.cls G.flds) (lm : LmAll K mg base G.tb) {f : Addr} {fd : FuncData} (d : Dn K mg "is_integer_within" (top 8) ["thing", "low", "high"] f fd) : FnOk P w K mg base (L2.CX P w) 3 f fd ["thing", "low", "high"] (spD G 3 m_is_integer_within) := by
  obtain ⟨hw, hl⟩ := hw0
  obtain ⟨f_is_integer, fd_is_integer, d_is_integer⟩ := c.d_is_integer
  have F_is_integer := ok_is_integer (P := P) (w := w) (base := base) hK hP ⟨hw, hl⟩ c lm d_is_integer
  refine fn_ok d.F sc_is_integer_within (by decide) fun cdv A outer s0 H hs E hr => ?_
  have tk : Takes (cxOf (L2.CX P w) P w K mg base ["thing", "low", "high"] "is_integer_within" (defScope (top 8)) f cdv A outer s0 H E) (fun cls dx _ H' => E cls dx H') := takes_of rfl rfl rfl rfl
  have hu : (A.deeper (PyProof.Rows.envOfC "is_integer_within" (defScope (top 8)) s0.heap.objs.size f cdv)).units + 64 < cLine := room64 hr
  exact (ss_one (ss_ret (ee_and (ee_call F_is_integer (hr.mono (by decide)) rfl d_is_integer.g d_is_integer.k d_is_integer.b tk (ea_cons (ee_pv (pv 0)) ea_nil)) (ee_one (ee_chain op_le (d_cmp (fun i j => decide (i ≤ j))) op_le (d_cmp (fun i j => decide (i ≤ j))) (ee_pv (pv 1)) (ee_pv (pv 0)) (ee_pv (pv 2)))))))
theorem sc_is_set : FnScope ["offers", "thing", "least", "item"] ["offers", "thing"] (defScope (top 16)) := ⟨rfl, rfl, rfl, by decide +kernel, rfl, by decide +kernel, by decide +kernel⟩
theorem ok_is_set (hK : G.K = K) (hP : G.P = P) (hw0 : G.w = w ∧ G.lk) (c : Facts K mg G.cls G.flds) (lm : LmAll K mg base G.tb) {f : Addr} {fd : FuncData} (d : Dn K mg "is_set" (top 16) ["offers", "thing"] f fd) : FnOk P w K mg base (L2.CX P w) 4 f fd ["offers", "thing"] (spD G 2 m_is_set) := by
  obtain ⟨hw, hl⟩ := hw0
  obtain ⟨f_is_integer_within, fd_is_integer_within, d_is_integer_within⟩ := c.d_is_integer_within
  have F_is_integer_within := ok_is_integer_within (P := P) (w := w) (base := base) hK hP ⟨hw, hl⟩ c lm d_is_integer_within
  refine fn_ok d.F sc_is_set (by decide) fun cdv A outer s0 H hs E hr => ?_
  have tk : Takes (cxOf (L2.CX P w) P w K mg base ["offers", "thing", "least", "item"] "is_set" (defScope (top 16)) f cdv A outer s0 H E) (fun cls dx _ H' => E cls dx H') := takes_of rfl rfl rfl rfl
  have hu : (A.deeper (PyProof.Rows.envOfC "is_set" (defScope (top 16)) s0.heap.objs.size f cdv)).units + 64 < cLine := room64 hr
  exact (ss_cons (ss_if (et_not (et_tru (by exact hK) (ee_isi (ans_bo hK (n := "tuple") (c := 25) c.c_Chooser.own c.r_Chooser) rfl c.n_isinstance (ee_pv (pv 1)) (pe_bltn (v := .ty "tuple") rfl c.n_tuple (by decide +kernel) rfl) (.ty _)))) (ss_one (ss_ret ee_bl)) ss_nil) (ss_cons (ss_set (i := 2) sc_is_set.nd rfl (by first | exact Or.inl rfl | exact Or.inr rfl) ee_int) (ss_cons (ss_for (vs := [3]) (passes_of rfl) rfl (ei_seq hK (ee_pv (pv 1))) (pg_name (i := 3) sc_is_set.nd rfl (by first | exact Or.inl rfl | exact Or.inr rfl)) (tgt_name 3 (by decide)) (ss_cons (ss_if (et_not (et_tru (by exact hK) (ee_call F_is_integer_within (hr.mono (by decide)) rfl d_is_integer_within.g d_is_integer_within.k d_is_integer_within.b tk (ea_cons (ee_pv (pv 3)) (ea_cons (ee_pv (pv 2)) (ea_cons (ee_op op_sub d_sub (ee_pv (pv 0)) ee_int) ea_nil)))))) (ss_one (ss_ret ee_bl)) ss_nil) (ss_one (ss_set (i := 2) sc_is_set.nd rfl (by first | exact Or.inl rfl | exact Or.inr rfl) (ee_op (op_add.or (of_cat.or op_cat)) (d_add.or (d_cat hK)) (ee_pv (pv 3)) ee_int))))) (ss_one (ss_ret ee_bl)))))
theorem sc_is_within : FnScope ["part", "some", "offer"] ["part", "some"] (defScope (top 21)) := ⟨rfl, rfl, rfl, by decide +kernel, rfl, by decide +kernel, by decide +kernel⟩
theorem ok_is_within (hK : G.K = K) (hP : G.P = P) (hw0 : G.w = w ∧ G.lk) (c : Facts K mg G.cls G.flds) (lm : LmAll K mg base G.tb) {f : Addr} {fd : FuncData} (d : Dn K mg "is_within" (top 21) ["part", "some"] f fd) : FnOk P w K mg base (L2.CX P w) 2 f fd ["part", "some"] (spD G 2 m_is_within) := by
  obtain ⟨hw, hl⟩ := hw0
  refine fn_ok d.F sc_is_within (by decide) fun cdv A outer s0 H hs E hr => ?_
  have tk : Takes (cxOf (L2.CX P w) P w K mg base ["part", "some", "offer"] "is_within" (defScope (top 21)) f cdv A outer s0 H E) (fun cls dx _ H' => E cls dx H') := takes_of rfl rfl rfl rfl
  have hu : (A.deeper (PyProof.Rows.envOfC "is_within" (defScope (top 21)) s0.heap.objs.size f cdv)).units + 64 < cLine := room64 hr
  exact (ss_one (ss_ret (ee_blt (cr_all rfl) (d_all hK) rfl c.n_all (by decide +kernel) (ea_cons (ee_comp (own := [("offer", 2)]) rfl sc_is_within.nd (ei_seq hK (ee_pv (pv 0))) (blkOk_by (N := ["part", "some", "offer"]) (sc := defScope (top 21)) (by decide +kernel)) (tgt_name 2 (by decide)) (fun _ _ _ _ _ => (pg_name (i := 2) sc_is_within.nd rfl (by first | exact Or.inl rfl | exact Or.inr rfl))) (fun _ _ _ _ _ => ets_nil) (fun _ _ _ _ _ => (ee_cmp (op_in_seq.or ((op_inO hu).or (op_inN hu))) (Does2.or (d_in hK false) (Does2.or (d_inDic hK hP hw false) (d_inN hK false))) (ee_pv (pv 2)) (ee_pv (pv 1))))) ea_nil))))
theorem sc_Chooser_init : FnScope ["self", "offers", "picks", "sets", "number", "some"] ["self", "offers", "picks"] (defScope (meth 15 0)) := ⟨rfl, rfl, rfl, by decide +kernel, rfl, by decide +kernel, by decide +kernel⟩
theorem ok_Chooser_init (hK : G.K = K) (hP : G.P = P) (hw0 : G.w = w ∧ G.lk) (c : Facts K mg G.cls G.flds) (lm : LmAll K mg base G.tb) {f : Addr} {fd : FuncData} (d : Mn K "__init__" "Chooser.__init__" (meth 15 0) ["self", "offers", "picks"] (G.cls 25) f fd) : FnOk P w K mg base (L2.CX P w) 5 f fd ["self", "offers", "picks"] (spI G 2 25 m_Chooser_init) := by
  obtain ⟨hw, hl⟩ := hw0
  obtain ⟨f_is_integer_within, fd_is_integer_within, d_is_integer_within⟩ := c.d_is_integer_within
  have F_is_integer_within := ok_is_integer_within (P := P) (w := w) (base := base) hK hP ⟨hw, hl⟩ c lm d_is_integer_within
  obtain ⟨f_all_sets, fd_all_sets, d_all_sets⟩ := c.d_all_sets
  have F_all_sets := ok_all_sets (P := P) (w := w) (base := base) hK hP ⟨hw, hl⟩ c lm d_all_sets
  obtain ⟨f_is_set, fd_is_set, d_is_set⟩ := c.d_is_set
  have F_is_set := ok_is_set (P := P) (w := w) (base := base) hK hP ⟨hw, hl⟩ c lm d_is_set
  obtain ⟨f_is_within, fd_is_within, d_is_within⟩ := c.d_is_within
  have F_is_within := ok_is_within (P := P) (w := w) (base := base) hK hP ⟨hw, hl⟩ c lm d_is_within
  obtain ⟨_, T_BadChooser⟩ := c.e_BadChooser.txt
  refine ini_fl c.c_Chooser.fl (ini_ok d.F sc_Chooser_init rfl (by decide) fun cdv A outer s0 H hs E hr => ?_)
  have tk : Takes (cxOf (L2.CX P w) P w K mg base ["self", "offers", "picks", "sets", "number", "some"] "Chooser.__init__" (defScope (meth 15 0)) f cdv A outer s0 H E) (fun cls dx _ H' => E cls dx H') := takes_of rfl rfl rfl rfl
  have hu : (A.deeper (PyProof.Rows.envOfC "Chooser.__init__" (defScope (meth 15 0)) s0.heap.objs.size f cdv)).units + 64 < cLine := room64 hr
  exact (ss_cons (ss_if (et_not (et_tru (by exact hK) (ee_call F_is_integer_within (hr.mono (by decide)) rfl d_is_integer_within.g d_is_integer_within.k d_is_integer_within.b tk (ea_cons (ee_pv (pv 1)) (ea_cons ee_int (ea_cons (ee_int_glob rfl c.k_MOST_OFFERS) ea_nil)))))) (ss_one (ss_raise1 rfl T_BadChooser c.e_BadChooser.fl hr tk ee_str rfl)) ss_nil) (ss_cons (ss_set (i := 3) sc_Chooser_init.nd rfl (by first | exact Or.inl rfl | exact Or.inr rfl) (ee_call F_all_sets (hr.mono (by decide)) rfl d_all_sets.g d_all_sets.k d_all_sets.b tk (ea_cons (ee_pv (pv 1)) ea_nil))) (ss_cons (ss_if (PW.pt (ew_or (et_not (et_tru (by exact hK) (ee_isi (ans_b hK c.own "tuple") rfl c.n_isinstance (ee_pv (pv 2)) (pe_bltn (v := .ty "tuple") rfl c.n_tuple (by decide +kernel) rfl) (.ty _)))) (ew_or1 (et_cmp (op_neD hu) (d_ne hK) (ee_blt (CallR_or call_len_seq cr_lenK) (DoesN.or (d_lenS hK) (d_lenK hK hP hw)) rfl c.n_len (by decide +kernel) (ea_cons (ee_pv (pv 2)) ea_nil)) (ee_blt (CallR_or call_len_seq cr_lenK) (DoesN.or (d_lenS hK) (d_lenK hK hP hw)) rfl c.n_len (by decide +kernel) (ea_cons (ee_pv (pv 3)) ea_nil)))))) (ss_one (ss_raise1 rfl T_BadChooser c.e_BadChooser.fl hr tk ee_str rfl)) ss_nil) (ss_cons (ss_for (vs := [4, 5]) (passes_of rfl) rfl (ei_enum hK rfl c.n_enumerate (ea_cons (ee_pv (pv 3)) ea_nil)) (pg_tup rfl (pgs_cons (pg_name (i := 4) sc_Chooser_init.nd rfl (by first | exact Or.inl rfl | exact Or.inr rfl)) (pgs_cons (pg_name (i := 5) sc_Chooser_init.nd rfl (by first | exact Or.inl rfl | exact Or.inr rfl)) pgs_nil))) (tgt_tup hK (tgts_cons (tgt_name 4 (by decide)) (tgts_cons (tgt_name 5 (by decide)) tgts_nil))) (ss_one (ss_if (PW.pt (ew_or (et_not (et_tru (by exact hK) (ee_call F_is_set (hr.mono (by decide)) rfl d_is_set.g d_is_set.k d_is_set.b tk (ea_cons (ee_pv (pv 1)) (ea_cons (ee_ixA hK hP hw hu (ee_pv (pv 2)) (ee_pv (pv 4))) ea_nil))))) (ew_or1 (et_not (et_tru (by exact hK) (ee_call F_is_within (hr.mono (by decide)) rfl d_is_within.g d_is_within.k d_is_within.b tk (ea_cons (ee_ixA hK hP hw hu (ee_pv (pv 2)) (ee_pv (pv 4))) (ea_cons (ee_pv (pv 5)) ea_nil)))))))) (ss_one (ss_raise1 rfl T_BadChooser c.e_BadChooser.fl hr tk (ee_pv (pv 4)) rfl)) ss_nil))) (ss_cons (ss_fld (i := 0) c.c_Chooser.own.cl (c.c_Chooser.no _ (by decide)) (pv 0) (ee_pv (pv 1))) (ss_cons (ss_fld (i := 0) c.c_Chooser.own.cl (c.c_Chooser.no _ (by decide)) (pv 0) (ee_pv (pv 2))) (ss_one (ss_fld (i := 0) c.c_Chooser.own.cl (c.c_Chooser.no _ (by decide)) (pv 0) (ee_dcN hK hP hw hu (own := [("number", 4), ("some", 5)]) rfl sc_Chooser_init.nd (ei_enum hK rfl c.n_enumerate (ea_cons (ee_pv (pv 3)) ea_nil)) (blkOk_by (N := ["self", "offers", "picks", "sets", "number", "some"]) (sc := defScope (meth 15 0)) (by decide +kernel)) (tgt_tup hK (tgts_cons (tgt_name 4 (by decide)) (tgts_cons (tgt_name 5 (by decide)) tgts_nil))) (fun _ _ _ _ _ => (pg_tup rfl (pgs_cons (pg_name (i := 4) sc_Chooser_init.nd rfl (by first | exact Or.inl rfl | exact Or.inr rfl)) (pgs_cons (pg_name (i := 5) sc_Chooser_init.nd rfl (by first | exact Or.inl rfl | exact Or.inr rfl)) pgs_nil)))) (fun _ _ _ _ _ => ets_nil) (fun _ _ _ _ _ => (ee_pv (pv 5))) (fun _ _ _ _ _ => (ee_ixA hK hP hw hu (ee_pv (pv 2)) (ee_pv (pv 4)))))))))))))
theorem sc_Chooser_eq : FnScope ["self", "other"] ["self", "other"] (defScope (meth 15 2)) := ⟨rfl, rfl, rfl, by decide +kernel, rfl, by decide +kernel, by decide +kernel⟩
theorem ok_Chooser_eq (hK : G.K = K) (hP : G.P = P) (hw0 : G.w = w ∧ G.lk) (c : Facts K mg G.cls G.flds) (lm : LmAll K mg base G.tb) {f : Addr} {fd : FuncData} (d : Mn K "__eq__" "Chooser.__eq__" (meth 15 2) ["self", "other"] (G.cls 25) f fd) : FnOk P w K mg base (L2.CX P w) 2 f fd ["self", "other"] (spD G 2 m_Chooser_eq) := by
  obtain ⟨hw, hl⟩ := hw0
  refine fn_ok d.F sc_Chooser_eq (by decide) fun cdv A outer s0 H hs E hr => ?_
  have tk : Takes (cxOf (L2.CX P w) P w K mg base ["self", "other"] "Chooser.__eq__" (defScope (meth 15 2)) f cdv A outer s0 H E) (fun cls dx _ H' => E cls dx H') := takes_of rfl rfl rfl rfl
  have hu : (A.deeper (PyProof.Rows.envOfC "Chooser.__eq__" (defScope (meth 15 2)) s0.heap.objs.size f cdv)).units + 64 < cLine := room64 hr
  exact (ss_one (ss_ret (ee_and (ee_isi (Kn.ans hK c.q_Chooser) rfl c.n_isinstance (ee_pv (pv 1)) (pe_glob (v := .ref (G.cls 25)) rfl c.c_Chooser.g rfl) (.own _)) (ee_and (ee_cmp (op_eqD hu) (d_eq hK) (ee_fld c.c_Chooser.own.cl (c.c_Chooser.no _ (by decide)) (ix_of c.c_Chooser.fl rfl) (ee_pv (pv 0))) (ee_fld c.c_Chooser.own.cl (c.c_Chooser.no _ (by decide)) (ix_of c.c_Chooser.fl rfl) (ee_pv (pv 1)))) (ee_one (ee_cmp (op_eqD hu) (d_eq hK) (ee_fld c.c_Chooser.own.cl (c.c_Chooser.no _ (by decide)) (ix_of c.c_Chooser.fl rfl) (ee_pv (pv 0))) (ee_fld c.c_Chooser.own.cl (c.c_Chooser.no _ (by decide)) (ix_of c.c_Chooser.fl rfl) (ee_pv (pv 1)))))))))
theorem sc_L_deck : FnScope ["_law_script", "_law_cell", "_law_cells", "_law_stirred"] ["_law_script"] (defScope (top 25)) := ⟨rfl, rfl, rfl, by decide +kernel, rfl, by decide +kernel, by decide +kernel⟩
theorem m_L_deck_is (ns : List Int) : m_L_deck ns = deckMC ns := rfl
theorem ok_L_deck {ns : List Int} {cls : Nat → Addr} {flds : Nat → List Str} {tb : List (Addr × Str)} {o0 : Option HO} {pl : ∀ o, o0 = some o → Plain o} {as : Addr} (hsq : ∀ H, ScJ o0 as tb H → SqL K H as (ns.map V.int)) (c : Facts K mg cls flds) {f : Addr} {fd : FuncData} (d : Dn K mg "_law_deck" (top 25) ["_law_script"] f fd) : FnOk P w K mg base (L2.CX P w) 2 f fd ["_law_script"] (spD (mk0 P w K cls flds o0 pl as tb) 1 (deckMC ns)) := by
  rw [← m_L_deck_is]
  have hK : (mk0 P w K cls flds o0 pl as tb).K = K := rfl
  refine fn_ok d.F sc_L_deck (by decide) fun cdv A outer s0 H hs E hr => ?_
  have tk : Takes (cxOf (L2.CX P w) P w K mg base ["_law_script", "_law_cell", "_law_cells", "_law_stirred"] "_law_deck" (defScope (top 25)) f cdv A outer s0 H E) (fun cls dx _ H' => E cls dx H') := takes_of rfl rfl rfl rfl
  have hu : (A.deeper (PyProof.Rows.envOfC "_law_deck" (defScope (top 25)) s0.heap.objs.size f cdv)).units + 64 < cLine := room64 hr
  exact (ss_cons (ss_par2 (i := 2) (j := 3) rfl sc_L_deck.nd rfl rfl (by decide) rfl rfl (it_val (ee_bty call_list_of (d_asL hK) rfl c.n_list (by decide +kernel) (ea_cons (ee_scr rfl hsq (pv 0) eo_none (eo_some ee_int)) ea_nil)) (it_val ee_int it_nil))) (ss_cons (ss_for (vs := [1]) (passes_of rfl) rfl (ei_seq hK (ee_pv (pv 2))) (pg_name (i := 1) sc_L_deck.nd rfl (by first | exact Or.inl rfl | exact Or.inr rfl)) (tgt_name 1 (by decide)) (ss_one (ss_set (i := 3) sc_L_deck.nd rfl (by first | exact Or.inl rfl | exact Or.inr rfl) (ee_op op_modN d_mod (ee_bty call_int1 d_int1 rfl c.n_int (by decide +kernel) (ea_cons (ee_op (op_add.or (of_cat.or op_cat)) (d_add.or (d_cat hK)) (ee_op (op_add.or (of_cat.or op_cat)) (d_add.or (d_cat hK)) (ee_op op_mul d_mul (ee_pv (pv 3)) ee_int) (ee_op op_modN d_mod (ee_bty call_int1 d_int1 rfl c.n_int (by decide +kernel) (ea_cons (ee_pv (pv 1)) ea_nil)) ee_int)) ee_int) ea_nil)) ee_int)))) (ss_one (ss_ret (ee_dicS (ks := ["cells", "stirred", "turn"]) (ed_cons (ee_revL hK (ee_pv (pv 2))) (ed_cons (ee_pv (pv 3)) (ed_cons ee_int ed_nil))))))))
theorem sc_L_set : FnScope ["_law_number", "_law_offers", "_law_x"] ["_law_number", "_law_offers"] (defScope (top 29)) := ⟨rfl, rfl, rfl, by decide +kernel, rfl, by decide +kernel, by decide +kernel⟩
theorem ok_L_set (hK : G.K = K) (hP : G.P = P) (hw0 : G.w = w ∧ G.lk) (c : Facts K mg G.cls G.flds) (lm : LmAll K mg base G.tb) {f : Addr} {fd : FuncData} (d : Dn K mg "_law_set" (top 29) ["_law_number", "_law_offers"] f fd) : FnOk P w K mg base (L2.CX P w) 2 f fd ["_law_number", "_law_offers"] (spD G 2 m_L_set) := by
  obtain ⟨hw, hl⟩ := hw0
  refine fn_ok d.F sc_L_set (by decide) fun cdv A outer s0 H hs E hr => ?_
  have tk : Takes (cxOf (L2.CX P w) P w K mg base ["_law_number", "_law_offers", "_law_x"] "_law_set" (defScope (top 29)) f cdv A outer s0 H E) (fun cls dx _ H' => E cls dx H') := takes_of rfl rfl rfl rfl
  have hu : (A.deeper (PyProof.Rows.envOfC "_law_set" (defScope (top 29)) s0.heap.objs.size f cdv)).units + 64 < cLine := room64 hr
  exact (ss_one (ss_ret (ee_bty cf_tuple (d_asT hK) rfl c.n_tuple (by decide +kernel) (ea_cons (ee_comp (own := [("_law_x", 2)]) rfl sc_L_set.nd (ei_range1 rfl c.n_range (ea_cons (ee_pv (pv 1)) ea_nil)) (blkOk_by (N := ["_law_number", "_law_offers", "_law_x"]) (sc := defScope (top 29)) (by decide +kernel)) (tgt_name 2 (by decide)) (fun _ _ _ _ _ => (pg_name (i := 2) sc_L_set.nd rfl (by first | exact Or.inl rfl | exact Or.inr rfl))) (fun _ _ _ _ _ => (ets_one (et_tru (by exact hK) (ee_op op_and d_bnd (ee_op op_shr d_shr (ee_pv (pv 0)) (ee_pv (pv 2))) ee_int)))) (fun _ _ _ _ _ => (ee_pv (pv 2)))) ea_nil))))
theorem sc_L_bits : FnScope ["_law_offers", "_law_rows", "_law_size", "_law_some", "_law_number", "_law_row", "_law_x"] ["_law_offers"] (defScope (top 28)) := ⟨rfl, rfl, rfl, by decide +kernel, rfl, by decide +kernel, by decide +kernel⟩
theorem ok_L_bits (hK : G.K = K) (hP : G.P = P) (hw0 : G.w = w ∧ G.lk) (c : Facts K mg G.cls G.flds) (lm : LmAll K mg base G.tb) {f : Addr} {fd : FuncData} (d : Dn K mg "_law_bits" (top 28) ["_law_offers"] f fd) : FnOk P w K mg base (L2.CX P w) 3 f fd ["_law_offers"] (spD G 1 m_L_bits) := by
  obtain ⟨hw, hl⟩ := hw0
  obtain ⟨f_L_set, fd_L_set, d_L_set⟩ := c.d_L_set
  have F_L_set := ok_L_set (P := P) (w := w) (base := base) hK hP ⟨hw, hl⟩ c lm d_L_set
  refine fn_ok d.F sc_L_bits (by decide) fun cdv A outer s0 H hs E hr => ?_
  have tk : Takes (cxOf (L2.CX P w) P w K mg base ["_law_offers", "_law_rows", "_law_size", "_law_some", "_law_number", "_law_row", "_law_x"] "_law_bits" (defScope (top 28)) f cdv A outer s0 H E) (fun cls dx _ H' => E cls dx H') := takes_of rfl rfl rfl rfl
  have hu : (A.deeper (PyProof.Rows.envOfC "_law_bits" (defScope (top 28)) s0.heap.objs.size f cdv)).units + 64 < cLine := room64 hr
  exact (ss_cons (ss_new1 (i := 1) sc_L_bits.nd rfl (by first | exact Or.inl rfl | exact Or.inr rfl) (ne_lst ea_nil)) (ss_cons (ss_for (vs := [2]) (passes_of rfl) rfl (ei_range1 rfl c.n_range (ea_cons (ee_op (op_add.or (of_cat.or op_cat)) (d_add.or (d_cat hK)) (ee_pv (pv 0)) ee_int) ea_nil)) (pg_name (i := 2) sc_L_bits.nd rfl (by first | exact Or.inl rfl | exact Or.inr rfl)) (tgt_name 2 (by decide)) (ss_cons (ss_setLc (i := 3) (own := [("_law_number", 4)]) rfl sc_L_bits.nd rfl rfl (ei_range1 rfl c.n_range (ea_cons (ee_op op_shl d_shl ee_int (ee_pv (pv 0))) ea_nil)) (blkOk_by (N := ["_law_offers", "_law_rows", "_law_size", "_law_some", "_law_number", "_law_row", "_law_x"]) (sc := defScope (top 28)) (by decide +kernel)) (tgt_name 4 (by decide)) (fun _ _ _ _ _ => (pg_name (i := 4) sc_L_bits.nd rfl (by first | exact Or.inl rfl | exact Or.inr rfl))) (fun _ _ _ _ _ => ets_nil) (fun _ _ _ _ _ => (ee_call F_L_set (hr.mono (by decide)) rfl d_L_set.g d_L_set.k d_L_set.b tk0 (ea_cons (ee_pv (pv 4)) (ea_cons (ee_pv (pv 0)) ea_nil))))) (ss_one (ss_ext (pv 1) (ee_comp (own := [("_law_row", 5)]) rfl sc_L_bits.nd (ei_seq hK (ee_blt (CallR_or (CallR_or (cr_sortD hK hu) (cr_sortK rfl hK hu)) (cr_sortT hK hu)) (DoesN.or (DoesN.or (d_sortD hK) (d_sortK hK hP hw)) (d_sortT hK)) rfl c.n_sorted (by decide +kernel) (ea_cons (ee_pv (pv 3)) ea_nil))) (blkOk_by (N := ["_law_offers", "_law_rows", "_law_size", "_law_some", "_law_number", "_law_row", "_law_x"]) (sc := defScope (top 28)) (by decide +kernel)) (tgt_name 5 (by decide)) (fun _ _ _ _ _ => (pg_name (i := 5) sc_L_bits.nd rfl (by first | exact Or.inl rfl | exact Or.inr rfl))) (fun _ _ _ _ _ => (ets_one (et_cmp (op_eqD hu) (d_eq hK) (ee_blt (CallR_or call_len_seq cr_lenK) (DoesN.or (d_lenS hK) (d_lenK hK hP hw)) rfl c.n_len (by decide +kernel) (ea_cons (ee_pv (pv 5)) ea_nil)) (ee_pv (pv 2))))) (fun _ _ _ _ _ => (ee_blt (call_sumX rfl) (d_sumX hK) rfl c.n_sum (by decide +kernel) (ea_cons (ee_comp (own := [("_law_x", 6)]) rfl sc_L_bits.nd (ei_seq hK (ee_pv (pv 5))) (blkOk_by (by kernel_rfl)) (tgt_name 6 (by decide)) (fun _ _ _ _ _ => (pg_name (i := 6) sc_L_bits.nd rfl (by first | exact Or.inl rfl | exact Or.inr rfl))) (fun _ _ _ _ _ => ets_nil) (fun _ _ _ _ _ => (ee_op op_shl d_shl ee_int (ee_pv (pv 6))))) ea_nil)))))))) (ss_frz (i := 1) (ss_one (ss_ret (ee_pv (pv 1)))))))
theorem sc_L_draw : FnScope ["_law_deck_here", "_law_below", "_law_stirred", "_law_cell"] ["_law_deck_here", "_law_below"] (defScope (top 26)) := ⟨rfl, rfl, rfl, by decide +kernel, rfl, by decide +kernel, by decide +kernel⟩
theorem ok_L_draw {p cl : Addr} {tb : List (Addr × Str)} {cls : Nat → Addr} {flds : Nat → List Str} (c : Facts K mg cls flds) {f : Addr} {fd : FuncData} (d : Dn K mg "_law_draw" (top 26) ["_law_deck_here", "_law_below"] f fd) : FnOk P w K mg base (L2.CX P w) 2 f fd ["_law_deck_here", "_law_below"] (spD (mkG P w K cls flds kdC p cl tb) 2 m_L_draw) := by
  refine drawC_ok d.F sc_L_draw fun cdv A outer s0 H E hr => ?_
  have hu2 := room64 hr
  have hu : (A.deeper (PyProof.Rows.envOfC "_law_draw" (defScope (top 26)) s0.heap.objs.size f cdv)).units + 1 < cLine := by
    have := room64 hr
    omega
  exact pss_cons (ps_dput hu (pv 0) pe_str (pe_op op_add (pe_dget hu (pv 0) pe_str (fun _ _ => rfl)) pe_int) rfl)
    (pss_cons (ps_set (i := 2) sc_L_draw.nd rfl (Or.inl rfl) (pe_op op_add (pe_dget hu (pv 0) pe_str (fun _ _ => rfl)) (pe_op op_mul (pe_op op_mul pe_int (pe_dget hu (pv 0) pe_str (fun _ _ => rfl))) (pe_dget hu (pv 0) pe_str (fun _ _ => rfl)))))
    (pss_cons (ps_if (pt_cmpR (op_neD hu2) (pe_dget hu (pv 0) pe_str (fun _ _ => rfl)) (pe_lst pa_nil) (nomark _))
      (pss_cons (ps_set (i := 3) sc_L_draw.nd rfl (Or.inl rfl) (pe_bm0 PySem.F.plainAttrs_list PySem.F.slot_list_pop PySem.F.type_list_pop mt_pop (pe_dget hu (pv 0) pe_str (fun _ _ => rfl))))
      (pss_cons (ps_if (pt_cmpR op_ge (pv 3) (pe_op op_pow pe_int pe_int) (nomark _))
        (pss_cons (ps_expr (pe_bm PySem.F.plainAttrs_list PySem.F.slot_list_append PySem.F.type_list_append mt_append (pe_dget hu (pv 0) pe_str (fun _ _ => rfl)) (pa_cons (pe_op op_fdiv0 (pv 3) (pv 1)) pa_nil)))
          (pss_one (ps_ret (pe_op op_modN (pe_callTy call_int1 rfl c.n_int (by decide +kernel) (pa_cons (pv 3) pa_nil)) (pv 1))))) pss_nil)
      (pss_one (ps_set (i := 2) sc_L_draw.nd rfl (Or.inl rfl) (pe_op op_add (pv 2) (pe_op op_modN (pe_callTy call_int1 rfl c.n_int (by decide +kernel) (pa_cons (pv 3) pa_nil)) pe_int)))))) pss_nil)
    (pss_cons (ps_set (i := 2) sc_L_draw.nd rfl (Or.inl rfl) (pe_op op_modN (pe_callTy call_int1 rfl c.n_int (by decide +kernel) (pa_cons (pe_op op_add (pe_op op_mul (pe_op op_modN (pv 2) pe_int) pe_int) (pe_dget hu (pv 0) pe_str (fun _ _ => rfl))) pa_nil)) pe_int))
    (pss_cons (ps_set (i := 2) sc_L_draw.nd rfl (Or.inl rfl) (pe_op op_modN (pe_callTy call_int1 rfl c.n_int (by decide +kernel) (pa_cons (pe_op op_add (pe_op op_add (pe_op op_mul (pv 2) (pv 2)) (pe_op op_mul pe_int (pe_dget hu (pv 0) pe_str (fun _ _ => rfl)))) pe_int) pa_nil)) pe_int))
    (pss_one (ps_ret (pe_op op_modN (pe_op op_fdiv0 (pe_op op_modN (pe_callTy call_int1 rfl c.n_int (by decide +kernel) (pa_cons (pe_op op_mul (pv 2) pe_int) pa_nil)) pe_int) pe_int) (pv 1))))))))
theorem sc_L_pick : FnScope ["_law_deck_here", "_law_some"] ["_law_deck_here", "_law_some"] (defScope (top 27)) := ⟨rfl, rfl, rfl, by decide +kernel, rfl, by decide +kernel, by decide +kernel⟩
theorem ok_L_pick {p cl : Addr} {tb : List (Addr × Str)} {cls : Nat → Addr} {flds : Nat → List Str} (c : Facts K mg cls flds) (lm : LmAll K mg base tb) {f : Addr} {fd : FuncData} (d : Dn K mg "_law_pick" (top 27) ["_law_deck_here", "_law_some"] f fd) : FnOk P w K mg base (L2.CX P w) 3 f fd ["_law_deck_here", "_law_some"] (spD (mkG P w K cls flds kdC p cl tb) 2 m_L_pick) := by
  have hK : (mkG P w K cls flds kdC p cl tb).K = K := rfl
  have hP : (mkG P w K cls flds kdC p cl tb).P = P := rfl
  have hw : (mkG P w K cls flds kdC p cl tb).w = w := rfl
  have hl : (mkG P w K cls flds kdC p cl tb).lk := trivial
  obtain ⟨f_L_draw, fd_L_draw, d_L_draw⟩ := c.d_L_draw
  have F_L_draw := ok_L_draw (P := P) (w := w) (base := base) (p := p) (cl := cl) (tb := tb) c d_L_draw
  refine fn_ok d.F sc_L_pick (by decide) fun cdv A outer s0 H hs E hr => ?_
  have tk : Takes (cxOf (L2.CX P w) P w K mg base ["_law_deck_here", "_law_some"] "_law_pick" (defScope (top 27)) f cdv A outer s0 H E) (fun cls dx _ H' => E cls dx H') := takes_of rfl rfl rfl rfl
  have hu : (A.deeper (PyProof.Rows.envOfC "_law_pick" (defScope (top 27)) s0.heap.objs.size f cdv)).units + 64 < cLine := room64 hr
  exact (ss_one (ss_ret (ee_ixA hK hP hw hu (ee_pv (pv 1)) (ee_call F_L_draw (hr.mono (by decide)) rfl d_L_draw.g d_L_draw.k d_L_draw.b tk (ea_cons (ee_pv (pv 0)) (ea_cons (ee_blt (CallR_or call_len_seq cr_lenK) (DoesN.or (d_lenS hK) (d_lenK hK hP hw)) rfl c.n_len (by decide +kernel) (ea_cons (ee_pv (pv 1)) ea_nil)) ea_nil))))))
theorem sc_together : FnScope ["one", "other"] ["one", "other"] (defScope (top 20)) := ⟨rfl, rfl, rfl, by decide +kernel, rfl, by decide +kernel, by decide +kernel⟩
theorem ok_together (hK : G.K = K) (hP : G.P = P) (hw0 : G.w = w ∧ G.lk) (c : Facts K mg G.cls G.flds) (lm : LmAll K mg base G.tb) {f : Addr} {fd : FuncData} (d : Dn K mg "together" (top 20) ["one", "other"] f fd) : FnOk P w K mg base (L2.CX P w) 2 f fd ["one", "other"] (spD G 2 m_together) := by
  obtain ⟨hw, hl⟩ := hw0
  refine fn_ok d.F sc_together (by decide) fun cdv A outer s0 H hs E hr => ?_
  have tk : Takes (cxOf (L2.CX P w) P w K mg base ["one", "other"] "together" (defScope (top 20)) f cdv A outer s0 H E) (fun cls dx _ H' => E cls dx H') := takes_of rfl rfl rfl rfl
  have hu : (A.deeper (PyProof.Rows.envOfC "together" (defScope (top 20)) s0.heap.objs.size f cdv)).units + 64 < cLine := room64 hr
  exact (ss_one (ss_ret (ee_bty cf_tuple (d_asT hK) rfl c.n_tuple (by decide +kernel) (ea_cons (ee_uni hK rfl rfl c.n_sorted rfl c.n_set (ee_pv (pv 0)) (ee_pv (pv 1))) ea_nil))))
theorem sc_L_odd : FnScope ["_law_deck_here", "_law_offers", "_law_some", "_law_found", "_law_x"] ["_law_deck_here", "_law_offers", "_law_some"] (defScope (top 30)) := ⟨rfl, rfl, rfl, by decide +kernel, rfl, by decide +kernel, by decide +kernel⟩
theorem ok_L_odd {p cl : Addr} {tb : List (Addr × Str)} {cls : Nat → Addr} {flds : Nat → List Str} (c : Facts K mg cls flds) (lm : LmAll K mg base tb) {f : Addr} {fd : FuncData} (d : Dn K mg "_law_odd" (top 30) ["_law_deck_here", "_law_offers", "_law_some"] f fd) : FnOk P w K mg base (L2.CX P w) 4 f fd ["_law_deck_here", "_law_offers", "_law_some"] (spD (mkG P w K cls flds kdC p cl tb) 3 m_L_odd) := by
  have hK : (mkG P w K cls flds kdC p cl tb).K = K := rfl
  have hP : (mkG P w K cls flds kdC p cl tb).P = P := rfl
  have hw : (mkG P w K cls flds kdC p cl tb).w = w := rfl
  have hl : (mkG P w K cls flds kdC p cl tb).lk := trivial
  obtain ⟨f_L_pick, fd_L_pick, d_L_pick⟩ := c.d_L_pick
  have F_L_pick := ok_L_pick (P := P) (w := w) (base := base) (p := p) (cl := cl) (tb := tb) c lm d_L_pick
  refine fn_ok d.F sc_L_odd (by decide) fun cdv A outer s0 H hs E hr => ?_
  have tk : Takes (cxOf (L2.CX P w) P w K mg base ["_law_deck_here", "_law_offers", "_law_some", "_law_found", "_law_x"] "_law_odd" (defScope (top 30)) f cdv A outer s0 H E) (fun cls dx _ H' => E cls dx H') := takes_of rfl rfl rfl rfl
  have hu : (A.deeper (PyProof.Rows.envOfC "_law_odd" (defScope (top 30)) s0.heap.objs.size f cdv)).units + 64 < cLine := room64 hr
  exact (ss_cons (ss_new1 (i := 3) sc_L_odd.nd rfl (by first | exact Or.inl rfl | exact Or.inr rfl) (ne_lst (ea_cons (ee_bty call_list_of (d_asL hK) rfl c.n_list (by decide +kernel) (ea_cons (ee_pv (pv 2)) ea_nil)) (ea_cons ee_non (ea_cons ee_str (ea_cons ee_int (ea_cons ee_bl (ea_cons ee_dic0 (ea_cons (ee_tup (ea_cons (ee_pv (pv 1)) ea_nil)) (ea_cons (ee_tup (ea_cons (ee_neg ee_int) ea_nil)) (ea_cons (ee_tup (ea_cons ee_str ea_nil)) (ea_cons (ee_tup (ea_cons (ee_tup ea_nil) ea_nil)) (ea_cons (ee_tup (ea_cons ee_non ea_nil)) (ea_cons (ee_op (op_add.or (of_cat.or op_cat)) (d_add.or (d_cat hK)) (ee_pv (pv 2)) (ee_tup (ea_cons (ee_pv (pv 2)) ea_nil))) ea_nil)))))))))))))) (ss_cons (ss_ext (pv 3) (ee_op (op_add.or (of_cat.or op_cat)) (d_add.or (d_cat hK)) (ee_op (op_add.or (of_cat.or op_cat)) (d_add.or (d_cat hK)) (ee_comp (own := [("_law_x", 4)]) rfl sc_L_odd.nd (ei_seq hK (ee_sl hK (ee_pv (pv 2)) eo_none (eo_some ee_int))) (blkOk_by (N := ["_law_deck_here", "_law_offers", "_law_some", "_law_found", "_law_x"]) (sc := defScope (top 30)) (by decide +kernel)) (tgt_name 4 (by decide)) (fun _ _ _ _ _ => (pg_name (i := 4) sc_L_odd.nd rfl (by first | exact Or.inl rfl | exact Or.inr rfl))) (fun _ _ _ _ _ => ets_nil) (fun _ _ _ _ _ => (ee_tup (ea_cons (ee_pv (pv 4)) (ea_cons (ee_pv (pv 4)) ea_nil))))) (ee_comp (own := [("_law_x", 4)]) rfl sc_L_odd.nd (ei_seq hK (ee_sl hK (ee_pv (pv 2)) (eo_some ee_int) (eo_some ee_int))) (blkOk_by (N := ["_law_deck_here", "_law_offers", "_law_some", "_law_found", "_law_x"]) (sc := defScope (top 30)) (by decide +kernel)) (tgt_name 4 (by decide)) (fun _ _ _ _ _ => (pg_name (i := 4) sc_L_odd.nd rfl (by first | exact Or.inl rfl | exact Or.inr rfl))) (fun _ _ _ _ _ => ets_nil) (fun _ _ _ _ _ => (ee_stp hK (ee_pv (pv 2)) (ee_neg ee_int))))) (ee_comp (own := [("_law_x", 4)]) rfl sc_L_odd.nd (ei_seq hK (ee_sl hK (ee_pv (pv 2)) eo_none (eo_some ee_int))) (blkOk_by (N := ["_law_deck_here", "_law_offers", "_law_some", "_law_found", "_law_x"]) (sc := defScope (top 30)) (by decide +kernel)) (tgt_name 4 (by decide)) (fun _ _ _ _ _ => (pg_name (i := 4) sc_L_odd.nd rfl (by first | exact Or.inl rfl | exact Or.inr rfl))) (fun _ _ _ _ _ => ets_nil) (fun _ _ _ _ _ => (ee_op (op_add.or (of_cat.or op_cat)) (d_add.or (d_cat hK)) (ee_pv (pv 2)) (ee_sl hK (ee_pv (pv 2)) eo_none (eo_some ee_int))))))) (ss_cons (ss_if (et_cmp (op_eqD hu) (d_eq hK) (ee_sl hK (ee_pv (pv 2)) eo_none (eo_some ee_int)) (ee_tup (ea_cons ee_int ea_nil))) (ss_one (ss_app (pv 3) (ee_op (op_add.or (of_cat.or op_cat)) (d_add.or (d_cat hK)) (ee_tup (ea_cons ee_bl ea_nil)) (ee_sl hK (ee_pv (pv 2)) (eo_some ee_int) eo_none)))) ss_nil) (ss_cons (ss_if (et_cmp (op_in_seq.or ((op_inO hu).or (op_inN hu))) (Does2.or (d_in hK false) (Does2.or (d_inDic hK hP hw false) (d_inN hK false))) ee_int (ee_pv (pv 2))) (ss_one (ss_app (pv 3) (ee_bty cf_tuple (d_asT hK) rfl c.n_tuple (by decide +kernel) (ea_cons (ee_comp (own := [("_law_x", 4)]) rfl sc_L_odd.nd (ei_seq hK (ee_pv (pv 2))) (blkOk_by (N := ["_law_deck_here", "_law_offers", "_law_some", "_law_found", "_law_x"]) (sc := defScope (top 30)) (by decide +kernel)) (tgt_name 4 (by decide)) (fun _ _ _ _ _ => (pg_name (i := 4) sc_L_odd.nd rfl (by first | exact Or.inl rfl | exact Or.inr rfl))) (fun _ _ _ _ _ => ets_nil) (fun _ _ _ _ _ => (ee_if (et_cmp (op_eqD hu) (d_eq hK) (ee_pv (pv 4)) ee_int) ee_bl (ee_pv (pv 4))))) ea_nil)))) ss_nil) (ss_frz (i := 3) (ss_one (ss_ret (ee_call F_L_pick (hr.mono (by decide)) rfl d_L_pick.g d_L_pick.k d_L_pick.b tk (ea_cons (ee_pv (pv 0)) (ea_cons (ee_pv (pv 3)) ea_nil))))))))))
theorem sc_L_sets_right : FnScope ["_law_deck_here", "_law_offers", "_law_bits_here", "_law_turn", "_law_one", "_law_other", "_law_near", "_law_far", "_law_number"] ["_law_deck_here"] (defScope (top 32)) := ⟨rfl, rfl, rfl, by decide +kernel, rfl, by decide +kernel, by decide +kernel⟩
theorem ok_L_sets_right {p cl : Addr} {tb : List (Addr × Str)} {cls : Nat → Addr} {flds : Nat → List Str} (c : Facts K mg cls flds) (lm : LmAll K mg base tb) {f : Addr} {fd : FuncData} (d : Dn K mg "_law_sets_right" (top 32) ["_law_deck_here"] f fd) : FnOk P w K mg base (L2.CX P w) 5 f fd ["_law_deck_here"] (spD (mkG P w K cls flds kdC p cl tb) 1 m_L_sets_right) := by
  have hK : (mkG P w K cls flds kdC p cl tb).K = K := rfl
  have hP : (mkG P w K cls flds kdC p cl tb).P = P := rfl
  have hw : (mkG P w K cls flds kdC p cl tb).w = w := rfl
  have hl : (mkG P w K cls flds kdC p cl tb).lk := trivial
  obtain ⟨f_L_draw, fd_L_draw, d_L_draw⟩ := c.d_L_draw
  have F_L_draw := ok_L_draw (P := P) (w := w) (base := base) (p := p) (cl := cl) (tb := tb) c d_L_draw
  obtain ⟨f_L_bits, fd_L_bits, d_L_bits⟩ := c.d_L_bits
  have F_L_bits := ok_L_bits (P := P) (w := w) (base := base) (G := (mkG P w K cls flds kdC p cl tb)) rfl rfl ⟨rfl, trivial⟩ c lm d_L_bits
  obtain ⟨f_all_sets, fd_all_sets, d_all_sets⟩ := c.d_all_sets
  have F_all_sets := ok_all_sets (P := P) (w := w) (base := base) (G := (mkG P w K cls flds kdC p cl tb)) rfl rfl ⟨rfl, trivial⟩ c lm d_all_sets
  obtain ⟨f_L_set, fd_L_set, d_L_set⟩ := c.d_L_set
  have F_L_set := ok_L_set (P := P) (w := w) (base := base) (G := (mkG P w K cls flds kdC p cl tb)) rfl rfl ⟨rfl, trivial⟩ c lm d_L_set
  obtain ⟨f_L_pick, fd_L_pick, d_L_pick⟩ := c.d_L_pick
  have F_L_pick := ok_L_pick (P := P) (w := w) (base := base) (p := p) (cl := cl) (tb := tb) c lm d_L_pick
  obtain ⟨f_together, fd_together, d_together⟩ := c.d_together
  have F_together := ok_together (P := P) (w := w) (base := base) (G := (mkG P w K cls flds kdC p cl tb)) rfl rfl ⟨rfl, trivial⟩ c lm d_together
  obtain ⟨f_is_set, fd_is_set, d_is_set⟩ := c.d_is_set
  have F_is_set := ok_is_set (P := P) (w := w) (base := base) (G := (mkG P w K cls flds kdC p cl tb)) rfl rfl ⟨rfl, trivial⟩ c lm d_is_set
  obtain ⟨f_L_odd, fd_L_odd, d_L_odd⟩ := c.d_L_odd
  have F_L_odd := ok_L_odd (P := P) (w := w) (base := base) (p := p) (cl := cl) (tb := tb) c lm d_L_odd
  have d_all_sets_k0 : KBd K fd_all_sets ["offers"] 0 ["offers"] [0] := c.d_all_sets_k0 _ _ d_all_sets.F
  have d_together_k1 : KBd K fd_together ["one", "other"] 0 ["other", "one"] [1, 0] := c.d_together_k1 _ _ d_together.F
  have d_is_set_k2 : KBd K fd_is_set ["offers", "thing"] 0 ["thing", "offers"] [1, 0] := c.d_is_set_k2 _ _ d_is_set.F
  refine fn_ok d.F sc_L_sets_right (by decide) fun cdv A outer s0 H hs E hr => ?_
  have tk : Takes (cxOf (L2.CX P w) P w K mg base ["_law_deck_here", "_law_offers", "_law_bits_here", "_law_turn", "_law_one", "_law_other", "_law_near", "_law_far", "_law_number"] "_law_sets_right" (defScope (top 32)) f cdv A outer s0 H E) (fun cls dx _ H' => E cls dx H') := takes_of rfl rfl rfl rfl
  have hu : (A.deeper (PyProof.Rows.envOfC "_law_sets_right" (defScope (top 32)) s0.heap.objs.size f cdv)).units + 64 < cLine := room64 hr
  exact (ss_cons (ss_set (i := 1) sc_L_sets_right.nd rfl (by first | exact Or.inl rfl | exact Or.inr rfl) (ee_op (op_add.or (of_cat.or op_cat)) (d_add.or (d_cat hK)) ee_int (ee_call F_L_draw (hr.mono (by decide)) rfl d_L_draw.g d_L_draw.k d_L_draw.b tk (ea_cons (ee_pv (pv 0)) (ea_cons ee_int ea_nil))))) (ss_cons (ss_set (i := 2) sc_L_sets_right.nd rfl (by first | exact Or.inl rfl | exact Or.inr rfl) (ee_call F_L_bits (hr.mono (by decide)) rfl d_L_bits.g d_L_bits.k d_L_bits.b tk (ea_cons (ee_pv (pv 1)) ea_nil))) (ss_cons (ss_if (PW.pt (ew_or (et_cmp (op_neD hu) (d_ne hK) (ee_call F_all_sets (hr.mono (by decide)) rfl d_all_sets.g d_all_sets.k d_all_sets.b tk (ea_cons (ee_pv (pv 1)) ea_nil)) (ee_bty cf_tuple (d_asT hK) rfl c.n_tuple (by decide +kernel) (ea_cons (ee_comp (own := [("_law_number", 8)]) rfl sc_L_sets_right.nd (ei_seq hK (ee_pv (pv 2))) (blkOk_by (N := ["_law_deck_here", "_law_offers", "_law_bits_here", "_law_turn", "_law_one", "_law_other", "_law_near", "_law_far", "_law_number"]) (sc := defScope (top 32)) (by decide +kernel)) (tgt_name 8 (by decide)) (fun _ _ _ _ _ => (pg_name (i := 8) sc_L_sets_right.nd rfl (by first | exact Or.inl rfl | exact Or.inr rfl))) (fun _ _ _ _ _ => ets_nil) (fun _ _ _ _ _ => (ee_call F_L_set (hr.mono (by decide)) rfl d_L_set.g d_L_set.k d_L_set.b tk0 (ea_cons (ee_pv (pv 8)) (ea_cons (ee_pv (pv 1)) ea_nil))))) ea_nil))) (ew_or1 (et_cmp (op_neD hu) (d_ne hK) (ee_callK0 (ks := ["offers"]) (js := [0]) F_all_sets (hr.mono (by decide)) rfl d_all_sets.g d_all_sets.k d_all_sets_k0 tk (ek_cons (pk_cons ee_int ek_nil))) (ee_tup (ea_cons (ee_tup ea_nil) (ea_cons (ee_tup (ea_cons ee_int ea_nil)) ea_nil))))))) (ss_one (ss_ret ee_bl)) ss_nil) (ss_cons (ss_for (vs := [3]) (passes_of rfl) rfl (ei_range1 rfl c.n_range (ea_cons ee_int ea_nil)) (pg_name (i := 3) sc_L_sets_right.nd rfl (by first | exact Or.inl rfl | exact Or.inr rfl)) (tgt_name 3 (by decide)) (ss_cons (ss_par2 (i := 4) (j := 5) rfl sc_L_sets_right.nd rfl rfl (by decide) rfl rfl (it_val (ee_call F_L_pick (hr.mono (by decide)) rfl d_L_pick.g d_L_pick.k d_L_pick.b tk (ea_cons (ee_pv (pv 0)) (ea_cons (ee_pv (pv 2)) ea_nil))) (it_val (ee_call F_L_pick (hr.mono (by decide)) rfl d_L_pick.g d_L_pick.k d_L_pick.b tk (ea_cons (ee_pv (pv 0)) (ea_cons (ee_pv (pv 2)) ea_nil))) it_nil))) (ss_cons (ss_par2 (i := 6) (j := 7) rfl sc_L_sets_right.nd rfl rfl (by decide) rfl rfl (it_val (ee_call F_L_set (hr.mono (by decide)) rfl d_L_set.g d_L_set.k d_L_set.b tk (ea_cons (ee_pv (pv 4)) (ea_cons (ee_pv (pv 1)) ea_nil))) (it_val (ee_call F_L_set (hr.mono (by decide)) rfl d_L_set.g d_L_set.k d_L_set.b tk (ea_cons (ee_pv (pv 5)) (ea_cons (ee_pv (pv 1)) ea_nil))) it_nil))) (ss_cons (ss_if (PW.pt (ew_or (et_cmp (op_neD hu) (d_ne hK) (ee_call F_together (hr.mono (by decide)) rfl d_together.g d_together.k d_together.b tk (ea_cons (ee_pv (pv 6)) (ea_cons (ee_pv (pv 7)) ea_nil))) (ee_call F_L_set (hr.mono (by decide)) rfl d_L_set.g d_L_set.k d_L_set.b tk (ea_cons (ee_op op_or d_bor (ee_pv (pv 4)) (ee_pv (pv 5))) (ea_cons (ee_pv (pv 1)) ea_nil)))) (ew_or1 (et_cmp (op_neD hu) (d_ne hK) (ee_callK0 (ks := ["other", "one"]) (js := [1, 0]) F_together (hr.mono (by decide)) rfl d_together.g d_together.k d_together_k1 tk (ek_cons (pk_cons (ee_pv (pv 6)) (ek_cons (pk_cons (ee_pv (pv 7)) ek_nil))))) (ee_call F_together (hr.mono (by decide)) rfl d_together.g d_together.k d_together.b tk (ea_cons (ee_pv (pv 6)) (ea_cons (ee_pv (pv 7)) ea_nil))))))) (ss_one (ss_ret ee_bl)) ss_nil) (ss_cons (ss_if (PW.pt (ew_or (et_cmp op_notBl d_notB (ee_call F_is_set (hr.mono (by decide)) rfl d_is_set.g d_is_set.k d_is_set.b tk (ea_cons (ee_pv (pv 1)) (ea_cons (ee_pv (pv 6)) ea_nil))) ee_bl) (ew_or1 (et_cmp op_notBl d_notB (ee_callK0 (ks := ["thing", "offers"]) (js := [1, 0]) F_is_set (hr.mono (by decide)) rfl d_is_set.g d_is_set.k d_is_set_k2 tk (ek_cons (pk_cons (ee_pv (pv 6)) (ek_cons (pk_cons (ee_pv (pv 1)) ek_nil))))) ee_bl)))) (ss_one (ss_ret ee_bl)) ss_nil) (ss_cons (ss_if (et_cmp op_notBl d_notB (ee_call F_is_set (hr.mono (by decide)) rfl d_is_set.g d_is_set.k d_is_set.b tk (ea_cons (ee_pv (pv 1)) (ea_cons (ee_call F_L_odd (hr.mono (by decide)) rfl d_L_odd.g d_L_odd.k d_L_odd.b tk (ea_cons (ee_pv (pv 0)) (ea_cons (ee_pv (pv 1)) (ea_cons (ee_pv (pv 6)) ea_nil)))) ea_nil))) ee_bl) (ss_one (ss_ret ee_bl)) ss_nil) (ss_one (ss_if (PW.pt (ew_and (et_cmp op_gt (d_cmp (fun i j => decide (j < i))) (ee_pv (pv 1)) ee_int) (ew_and1 (et_cmp (op_neD hu) (d_ne hK) (ee_call F_is_set (hr.mono (by decide)) rfl d_is_set.g d_is_set.k d_is_set.b tk (ea_cons (ee_op op_sub d_sub (ee_pv (pv 1)) ee_int) (ea_cons (ee_pv (pv 6)) ea_nil))) (ee_cmp (op_notIn_seq.or ((op_notInO hu).or (op_notInN hu))) (Does2.or (d_in hK true) (Does2.or (d_inDic hK hP hw true) (d_inN hK true))) (ee_op op_sub d_sub (ee_pv (pv 1)) ee_int) (ee_pv (pv 6))))))) (ss_one (ss_ret ee_bl)) ss_nil)))))))) (ss_one (ss_ret ee_bl))))))
theorem sc_require_set : FnScope ["chooser", "thing"] ["chooser", "thing"] (defScope (top 17)) := ⟨rfl, rfl, rfl, by decide +kernel, rfl, by decide +kernel, by decide +kernel⟩
theorem ok_require_set (hK : G.K = K) (hP : G.P = P) (hw0 : G.w = w ∧ G.lk) (c : Facts K mg G.cls G.flds) (lm : LmAll K mg base G.tb) {f : Addr} {fd : FuncData} (d : Dn K mg "require_set" (top 17) ["chooser", "thing"] f fd) : FnOk P w K mg base (L2.CX P w) 5 f fd ["chooser", "thing"] (spD G 2 m_require_set) := by
  obtain ⟨hw, hl⟩ := hw0
  obtain ⟨f_is_set, fd_is_set, d_is_set⟩ := c.d_is_set
  have F_is_set := ok_is_set (P := P) (w := w) (base := base) hK hP ⟨hw, hl⟩ c lm d_is_set
  obtain ⟨_, T_BadSet⟩ := c.e_BadSet.txt
  refine fn_ok d.F sc_require_set (by decide) fun cdv A outer s0 H hs E hr => ?_
  have tk : Takes (cxOf (L2.CX P w) P w K mg base ["chooser", "thing"] "require_set" (defScope (top 17)) f cdv A outer s0 H E) (fun cls dx _ H' => E cls dx H') := takes_of rfl rfl rfl rfl
  have hu : (A.deeper (PyProof.Rows.envOfC "require_set" (defScope (top 17)) s0.heap.objs.size f cdv)).units + 64 < cLine := room64 hr
  exact (ss_one (ss_if (et_not (et_tru (by exact hK) (ee_call F_is_set (hr.mono (by decide)) rfl d_is_set.g d_is_set.k d_is_set.b tk (ea_cons (ee_fld c.c_Chooser.own.cl (c.c_Chooser.no _ (by decide)) (ix_of c.c_Chooser.fl rfl) (ee_pv (pv 0))) (ea_cons (ee_pv (pv 1)) ea_nil))))) (ss_one (ss_raise1 rfl T_BadSet c.e_BadSet.fl hr tk (ee_pv (pv 1)) rfl)) ss_nil))
theorem sc_Chooser_taken : FnScope ["self", "some"] ["self", "some"] (defScope (meth 15 5)) := ⟨rfl, rfl, rfl, by decide +kernel, rfl, by decide +kernel, by decide +kernel⟩
theorem ok_Chooser_taken (hK : G.K = K) (hP : G.P = P) (hw0 : G.w = w ∧ G.lk) (c : Facts K mg G.cls G.flds) (lm : LmAll K mg base G.tb) {f : Addr} {fd : FuncData} (d : Mn K "taken" "Chooser.taken" (meth 15 5) ["self", "some"] (G.cls 25) f fd) : FnOk P w K mg base (L2.CX P w) 6 f fd ["self", "some"] (spD G 2 m_Chooser_taken) := by
  obtain ⟨hw, hl⟩ := hw0
  obtain ⟨f_require_set, fd_require_set, d_require_set⟩ := c.d_require_set
  have F_require_set := ok_require_set (P := P) (w := w) (base := base) hK hP ⟨hw, hl⟩ c lm d_require_set
  refine fn_ok d.F sc_Chooser_taken (by decide) fun cdv A outer s0 H hs E hr => ?_
  have tk : Takes (cxOf (L2.CX P w) P w K mg base ["self", "some"] "Chooser.taken" (defScope (meth 15 5)) f cdv A outer s0 H E) (fun cls dx _ H' => E cls dx H') := takes_of rfl rfl rfl rfl
  have hu : (A.deeper (PyProof.Rows.envOfC "Chooser.taken" (defScope (meth 15 5)) s0.heap.objs.size f cdv)).units + 64 < cLine := room64 hr
  exact (ss_cons (ss_expr (ee_call F_require_set (hr.mono (by decide)) rfl d_require_set.g d_require_set.k d_require_set.b tk (ea_cons (ee_pv (pv 0)) (ea_cons (ee_pv (pv 1)) ea_nil)))) (ss_one (ss_ret (ee_ixA hK hP hw hu (ee_fld c.c_Chooser.own.cl (c.c_Chooser.no _ (by decide)) (ix_of c.c_Chooser.fl rfl) (ee_pv (pv 0))) (ee_pv (pv 1))))))
theorem sc_L_refused : FnScope ["_law_chooser", "_law_thing", "_law_by_name", "e"] ["_law_chooser", "_law_thing", "_law_by_name"] (defScope (top 31)) := ⟨rfl, rfl, rfl, by decide +kernel, rfl, by decide +kernel, by decide +kernel⟩
theorem ok_L_refused (hK : G.K = K) (hP : G.P = P) (hw0 : G.w = w ∧ G.lk) (c : Facts K mg G.cls G.flds) (lm : LmAll K mg base G.tb) {f : Addr} {fd : FuncData} (d : Dn K mg "_law_refused" (top 31) ["_law_chooser", "_law_thing", "_law_by_name"] f fd) : FnOk P w K mg base (L2.CX P w) 7 f fd ["_law_chooser", "_law_thing", "_law_by_name"] (spD G 3 m_L_refused) := by
  obtain ⟨hw, hl⟩ := hw0
  obtain ⟨f_Chooser_taken, fd_Chooser_taken, d_Chooser_taken⟩ := c.d_Chooser_taken
  have F_Chooser_taken := ok_Chooser_taken (P := P) (w := w) (base := base) hK hP ⟨hw, hl⟩ c lm d_Chooser_taken
  have d_Chooser_taken_k3 : KBd K fd_Chooser_taken ["self", "some"] 1 ["some"] [0, 1] := c.d_Chooser_taken_k3 _ _ d_Chooser_taken.F
  obtain ⟨_, T_BadSet⟩ := c.e_BadSet.txt
  refine fn_ok d.F sc_L_refused (by decide) fun cdv A outer s0 H hs E hr => ?_
  have tk : Takes (cxOf (L2.CX P w) P w K mg base ["_law_chooser", "_law_thing", "_law_by_name", "e"] "_law_refused" (defScope (top 31)) f cdv A outer s0 H E) (fun cls dx _ H' => E cls dx H') := takes_of rfl rfl rfl rfl
  have hu : (A.deeper (PyProof.Rows.envOfC "_law_refused" (defScope (top 31)) s0.heap.objs.size f cdv)).units + 64 < cLine := room64 hr
  exact (ss_cons (ss_try (i := 3) (m := (exM 39 [3, 18, 21] 18)) (c := .ref (G.cls 18)) rfl rfl sc_L_refused.nd rfl rfl ⟨rfl, by decide, .inl T_BadSet.gC⟩ tk (c.x.exm 18) (fun W pn xe tk => (ss_one (ss_if (et_tru (by exact hK) (ee_pv (pv 2))) (ss_one (ss_expr (ee_methK (ks := ["some"]) (js := [0]) c.c_Chooser.own.cl d_Chooser_taken.methC (no_of c.c_Chooser.fl rfl) F_Chooser_taken (hr.mono (by decide)) d_Chooser_taken_k3 tk (ee_pv (pv 0)) (ek_cons (pk_cons (ee_pv (pv 1)) ek_nil))))) (ss_one (ss_expr (ee_meth c.c_Chooser.own.cl d_Chooser_taken.methC (no_of c.c_Chooser.fl rfl) F_Chooser_taken (hr.mono (by decide)) d_Chooser_taken.b tk (ee_pv (pv 0)) (ea_cons (ee_pv (pv 1)) ea_nil))))))) (fun a oe cls d pn hz hf => (ss_one (ss_ret (ee_if (et_tru (by exact hK) (ee_xi (m := exM 39 [3, 18, 21] 39) c.x.xi hz hf rfl c.n_isinstance (pv 3) (pe_glob (v := .ref (G.cls 39)) rfl c.x.g rfl) (.own _))) (ee_tup (ea_cons (ee_xf (c := 18) (c.x.asked 18 (by decide)).xf T_BadSet.noN (ix_of c.e_BadSet.fl rfl) hz hf (pv 3)) ea_nil)) (ee_tup ea_nil)))))) (ss_one (ss_ret (ee_tup ea_nil))))
theorem sc_L_taken_right : FnScope ["_law_deck_here", "_law_offers", "_law_bits_here", "_law_picks", "_law_chooser", "_law_was", "_law_turn", "_law_number", "_law_pick_here", "_law_some", "_law_odd_here", "_law_told"] ["_law_deck_here"] (defScope (top 33)) := ⟨rfl, rfl, rfl, by decide +kernel, rfl, by decide +kernel, by decide +kernel⟩
theorem ok_L_taken_right {p cl : Addr} {tb : List (Addr × Str)} {cls : Nat → Addr} {flds : Nat → List Str} (c : Facts K mg cls flds) (lm : LmAll K mg base tb) {f : Addr} {fd : FuncData} (d : Dn K mg "_law_taken_right" (top 33) ["_law_deck_here"] f fd) : FnOk P w K mg base (L2.CX P w) 8 f fd ["_law_deck_here"] (spD (mkG P w K cls flds kdC p cl tb) 1 m_L_taken_right) := by
  have hK : (mkG P w K cls flds kdC p cl tb).K = K := rfl
  have hP : (mkG P w K cls flds kdC p cl tb).P = P := rfl
  have hw : (mkG P w K cls flds kdC p cl tb).w = w := rfl
  have hl : (mkG P w K cls flds kdC p cl tb).lk := trivial
  obtain ⟨f_L_draw, fd_L_draw, d_L_draw⟩ := c.d_L_draw
  have F_L_draw := ok_L_draw (P := P) (w := w) (base := base) (p := p) (cl := cl) (tb := tb) c d_L_draw
  obtain ⟨f_L_bits, fd_L_bits, d_L_bits⟩ := c.d_L_bits
  have F_L_bits := ok_L_bits (P := P) (w := w) (base := base) (G := (mkG P w K cls flds kdC p cl tb)) rfl rfl ⟨rfl, trivial⟩ c lm d_L_bits
  obtain ⟨f_Chooser_init, fd_Chooser_init, d_Chooser_init⟩ := c.d_Chooser_init
  have F_Chooser_init := ok_Chooser_init (P := P) (w := w) (base := base) (G := (mkG P w K cls flds kdC p cl tb)) rfl rfl ⟨rfl, trivial⟩ c lm d_Chooser_init
  obtain ⟨f_L_set, fd_L_set, d_L_set⟩ := c.d_L_set
  have F_L_set := ok_L_set (P := P) (w := w) (base := base) (G := (mkG P w K cls flds kdC p cl tb)) rfl rfl ⟨rfl, trivial⟩ c lm d_L_set
  obtain ⟨f_Chooser_taken, fd_Chooser_taken, d_Chooser_taken⟩ := c.d_Chooser_taken
  have F_Chooser_taken := ok_Chooser_taken (P := P) (w := w) (base := base) (G := (mkG P w K cls flds kdC p cl tb)) rfl rfl ⟨rfl, trivial⟩ c lm d_Chooser_taken
  obtain ⟨f_L_pick, fd_L_pick, d_L_pick⟩ := c.d_L_pick
  have F_L_pick := ok_L_pick (P := P) (w := w) (base := base) (p := p) (cl := cl) (tb := tb) c lm d_L_pick
  obtain ⟨f_L_odd, fd_L_odd, d_L_odd⟩ := c.d_L_odd
  have F_L_odd := ok_L_odd (P := P) (w := w) (base := base) (p := p) (cl := cl) (tb := tb) c lm d_L_odd
  obtain ⟨f_L_refused, fd_L_refused, d_L_refused⟩ := c.d_L_refused
  have F_L_refused := ok_L_refused (P := P) (w := w) (base := base) (G := (mkG P w K cls flds kdC p cl tb)) rfl rfl ⟨rfl, trivial⟩ c lm d_L_refused
  obtain ⟨f_Chooser_eq, fd_Chooser_eq, d_Chooser_eq⟩ := c.d_Chooser_eq
  have F_Chooser_eq := ok_Chooser_eq (P := P) (w := w) (base := base) (G := (mkG P w K cls flds kdC p cl tb)) rfl rfl ⟨rfl, trivial⟩ c lm d_Chooser_eq
  have d_Chooser_taken_k3 : KBd K fd_Chooser_taken ["self", "some"] 1 ["some"] [0, 1] := c.d_Chooser_taken_k3 _ _ d_Chooser_taken.F
  refine fn_ok d.F sc_L_taken_right (by decide) fun cdv A outer s0 H hs E hr => ?_
  have tk : Takes (cxOf (L2.CX P w) P w K mg base ["_law_deck_here", "_law_offers", "_law_bits_here", "_law_picks", "_law_chooser", "_law_was", "_law_turn", "_law_number", "_law_pick_here", "_law_some", "_law_odd_here", "_law_told"] "_law_taken_right" (defScope (top 33)) f cdv A outer s0 H E) (fun cls dx _ H' => E cls dx H') := takes_of rfl rfl rfl rfl
  have hu : (A.deeper (PyProof.Rows.envOfC "_law_taken_right" (defScope (top 33)) s0.heap.objs.size f cdv)).units + 64 < cLine := room64 hr
  exact (ss_cons (ss_set (i := 1) sc_L_taken_right.nd rfl (by first | exact Or.inl rfl | exact Or.inr rfl) (ee_op (op_add.or (of_cat.or op_cat)) (d_add.or (d_cat hK)) ee_int (ee_call F_L_draw (hr.mono (by decide)) rfl d_L_draw.g d_L_draw.k d_L_draw.b tk (ea_cons (ee_pv (pv 0)) (ea_cons ee_int ea_nil))))) (ss_cons (ss_set (i := 2) sc_L_taken_right.nd rfl (by first | exact Or.inl rfl | exact Or.inr rfl) (ee_call F_L_bits (hr.mono (by decide)) rfl d_L_bits.g d_L_bits.k d_L_bits.b tk (ea_cons (ee_pv (pv 1)) ea_nil))) (ss_cons (ss_setLc (i := 3) (own := [("_law_number", 7)]) rfl sc_L_taken_right.nd rfl rfl (ei_seq hK (ee_pv (pv 2))) (blkOk_by (N := ["_law_deck_here", "_law_offers", "_law_bits_here", "_law_picks", "_law_chooser", "_law_was", "_law_turn", "_law_number", "_law_pick_here", "_law_some", "_law_odd_here", "_law_told"]) (sc := defScope (top 33)) (by decide +kernel)) (tgt_name 7 (by decide)) (fun _ _ _ _ _ => (pg_name (i := 7) sc_L_taken_right.nd rfl (by first | exact Or.inl rfl | exact Or.inr rfl))) (fun _ _ _ _ _ => ets_nil) (fun _ _ _ _ _ => (ee_op op_and d_bnd (ee_pv (pv 7)) (ee_call F_L_draw (hr.mono (by decide)) rfl d_L_draw.g d_L_draw.k d_L_draw.b tk0 (ea_cons (ee_pv (pv 0)) (ea_cons (ee_op op_shl d_shl ee_int (ee_pv (pv 1))) ea_nil)))))) (ss_cons (ss_set (i := 4) sc_L_taken_right.nd rfl (by first | exact Or.inl rfl | exact Or.inr rfl) (ee_make (Mn.mkC (x := "Chooser") c.c_Chooser d_Chooser_init) F_Chooser_init (hr.mono (by decide)) rfl c.c_Chooser.g d_Chooser_init.b tk (ea_cons (ee_pv (pv 1)) (ea_cons (ee_bty cf_tuple (d_asT hK) rfl c.n_tuple (by decide +kernel) (ea_cons (ee_comp (own := [("_law_number", 7)]) rfl sc_L_taken_right.nd (ei_seq hK (ee_pv (pv 3))) (blkOk_by (N := ["_law_deck_here", "_law_offers", "_law_bits_here", "_law_picks", "_law_chooser", "_law_was", "_law_turn", "_law_number", "_law_pick_here", "_law_some", "_law_odd_here", "_law_told"]) (sc := defScope (top 33)) (by decide +kernel)) (tgt_name 7 (by decide)) (fun _ _ _ _ _ => (pg_name (i := 7) sc_L_taken_right.nd rfl (by first | exact Or.inl rfl | exact Or.inr rfl))) (fun _ _ _ _ _ => ets_nil) (fun _ _ _ _ _ => (ee_call F_L_set (hr.mono (by decide)) rfl d_L_set.g d_L_set.k d_L_set.b tk0 (ea_cons (ee_pv (pv 7)) (ea_cons (ee_pv (pv 1)) ea_nil))))) ea_nil)) ea_nil)))) (ss_cons (ss_set (i := 5) sc_L_taken_right.nd rfl (by first | exact Or.inl rfl | exact Or.inr rfl) (ee_fld c.c_Chooser.own.cl (c.c_Chooser.no _ (by decide)) (ix_of c.c_Chooser.fl rfl) (ee_pv (pv 4)))) (ss_cons (ss_for (vs := [7, 8]) (passes_of rfl) rfl (ei_zip hK rfl c.n_zip (ea_cons (ee_pv (pv 2)) (ea_cons (ee_pv (pv 3)) ea_nil))) (pg_tup rfl (pgs_cons (pg_name (i := 7) sc_L_taken_right.nd rfl (by first | exact Or.inl rfl | exact Or.inr rfl)) (pgs_cons (pg_name (i := 8) sc_L_taken_right.nd rfl (by first | exact Or.inl rfl | exact Or.inr rfl)) pgs_nil))) (tgt_tup hK (tgts_cons (tgt_name 7 (by decide)) (tgts_cons (tgt_name 8 (by decide)) tgts_nil))) (ss_one (ss_if (et_cmp (op_neD hu) (d_ne hK) (ee_meth c.c_Chooser.own.cl d_Chooser_taken.methC (no_of c.c_Chooser.fl rfl) F_Chooser_taken (hr.mono (by decide)) d_Chooser_taken.b tk (ee_pv (pv 4)) (ea_cons (ee_call F_L_set (hr.mono (by decide)) rfl d_L_set.g d_L_set.k d_L_set.b tk (ea_cons (ee_pv (pv 7)) (ea_cons (ee_pv (pv 1)) ea_nil))) ea_nil)) (ee_call F_L_set (hr.mono (by decide)) rfl d_L_set.g d_L_set.k d_L_set.b tk (ea_cons (ee_pv (pv 8)) (ea_cons (ee_pv (pv 1)) ea_nil)))) (ss_one (ss_ret ee_bl)) ss_nil))) (ss_cons (ss_for (vs := [6]) (passes_of rfl) rfl (ei_range1 rfl c.n_range (ea_cons ee_int ea_nil)) (pg_name (i := 6) sc_L_taken_right.nd rfl (by first | exact Or.inl rfl | exact Or.inr rfl)) (tgt_name 6 (by decide)) (ss_cons (ss_set (i := 9) sc_L_taken_right.nd rfl (by first | exact Or.inl rfl | exact Or.inr rfl) (ee_call F_L_set (hr.mono (by decide)) rfl d_L_set.g d_L_set.k d_L_set.b tk (ea_cons (ee_call F_L_pick (hr.mono (by decide)) rfl d_L_pick.g d_L_pick.k d_L_pick.b tk (ea_cons (ee_pv (pv 0)) (ea_cons (ee_pv (pv 2)) ea_nil))) (ea_cons (ee_pv (pv 1)) ea_nil)))) (ss_cons (ss_set (i := 10) sc_L_taken_right.nd rfl (by first | exact Or.inl rfl | exact Or.inr rfl) (ee_call F_L_odd (hr.mono (by decide)) rfl d_L_odd.g d_L_odd.k d_L_odd.b tk (ea_cons (ee_pv (pv 0)) (ea_cons (ee_pv (pv 1)) (ea_cons (ee_pv (pv 9)) ea_nil))))) (ss_cons (ss_set (i := 11) sc_L_taken_right.nd rfl (by first | exact Or.inl rfl | exact Or.inr rfl) (ee_call F_L_refused (hr.mono (by decide)) rfl d_L_refused.g d_L_refused.k d_L_refused.b tk (ea_cons (ee_pv (pv 4)) (ea_cons (ee_pv (pv 10)) (ea_cons (ee_cmp (op_eqD hu) (d_eq hK) (ee_pv (pv 6)) ee_int) ea_nil))))) (ss_cons (ss_if (PW.pt (ew_or (et_cmp ((op_eqD hu).or (op_eqTz hK hu)) (Does2.or (d_eq hK) d_eqTz) (ee_pv (pv 11)) (ee_tup ea_nil)) (ew_or (et_not (et_cmp ((op_eqD hu).or (op_eqA hK hu)) (Does2.or (d_eq hK) d_eqA) (ee_ixA hK hP hw hu (ee_pv (pv 11)) ee_int) (ee_pv (pv 10)))) (ew_or1 (et_cmp (op_neD hu) (d_ne hK) (ee_isi (ans_b hK c.own "bool") rfl c.n_isinstance (ee_ixA hK hP hw hu (ee_pv (pv 11)) ee_int) (pe_bltn (v := .ty "bool") rfl c.n_bool (by decide +kernel) rfl) (.ty _)) (ee_isi (ans_b hK c.own "bool") rfl c.n_isinstance (ee_pv (pv 10)) (pe_bltn (v := .ty "bool") rfl c.n_bool (by decide +kernel) rfl) (.ty _))))))) (ss_one (ss_ret ee_bl)) ss_nil) (ss_one (ss_if (PW.pt (ew_or (et_cmp (op_neD hu) (d_ne hK) (ee_methK (ks := ["some"]) (js := [0]) c.c_Chooser.own.cl d_Chooser_taken.methC (no_of c.c_Chooser.fl rfl) F_Chooser_taken (hr.mono (by decide)) d_Chooser_taken_k3 tk (ee_pv (pv 4)) (ek_cons (pk_cons (ee_pv (pv 9)) ek_nil))) (ee_meth c.c_Chooser.own.cl d_Chooser_taken.methC (no_of c.c_Chooser.fl rfl) F_Chooser_taken (hr.mono (by decide)) d_Chooser_taken.b tk (ee_pv (pv 4)) (ea_cons (ee_pv (pv 9)) ea_nil))) (ew_or1 (et_cmp (op_neD hu) (d_ne hK) (ee_call F_L_refused (hr.mono (by decide)) rfl d_L_refused.g d_L_refused.k d_L_refused.b tk (ea_cons (ee_pv (pv 4)) (ea_cons (ee_pv (pv 9)) (ea_cons ee_bl ea_nil)))) (ee_tup ea_nil))))) (ss_one (ss_ret ee_bl)) ss_nil))))))) (ss_one (ss_ret (ee_and (ee_cmp (op_eqTo hK F_Chooser_eq (hr.mono (by decide)) d_Chooser_eq.at_ d_Chooser_eq.fn d_Chooser_eq.b) d_eqTo (ee_call F_L_refused (hr.mono (by decide)) rfl d_L_refused.g d_L_refused.k d_L_refused.b tk (ea_cons (ee_pv (pv 4)) (ea_cons (ee_pv (pv 4)) (ea_cons ee_bl ea_nil)))) (ee_tup (ea_cons (ee_pv (pv 4)) ea_nil))) (ee_one (ee_cmp (op_eqD hu) (d_eq hK) (ee_fld c.c_Chooser.own.cl (c.c_Chooser.no _ (by decide)) (ix_of c.c_Chooser.fl rfl) (ee_pv (pv 4))) (ee_pv (pv 5))))))))))))))
theorem sc_law : FnScope ["_law_script", "_law_deck_here"] ["_law_script"] (defScope (top 34)) := ⟨rfl, rfl, rfl, by decide +kernel, rfl, by decide +kernel, by decide +kernel⟩
theorem okLaw {cls : Nat → Addr} {flds : Nat → List Str} {tb : List (Addr × Str)} (c : Facts K mg cls flds) (lm : LmAll K mg base tb)  {f : Addr} {fd : FuncData} {cdv : Value} (F : FunC K "law" "law" (top 34) f fd cdv) (hall : (sL (envL 2)).wp N0 (fun o _ => o = .ret (.bl true)) (fun _ _ _ => False)) : FnOk P w K mg base (L2.CX P w) 9 f fd ["_law_script"] (spLaw K tb) := by
  obtain ⟨f_L_deck, fd_L_deck, d_L_deck⟩ := c.d_L_deck
  have FD : FnOk P w K mg base (L2.CX P w) 2 f_L_deck fd_L_deck ["_law_script"] (spDeck K kdC N0 tb) := deck_spC (by decide) fun o0 pl as ns hsq => ok_L_deck (o0 := o0) (pl := pl) (as := as) hsq c d_L_deck
  obtain ⟨f_L_sets_right, fd_L_sets_right, d_L_sets_right⟩ := c.d_L_sets_right
  obtain ⟨f_L_taken_right, fd_L_taken_right, d_L_taken_right⟩ := c.d_L_taken_right
  refine law_ok (cls := cls) (flds := flds) (k := 8) (E0 := fun E σ cls d H' => E cls d H') F sc_law (by decide) rfl (fun A outer s0 H E hr => ps_set (i := 1) sc_law.nd rfl (by first | exact Or.inl rfl | exact Or.inr rfl) (pe_callS FD (hr.mono (by decide)) rfl d_L_deck.g d_L_deck.k d_L_deck.b (fun σ => passAt (takes_of rfl rfl rfl rfl) σ) (pa_cons (pv 0) pa_nil))) (fun p cl A outer s0 H E hr => ?_) hall
  have F_L_sets_right := ok_L_sets_right (P := P) (w := w) (base := base) (p := p) (cl := cl) (tb := tb) c lm d_L_sets_right
  have F_L_taken_right := ok_L_taken_right (P := P) (w := w) (base := base) (p := p) (cl := cl) (tb := tb) c lm d_L_taken_right
  have hK : (mkG P w K cls flds kdC p cl tb).K = K := rfl
  have hP : (mkG P w K cls flds kdC p cl tb).P = P := rfl
  have hw : (mkG P w K cls flds kdC p cl tb).w = w := rfl
  have hl : (mkG P w K cls flds kdC p cl tb).lk := trivial
  have tk : Takes (cxOf (L2.CX P w) P w K mg base ["_law_script", "_law_deck_here"] "law" (defScope (top 34)) f cdv A outer s0 H E) (fun cls dx _ H' => E cls dx H') := takes_of rfl rfl rfl rfl
  have hu : (A.deeper (PyProof.Rows.envOfC "law" (defScope (top 34)) s0.heap.objs.size f cdv)).units + 64 < cLine := room64 hr
  exact (ss_one (ss_ret (ee_and (ee_call F_L_sets_right (hr.mono (by decide)) rfl d_L_sets_right.g d_L_sets_right.k d_L_sets_right.b tk (ea_cons (ee_pv (pv 1)) ea_nil)) (ee_one (ee_call F_L_taken_right (hr.mono (by decide)) rfl d_L_taken_right.g d_L_taken_right.k d_L_taken_right.b tk (ea_cons (ee_pv (pv 1)) ea_nil))))))
end
end Py
set_option Elab.async false
set_option linter.all false
namespace Py
namespace Hk
open PySem PySem.Spec PyProof.Rows L2
theorem names_pair {K : PySem.W.Frag} : ∀ {xs : List Str} {Ps : List Addr} {p : Addr × Str}, p ∈ namesA xs Ps → ∃ c, (c, p.1) ∈ pairsA K xs Ps
  | xs, [], p, h => by
    unfold namesA at h
    cases h
  | [], P :: Ps, p, h => by
    unfold namesA at h
    simp at h
  | x :: xs, P :: Ps, p, h => by
    have h : p ∈ (P, x ++ ".<locals>." ++ "<lambda>") :: namesA xs Ps := h
    rcases List.mem_cons.mp h with rfl | h
    · exact ⟨codeA K x, List.mem_cons_self ..⟩
    · obtain ⟨c, hc⟩ := names_pair (K := K) h
      exact ⟨c, List.mem_cons_of_mem _ hc⟩
end Hk
end Py
set_option Elab.async false
set_option linter.all false
set_option maxRecDepth 100000
/-! a head's hook whose look goes by a mask of what was met -/
namespace Py
namespace Hk
open PySem PySem.Spec PyProof.Rows L2
def bitB (m a : Nat) : Bool := Nat.beq (Nat.land (Nat.shiftRight m a) 1) 1
def addM : List Addr → Nat → List Addr → (Nat → List Addr → List Addr) → List Addr
  | [], m, acc, k => k m acc
  | r :: rs, m, acc, k => match bitB m r with
    | true => addM rs m acc k
    | false => addM rs (Nat.lor m (Nat.shiftLeft 1 r)) (r :: acc) k
def stepM (g : Addr → Option Obj) : List Addr → Nat → List Addr → (Nat → List Addr → List Addr) → List Addr
  | [], m, acc, k => k m acc
  | a :: fr, m, acc, k => match g a with
    | some o => addM (He.refsD o) m acc fun m acc => stepM g fr m acc k
    | none => stepM g fr m acc k
def asM (g : Addr → Option Obj) : Nat → List Addr → Nat → List Addr
  | 0, fr, _ => fr
  | n + 1, fr, m => fr ++ stepM g fr m [] fun m fr => asM g n fr m
def asX (g : Addr → Option Obj) (n : Nat) : List Addr := asM g n [mainGlobals] (Nat.shiftLeft 1 mainGlobals)
def obsGm (n : Nat) (ck : List (PySem.W.Frag → Bool)) (fn : List He.DefD) (xs : List Str) (g : Addr → Option Obj) : Bool × He.AlD := obsTs ck fn xs g (asX g n) (tabsA (He.frG g (asX g n)) xs)
def hookM (n : Nat) (ck : List (PySem.W.Frag → Bool)) (fn : List He.DefD) (xs : List Str) : PySem.W.Hook where
  α := Bool × He.AlD
  obs := fun s => obsGm n ck fn xs s.heap.get?
  val := fun _ => (true, He.valD fn)
  says := fun _ h => SaysS ck fn xs h
  of := fun _ s e => by
    have e1 : ((tabsA (He.frG s.heap.get? (asX s.heap.get? n)) xs).all fun P => tblB (s.heap.get? P), obsKs ck fn xs _ _) = (true, He.valD fn) := e
    have e2 := congrArg Prod.fst e1
    exact ⟨_, tabsA (He.frG s.heap.get? (asX s.heap.get? n)) xs, He.frG_in, fun P hP => frG_outs (by simpa using hP) _, fun P hP => tblB_ok (List.all_eq_true.mp e2 P hP), congrArg Prod.snd e1⟩
  keeps := fun _ _ _ ⟨K, P, h1, h2, h3, h4⟩ k => ⟨K, P, PySem.W.Frag.In.keeps h1 k, h2, fun Q hQ => k _ _ (h3 Q hQ), h4⟩
theorem obs_eqM {n : Nat} {ck : List (PySem.W.Frag → Bool)} {fn : List He.DefD} {xs : List Str} {g : Addr → Option Obj} {s : Shared} (h : ∀ a, g a = s.heap.get? a) : obsGm n ck fn xs g = (hookM n ck fn xs).obs s := by
  have e : g = s.heap.get? := funext h
  rw [e] <;> rfl
end Hk
end Py
set_option Elab.async false
set_option linter.all false
set_option maxRecDepth 100000
/-! the head's run, looked at in parts -/
namespace Py
namespace Hk
open PySem PySem.Spec PyProof.Rows L2
open HandSHeadRun PySem.W PySem.Calls in
theorem run_join {r : OpenRow} {q : Program} {H : Hook} {ob : SharedT → H.α} {M : Nat} {loose : List PySem.Str} {w : World} (e0 : (wholeF (fun p => stepQ (denQ tabQ) p w) fenceQ M r.prog).map (fun x => (looksF r.prog x.1.heap x.2.abs, seenQ q loose (importedModules r.prog.main.body) (fun s => xlAt q [] s && recOk r.toRowW.records s) x.2.abs)) = some (true, openGood q loose))
    (e1 : (wholeF (fun p => stepQ (denQ tabQ) p w) fenceQ M r.prog).map (fun x => ob x.2) = some (H.val w)) : RunEqI r q H ob M loose w := by
  unfold RunEqI
  cases hm : wholeF (fun p => stepQ (denQ tabQ) p w) fenceQ M r.prog with
  | none =>
    rw [hm] at e0
    cases e0
  | some x =>
    rw [hm] at e0 e1
    have a := Option.some.inj e0
    have b : ob x.2 = H.val w := Option.some.inj e1
    have a1 := congrArg Prod.fst a
    have a2 := congrArg Prod.snd a
    dsimp only at a1 a2
    show some (looksF r.prog x.1.heap x.2.abs, seenQ q loose (importedModules r.prog.main.body) (fun s => xlAt q [] s && recOk r.toRowW.records s) x.2.abs, ob x.2) = _
    rw [a1, a2, b]
end Hk
end Py
set_option Elab.async false
set_option linter.all false
set_option maxRecDepth 100000
set_option maxHeartbeats 4000000
/-! the head's fact of an error class with two parameters -/
namespace Py
namespace Hk
open PySem PySem.Spec PyProof.Rows L2
section
variable {K : PySem.W.Frag} {h : Heap} {mg : Str → Option Value} {x q : Str} {st : Stmt} {ps : List Str} {kws : List (Str × V)} {fd : FuncData}
end
end Hk
end Py
set_option Elab.async false
set_option linter.all false
set_option maxRecDepth 100000
set_option maxHeartbeats 0
namespace Py
namespace Hk
open PySem PySem.Spec PyProof.Rows L2
def names : List Str := (["Against", "BadCalendar", "BadChange", "BadChooser", "BadDated", "BadDeed", "BadList", "BadLists", "BadName", "BadNote"] : List Str) ++ (["BadNotebook", "BadOffer", "BadOffice", "BadPart", "BadPosition", "BadPromise", "BadQuestion", "BadRelay", "BadSet", "BadShares"] : List Str) ++ (["BadStream", "BadText", "BadTrade", "BadWorths", "CannotKeep", "Chooser", "Console", "Desk", "EditionNotApart", "Full"] : List Str) ++ (["House", "InvalidCommand", "Keeper", "Market", "NameTaken", "NoName", "NoPromise", "NotWished", "NothingToUndo", "OfferError"] : List Str)
def fls : List (List Str) := ([[], [], [], ["part"], [], [], [], [], [], []] : List (List Str)) ++ ([[], [], [], [], [], [], [], [], ["thing"], []] : List (List Str)) ++ ([[], ["line"], [], [], [], ["offers", "picks", "_table"], [], [], [], []] : List (List Str)) ++ ([[], [], [], [], [], [], [], [], [], []] : List (List Str))
def fnL : List He.DefD := [⟨("Chooser", some "__len__"), "__len__", "Chooser.__len__", defArgs (meth 15 1), defBody (meth 15 1), defScope (meth 15 1), [], []⟩, ⟨("parts_of", none), "parts_of", "parts_of", defArgs (top 19), defBody (top 19), defScope (top 19), [], []⟩, ⟨("all_sets", none), "all_sets", "all_sets", defArgs (top 18), defBody (top 18), defScope (top 18), [], []⟩, ⟨("is_integer", none), "is_integer", "is_integer", defArgs (top 7), defBody (top 7), defScope (top 7), [], []⟩, ⟨("is_integer_within", none), "is_integer_within", "is_integer_within", defArgs (top 8), defBody (top 8), defScope (top 8), [], []⟩, ⟨("is_set", none), "is_set", "is_set", defArgs (top 16), defBody (top 16), defScope (top 16), [], []⟩, ⟨("is_within", none), "is_within", "is_within", defArgs (top 21), defBody (top 21), defScope (top 21), [], []⟩, ⟨("Chooser", some "__init__"), "__init__", "Chooser.__init__", defArgs (meth 15 0), defBody (meth 15 0), defScope (meth 15 0), [], []⟩, ⟨("Chooser", some "__eq__"), "__eq__", "Chooser.__eq__", defArgs (meth 15 2), defBody (meth 15 2), defScope (meth 15 2), [], []⟩, ⟨("_law_deck", none), "_law_deck", "_law_deck", defArgs (top 25), defBody (top 25), defScope (top 25), [], []⟩, ⟨("_law_set", none), "_law_set", "_law_set", defArgs (top 29), defBody (top 29), defScope (top 29), [], []⟩, ⟨("_law_bits", none), "_law_bits", "_law_bits", defArgs (top 28), defBody (top 28), defScope (top 28), [], []⟩, ⟨("_law_draw", none), "_law_draw", "_law_draw", defArgs (top 26), defBody (top 26), defScope (top 26), [], []⟩, ⟨("_law_pick", none), "_law_pick", "_law_pick", defArgs (top 27), defBody (top 27), defScope (top 27), [], []⟩, ⟨("together", none), "together", "together", defArgs (top 20), defBody (top 20), defScope (top 20), [], []⟩, ⟨("_law_odd", none), "_law_odd", "_law_odd", defArgs (top 30), defBody (top 30), defScope (top 30), [], []⟩, ⟨("_law_sets_right", none), "_law_sets_right", "_law_sets_right", defArgs (top 32), defBody (top 32), defScope (top 32), [], []⟩, ⟨("require_set", none), "require_set", "require_set", defArgs (top 17), defBody (top 17), defScope (top 17), [], []⟩, ⟨("Chooser", some "taken"), "taken", "Chooser.taken", defArgs (meth 15 5), defBody (meth 15 5), defScope (meth 15 5), [], []⟩, ⟨("_law_refused", none), "_law_refused", "_law_refused", defArgs (top 31), defBody (top 31), defScope (top 31), [], []⟩, ⟨("_law_taken_right", none), "_law_taken_right", "_law_taken_right", defArgs (top 33), defBody (top 33), defScope (top 33), [], []⟩, ⟨("law", none), "law", "law", defArgs (top 34), defBody (top 34), defScope (top 34), [], []⟩, ⟨("BadChooser", some "__init__"), "__init__", "BadChooser.__init__", defArgs (meth 4 0), defBody (meth 4 0), defScope (meth 4 0), [], []⟩, ⟨("BadSet", some "__init__"), "__init__", "BadSet.__init__", defArgs (meth 5 0), defBody (meth 5 0), defScope (meth 5 0), [], []⟩]
def ckL : List (PySem.W.Frag → Bool) := [mnB "Chooser" "__len__", gloB "parts_of", gloB "all_sets", gloB "is_integer", gloB "is_integer_within", gloB "is_set", gloB "is_within", mnB "Chooser" "__init__", mnB "Chooser" "__eq__", gloB "_law_deck", gloB "_law_set", gloB "_law_bits", gloB "_law_draw", gloB "_law_pick", gloB "together", gloB "_law_odd", gloB "_law_sets_right", gloB "require_set", mnB "Chooser" "taken", gloB "_law_refused", gloB "_law_taken_right", freeB "all", freeB "bool", freeB "enumerate", freeB "int", freeB "isinstance", freeB "len", freeB "list", freeB "range", freeB "set", freeB "sorted", freeB "sum", freeB "tuple", freeB "zip", intB "MOST_OFFERS" 6, cnB "Chooser" ["offers", "picks", "_table"], tyvB "combinations" Cm.T0, knB names 25 [25], krB names 25, txtB "BadChooser" "part", txtB "BadSet" "thing", xnB names 39 [3, 18, 21], gloB "law"]
def lamL : List Str := []
abbrev R : PySem.W.OpenRow := PySem.W.OpenLaw.row PySem.Challenge.rw_offerstands_k03_sets_and_what_is_taken
abbrev hkL : PySem.W.Hook := hookM 5 ckL fnL lamL
def obL (s : PySem.W.SharedT) : Bool × He.AlD := obsGm 5 ckL fnL lamL (HandSHeadRun.getT s)
theorem obL_eq (s : PySem.W.SharedT) : obL s = hkL.obs s.abs := obs_eqM (HandSHeadRun.getT_eq s)
def loose : List Str := ((["OfferError", "BadText", "BadChooser", "BadSet", "is_integer", "is_integer_within", "text_lines", "numbered_head", "line_at", "require_last"] : List Str) ++ (["MOST_OFFERS", "Chooser", "is_set", "require_set", "all_sets", "parts_of", "together", "is_within", "set_text", "picks_read"] : List Str) ++ (["_law_deck", "_law_draw", "_law_pick", "_law_bits", "_law_set", "_law_odd", "_law_refused", "_law_sets_right", "_law_taken_right"] : List Str))
section
open HandSHeadRun PySem.W PySem.Calls
theorem runL_0 (w : World) : (wholeF (fun p => stepQ (denQ tabQ) p w) fenceQ 40000 R.prog).map (fun x => (looksF R.prog x.1.heap x.2.abs, seenQ (PySem.W.view R.prog [0, 34]) ((["OfferError", "BadText", "BadChooser", "BadSet", "is_integer", "is_integer_within", "text_lines", "numbered_head", "line_at", "require_last"] : List Str) ++ (["MOST_OFFERS", "Chooser", "is_set", "require_set", "all_sets", "parts_of", "together", "is_within", "set_text", "picks_read"] : List Str) ++ (["_law_deck", "_law_draw", "_law_pick", "_law_bits", "_law_set", "_law_odd", "_law_refused", "_law_sets_right", "_law_taken_right"] : List Str)) (importedModules R.prog.main.body) (fun s => xlAt (PySem.W.view R.prog [0, 34]) [] s && recOk R.toRowW.records s) x.2.abs)) = some (true, openGood (PySem.W.view R.prog [0, 34]) ((["OfferError", "BadText", "BadChooser", "BadSet", "is_integer", "is_integer_within", "text_lines", "numbered_head", "line_at", "require_last"] : List Str) ++ (["MOST_OFFERS", "Chooser", "is_set", "require_set", "all_sets", "parts_of", "together", "is_within", "set_text", "picks_read"] : List Str) ++ (["_law_deck", "_law_draw", "_law_pick", "_law_bits", "_law_set", "_law_odd", "_law_refused", "_law_sets_right", "_law_taken_right"] : List Str))) := by
  kernel_rfl
def fnL_0 : List He.DefD := [⟨("Chooser", some "__len__"), "__len__", "Chooser.__len__", defArgs (meth 15 1), defBody (meth 15 1), defScope (meth 15 1), [], []⟩, ⟨("parts_of", none), "parts_of", "parts_of", defArgs (top 19), defBody (top 19), defScope (top 19), [], []⟩, ⟨("all_sets", none), "all_sets", "all_sets", defArgs (top 18), defBody (top 18), defScope (top 18), [], []⟩, ⟨("is_integer", none), "is_integer", "is_integer", defArgs (top 7), defBody (top 7), defScope (top 7), [], []⟩, ⟨("is_integer_within", none), "is_integer_within", "is_integer_within", defArgs (top 8), defBody (top 8), defScope (top 8), [], []⟩, ⟨("is_set", none), "is_set", "is_set", defArgs (top 16), defBody (top 16), defScope (top 16), [], []⟩, ⟨("is_within", none), "is_within", "is_within", defArgs (top 21), defBody (top 21), defScope (top 21), [], []⟩, ⟨("Chooser", some "__init__"), "__init__", "Chooser.__init__", defArgs (meth 15 0), defBody (meth 15 0), defScope (meth 15 0), [], []⟩, ⟨("Chooser", some "__eq__"), "__eq__", "Chooser.__eq__", defArgs (meth 15 2), defBody (meth 15 2), defScope (meth 15 2), [], []⟩, ⟨("_law_deck", none), "_law_deck", "_law_deck", defArgs (top 25), defBody (top 25), defScope (top 25), [], []⟩, ⟨("_law_set", none), "_law_set", "_law_set", defArgs (top 29), defBody (top 29), defScope (top 29), [], []⟩, ⟨("_law_bits", none), "_law_bits", "_law_bits", defArgs (top 28), defBody (top 28), defScope (top 28), [], []⟩, ⟨("_law_draw", none), "_law_draw", "_law_draw", defArgs (top 26), defBody (top 26), defScope (top 26), [], []⟩, ⟨("_law_pick", none), "_law_pick", "_law_pick", defArgs (top 27), defBody (top 27), defScope (top 27), [], []⟩, ⟨("together", none), "together", "together", defArgs (top 20), defBody (top 20), defScope (top 20), [], []⟩, ⟨("_law_odd", none), "_law_odd", "_law_odd", defArgs (top 30), defBody (top 30), defScope (top 30), [], []⟩, ⟨("_law_sets_right", none), "_law_sets_right", "_law_sets_right", defArgs (top 32), defBody (top 32), defScope (top 32), [], []⟩, ⟨("require_set", none), "require_set", "require_set", defArgs (top 17), defBody (top 17), defScope (top 17), [], []⟩, ⟨("Chooser", some "taken"), "taken", "Chooser.taken", defArgs (meth 15 5), defBody (meth 15 5), defScope (meth 15 5), [], []⟩, ⟨("_law_refused", none), "_law_refused", "_law_refused", defArgs (top 31), defBody (top 31), defScope (top 31), [], []⟩, ⟨("_law_taken_right", none), "_law_taken_right", "_law_taken_right", defArgs (top 33), defBody (top 33), defScope (top 33), [], []⟩, ⟨("law", none), "law", "law", defArgs (top 34), defBody (top 34), defScope (top 34), [], []⟩, ⟨("BadChooser", some "__init__"), "__init__", "BadChooser.__init__", defArgs (meth 4 0), defBody (meth 4 0), defScope (meth 4 0), [], []⟩, ⟨("BadSet", some "__init__"), "__init__", "BadSet.__init__", defArgs (meth 5 0), defBody (meth 5 0), defScope (meth 5 0), [], []⟩]
def ckL_0 : List (PySem.W.Frag → Bool) := [mnB "Chooser" "__len__", gloB "parts_of", gloB "all_sets", gloB "is_integer", gloB "is_integer_within", gloB "is_set", gloB "is_within", mnB "Chooser" "__init__", mnB "Chooser" "__eq__", gloB "_law_deck", gloB "_law_set", gloB "_law_bits", gloB "_law_draw", gloB "_law_pick", gloB "together", gloB "_law_odd", gloB "_law_sets_right", gloB "require_set", mnB "Chooser" "taken", gloB "_law_refused", gloB "_law_taken_right", freeB "all", freeB "bool", freeB "enumerate", freeB "int", freeB "isinstance", freeB "len", freeB "list", freeB "range", freeB "set", freeB "sorted", freeB "sum", freeB "tuple", freeB "zip", intB "MOST_OFFERS" 6, cnB "Chooser" ["offers", "picks", "_table"], tyvB "combinations" Cm.T0, knB names 25 [25], krB names 25, txtB "BadChooser" "part", txtB "BadSet" "thing", xnB names 39 [3, 18, 21], gloB "law"]
theorem runP_0 (w : World) : (wholeF (fun p => stepQ (denQ tabQ) p w) fenceQ 40000 R.prog).map (fun x => obsGm 5 ckL_0 fnL_0 lamL (getT x.2)) = some (true, He.valD fnL_0) := by
  kernel_rfl
theorem ckL_eq : ckL = ckL_0 := rfl
theorem fnL_eq : fnL = fnL_0 := rfl
theorem runP (w : World) : (wholeF (fun p => stepQ (denQ tabQ) p w) fenceQ 40000 R.prog).map (fun x => obsGm 5 ckL fnL lamL (getT x.2)) = some (true, He.valD fnL) := by
  rw [ckL_eq, fnL_eq]
  exact (runP_0 w)
theorem runO (w : World) : (wholeF (fun p => stepQ (denQ tabQ) p w) fenceQ 40000 R.prog).map (fun x => obL x.2) = some (hkL.val w) := runP w
theorem runL (w : World) : RunEqI R (PySem.W.view R.prog [0, 34]) hkL obL 40000 ((["OfferError", "BadText", "BadChooser", "BadSet", "is_integer", "is_integer_within", "text_lines", "numbered_head", "line_at", "require_last"] : List Str) ++ (["MOST_OFFERS", "Chooser", "is_set", "require_set", "all_sets", "parts_of", "together", "is_within", "set_text", "picks_read"] : List Str) ++ (["_law_deck", "_law_draw", "_law_pick", "_law_bits", "_law_set", "_law_odd", "_law_refused", "_law_sets_right", "_law_taken_right"] : List Str)) w := run_join (runL_0 w) (runO w)
end
theorem factsL {K : PySem.W.Frag} {Ps : List Addr} {h : Heap} {mg : Str → Option Value} (X : K.In h) (G : h.Ns mainGlobals mg) (c : obsKs ckL fnL lamL K Ps = He.valD fnL) : Facts K mg (clsK names K) (fldsK fls) where
  d_Chooser_len := mn_ok (x := "Chooser") (defS c 0) (factS c 0) (fun _ _ _ _ _ _ us hl => match us, hl with | [_], _ => rfl)
  d_parts_of := dn_ok X G (defS c 1) (factS c 1) (fun _ _ _ _ _ _ us hl => match us, hl with | [_], _ => rfl)
  d_all_sets := dn_ok X G (defS c 2) (factS c 2) (fun _ _ _ _ _ _ us hl => match us, hl with | [_], _ => rfl)
  d_is_integer := dn_ok X G (defS c 3) (factS c 3) (fun _ _ _ _ _ _ us hl => match us, hl with | [_], _ => rfl)
  d_is_integer_within := dn_ok X G (defS c 4) (factS c 4) (fun _ _ _ _ _ _ us hl => match us, hl with | [_, _, _], _ => rfl)
  d_is_set := dn_ok X G (defS c 5) (factS c 5) (fun _ _ _ _ _ _ us hl => match us, hl with | [_, _], _ => rfl)
  d_is_within := dn_ok X G (defS c 6) (factS c 6) (fun _ _ _ _ _ _ us hl => match us, hl with | [_, _], _ => rfl)
  d_Chooser_init := mn_ok (x := "Chooser") (defS c 7) (factS c 7) (fun _ _ _ _ _ _ us hl => match us, hl with | [_, _, _], _ => rfl)
  d_Chooser_eq := mn_ok (x := "Chooser") (defS c 8) (factS c 8) (fun _ _ _ _ _ _ us hl => match us, hl with | [_, _], _ => rfl)
  d_L_deck := dn_ok X G (defS c 9) (factS c 9) (fun _ _ _ _ _ _ us hl => match us, hl with | [_], _ => rfl)
  d_L_set := dn_ok X G (defS c 10) (factS c 10) (fun _ _ _ _ _ _ us hl => match us, hl with | [_, _], _ => rfl)
  d_L_bits := dn_ok X G (defS c 11) (factS c 11) (fun _ _ _ _ _ _ us hl => match us, hl with | [_], _ => rfl)
  d_L_draw := dn_ok X G (defS c 12) (factS c 12) (fun _ _ _ _ _ _ us hl => match us, hl with | [_, _], _ => rfl)
  d_L_pick := dn_ok X G (defS c 13) (factS c 13) (fun _ _ _ _ _ _ us hl => match us, hl with | [_, _], _ => rfl)
  d_together := dn_ok X G (defS c 14) (factS c 14) (fun _ _ _ _ _ _ us hl => match us, hl with | [_, _], _ => rfl)
  d_L_odd := dn_ok X G (defS c 15) (factS c 15) (fun _ _ _ _ _ _ us hl => match us, hl with | [_, _, _], _ => rfl)
  d_L_sets_right := dn_ok X G (defS c 16) (factS c 16) (fun _ _ _ _ _ _ us hl => match us, hl with | [_], _ => rfl)
  d_require_set := dn_ok X G (defS c 17) (factS c 17) (fun _ _ _ _ _ _ us hl => match us, hl with | [_, _], _ => rfl)
  d_Chooser_taken := mn_ok (x := "Chooser") (defS c 18) (factS c 18) (fun _ _ _ _ _ _ us hl => match us, hl with | [_, _], _ => rfl)
  d_L_refused := dn_ok X G (defS c 19) (factS c 19) (fun _ _ _ _ _ _ us hl => match us, hl with | [_, _, _], _ => rfl)
  d_L_taken_right := dn_ok X G (defS c 20) (factS c 20) (fun _ _ _ _ _ _ us hl => match us, hl with | [_], _ => rfl)
  d_all_sets_k0 := kd_ok fun _ _ _ _ _ _ us ws l1 l2 => match us, ws, l1, l2 with | [], [_], _, _ => rfl
  d_together_k1 := kd_ok fun _ _ _ _ _ _ us ws l1 l2 => match us, ws, l1, l2 with | [], [_, _], _, _ => rfl
  d_is_set_k2 := kd_ok fun _ _ _ _ _ _ us ws l1 l2 => match us, ws, l1, l2 with | [], [_, _], _, _ => rfl
  d_Chooser_taken_k3 := kd_ok fun _ _ _ _ _ _ us ws l1 l2 => match us, ws, l1, l2 with | [_], [_], _, _ => rfl
  n_all := He.free_ok X G (factS c 21)
  n_bool := He.free_ok X G (factS c 22)
  n_enumerate := He.free_ok X G (factS c 23)
  n_int := He.free_ok X G (factS c 24)
  n_isinstance := He.free_ok X G (factS c 25)
  n_len := He.free_ok X G (factS c 26)
  n_list := He.free_ok X G (factS c 27)
  n_range := He.free_ok X G (factS c 28)
  n_set := He.free_ok X G (factS c 29)
  n_sorted := He.free_ok X G (factS c 30)
  n_sum := He.free_ok X G (factS c 31)
  n_tuple := He.free_ok X G (factS c 32)
  n_zip := He.free_ok X G (factS c 33)
  k_MOST_OFFERS := He.int_ok X G (factS c 34)
  c_Chooser := cn_ok X G rfl (factS c 35)
  i_comb := tyv_ok X G (factS c 36)
  q_Chooser := kn_ok (factS c 37)
  r_Chooser := kr_ok (factS c 38)
  e_BadChooser := en_ok X G (defS c 22) (factS c 39) rfl rfl rfl rfl ⟨by decide, by decide⟩ fun _ _ _ _ _ _ _ _ _ _ _ _ _ _ => rfl
  e_BadSet := en_ok X G (defS c 23) (factS c 40) rfl rfl rfl rfl ⟨by decide, by decide⟩ fun _ _ _ _ _ _ _ _ _ _ _ _ _ _ => rfl
  x := xn_ok X G (factS c 41) (by decide)
  own := fun _ z => nomatch z
theorem lmL {K : PySem.W.Frag} {Ps : List Addr} {h base : Heap} {mg : Str → Option Value} (X : K.In h) (G : h.Ns mainGlobals mg) (c : obsKs ckL fnL lamL K Ps = He.valD fnL) (TB : ∀ p ∈ pairsA K lamL Ps, LamX.TabB base mg p.1 p.2) : LmAll K mg base (namesA lamL Ps) where
  t := trivial
end Hk
end Py
set_option Elab.async false
set_option linter.all false
set_option maxRecDepth 100000
set_option maxHeartbeats 4000000
namespace Py
open PySem PySem.Spec L2
theorem truth_bl (b : Bool) : truth (.bl b) = .ret b := rfl
theorem truth_non : truth .non = .ret false := rfl
/-! ### what the defs do: sets -/
theorem alls_ok : ((List.range 7).all fun n => isR (m_all_sets [eI n]) (eTT (allS n))) = true := by decide +kernel
theorem is_set_ok : ((List.range 7).all fun n => (allS n).all fun s => isR (m_is_set [eI n, eT s]) (.bl true)) = true := by decide +kernel
def uni (a b : List Nat) : List Nat := (List.range 6).filter fun k => a.contains k || b.contains k
def sub (a b : List Nat) : Bool := a.all fun x => b.contains x
theorem boolsD_map : ∀ l : List Bool, boolsD (l.map D.bl) = some l
  | [] => rfl
  | b :: l => by
    show (boolsD (l.map D.bl)).map (b :: ·) = some (b :: l)
    rw [boolsD_map l]
    rfl
theorem within_eq {a b : List Nat} (h : a.length ≤ 100000) : m_is_within [eT a, eT b] = .ret (.bl (sub a b)) := by
  simp only [m_is_within, fn, sRet, gCall, gCons, gNil]
  rw [gComp_all eI (fun x => D.bl (b.contains x)) (l := a)]
  · show runS (bindS (opt (allB [.lst (a.map fun x => D.bl (b.contains x))])) _ _) = _
    have e : a.map (fun x => D.bl (b.contains x)) = (a.map b.contains).map D.bl := by rw [List.map_map]; rfl
    have e2 : allB [.lst (a.map fun x => D.bl (b.contains x))] = some (.bl (sub a b)) := by
      show (boolsD (a.map fun x => D.bl (b.contains x))).map _ = _
      rw [e, boolsD_map]
      show some (D.bl ((a.map b.contains).all id)) = _
      rw [List.all_map]
      rfl
    rw [e2]
    rfl
  · rfl
  · exact h
  · intro x _
    refine ⟨_, rfl, ?_⟩
    show opt ((inD false (eI x) (eT b)).or _) = _
    rw [in_T]
    rfl
theorem ints_map : ∀ l : List Nat, intsD (l.map eI) = some (l.map fun (n : Nat) => (n : Int))
  | [] => rfl
  | n :: l => by
    show (intsD (l.map eI)).map ((n : Int) :: ·) = _
    rw [ints_map l]
    rfl
theorem setI_T {a : List Nat} (h : ∀ x ∈ a, x < 7) (hl : a.length ≤ 100) : setI (eT a) = some (a.map fun (n : Nat) => (n : Int)) := by
  show ((intsD (a.map eI)).bind fun ns => if small7 ns && decide (ns.length ≤ 100) then some ns else none) = _
  rw [ints_map]
  show (if small7 (a.map fun (n : Nat) => (n : Int)) && decide ((a.map fun (n : Nat) => (n : Int)).length ≤ 100) then some _ else none) = _
  have e : small7 (a.map fun (n : Nat) => (n : Int)) = true := by
    unfold small7
    refine List.all_eq_true.mpr fun k hk => ?_
    obtain ⟨n, hn, rfl⟩ := List.mem_map.mp hk
    have := h n hn
    simp
    omega
  rw [e, List.length_map]
  simp [hl]
theorem contains_int (a : List Nat) (n : Nat) : (a.map fun (n : Nat) => (n : Int)).contains (n : Int) = a.contains n := by
  rw [Bool.eq_iff_iff, List.contains_iff_mem, List.contains_iff_mem, List.mem_map]
  constructor
  · rintro ⟨m, hm, e⟩
    have : m = n := by omega
    rw [← this]
    exact hm
  · intro h
    exact ⟨n, h, rfl⟩
theorem unionI_nat {a b : List Nat} : unionI (a.map fun (n : Nat) => (n : Int)) (b.map fun (n : Nat) => (n : Int)) = ((List.range 7).filter fun k => a.contains k || b.contains k).map fun (n : Nat) => (n : Int) := by
  unfold unionI
  rw [List.filter_map]
  congr 1
  refine List.filter_congr fun n _ => ?_
  show ((a.map fun (n : Nat) => (n : Int)).contains (n : Int) || (b.map fun (n : Nat) => (n : Int)).contains (n : Int)) = _
  rw [contains_int, contains_int]
theorem together_eq {a b : List Nat} (ha : a ∈ allS 6) (hb : b ∈ allS 6) : m_together [eT a, eT b] = .ret (eT (uni a b)) := by
  have l1 := all_len ha
  have l2 := all_len hb
  have e1 := setI_T (fun x hx => Nat.lt_of_lt_of_le (all_lt ha x hx) (by decide)) (by omega)
  have e2 := setI_T (fun x hx => Nat.lt_of_lt_of_le (all_lt hb x hx) (by decide)) (by omega)
  have e0 : gUni (gVar 0) (gVar 1) (env0 2 [eT a, eT b]) = .ret (.lst ((unionI (a.map fun (n : Nat) => (n : Int)) (b.map fun (n : Nat) => (n : Int))).map .int)) := by
    show (opt (setI (eT a)) >>= fun as => opt (setI (eT b)) >>= fun bs => T.ret (D.lst ((unionI as bs).map .int))) = _
    rw [e1, e2]
    rfl
  simp only [m_together, fn, sRet, gCall, gCons, gNil]
  rw [e0]
  show T.ret (D.tup ((unionI (a.map fun (n : Nat) => (n : Int)) (b.map fun (n : Nat) => (n : Int))).map D.int)) = _
  rw [unionI_nat]
  unfold eT uni
  rw [List.map_map]
  have e3 : (List.range 7).filter (fun k => a.contains k || b.contains k) = (List.range 6).filter (fun k => a.contains k || b.contains k) := by
    rw [List.range_succ, List.filter_append]
    have : ([6] : List Nat).filter (fun k => a.contains k || b.contains k) = [] := by
      have q1 : a.contains 6 = false := Bool.eq_false_iff.mpr fun z => absurd (all_lt ha 6 (List.contains_iff_mem.mp z)) (by decide)
      have q2 : b.contains 6 = false := Bool.eq_false_iff.mpr fun z => absurd (all_lt hb 6 (List.contains_iff_mem.mp z)) (by decide)
      rw [List.filter_cons_of_neg (by rw [q1, q2]; decide)]
      rfl
    rw [this, List.append_nil]
  rw [e3]
  rfl
end Py
set_option Elab.async false
set_option linter.all false
set_option maxRecDepth 100000
set_option maxHeartbeats 4000000
namespace Py
open PySem PySem.Spec L2
/-! ### what the defs do: choosers -/
def eC (n : Nat) (C : List Nat → List Nat) : D := .obj 25 [eI n, eTT ((allS n).map C), .dicN ((allS n).map eT) ((allS n).map fun s => eT (C s))]
theorem of_all {α : Type} {l : List α} {p : α → Bool} (h : l.all p = true) {a : α} (m : a ∈ l) : p a = true := List.all_eq_true.mp h a m
theorem is_set_eq {n : Nat} {s : List Nat} (hn : n ≤ 6) (hs : s ∈ allS n) : m_is_set [eI n, eT s] = .ret (.bl true) := isR_eq (of_all (of_all is_set_ok (List.mem_range.mpr (by omega))) hs)
theorem req_set {n : Nat} {C : List Nat → List Nat} {s : List Nat} (hn : n ≤ 6) (hs : s ∈ allS n) : m_require_set [eC n C, eT s] = .ret .non := by
  have h := is_set_eq hn hs
  simp (config := {decide := true}) only [m_require_set, eC, h, fn, env0, List.map, List.length, Nat.sub_self, Nat.zero_add, Nat.reduceSub, Nat.reduceAdd, List.replicate, List.append_nil, List.cons_append, List.nil_append, sIf, sSeq, sSet, sRet, sExpr, sNext, gNotT, gAndT, gOrT, gNotV, gAndV, gOrV, gIf, gOp, gCall, gCons, gNil, gVar, gC, gMeth, List.getElem?_cons_zero, List.getElem?_cons_succ, List.set_cons_zero, List.set_cons_succ, ret_bind, exc_bind, bindS, noexc, opt, Option.some_or, truth_bl, truth_non, asB, fldD, if_true, if_false, Bool.not_true, Bool.not_false, runS, outD, ite_true, ite_false, Bool.false_eq_true]
def kz (s : List Nat) : NestedKey := .tup (s.map fun (n : Nat) => NestedKey.num (n : Int))
theorem nks_T : ∀ s : List Nat, nks (s.map eI) = some (s.map fun (n : Nat) => NestedKey.num (n : Int))
  | [] => rfl
  | n :: s => by
    show ((nk (eI n)).bind fun k => (nks (s.map eI)).map (k :: ·)) = _
    rw [nks_T s]
    rfl
theorem nk_T (s : List Nat) : nk (eT s) = some (kz s) := by
  show (nks (s.map eI)).map NestedKey.tup = _
  rw [nks_T]
  rfl
theorem kz_inj {s t : List Nat} (h : kz s = kz t) : s = t := by
  unfold kz at h
  injection h with h
  induction s generalizing t with
  | nil =>
    cases t with
    | nil => rfl
    | cons b t => simp at h
  | cons a s ih =>
    cases t with
    | nil => simp at h
    | cons b t =>
      simp only [List.map_cons, List.cons.injEq, NestedKey.num.injEq] at h
      rw [ih h.2]
      congr 1
      omega
theorem kz_depth (s : List Nat) : (kz s).depth ≤ 8 := by
  have h : ∀ s : List Nat, NestedKey.depthAll (s.map fun (n : Nat) => NestedKey.num (n : Int)) = 0 := by
    intro s
    induction s with
    | nil => rfl
    | cons a s ih =>
      simp only [List.map_cons, NestedKey.depthAll, ih, NestedKey.depth]
      rfl
  unfold kz
  simp only [NestedKey.depth, h]
  decide
theorem keyT_T (s : List Nat) : keyT (eT s) = some (kz s) := by
  show ((nk (eT s)).bind fun k => if k.depth ≤ 8 then some k else none) = _
  rw [nk_T]
  show (if (kz s).depth ≤ 8 then some (kz s) else none) = _
  rw [if_pos (kz_depth s)]
theorem look_T {f : List Nat → D} {s : List Nat} : ∀ {l : List (List Nat)}, s ∈ l → lookN (l.map eT) (l.map f) (kz s) = some (f s)
  | a :: l, h => by
    rw [List.map_cons, List.map_cons, lookN, nk_T]
    by_cases e : a = s
    · subst e
      rw [if_pos rfl]
    · rw [if_neg (fun z => e (kz_inj (Option.some.inj z)))]
      rcases List.mem_cons.mp h with z | z
      · exact absurd z.symm e
      · exact look_T z
theorem ixA_T {f : List Nat → D} {s : List Nat} {l : List (List Nat)} (h : s ∈ l) : ixA (.dicN (l.map eT) (l.map f)) (eT s) = some (f s) := by
  show (ixD (.dicN (l.map eT) (l.map f)) (eT s)).or (((keyT (eT s)).map fun z => lookN (l.map eT) (l.map f) z).bind id) = _
  rw [keyT_T]
  show Option.or none (lookN (l.map eT) (l.map f) (kz s)) = _
  rw [look_T h]
  rfl
theorem taken_eq {n : Nat} {C : List Nat → List Nat} {s : List Nat} (hn : n ≤ 6) (hs : s ∈ allS n) : m_Chooser_taken [eC n C, eT s] = .ret (eT (C s)) := by
  have h := req_set (C := C) hn hs
  have h2 := ixA_T (f := fun s => eT (C s)) hs
  unfold eC at h ⊢
  simp (config := {decide := true}) only [m_Chooser_taken, h, h2, fn, env0, List.map, List.length, Nat.sub_self, Nat.zero_add, Nat.reduceSub, Nat.reduceAdd, List.replicate, List.append_nil, List.cons_append, List.nil_append, sIf, sSeq, sSet, sRet, sExpr, sNext, gNotT, gAndT, gOrT, gNotV, gAndV, gOrV, gIf, gOp, gCall, gCons, gNil, gVar, gC, gMeth, List.getElem?_cons_zero, List.getElem?_cons_succ, List.set_cons_zero, List.set_cons_succ, ret_bind, exc_bind, bindS, noexc, opt, Option.some_or, truth_bl, truth_non, asB, fldD, if_true, if_false, Bool.not_true, Bool.not_false, runS, outD, ite_true, ite_false, Bool.false_eq_true]
end Py
set_option Elab.async false
set_option linter.all false
set_option maxRecDepth 100000
set_option maxHeartbeats 4000000
namespace Py
open PySem PySem.Spec L2
/-! ### making choosers -/
def encIx (p : List Nat × Nat) : D := .tup [eI p.2, eT p.1]
theorem enD_map : ∀ (l : List (List Nat)) (k : Nat), enD (k : Int) (l.map eT) = (l.zipIdx k).map encIx
  | [], _ => rfl
  | s :: l, k => by
    have := enD_map l (k + 1)
    show D.tup [.int (k : Int), eT s] :: enD ((k : Int) + 1) (l.map eT) = encIx (s, k) :: (l.zipIdx (k + 1)).map encIx
    rw [← this]
    rfl
theorem atI_nat {l : List D} {i : Nat} {d : D} (h : l[i]? = some d) : atI l (i : Int) = some d := by
  have hi : i < l.length := (List.getElem?_eq_some_iff.mp h).1
  have e : ixN l.length (i : Int) = some i := by
    unfold ixN
    rw [if_pos (by omega), if_pos (by omega)]
    rfl
  unfold atI
  rw [e]
  exact h
theorem zip_at {l : List (List Nat)} {p : List Nat × Nat} (h : p ∈ l.zipIdx) : l[p.2]? = some p.1 := by
  have := (List.mem_zipIdx_iff_getElem?).mp h
  simpa using this
theorem zip_map {α : Type} (l : List α) (k : Nat) : (l.zipIdx k).map (·.1) = l := by
  induction l generalizing k with
  | nil => rfl
  | cons a l ih => simp [ih]
theorem ixA_map {l : List (List Nat)} {C : List Nat → List Nat} {p : List Nat × Nat} (h : p ∈ l.zipIdx) : ixA (eTT (l.map C)) (eI p.2) = some (eT (C p.1)) := by
  have := zip_at h
  have e : atI ((l.map C).map eT) (p.2 : Int) = some (eT (C p.1)) := atI_nat (by rw [List.getElem?_map, List.getElem?_map, this]; rfl)
  show (atI ((l.map C).map eT) (p.2 : Int)).or _ = _
  rw [e]
  rfl
theorem lookN_no {f : List Nat → D} {s : List Nat} : ∀ {l : List (List Nat)}, s ∉ l → lookN (l.map eT) (l.map f) (kz s) = none
  | [], _ => rfl
  | a :: l, h => by
    rw [List.map_cons, List.map_cons, lookN, nk_T, if_neg (fun z => h (by rw [kz_inj (Option.some.inj z)]; exact List.mem_cons_self ..))]
    exact lookN_no fun z => h (List.mem_cons_of_mem _ z)
/-- a dict comprehension over distinct sets -/
theorem dcN_ev {b : Tg} {ek ev : Env → T D} {ρ0 : Env} {f : List Nat → D} : ∀ (l : List (List Nat × Nat)) (done : List (List Nat)), (done ++ l.map (·.1)).Nodup →
    (∀ p ∈ l, ∃ ρ1, b (encIx p) ρ0 = some ρ1 ∧ ek ρ1 = .ret (eT p.1) ∧ ev ρ1 = .ret (f p.1)) →
    dcNL b gYes ek ev ρ0 (done.map eT) (done.map f) (l.map encIx) = .ret (endN ((done ++ l.map (·.1)).map eT) ((done ++ l.map (·.1)).map f))
  | [], done, _, _ => by
    rw [List.map_nil, List.map_nil, List.append_nil]
    rfl
  | p :: l, done, hn, h => by
    obtain ⟨ρ1, h1, h2, h3⟩ := h p (List.mem_cons_self ..)
    have hp : p.1 ∉ done := fun z => by
      rw [List.map_cons, List.nodup_append] at hn
      exact hn.2.2 _ z _ (List.mem_cons_self ..) rfl
    have e : done ++ (p :: l).map (·.1) = (done ++ [p.1]) ++ l.map (·.1) := by simp
    have ih := dcN_ev (b := b) (ek := ek) (ev := ev) (ρ0 := ρ0) (f := f) l (done ++ [p.1]) (by rw [← e]; exact hn) fun q hq => h q (List.mem_cons_of_mem _ hq)
    rw [e, ← ih]
    show (opt (b (encIx p) ρ0) >>= fun ρ1 => noexc (gYes ρ1) >>= fun t => if t = true then noexc (ek ρ1) >>= fun kd => noexc (ev ρ1) >>= fun x => (match keyT kd with
      | some z => dcNL b gYes ek ev ρ0 (putNd (done.map eT) (done.map f) z kd x).1 (putNd (done.map eT) (done.map f) z kd x).2 (l.map encIx)
      | none => .bad) else dcNL b gYes ek ev ρ0 (done.map eT) (done.map f) (l.map encIx)) = _
    rw [h1]
    show (noexc (ek ρ1) >>= fun kd => noexc (ev ρ1) >>= fun x => (match keyT kd with
      | some z => dcNL b gYes ek ev ρ0 (putNd (done.map eT) (done.map f) z kd x).1 (putNd (done.map eT) (done.map f) z kd x).2 (l.map encIx)
      | none => .bad)) = _
    rw [h2, noexc_ret, ret_bind, h3, noexc_ret, ret_bind, keyT_T]
    show dcNL b gYes ek ev ρ0 (putNd (done.map eT) (done.map f) (kz p.1) (eT p.1) (f p.1)).1 (putNd (done.map eT) (done.map f) (kz p.1) (eT p.1) (f p.1)).2 (l.map encIx) = _
    unfold putNd
    rw [lookN_no hp]
    simp only [Option.isSome_none, Bool.false_eq_true, if_false, List.map_append, List.map_cons, List.map_nil]
def m_Chooser_init_l : Sm := (sFor ((fun ρ => (gCons (gVar 3) (gNil)) ρ >>= enR 0)) (bTup 2 (bCons (bName 4) (bCons (bName 5) (bNil)))) (sIf (gOrT (gNotT ((fun ρ => ((fun ρ => (gCons (gVar 1) (gCons (gOp ixA (gVar 2) (gVar 4)) (gNil))) ρ >>= fun l => if l.length = 2 then m_is_set l else .bad)) ρ >>= truth))) (gNotT ((fun ρ => ((fun ρ => (gCons (gOp ixA (gVar 2) (gVar 4)) (gCons (gVar 5) (gNil))) ρ >>= fun l => if l.length = 2 then m_is_within l else .bad)) ρ >>= truth)))) (sRaise1 3 (gVar 4)) (sNext)))
def m_Chooser_init_t : Env → T D := (gDcN ((fun ρ => (gCons (gVar 3) (gNil)) ρ >>= enR 0)) (bTup 2 (bCons (bName 4) (bCons (bName 5) (bNil)))) (gYes) (gVar 5) (gOp ixA (gVar 2) (gVar 4)) [4, 5])
theorem m_Chooser_init_cut : m_Chooser_init = ini 6 25 ["offers", "picks", "_table"] (sSeq (sIf (gNotT ((fun ρ => ((fun ρ => (gCons (gVar 1) (gCons (gC (.int 1)) (gCons (gC (.int 6)) (gNil)))) ρ >>= fun l => if l.length = 3 then m_is_integer_within l else .bad)) ρ >>= truth))) (sRaise1 3 (gC (.str "offers"))) (sNext)) (sSeq (sSet 3 ((fun ρ => (gCons (gVar 1) (gNil)) ρ >>= fun l => if l.length = 1 then m_all_sets l else .bad))) (sSeq (sIf (gOrT (gNotT ((fun ρ => (gIsi (ansD (tabB "tuple")) (gVar 2)) ρ >>= truth))) ((fun ρ => gOp (eqD true) (gCall lenX (gCons (gVar 2) (gNil))) (gCall lenX (gCons (gVar 3) (gNil))) ρ >>= asB))) (sRaise1 3 (gC (.str "picks"))) (sNext)) (sSeq m_Chooser_init_l (sSeq (sFld' 0 25 "offers" (gVar 1)) (sSeq (sFld' 0 25 "picks" (gVar 2)) (sFld' 0 25 "_table" m_Chooser_init_t))))))) := rfl
def m_Chooser_init_l_b : Sm := (sIf (gOrT (gNotT ((fun ρ => ((fun ρ => (gCons (gVar 1) (gCons (gOp ixA (gVar 2) (gVar 4)) (gNil))) ρ >>= fun l => if l.length = 2 then m_is_set l else .bad)) ρ >>= truth))) (gNotT ((fun ρ => ((fun ρ => (gCons (gOp ixA (gVar 2) (gVar 4)) (gCons (gVar 5) (gNil))) ρ >>= fun l => if l.length = 2 then m_is_within l else .bad)) ρ >>= truth)))) (sRaise1 3 (gVar 4)) (sNext))
theorem m_Chooser_init_l_cut : m_Chooser_init_l = (sFor ((fun ρ => (gCons (gVar 3) (gNil)) ρ >>= enR 0)) (bTup 2 (bCons (bName 4) (bCons (bName 5) (bNil)))) m_Chooser_init_l_b) := rfl
theorem within6 : ((List.range 7).all fun n => n == 0 || isR (m_is_integer_within [eI n, .int 1, .int 6]) (.bl true)) = true := by decide +kernel
theorem allS_nodup : ((List.range 7).all fun n => decide (allS n).Nodup) = true := by decide +kernel
theorem allS_len : ((List.range 7).all fun n => decide ((allS n).length = 2 ^ n)) = true := by decide +kernel
theorem init_eq {n : Nat} {C : List Nat → List Nat} (h0 : 0 < n) (hn : n ≤ 6) (hC : ∀ s ∈ allS n, C s ∈ allS n) (hs : ∀ s ∈ allS n, sub (C s) s = true) : m_Chooser_init [eI n, eTT ((allS n).map C)] = .ret [eI n, eTT ((allS n).map C), .dicN ((allS n).map eT) ((allS n).map fun s => eT (C s))] := by
  have hm : n ∈ List.range 7 := List.mem_range.mpr (by omega)
  have e1 : m_is_integer_within [eI n, .int 1, .int 6] = .ret (.bl true) := by
    have := of_all within6 hm
    rw [Bool.or_eq_true] at this
    rcases this with q | q
    · have := eq_of_beq q
      omega
    · exact isR_eq q
  have e2 : m_all_sets [eI n] = .ret (eTT (allS n)) := isR_eq (of_all alls_ok hm)
  have e3 : (allS n).Nodup := of_decide_eq_true (of_all allS_nodup hm)
  have e4 : (allS n).length = 2 ^ n := of_decide_eq_true (of_all allS_len hm)
  have e5 : 2 ^ n ≤ 64 := Nat.pow_le_pow_right (n := 2) (by decide) hn
  have e6 : (enR 0 [eTT (allS n)]) = .ret (((allS n).zipIdx).map encIx) := by
    show T.ret (enD ((0 : Nat) : Int) ((allS n).map eT)) = _
    rw [enD_map]
  have e7 : lenX [eTT ((allS n).map C)] = some (eI (allS n).length) := by
    show some (D.int _) = _
    simp only [List.length_map]
    rfl
  have e8 : lenX [eTT (allS n)] = some (eI (allS n).length) := by
    show some (D.int _) = _
    simp only [List.length_map]
    rfl
  have e9 : eqD true (eI (allS n).length) (eI (allS n).length) = some (.bl false) := by rw [ne_int]; simp
  have loop : ∀ x y, ∃ x' y', m_Chooser_init_l [.own (.obj 25 [] []), .val (eI n), .val (eTT ((allS n).map C)), .val (eTT (allS n)), x, y] = .ret (.nx [.own (.obj 25 [] []), .val (eI n), .val (eTT ((allS n).map C)), .val (eTT (allS n)), x', y']) := by
    intro x y
    obtain ⟨ρ', h1, x', y', h2⟩ := forL_ev (enc := encIx) (b := bTup 2 (bCons (bName 4) (bCons (bName 5) bNil))) (body := m_Chooser_init_l_b) (fun (_ : Unit) ρ => ∃ x y, ρ = [.own (.obj 25 [] []), .val (eI n), .val (eTT ((allS n).map C)), .val (eTT (allS n)), x, y]) (fun _ _ => ()) (allS n).zipIdx () _ ⟨x, y, rfl⟩ fun p hp _ ρ h => by
      obtain ⟨x, y, rfl⟩ := h
      have hm : p.1 ∈ allS n := List.mem_of_getElem? (zip_at hp)
      have q1 := is_set_eq hn (hC _ hm)
      have q2 : m_is_within [eT (C p.1), eT p.1] = .ret (.bl true) := by
        rw [within_eq (by have := all_len (hC _ hm); omega), hs _ hm]
      have q3 := ixA_map (C := C) hp
      refine ⟨_, [.own (.obj 25 [] []), .val (eI n), .val (eTT ((allS n).map C)), .val (eTT (allS n)), .val (eI p.2), .val (eT p.1)], rfl, .inl ?_, _, _, rfl⟩
      simp (config := {decide := true}) only [m_Chooser_init_l_b, q1, q2, q3, fn, env0, List.map, List.length, Nat.sub_self, Nat.zero_add, Nat.reduceSub, Nat.reduceAdd, List.replicate, List.append_nil, List.cons_append, List.nil_append, sIf, sSeq, sSet, sRet, sExpr, sNext, gNotT, gAndT, gOrT, gNotV, gAndV, gOrV, gIf, gOp, gCall, gCons, gNil, gVar, gC, gMeth, List.getElem?_cons_zero, List.getElem?_cons_succ, List.set_cons_zero, List.set_cons_succ, ret_bind, exc_bind, bindS, noexc, opt, Option.some_or, truth_bl, truth_non, asB, fldD, if_true, if_false, Bool.not_true, Bool.not_false, runS, outD, ite_true, ite_false, Bool.false_eq_true]
    refine ⟨x', y', ?_⟩
    rw [← h2, ← h1, m_Chooser_init_l_cut]
    show bindS (enR 0 [eTT (allS n)]) _ _ = _
    rw [e6]
    rfl
  obtain ⟨x, y, e10⟩ := loop .none .none
  have e11 : (ansD (tabB "tuple") (eTT ((allS n).map C))).map D.bl = some (.bl true) := rfl
  have e12 : ∀ ρ : Env, ρ[3]? = some (.val (eTT (allS n))) → ρ[2]? = some (.val (eTT ((allS n).map C))) → ρ.length = 6 → m_Chooser_init_t ρ = .ret (.dicN ((allS n).map eT) ((allS n).map fun s => eT (C s))) := by
    intro ρ h3 h2 hl
    have w : ∃ z0 z1 z4 z5, ρ = [z0, z1, .val (eTT ((allS n).map C)), .val (eTT (allS n)), z4, z5] := by
      match ρ, hl, h3, h2 with
      | [z0, z1, z2, z3, z4, z5], _, h3, h2 =>
        cases h3
        cases h2
        exact ⟨_, _, _, _, rfl⟩
    obtain ⟨z0, z1, z4, z5, rfl⟩ := w
    show (enR 0 [eTT (allS n)] >>= fun ds => few ds (dcNL _ gYes _ _ _ [] [] ds)) = _
    rw [e6, ret_bind]
    unfold few
    rw [if_pos (by rw [List.length_map, List.length_zipIdx]; omega)]
    have := dcN_ev (b := bTup 2 (bCons (bName 4) (bCons (bName 5) bNil))) (ek := gVar 5) (ev := gOp ixA (gVar 2) (gVar 4)) (ρ0 := [z0, z1, .val (eTT ((allS n).map C)), .val (eTT (allS n)), .none, .none]) (f := fun s => eT (C s)) (allS n).zipIdx [] (by rw [zip_map]; exact e3) fun p hp => by
      refine ⟨_, rfl, rfl, ?_⟩
      have q3 := ixA_map (C := C) hp
      show opt (ixA (eTT ((allS n).map C)) (eI p.2)) = _
      rw [q3]
      rfl
    rw [zip_map] at this
    refine this.trans ?_
    rw [List.nil_append]
    have ne : ((allS n).map eT).isEmpty = false := by
      cases q : allS n with
      | nil =>
        rw [q] at e4
        have : 0 < 2 ^ n := Nat.pow_pos (by decide)
        simp at e4
        omega
      | cons a l => rfl
    unfold endN
    rw [ne]
    rfl
  rw [m_Chooser_init_cut]
  simp (config := {decide := true}) only [ini, initEnv, runI, outI, e1, e2, e7, e8, e9, e10, e11, gIsi, sFld', fn, env0, List.map, List.length, Nat.sub_self, Nat.zero_add, Nat.reduceSub, Nat.reduceAdd, List.replicate, List.append_nil, List.cons_append, List.nil_append, sIf, sSeq, sSet, sRet, sExpr, sNext, gNotT, gAndT, gOrT, gNotV, gAndV, gOrV, gIf, gOp, gCall, gCons, gNil, gVar, gC, gMeth, List.getElem?_cons_zero, List.getElem?_cons_succ, List.set_cons_zero, List.set_cons_succ, ret_bind, exc_bind, bindS, noexc, opt, Option.some_or, truth_bl, truth_non, asB, fldD, if_true, if_false, Bool.not_true, Bool.not_false, runS, outD, ite_true, ite_false, Bool.false_eq_true]
  rw [e12 _ rfl rfl rfl]
  rfl
end Py
set_option Elab.async false
set_option linter.all false
set_option maxRecDepth 100000
set_option maxHeartbeats 4000000
namespace Py
open PySem PySem.Spec L2
/-! ### sorted ints -/
def insN (x : Nat) : List Nat → List Nat
  | [] => [x]
  | y :: l => if x ≤ y then x :: y :: l else y :: insN x l
def srtN : List Nat → List Nat
  | [] => []
  | x :: l => insN x (srtN l)
theorem ins_mem {x y : Nat} : ∀ {l : List Nat}, y ∈ insN x l ↔ y = x ∨ y ∈ l
  | [] => by simp [insN]
  | z :: l => by
    unfold insN
    by_cases h : x ≤ z
    · rw [if_pos h, List.mem_cons]
    · rw [if_neg h, List.mem_cons, ins_mem, List.mem_cons]
      constructor
      · rintro (h | h | h)
        · exact .inr (.inl h)
        · exact .inl h
        · exact .inr (.inr h)
      · rintro (h | h | h)
        · exact .inr (.inl h)
        · exact .inl h
        · exact .inr (.inr h)
theorem srtN_mem {y : Nat} : ∀ {l : List Nat}, y ∈ srtN l ↔ y ∈ l
  | [] => by simp [srtN]
  | x :: l => by
    unfold srtN
    rw [ins_mem, srtN_mem, List.mem_cons]
theorem ins_asc {x : Nat} : ∀ {l : List Nat}, l.Pairwise (· < ·) → x ∉ l → (insN x l).Pairwise (· < ·)
  | [], _, _ => List.pairwise_singleton ..
  | y :: l, h, hx => by
    have h' := List.pairwise_cons.mp h
    unfold insN
    have ne : x ≠ y := fun z => hx (by rw [z]; exact List.mem_cons_self ..)
    by_cases c : x ≤ y
    · rw [if_pos c]
      refine List.pairwise_cons.mpr ⟨fun z hz => ?_, h⟩
      rcases List.mem_cons.mp hz with rfl | hz
      · omega
      · have := h'.1 z hz
        omega
    · rw [if_neg c]
      refine List.pairwise_cons.mpr ⟨fun z hz => ?_, ins_asc h'.2 fun z => hx (List.mem_cons_of_mem _ z)⟩
      rcases ins_mem.mp hz with rfl | hz
      · omega
      · exact h'.1 z hz
theorem srtN_asc : ∀ {l : List Nat}, l.Nodup → (srtN l).Pairwise (· < ·)
  | [], _ => List.Pairwise.nil
  | x :: l, h => by
    have h' := List.nodup_cons.mp h
    exact ins_asc (srtN_asc h'.2) fun z => h'.1 (srtN_mem.mp z)
/-- the members in order -/
def ordN (n : Nat) (l : List Nat) : List Nat := (List.range n).filter fun x => l.contains x
theorem srtN_ord {n : Nat} {l : List Nat} (hd : l.Nodup) (h : ∀ x ∈ l, x < n) : srtN l = ordN n l := by
  refine asc_eq (srtN_asc hd) (all_asc (filter_all _)) fun x => ?_
  unfold ordN
  rw [srtN_mem, List.mem_filter, List.mem_range, List.contains_iff_mem]
  exact ⟨fun z => ⟨h x z, z⟩, fun z => z.2⟩
theorem ins_len {x : Nat} : ∀ {l : List Nat}, (insN x l).length = l.length + 1
  | [] => rfl
  | y :: l => by
    unfold insN
    by_cases c : x ≤ y
    · rw [if_pos c]
      rfl
    · rw [if_neg c, List.length_cons, ins_len, List.length_cons]
theorem srtN_len : ∀ {l : List Nat}, (srtN l).length = l.length
  | [] => rfl
  | x :: l => by
    unfold srtN
    rw [ins_len, srtN_len, List.length_cons]
theorem nodup_len {n : Nat} {l : List Nat} (hd : l.Nodup) (h : ∀ x ∈ l, x < n) : l.length ≤ n := by
  rw [← srtN_len, srtN_ord hd h]
  unfold ordN
  have := List.length_filter_le (fun x => l.contains x) (List.range n)
  rwa [List.length_range] at this
/-! ### what lists take -/
def addN (ks : List Nat) (x : Nat) : List Nat := if ks.contains x then ks else ks ++ [x]
/-- the first offer of a row that is in s -/
def first (s row : List Nat) : Option Nat := (row.filter fun x => s.contains x).head?
def stepT (s ks row : List Nat) : List Nat := match first s row with
  | some x => addN ks x
  | none => ks
def takes (n : Nat) (rows : List (List Nat)) (s : List Nat) : List Nat := ordN n (rows.foldl (stepT s) [])
/-- rows of offers -/
structure Rows (n : Nat) (rows : List (List Nat)) : Prop where
  few : rows.length ≤ 100
  len : ∀ r ∈ rows, r.length ≤ 100
  lt : ∀ r ∈ rows, ∀ x ∈ r, x < n
end Py
set_option Elab.async false
set_option linter.all false
set_option maxRecDepth 100000
set_option maxHeartbeats 4000000
namespace Py
open PySem PySem.Spec L2
/-! ### choosers made of lists -/
/-- what holds of a chooser made of lists -/
structure Ch (n : Nat) (C : List Nat → List Nat) : Prop where
  all : ∀ s ∈ allS n, C s ∈ allS n
  le : ∀ s x, x ∈ C s → x ∈ s
  her : ∀ s t x, (∀ y ∈ s, y ∈ t) → x ∈ C t → x ∈ s → x ∈ C s
  con : ∀ s t, (∀ y ∈ s, y ∈ t) → (∀ y ∈ C t, y ∈ s) → C s = C t
theorem sub_iff {a b : List Nat} : sub a b = true ↔ ∀ x ∈ a, x ∈ b := by
  unfold sub
  rw [List.all_eq_true]
  exact ⟨fun h x hx => List.contains_iff_mem.mp (h x hx), fun h x hx => List.contains_iff_mem.mpr (h x hx)⟩
end Py
set_option Elab.async false
set_option linter.all false
set_option maxRecDepth 100000
set_option maxHeartbeats 4000000
namespace Py
open PySem PySem.Spec L2
/-! ### agreed, wished, settled sets -/
theorem rngD_nat (n : Nat) : rngD 0 (n : Int) = (List.range n).map eI := by
  unfold rngD
  have : ((n : Int) - 0).toNat = n := by omega
  rw [this]
  refine List.map_congr_left fun i _ => ?_
  unfold eI
  rw [Int.zero_add]
theorem rng_nat {n : Nat} (h : n ≤ 100000) : rng1 [eI n] = .ret ((List.range n).map eI) := by
  show (if -100000 ≤ (n : Int) ∧ (n : Int) ≤ 100000 then T.ret (rngD 0 (n : Int)) else T.bad) = _
  rw [if_pos ⟨by omega, by omega⟩, rngD_nat]
theorem nin_T (x : Nat) (l : List Nat) : (inD true (eI x) (eT l)) = some (.bl !l.contains x) := by
  rw [in_T]
  rfl
end Py
set_option Elab.async false
set_option linter.all false
set_option maxRecDepth 100000
set_option maxHeartbeats 4000000
namespace Py
open PySem PySem.Spec L2
/-! ### the law's settled sets -/
end Py
set_option Elab.async false
set_option linter.all false
set_option maxRecDepth 100000
set_option maxHeartbeats 4000000
namespace Py
open PySem PySem.Spec L2
/-! ### the program's settled sets -/
theorem all_up {n m : Nat} {s : List Nat} (h : n ≤ m) (hs : s ∈ allS n) : s ∈ allS m := mem_all.mpr ((mem_all.mp hs).trans (List.range_sublist.mpr h))
theorem ord_mem {n : Nat} {l : List Nat} {x : Nat} : x ∈ ordN n l ↔ x < n ∧ x ∈ l := by
  unfold ordN
  rw [List.mem_filter, List.mem_range, List.contains_iff_mem]
theorem ord_all {n : Nat} {l : List Nat} : ordN n l ∈ allS n := filter_all _
theorem uni_mem {a b : List Nat} {x : Nat} : x ∈ uni a b ↔ x < 6 ∧ (x ∈ a ∨ x ∈ b) := by
  unfold uni
  rw [List.mem_filter, List.mem_range, Bool.or_eq_true, List.contains_iff_mem, List.contains_iff_mem]
theorem uni_ord {n : Nat} {s t : List Nat} (hn : n ≤ 6) (hs : s ∈ allS n) (ht : t ∈ allS n) : uni s t = ordN n (s ++ t) := by
  refine asc_eq (all_asc (n := 6) (filter_all _)) (all_asc ord_all) fun y => ?_
  rw [uni_mem, ord_mem, List.mem_append]
  constructor
  · rintro ⟨_, h⟩
    refine ⟨?_, h⟩
    rcases h with h | h
    · exact all_lt hs y h
    · exact all_lt ht y h
  · rintro ⟨h1, h2⟩
    exact ⟨by omega, h2⟩
end Py
set_option Elab.async false
set_option linter.all false
set_option maxRecDepth 100000
set_option maxHeartbeats 4000000
/-! runs with draws: so many at most, what all their ends are -/
namespace Py
open PySem PySem.Spec L2
section
variable {α β : Type}
structure Dr (t : T α) (k : Nat) (P : α → Prop) : Prop where
  wp : ∀ b, k ≤ b → t.wp b (fun a b' => b ≤ b' + k ∧ P a) (fun _ _ _ => False)
theorem Dr.ret {a : α} {P : α → Prop} {k : Nat} (h : P a) : Dr (.ret a) k P := ⟨fun b _ => ⟨by omega, h⟩⟩
theorem Dr.eq {t : T α} {a : α} {P : α → Prop} {k : Nat} (e : t = .ret a) (h : P a) : Dr t k P := by
  rw [e]
  exact .ret h
theorem Dr.imp {t : T α} {k k' : Nat} {P P' : α → Prop} (h : Dr t k P) (hk : k ≤ k') (hp : ∀ a, P a → P' a) : Dr t k' P' := ⟨fun b hb => T.wp_mono (h.wp b (by omega)) (fun a b' q => ⟨by omega, hp a q.2⟩) fun _ _ _ z => z⟩
theorem Dr.bind {t : T α} {f : α → T β} {k k' : Nat} {P : α → Prop} {Q : β → Prop} (h : Dr t k P) (hf : ∀ a, P a → Dr (f a) k' Q) : Dr (t >>= f) (k + k') Q := ⟨fun b hb => (T.wp_bind t f b _ _).mpr (T.wp_mono (h.wp b (by omega)) (fun a b' q => T.wp_mono ((hf a q.2).wp b' (by omega)) (fun c b2 q2 => ⟨by omega, q2.2⟩) fun _ _ _ z => z) fun _ _ _ z => z)⟩
theorem Dr.bindS {t : T α} {ρ : Env} {f : α → T Out} {k k' : Nat} {P : α → Prop} {Q : Out → Prop} (h : Dr t k P) (hf : ∀ a, P a → Dr (f a) k' Q) : Dr (bindS t ρ f) (k + k') Q := ⟨fun b hb => (wp_bindS t ρ f b _ _).mpr (T.wp_mono (h.wp b (by omega)) (fun a b' q => T.wp_mono ((hf a q.2).wp b' (by omega)) (fun c b2 q2 => ⟨by omega, q2.2⟩) fun _ _ _ z => z) fun _ _ _ z => z.elim)⟩
theorem Dr.draw {n : Nat} {f : Nat → T α} {k : Nat} {P : α → Prop} (h : ∀ i, i < n → Dr (f i) k P) : Dr (.draw n f) (k + 1) P := ⟨fun b hb => ⟨by omega, fun i hi => T.wp_mono ((h i hi).wp (b - 1) (by omega)) (fun a b' q => ⟨by omega, q.2⟩) fun _ _ _ z => z⟩⟩
theorem runS_dr : ∀ {t : T Out} {b : Nat} {Q : D → Nat → Prop}, t.wp b (fun o b' => ∃ d, outD o = .ret d ∧ Q d b') (fun _ _ _ => False) → (runS t).wp b Q (fun _ _ _ => False)
  | .ret o, b, Q, h => by
    obtain ⟨d, e, q⟩ := h
    show (outD o).wp b Q _
    rw [e]
    exact q
  | .exc _ _, _, _, h => h.elim
  | .draw n k, _, _, h => ⟨h.1, fun i hi => runS_dr (h.2 i hi)⟩
  | .bad, _, _, h => h
theorem Dr.runS {t : T Out} {k : Nat} {P : Out → Prop} {Q : D → Prop} (h : Dr t k P) (hp : ∀ o, P o → ∃ d, outD o = .ret d ∧ Q d) : Dr (runS t) k Q := ⟨fun b hb => runS_dr (T.wp_mono (h.wp b hb) (fun o b' q => by
  obtain ⟨d, e, z⟩ := hp o q.2
  exact ⟨d, e, q.1, z⟩) fun _ _ _ z => z)⟩
theorem noexc_dr {t : T α} : ∀ {b : Nat} {Q : α → Nat → Prop}, t.wp b Q (fun _ _ _ => False) → (noexc t).wp b Q (fun _ _ _ => False) := by
  induction t with
  | ret a => exact fun h => h
  | exc c l => exact fun h => h.elim
  | draw n k ih => exact fun h => ⟨h.1, fun i hi => ih i (h.2 i hi)⟩
  | bad => exact fun h => h
theorem Dr.noexc {t : T α} {k : Nat} {P : α → Prop} (h : Dr t k P) : Dr (noexc t) k P := ⟨fun b hb => noexc_dr (h.wp b hb)⟩
end
/-! #### statements -/
theorem Dr.seq {s u : Sm} {ρ : Env} {k k' : Nat} {P : Env → Prop} {Q : Out → Prop} (h : Dr (s ρ) k (fun o => ∃ ρ', o = .nx ρ' ∧ P ρ')) (hu : ∀ ρ', P ρ' → Dr (u ρ') k' Q) : Dr (sSeq s u ρ) (k + k') Q :=
  Dr.bind h fun o ho => by
    obtain ⟨ρ', rfl, p⟩ := ho
    exact hu ρ' p
theorem Dr.seq0 {s u : Sm} {ρ ρ' : Env} {k : Nat} {Q : Out → Prop} (h : s ρ = .ret (.nx ρ')) (hu : Dr (u ρ') k Q) : Dr (sSeq s u ρ) k Q := by
  have e : sSeq s u ρ = u ρ' := by
    show (s ρ >>= _) = _
    rw [h]
    rfl
  rw [e]
  exact hu
theorem Dr.set {i : Nat} {f : Env → T D} {ρ : Env} {k : Nat} {P : D → Prop} {Q : Env → Prop} (h : Dr (f ρ) k P) (hq : ∀ d, P d → Q (ρ.set i (.val d))) : Dr (sSet i f ρ) k (fun o => ∃ ρ', o = .nx ρ' ∧ Q ρ') :=
  (Dr.bindS (k' := 0) h fun d p => .ret ⟨_, rfl, hq d p⟩)
/-- a for loop whose turns draw -/
theorem Dr.loop {α : Type} {enc : α → D} {b : Tg} {body : Sm} (R : Nat → Env → Prop) (k : Nat) : ∀ (l : List α) (j : Nat) (ρ : Env), R j ρ →
    (∀ (i : Nat) (a : α), l[i]? = some a → ∀ ρ, R (j + i) ρ → ∃ ρ1, b (enc a) ρ = some ρ1 ∧ Dr (body ρ1) k (fun o => ∃ ρ2, o = .nx ρ2 ∧ R (j + i + 1) ρ2)) →
    Dr (forL b body (l.map enc) ρ) (l.length * k) (fun o => ∃ ρ', o = .nx ρ' ∧ R (j + l.length) ρ')
  | [], j, ρ, r, _ => .ret ⟨ρ, rfl, r⟩
  | a :: l, j, ρ, r, h => by
    obtain ⟨ρ1, h1, h2⟩ := h 0 a rfl ρ r
    have e : forL b body ((a :: l).map enc) ρ = (body ρ1 >>= fun o => match o with
      | .nx ρ2 => forL b body (l.map enc) ρ2
      | .ct ρ2 => forL b body (l.map enc) ρ2
      | .brk ρ2 => .ret (.nx ρ2)
      | o => .ret o) := by
      show (opt (b (enc a) ρ) >>= fun ρ1 => body ρ1 >>= fun o => match o with
        | .nx ρ2 => forL b body (l.map enc) ρ2
        | .ct ρ2 => forL b body (l.map enc) ρ2
        | .brk ρ2 => .ret (.nx ρ2)
        | o => .ret o) = _
      rw [h1]
      rfl
    rw [e]
    refine Dr.imp (Dr.bind h2 fun o ho => ?_) (show k + l.length * k ≤ (a :: l).length * k from by rw [List.length_cons, Nat.succ_mul]; omega) fun o q => q
    obtain ⟨ρ2, rfl, r2⟩ := ho
    have ih := Dr.loop (b := b) (body := body) R k l (j + 1) ρ2 r2 fun i c hi ρ r => by
      have := h (i + 1) c (by simpa using hi) ρ (by rw [show j + (i + 1) = j + 1 + i by omega]; exact r)
      rw [show j + (i + 1) + 1 = j + 1 + i + 1 by omega] at this
      exact this
    refine ih.imp (Nat.le_refl _) fun o q => ?_
    obtain ⟨ρ', e', r'⟩ := q
    exact ⟨ρ', e', by rw [List.length_cons, show j + (l.length + 1) = j + 1 + l.length by omega]; exact r'⟩
theorem bind_bind {α β γ : Type} : ∀ (t : T α) (f : α → T β) (g : β → T γ), ((t >>= f) >>= g) = t >>= fun a => f a >>= g
  | .ret _, _, _ => rfl
  | .exc _ _, _, _ => rfl
  | .draw n k, f, g => by
    show T.draw n (fun i => (k i >>= f) >>= g) = T.draw n fun i => k i >>= fun a => f a >>= g
    congr 1
    funext i
    exact bind_bind (k i) f g
  | .bad, _, _ => rfl
theorem bindS_bind {α β : Type} : ∀ (t : T α) (f : α → T β) (ρ : Env) (k : β → T Out), bindS (t >>= f) ρ k = bindS t ρ fun a => bindS (f a) ρ k
  | .ret _, _, _, _ => rfl
  | .exc _ _, _, _, _ => rfl
  | .draw n g, f, ρ, k => by
    show T.draw n (fun i => bindS (g i >>= f) ρ k) = T.draw n fun i => bindS (g i) ρ fun a => bindS (f a) ρ k
    congr 1
    funext i
    exact bindS_bind (g i) f ρ k
  | .bad, _, _, _ => rfl
/-! #### a deck's draw -/
theorem draw_dr {top : Int} {n : Nat} (h0 : 0 < n) (ht : (n : Int) < top) : Dr (drawB top [.deck, eI n]) 1 (fun d => ∃ i, i < n ∧ d = eI i) := by
  show Dr (if 0 < (n : Int) ∧ (n : Int) < top then (T.draw (n : Int).toNat fun i => T.ret (D.int (i : Int)) : T D) else T.bad) 1 _
  rw [if_pos ⟨by omega, ht⟩]
  exact .draw (k := 0) fun i hi => .ret ⟨i, by omega, rfl⟩
end Py
set_option Elab.async false
set_option linter.all false
set_option maxRecDepth 100000
set_option maxHeartbeats 1000000
namespace Py
open PySem PySem.Spec L2
/-! ### pairs of an offer and days, in order -/
/-- ascending by offer -/
abbrev AscX (l : List (Nat × Nat)) : Prop := l.Pairwise (fun p q => p.1 < q.1)
theorem ascX_ext : ∀ {l m : List (Nat × Nat)}, AscX l → AscX m → (∀ p, p ∈ l ↔ p ∈ m) → l = m
  | [], [], _, _, _ => rfl
  | [], y :: m, _, _, h => nomatch (h y).mpr List.mem_cons_self
  | x :: l, [], _, _, h => nomatch (h x).mp List.mem_cons_self
  | x :: l, y :: m, h1, h2, h => by
    unfold AscX at h1 h2
    rw [List.pairwise_cons] at h1 h2
    have e : x = y := Classical.byContradiction fun ne => by
      have a1 : x ∈ m := (List.mem_cons.mp ((h x).mp List.mem_cons_self)).resolve_left ne
      have a2 : y ∈ l := (List.mem_cons.mp ((h y).mpr List.mem_cons_self)).resolve_left fun q => ne q.symm
      have b1 := h2.1 x a1
      have b2 := h1.1 y a2
      omega
    subst e
    rw [ascX_ext h1.2 h2.2 fun z => ?_]
    constructor
    · intro hz
      exact (List.mem_cons.mp ((h z).mp (List.mem_cons_of_mem _ hz))).resolve_left fun q => by
        have := h1.1 z hz
        rw [q] at this
        exact Nat.lt_irrefl _ this
    · intro hz
      exact (List.mem_cons.mp ((h z).mpr (List.mem_cons_of_mem _ hz))).resolve_left fun q => by
        have := h2.1 z hz
        rw [q] at this
        exact Nat.lt_irrefl _ this
/-! #### sorting pairs -/
end Py
set_option Elab.async false
set_option linter.all false
set_option maxRecDepth 100000
set_option maxHeartbeats 1000000
namespace Py
open PySem PySem.Spec L2
/-! ### trades, lists -/
/-- a trade's lives and loose offers -/
structure Tr (ls lo : List Nat) : Prop where
  pos : 0 < ls.length
  few : ls.length ≤ 6
  life : ∀ d ∈ ls, 1 ≤ d ∧ d ≤ 99
  loose : lo ∈ allS ls.length
/-! #### lists -/
structure Lis (n : Nat) (r : List Nat) : Prop where
  nd : r.Nodup
  lt : ∀ x ∈ r, x < n
theorem Lis.len {n : Nat} {r : List Nat} (h : Lis n r) : r.length ≤ n := nodup_len h.nd h.lt
structure LR (n : Nat) (rows : List (List Nat)) : Prop where
  few : rows.length ≤ 100
  lis : ∀ r ∈ rows, Lis n r
theorem alls_few {n : Nat} (hn : n ≤ 6) : (allS n).length ≤ 64 := by
  have e4 : (allS n).length = 2 ^ n := of_decide_eq_true (of_all allS_len (List.mem_range.mpr (by omega)))
  have e5 : 2 ^ n ≤ 64 := Nat.pow_le_pow_right (n := 2) (by decide) hn
  omega
end Py
set_option Elab.async false
set_option linter.all false
set_option maxRecDepth 100000
set_option maxHeartbeats 1000000
namespace Py
open PySem PySem.Spec L2
/-! ### dated sets, deeds -/
abbrev DSet := List (Nat × Nat)
structure Dt (ls : List Nat) (l : DSet) : Prop where
  asc : AscX l
  ok : ∀ p ∈ l, p.1 < ls.length ∧ 1 ≤ p.2 ∧ p.2 ≤ ls.getD p.1 0
/-! #### deeds -/
inductive De where
  | day
  | come (x : Nat)
  | gone (x : Nat)
  deriving DecidableEq
structure DeOk (ls lo : List Nat) (d : De) : Prop where
  c : ∀ x, d = .come x → x < ls.length
  g : ∀ x, d = .gone x → x ∈ lo
def isO (o : Option D) (d : D) : Bool := match o with
  | some e => beqD e d
  | none => false
theorem isO_eq {o : Option D} {d : D} (h : isO o d = true) : o = some d := by
  unfold isO at h
  cases o with
  | some e => rw [beqD_eq h]
  | none => cases h
end Py
set_option Elab.async false
set_option linter.all false
set_option maxRecDepth 100000
set_option maxHeartbeats 1000000
namespace Py
open PySem PySem.Spec L2
/-! ### what stands behind a deed -/
def agedX (l : DSet) : DSet := (l.filter fun p => decide (1 < p.2)).map fun p => (p.1, p.2 - 1)
def offX (x : Nat) (l : DSet) : DSet := l.filter fun p => !decide (p.1 = x)
def insP (p : Nat × Nat) : DSet → DSet
  | [] => [p]
  | a :: l => if p.1 < a.1 then p :: a :: l else a :: insP p l
theorem insP_mem {p q : Nat × Nat} : ∀ {l : DSet}, q ∈ insP p l ↔ q = p ∨ q ∈ l
  | [] => by simp [insP]
  | a :: l => by
    unfold insP
    by_cases c : p.1 < a.1
    · rw [if_pos c, List.mem_cons]
    · rw [if_neg c, List.mem_cons, insP_mem, List.mem_cons]
      constructor
      · rintro (z | z | z)
        · exact .inr (.inl z)
        · exact .inl z
        · exact .inr (.inr z)
      · rintro (z | z | z)
        · exact .inr (.inl z)
        · exact .inl z
        · exact .inr (.inr z)
theorem offX_mem {x : Nat} {l : DSet} {p : Nat × Nat} : p ∈ offX x l ↔ p ∈ l ∧ p.1 ≠ x := by
  unfold offX
  rw [List.mem_filter]
  simp
theorem agedX_mem {l : DSet} {p : Nat × Nat} : p ∈ agedX l ↔ 1 ≤ p.2 ∧ (p.1, p.2 + 1) ∈ l := by
  unfold agedX
  rw [List.mem_map]
  constructor
  · rintro ⟨q, hq, rfl⟩
    have hq := List.mem_filter.mp hq
    have h2 : 1 < q.2 := of_decide_eq_true hq.2
    have e : ((q.1, q.2 - 1) : Nat × Nat).2 + 1 = q.2 := by show q.2 - 1 + 1 = q.2; omega
    refine ⟨by show 1 ≤ q.2 - 1; omega, ?_⟩
    rw [e]
    exact hq.1
  · rintro ⟨h1, h2⟩
    exact ⟨(p.1, p.2 + 1), List.mem_filter.mpr ⟨h2, decide_eq_true (by show 1 < p.2 + 1; omega)⟩, rfl⟩
end Py
set_option Elab.async false
set_option linter.all false
set_option maxRecDepth 100000
set_option maxHeartbeats 1000000
namespace Py
open PySem PySem.Spec L2
/-! ### what stands along a stream -/
/-! #### picks -/
end Py
set_option Elab.async false
set_option linter.all false
set_option maxRecDepth 100000
set_option maxHeartbeats 1000000
namespace Py
open PySem PySem.Spec L2
/-! ### what the law's board has -/
structure Bo (n : Nat) (v : List Nat) (l : DSet) : Prop where
  len : v.length = n
  mem : ∀ x d, (x, d) ∈ l ↔ v[x]? = some d ∧ 0 < d
def bl (v : List Nat) : DSet := (v.zipIdx.filter fun a => decide (0 < a.1)).map fun a => (a.2, a.1)
theorem bl_mem {v : List Nat} {x d : Nat} : (x, d) ∈ bl v ↔ v[x]? = some d ∧ 0 < d := by
  unfold bl
  rw [List.mem_map]
  constructor
  · rintro ⟨⟨a, i⟩, h, e⟩
    have h := List.mem_filter.mp h
    cases e
    have h1 := (List.mem_zipIdx_iff_getElem?).mp h.1
    exact ⟨by simpa using h1, of_decide_eq_true h.2⟩
  · rintro ⟨h1, h2⟩
    exact ⟨(d, x), List.mem_filter.mpr ⟨(List.mem_zipIdx_iff_getElem?).mpr (by simpa using h1), decide_eq_true h2⟩, rfl⟩
theorem zip_ge {α : Type} : ∀ (l : List α) (k : Nat) (a : α × Nat), a ∈ l.zipIdx k → k ≤ a.2
  | [], _, _, h => nomatch h
  | x :: l, k, a, h => by
    rw [List.zipIdx_cons] at h
    rcases List.mem_cons.mp h with z | z
    · rw [z]
      exact Nat.le_refl _
    · exact Nat.le_of_succ_le (zip_ge l (k + 1) a z)
theorem zip_asc {α : Type} : ∀ (l : List α) (k : Nat), (l.zipIdx k).Pairwise (fun a b => a.2 < b.2)
  | [], _ => .nil
  | x :: l, k => by
    rw [List.zipIdx_cons]
    exact List.pairwise_cons.mpr ⟨fun a h => zip_ge l (k + 1) a h, zip_asc l (k + 1)⟩
theorem bl_asc (v : List Nat) : AscX (bl v) := by
  unfold bl AscX
  rw [List.pairwise_map]
  exact List.Pairwise.sublist List.filter_sublist (zip_asc v 0)
section
variable {n : Nat} {v : List Nat} {l m : DSet}
theorem Bo.eq (h : Bo n v l) (a : AscX l) : bl v = l := ascX_ext (bl_asc v) a fun p => by
  obtain ⟨x, d⟩ := p
  rw [bl_mem, h.mem]
theorem Bo.set (h : Bo n v l) {x d : Nat} (hx : x < n) (hd : 0 < d) : Bo n (v.set x d) (insP (x, d) (offX x l)) := ⟨by rw [List.length_set, h.len], fun y e => by
  have a := @offX_mem x l (y, e)
  dsimp only at a
  rw [insP_mem, a, h.mem, List.getElem?_set]
  have hv : x < v.length := by rw [h.len]; exact hx
  by_cases c : x = y
  · subst c
    rw [if_pos rfl, if_pos hv]
    constructor
    · rintro (z | z)
      · cases z
        exact ⟨rfl, hd⟩
      · exact absurd rfl z.2
    · rintro ⟨z, _⟩
      cases z
      exact .inl rfl
  · rw [if_neg c]
    constructor
    · rintro (z | z)
      · cases z
        exact absurd rfl c
      · exact z.1
    · exact fun z => .inr ⟨z, fun q => c q.symm⟩⟩
theorem Bo.off (h : Bo n v l) {x : Nat} (hx : x < n) : Bo n (v.set x 0) (offX x l) := ⟨by rw [List.length_set, h.len], fun y e => by
  have a := @offX_mem x l (y, e)
  dsimp only at a
  rw [a, h.mem, List.getElem?_set]
  have hv : x < v.length := by rw [h.len]; exact hx
  by_cases c : x = y
  · subst c
    rw [if_pos rfl, if_pos hv]
    constructor
    · exact fun z => absurd rfl z.2
    · rintro ⟨z, q⟩
      cases z
      exact absurd q (Nat.lt_irrefl _)
  · rw [if_neg c]
    exact ⟨fun z => z.1, fun z => ⟨z, fun q => c q.symm⟩⟩⟩
theorem Bo.day (h : Bo n v l) : Bo n (v.map fun d => d - 1) (agedX l) := ⟨by rw [List.length_map, h.len], fun x d => by
  have a := @agedX_mem l (x, d)
  dsimp only at a
  rw [a, h.mem, List.getElem?_map]
  constructor
  · rintro ⟨h1, h2, h3⟩
    rw [h2]
    exact ⟨rfl, h1⟩
  · rintro ⟨h1, h2⟩
    cases q : v[x]? with
    | none =>
      rw [q] at h1
      cases h1
    | some e =>
      rw [q] at h1
      have e1 : e - 1 = d := Option.some.inj h1
      exact ⟨h2, by congr 1; omega, by omega⟩⟩
theorem Bo.nil : Bo n (List.replicate n 0) [] := ⟨List.length_replicate, fun x d => by
  constructor
  · exact fun z => nomatch z
  · rintro ⟨h1, h2⟩
    have := List.eq_of_mem_replicate (List.mem_of_getElem? h1)
    omega⟩
end
/-! #### the readings -/
section
variable {A B C E : D} {s6 s7 : Slot} {v : List Nat} {F : List D}
end
/-! #### the law's firsts -/
end Py
set_option Elab.async false
set_option linter.all false
set_option maxRecDepth 100000
set_option maxHeartbeats 1000000
namespace Py
open PySem PySem.Spec L2
/-! ### plain data, one by one -/
def Pl1 (v : D) (k : Nat) : Prop := ∃ p, pyD v = some p ∧ p.canLay0 = true ∧ p.depth ≤ k ∧ PyData.eqv p p = true
theorem PD.pl1 {α : Type} [DecidableEq α] {enc : α → D} {k : Nat} (h : PD enc k) (a : α) : Pl1 (enc a) k := by
  obtain ⟨py, hp⟩ := h.py
  obtain ⟨h1, h2, h3, h4⟩ := hp a
  exact ⟨py a, h1, h2, h3, by rw [h4 a]; simp⟩
theorem Pl1.up {v : D} {k k2 : Nat} (h : Pl1 v k) (hk : k ≤ k2) : Pl1 v k2 := by
  obtain ⟨p, h1, h2, h3, h4⟩ := h
  exact ⟨p, h1, h2, by omega, h4⟩
theorem pl_all {k : Nat} : ∀ {l : List D}, (∀ d ∈ l, Pl1 d k) → ∃ ps, pyDs l = some ps ∧ PyData.canLayAll0 ps = true ∧ PyData.depthAll ps ≤ k ∧ PyData.eqvAll ps ps = true
  | [], _ => ⟨[], rfl, by simp [PyData.canLayAll0], by simp [PyData.depthAll], by simp [PyData.eqvAll]⟩
  | d :: l, h => by
    obtain ⟨p, h1, h2, h3, h4⟩ := h d List.mem_cons_self
    obtain ⟨ps, i1, i2, i3, i4⟩ := pl_all fun x hx => h x (List.mem_cons_of_mem _ hx)
    refine ⟨p :: ps, ?_, by simp [PyData.canLayAll0, h2, i2], by simp only [PyData.depthAll]; omega, by simp [PyData.eqvAll, h4, i4]⟩
    show (match pyD d, pyDs l with
      | some a, some r => some (a :: r)
      | _, _ => none) = _
    rw [h1, i1]
theorem pl_tup {k : Nat} {l : List D} (h : ∀ d ∈ l, Pl1 d k) : Pl1 (.tup l) (k + 1) := by
  obtain ⟨ps, h1, h2, h3, h4⟩ := pl_all h
  refine ⟨.tuple ps, ?_, by simp only [PyData.canLay0]; exact h2, by simp only [PyData.depth]; omega, by simp only [PyData.eqv]; exact h4⟩
  show (pyDs l).map PyData.tuple = _
  rw [h1]
  rfl
theorem pl_eq {v : D} {k : Nat} (h : Pl1 v k) (hk : k ≤ 64) (neg : Bool) : eqD neg v v = some (.bl (!neg)) := by
  obtain ⟨p, h1, h2, h3, h4⟩ := h
  have s1 : SeqAt.shaped p = true := by
    unfold SeqAt.shaped
    rw [h2]
    simp
    omega
  unfold eqD
  rw [h1]
  simp only [s1, Bool.and_self, if_true]
  rw [h4]
  cases neg <;> rfl
theorem pl1 {a : D} {k : Nat} (h : Pl1 a k) : Pl1 (.tup [a]) (k + 1) := pl_tup fun d hd => by
  rw [List.mem_singleton.mp hd]
  exact h
/-! ### what is no dated set -/
/-! ### what is no stream -/
/-! ### what the calls refuse -/
section
variable {ls lo : List Nat} {v w : D}
end
end Py
set_option Elab.async false
set_option linter.all false
set_option maxRecDepth 100000
set_option maxHeartbeats 1000000
namespace Py
open PySem PySem.Spec L2
/-! ### lists that are drawn -/
theorem perm_erase : ∀ (l : List Nat) (i : Nat) (h : i < l.length), l.Perm (l[i] :: l.eraseIdx i)
  | [], _, h => nomatch h
  | a :: l, 0, _ => List.Perm.refl _
  | a :: l, i + 1, h => by
    have h' : i < l.length := Nat.lt_of_succ_lt_succ h
    have ih := perm_erase l i h'
    show (a :: l).Perm (l[i] :: a :: l.eraseIdx i)
    exact (ih.cons a).trans (List.Perm.swap _ _ _)
/-- what is left and what is drawn -/
structure Lf (n : Nat) (L R : List Nat) : Prop where
  nd : (R ++ L).Nodup
  lt : ∀ x ∈ R ++ L, x < n
  len : R.length + L.length = n
theorem Lf.step {n : Nat} {L R : List Nat} (h : Lf n L R) {i : Nat} (hi : i < L.length) : Lf n (L.eraseIdx i) (R ++ [L[i]]) := by
  have p : (R ++ L).Perm (R ++ [L[i]] ++ L.eraseIdx i) := by
    rw [List.append_assoc]
    exact (perm_erase L i hi).append_left R
  exact ⟨p.nodup_iff.mp h.nd, fun x hx => h.lt x (p.mem_iff.mpr hx), by rw [← List.length_append, ← p.length_eq, List.length_append, h.len]⟩
theorem Lf.lis {n : Nat} {L R : List Nat} (h : Lf n L R) : Lis n R := ⟨(List.nodup_append.mp h.nd).1, fun x hx => h.lt x (List.mem_append_left _ hx)⟩
/-! #### draws -/
theorem one_more (i : Nat) : (iAdd (eI 1) (eI i)).or (catD (eI 1) (eI i)) = some (eI (1 + i)) := by
  show some (D.int (1 + (i : Int))) = some (D.int ((1 + i : Nat) : Int))
  congr 2
theorem more_dr {k : Nat} (h0 : 0 < k) (h1 : k < 1000000) : Dr (drawB 1000000 [.deck, eI k] >>= fun b => opt ((iAdd (eI 1) b).or (catD (eI 1) b))) 1 (fun d => ∃ i, (1 ≤ i ∧ i ≤ k) ∧ d = eI i) := by
  refine Dr.bind (k := 1) (k' := 0) (draw_dr (top := 1000000) h0 (by omega)) fun d hd => ?_
  obtain ⟨i, hi, rfl⟩ := hd
  show Dr (opt ((iAdd (eI 1) (eI i)).or (catD (eI 1) (eI i)))) 0 _
  rw [one_more]
  exact .ret ⟨1 + i, ⟨by omega, by omega⟩, rfl⟩
end Py
set_option Elab.async false
set_option linter.all false
set_option maxRecDepth 100000
set_option maxHeartbeats 4000000
namespace Py
open PySem PySem.Spec L2
/-! ### settled sets are there, the program's are the law's -/
/-! #### there is one -/
end Py
set_option Elab.async false
set_option linter.all false
set_option maxRecDepth 100000
set_option maxHeartbeats 1000000
namespace Py
open PySem PySem.Spec L2
/-! ### skylines of dated sets, for choosers by lists: mathematics alone -/
section
variable {rows : List (List Nat)} {lo : List Nat} {l m : DSet}
/-! ### two sets put together -/
def dy (l : DSet) (x : Nat) : Nat := ((l.find? fun p => decide (p.1 = x)).map (·.2)).getD 0
/-! ### what is of no skyline is not picked until it comes -/
end
end Py
set_option Elab.async false
set_option linter.all false
set_option maxRecDepth 100000
set_option maxHeartbeats 1000000
namespace Py
open PySem PySem.Spec L2
/-! ### the program's skyline -/
section
variable {n : Nat} {rows : List (List Nat)} {ls lo : List Nat} {l : DSet}
end
end Py
set_option Elab.async false
set_option linter.all false
set_option maxRecDepth 100000
set_option maxHeartbeats 1000000
namespace Py
open PySem PySem.Spec L2
/-! ### put together: a dict by offers, the greater days -/
end Py
set_option Elab.async false
set_option linter.all false
set_option maxRecDepth 100000
set_option maxHeartbeats 1000000
namespace Py
open PySem PySem.Spec L2
section
variable {n : Nat} {rows : List (List Nat)} {ls lo : List Nat} {l m : DSet}
end
/-! ### what a law of skylines draws -/
section
variable {n : Nat} {ls lo : List Nat} {nn lw mm : D} {F : List D} {s5 s6 s7 : Slot}
end
/-! ### more odd starts; == of a value with itself -/
end Py
set_option Elab.async false
set_option linter.all false
set_option maxRecDepth 100000
set_option maxHeartbeats 1000000
namespace Py
open PySem PySem.Spec L2
/-! ### loops that scan: a state is led on, or the loop ends the def -/
def isT : D → Bool
  | .tup _ => true
  | _ => false
theorem ixA_ls {l : List D} {i : Nat} {d : D} (h : l[i]? = some d) : ixA (.lst l) (eI i) = some d := by
  have := atI_nat h
  show (atI l (i : Int)).or _ = _
  rw [this]
  rfl
theorem pickL_dr {l : List D} (h0 : 0 < l.length) (h1 : l.length < 1000000) : Dr (m_L_pick [.deck, .lst l]) 1 (fun d => d ∈ l) := by
  have e : m_L_pick [.deck, .lst l] = runS (bindS (drawB 1000000 [.deck, eI l.length] >>= fun b => opt (ixA (.lst l) b)) [.val .deck, .val (.lst l)] fun d => .ret (.ret d)) := rfl
  rw [e]
  refine Dr.runS (P := fun o => ∃ d ∈ l, o = .ret d) ?_ fun o h => by
    obtain ⟨d, hd, rfl⟩ := h
    exact ⟨d, rfl, hd⟩
  refine Dr.bindS (k := 1) (k' := 0) (P := fun d => d ∈ l) (Dr.bind (k := 1) (k' := 0) (draw_dr h0 (by omega)) fun d hd => ?_) fun d hd => .ret ⟨d, hd, rfl⟩
  obtain ⟨i, hi, rfl⟩ := hd
  rw [ixA_ls (List.getElem?_eq_getElem hi)]
  exact .ret (List.getElem_mem hi)
end Py
set_option Elab.async false
set_option linter.all false
set_option maxRecDepth 100000
set_option maxHeartbeats 1000000
namespace Py
open PySem PySem.Spec L2
/-! ### numbers, sets, lives of any data -/
/-! #### sets -/
/-! #### lives -/
/-! #### trades -/
end Py
set_option Elab.async false
set_option linter.all false
set_option maxRecDepth 100000
set_option maxHeartbeats 1000000
namespace Py
open PySem PySem.Spec L2
/-! ### choosers that can be asked apart -/
structure Pk (n : Nat) (C : List Nat → List Nat) : Prop where
  all : ∀ s ∈ allS n, C s ∈ allS n
  le : ∀ s ∈ allS n, ∀ x ∈ C s, x ∈ s
structure Ap (n : Nat) (C : List Nat → List Nat) : Prop where
  her : ∀ s ∈ allS n, ∀ t ∈ allS n, (∀ y ∈ t, y ∈ s) → ∀ x ∈ t, x ∈ C s → x ∈ C t
  con : ∀ s ∈ allS n, ∀ t ∈ allS n, (∀ y ∈ t, y ∈ s) → (∀ y ∈ C s, y ∈ t) → C t = C s
theorem Pk.sub {n : Nat} {C : List Nat → List Nat} (H : Pk n C) : ∀ s ∈ allS n, sub (C s) s = true := fun s hs => sub_iff.mpr (H.le s hs)
theorem Ch.pk {n : Nat} {C : List Nat → List Nat} (H : Ch n C) : Pk n C := ⟨H.all, fun s _ => H.le s⟩
section
variable {n : Nat} {C C1 C2 : List Nat → List Nat} {s t : List Nat} {rows : List (List Nat)}
theorem om {a b : List Nat} (ha : a ∈ allS n) (hb : b ∈ allS n) {x : Nat} : x ∈ ordN n (a ++ b) ↔ x ∈ a ∨ x ∈ b := by
  rw [ord_mem, List.mem_append]
  exact ⟨fun z => z.2, fun z => ⟨by
    rcases z with q | q
    · exact all_lt ha x q
    · exact all_lt hb x q, z⟩⟩
theorem togo_eq {a b : List Nat} (hn : n ≤ 6) (ha : a ∈ allS n) (hb : b ∈ allS n) : m_together [eT a, eT b] = .ret (eT (ordN n (a ++ b))) := by
  rw [together_eq (all_up hn ha) (all_up hn hb), uni_ord hn ha hb]
/-! #### what the defs do -/
/-! #### == of choosers -/
end
end Py
set_option Elab.async false
set_option linter.all false
set_option maxRecDepth 100000
set_option maxHeartbeats 1000000
namespace Py
open PySem PySem.Spec L2
/-! ### what is taken off own lists, by draws -/
theorem compL_drP {α β : Type} [DecidableEq α] {enc : α → D} {f : β → D} {b : Tg} {e : Env → T D} {ρ0 : Env} {Q : α → β → Prop} {k : Nat} (z : β) : ∀ l : List α, l.Nodup → (∀ a ∈ l, ∃ ρ1, b (enc a) ρ0 = some ρ1 ∧ Dr (e ρ1) k (fun d => ∃ p, Q a p ∧ d = f p)) → Dr (compL b gYes e ρ0 (l.map enc)) (l.length * k) (fun ds => ∃ g : α → β, (∀ a ∈ l, Q a (g a)) ∧ ds = l.map fun a => f (g a))
  | [], _, _ => .ret ⟨fun _ => z, (fun _ h => nomatch h), rfl⟩
  | a :: l, nd, h => by
    obtain ⟨ρ1, h1, h2⟩ := h a (by simp)
    have nd' := List.nodup_cons.mp nd
    have ih := compL_drP (b := b) (e := e) (ρ0 := ρ0) (f := f) (Q := Q) (k := k) z l nd'.2 fun x hx => h x (List.mem_cons_of_mem _ hx)
    show Dr (opt (b (enc a) ρ0) >>= fun ρ1 => noexc (gYes ρ1) >>= fun k => if k = true then noexc (e ρ1) >>= fun x => compL b gYes e ρ0 (l.map enc) >>= fun r => .ret (x :: r) else compL b gYes e ρ0 (l.map enc)) _ _
    rw [h1, opt_some, ret_bind]
    show Dr (noexc (e ρ1) >>= fun x => compL b gYes e ρ0 (l.map enc) >>= fun r => .ret (x :: r)) _ _
    refine Dr.imp (Dr.bind (k := k) (k' := l.length * k) h2.noexc fun d hd => ?_) (by rw [List.length_cons, Nat.succ_mul]; omega) fun o q => q
    obtain ⟨p, hp, rfl⟩ := hd
    refine Dr.imp (Dr.bind (k := l.length * k) (k' := 0) ih fun ds hd => ?_) (Nat.le_refl _) fun o q => q
    obtain ⟨g, hg, rfl⟩ := hd
    have u1 : (fun x => if x = a then p else g x) a = p := if_pos rfl
    have u2 : ∀ x ∈ l, (fun x => if x = a then p else g x) x = g x := fun x hx => if_neg fun e => nd'.1 (by rw [← e]; exact hx)
    generalize (fun x => if x = a then p else g x) = g' at u1 u2
    refine .ret ⟨g', fun x hx => ?_, ?_⟩
    · rcases List.mem_cons.mp hx with rfl | y
      · rw [u1]
        exact hp
      · rw [u2 x y]
        exact hg x y
    · rw [List.map_cons, u1]
      congr 1
      refine List.map_congr_left fun x hx => ?_
      rw [u2 x hx]
theorem gComp_drP {α β : Type} [DecidableEq α] (enc : α → D) (f : β → D) {it : Env → T (List D)} {b : Tg} {e : Env → T D} {own : List Nat} {ρ : Env} {l : List α} {Q : α → β → Prop} {k : Nat} (z : β) (nd : l.Nodup) (hi : it ρ = .ret (l.map enc)) (hl : l.length ≤ 100000)
    (h : ∀ a ∈ l, ∃ ρ1, b (enc a) (wipeE ρ own) = some ρ1 ∧ Dr (e ρ1) k (fun d => ∃ p, Q a p ∧ d = f p)) : Dr (gComp it b gYes e own ρ) (l.length * k) (fun d => ∃ g : α → β, (∀ a ∈ l, Q a (g a)) ∧ d = .lst (l.map fun a => f (g a))) := by
  show Dr (it ρ >>= fun ds => few ds (compL b gYes e (wipeE ρ own) ds >>= fun l => T.ret (D.lst l))) _ _
  rw [hi, ret_bind]
  unfold few
  rw [if_pos (by rw [List.length_map]; exact hl)]
  refine Dr.imp (Dr.bind (k := l.length * k) (k' := 0) (compL_drP z l nd h) fun ds hd => ?_) (Nat.le_refl _) fun o q => q
  obtain ⟨g, h1, rfl⟩ := hd
  exact .ret ⟨g, h1, rfl⟩
theorem par2_dr {i j : Nat} {f g : Env → T D} {ρ : Env} {k1 k2 : Nat} {P Q : D → Prop} (hf : Dr (f ρ) k1 P) (hg : Dr (g ρ) k2 Q) : Dr (sPar [i, j] (iVal f (iVal g iNil)) ρ) (k1 + k2) (fun o => ∃ a b, P a ∧ Q b ∧ o = .nx (setE ρ [i, j] [.val a, .val b])) := by
  show Dr (bindS (f ρ >>= fun d => (g ρ >>= fun e => T.ret [] >>= fun ss => T.ret (Slot.val e :: ss)) >>= fun ss => T.ret (Slot.val d :: ss)) ρ _) _ _
  rw [bindS_bind]
  refine Dr.bindS hf fun a ha => ?_
  rw [bind_bind, bindS_bind]
  refine (Dr.bindS (k := k2) (k' := 0) hg fun b hb => ?_).imp (Nat.le_refl _) fun o h => h
  exact .ret ⟨a, b, ha, hb, rfl⟩
theorem gOp2_dr {f g : Env → T D} {op : D → D → Option D} {ρ : Env} {k1 k2 : Nat} {P Q R : D → Prop} (hf : Dr (f ρ) k1 P) (hg : Dr (g ρ) k2 Q) (h : ∀ a b, P a → Q b → ∃ d, op a b = some d ∧ R d) : Dr (gOp op f g ρ) (k1 + k2) R := by
  show Dr (f ρ >>= fun a => g ρ >>= fun b => opt (op a b)) _ _
  refine Dr.bind hf fun a ha => (Dr.bind (k := k2) (k' := 0) hg fun b hb => ?_).imp (Nat.le_refl _) fun o h => h
  obtain ⟨d, e, r⟩ := h a b ha hb
  rw [e]
  exact .ret r
theorem sIf2_dr {t : Env → T Bool} {s u : Sm} {ρ : Env} {k : Nat} (h : Dr (t ρ) k (fun b => b = false)) (hu : u ρ = .ret (.nx ρ)) : Dr (sIf t s u ρ) k (fun o => o = .nx ρ) := by
  refine (Dr.bindS (k := k) (k' := 0) h fun b hb => ?_).imp (Nat.le_refl _) fun o h => h
  subst hb
  exact .eq hu rfl
theorem forL_step {b : Tg} {body : Sm} {x : D} {l : List D} {ρ ρ1 ρ2 : Env} (h1 : b x ρ = some ρ1) (h2 : body ρ1 = .ret (.nx ρ2)) : forL b body (x :: l) ρ = forL b body l ρ2 := by
  show (opt (b x ρ) >>= fun ρ1 => body ρ1 >>= fun o => match o with
    | .nx ρ2 => forL b body l ρ2
    | .ct ρ2 => forL b body l ρ2
    | .brk ρ2 => .ret (.nx ρ2)
    | o => .ret o) = _
  rw [h1]
  show (body ρ1 >>= fun o => match o with
    | .nx ρ2 => forL b body l ρ2
    | .ct ρ2 => forL b body l ρ2
    | .brk ρ2 => .ret (.nx ρ2)
    | o => .ret o) = _
  rw [h2]
  rfl
theorem Lf.new (n : Nat) : Lf n (List.range n) [] := ⟨by rw [List.nil_append]; exact List.nodup_range, fun x hx => List.mem_range.mp hx, by rw [List.length_range]; exact Nat.zero_add n⟩
end Py
set_option Elab.async false
set_option linter.all false
set_option maxRecDepth 100000
set_option maxHeartbeats 1000000
namespace Py
open PySem PySem.Spec L2
/-! ### sets by their bits -/
def bto (n b : Nat) : List Nat := (List.range n).filter fun x => b.testBit x
def cod (s : List Nat) : Nat := (s.map fun x => 2 ^ x).sum
def bts (n : Nat) : List Nat := (allS n).map cod
theorem bts_ok : ((List.range 7).all fun n => isR (m_L_bits [eI n]) (eL (bts n)) && (decide ((bts n).map (bto n) = allS n) && decide (bts n).Nodup)) = true := by decide +kernel
theorem bits_eq {n : Nat} (hn : n ≤ 6) : m_L_bits [eI n] = .ret (eL (bts n)) := by
  have k := of_all bts_ok (List.mem_range.mpr (show n < 7 by omega))
  rw [Bool.and_eq_true] at k
  exact isR_eq k.1
theorem bts_all {n : Nat} (hn : n ≤ 6) : (bts n).map (bto n) = allS n := by
  have k := of_all bts_ok (List.mem_range.mpr (show n < 7 by omega))
  rw [Bool.and_eq_true, Bool.and_eq_true, decide_eq_true_iff] at k
  exact k.2.1
theorem bts_nd {n : Nat} (hn : n ≤ 6) : (bts n).Nodup := by
  have k := of_all bts_ok (List.mem_range.mpr (show n < 7 by omega))
  rw [Bool.and_eq_true, Bool.and_eq_true] at k
  exact of_decide_eq_true k.2.2
theorem bto_mem {n b x : Nat} : x ∈ bto n b ↔ x < n ∧ b.testBit x = true := by
  unfold bto
  rw [List.mem_filter, List.mem_range]
theorem bto_all {n b : Nat} : bto n b ∈ allS n := mem_all.mpr List.filter_sublist
theorem bto_cod {n : Nat} {s : List Nat} (hn : n ≤ 6) (hs : s ∈ allS n) : bto n (cod s) = s := by
  have k := bts_all hn
  unfold bts at k
  rw [List.map_map] at k
  have k2 : (allS n).map (bto n ∘ cod) = (allS n).map id := by rw [k, List.map_id]
  exact List.map_inj_left.mp k2 s hs
theorem bts_len {n : Nat} (hn : n ≤ 6) : (bts n).length ≤ 64 := by
  unfold bts
  rw [List.length_map]
  exact alls_few hn
theorem bts_pos {n : Nat} (hn : n ≤ 6) : 0 < (bts n).length := by
  have e4 : (allS n).length = 2 ^ n := of_decide_eq_true (of_all allS_len (List.mem_range.mpr (by omega)))
  unfold bts
  rw [List.length_map, e4]
  exact Nat.two_pow_pos n
/-! #### the operators -/
theorem not_nn (a : Int) : Builtin.bitNot (Builtin.bitNot a) = a := by
  unfold Builtin.bitNot
  omega
theorem band_nn (a b : Nat) : Builtin.bitAnd (a : Int) (b : Int) = ((a &&& b : Nat) : Int) := by
  unfold Builtin.bitAnd
  rw [show decide ((0 : Int) ≤ (a : Int)) = true from decide_eq_true (by omega), show decide ((0 : Int) ≤ (b : Int)) = true from decide_eq_true (by omega)]
  show (((a : Int).toNat &&& (b : Int).toNat : Nat) : Int) = _
  rw [Int.toNat_natCast, Int.toNat_natCast]
theorem bor_nn (a b : Nat) : Builtin.bitOr (a : Int) (b : Int) = ((a ||| b : Nat) : Int) := by
  have h : Builtin.bitAnd (Builtin.bitNot (a : Int)) (Builtin.bitNot (b : Int)) = Builtin.bitNot ((a ||| b : Nat) : Int) := by
    unfold Builtin.bitAnd
    rw [show decide ((0 : Int) ≤ Builtin.bitNot (a : Int)) = false from decide_eq_false (by unfold Builtin.bitNot; omega), show decide ((0 : Int) ≤ Builtin.bitNot (b : Int)) = false from decide_eq_false (by unfold Builtin.bitNot; omega)]
    show Builtin.bitNot ((((Builtin.bitNot (Builtin.bitNot (a : Int))).toNat ||| (Builtin.bitNot (Builtin.bitNot (b : Int))).toNat : Nat)) : Int) = _
    rw [not_nn, not_nn, Int.toNat_natCast, Int.toNat_natCast]
  unfold Builtin.bitOr
  rw [h, not_nn]
theorem iBnd_I (a b : Nat) : iBnd (eI a) (eI b) = some (eI (a &&& b)) := by
  show some (D.int (Builtin.bitAnd (a : Int) (b : Int))) = _
  rw [band_nn]
  rfl
theorem iBor_I (a b : Nat) : iBor (eI a) (eI b) = some (eI (a ||| b)) := by
  show some (D.int (Builtin.bitOr (a : Int) (b : Int))) = _
  rw [bor_nn]
  rfl
theorem iShr_I (a b : Nat) : iShr (eI a) (eI b) = some (eI (a / 2 ^ b)) := by
  show (if (0 : Int) ≤ (b : Int) then some (D.int ((a : Int) / 2 ^ (b : Int).toNat)) else none) = _
  rw [if_pos (by omega), Int.toNat_natCast]
  show some (D.int _) = some (D.int _)
  congr 2
theorem iShl_I {b : Nat} (hb : b ≤ 6) : iShl (eI 1) (eI b) = some (eI (2 ^ b)) := by
  have k : ((List.range 7).all fun b => isO (iShl (eI 1) (eI b)) (eI (2 ^ b))) = true := by decide +kernel
  exact isO_eq (of_all k (List.mem_range.mpr (by omega)))
/-! #### the law's sets -/
def m_L_set_c : Env → T D := (gComp ((fun ρ => (gCons (gVar 1) (gNil)) ρ >>= rng1)) (bName 2) ((fun ρ => (gOp iBnd (gOp iShr (gVar 0) (gVar 2)) (gC (.int 1))) ρ >>= truth)) (gVar 2) [2])
theorem m_L_set_cut : m_L_set = fn 3 (sRet (gCall asT (gCons m_L_set_c (gNil)))) := rfl
theorem lset_t {b n x : Nat} : (fun ρ => (gOp iBnd (gOp iShr (gVar 0) (gVar 2)) (gC (.int 1))) ρ >>= truth) [.val (eI b), .val (eI n), .val (eI x)] = .ret (b.testBit x) := by
  have k1 := iShr_I b x
  have k2 : iBnd (eI (b / 2 ^ x)) (.int 1) = some (eI (b / 2 ^ x &&& 1)) := iBnd_I (b / 2 ^ x) 1
  have e : (((b / 2 ^ x &&& 1 : Nat) : Int) != 0) = b.testBit x := by
    rw [Nat.testBit_eq_decide_div_mod_eq, Nat.and_one_is_mod, Bool.eq_iff_iff, bne_iff_ne, decide_eq_true_iff]
    have := Nat.mod_lt (b / 2 ^ x) (show 0 < 2 by decide)
    generalize b / 2 ^ x % 2 = q at this ⊢
    omega
  have k3 : truth (eI (b / 2 ^ x &&& 1)) = .ret (b.testBit x) := by
    show T.ret (((b / 2 ^ x &&& 1 : Nat) : Int) != 0) = _
    rw [e]
  simp (config := {decide := true}) only [k1, k2, k3, fn, env0, List.map, List.length, Nat.sub_self, Nat.zero_add, Nat.reduceSub, Nat.reduceAdd, List.replicate, List.append_nil, List.cons_append, List.nil_append, sIf, sSeq, sSet, sRet, sExpr, sNext, gNotT, gAndT, gOrT, gNotV, gAndV, gOrV, gIf, gOp, gCall, gCons, gNil, gVar, gC, gMeth, List.getElem?_cons_zero, List.getElem?_cons_succ, List.set_cons_zero, List.set_cons_succ, ret_bind, exc_bind, bindS, noexc, opt, Option.some_or, truth_bl, truth_non, asB, fldD, if_true, if_false, Bool.not_true, Bool.not_false, runS, outD, ite_true, ite_false, Bool.false_eq_true]
theorem lset_1 {a b v t : D} (k : m_L_set_c [.val a, .val b, .none] = .ret v) (k2 : asT [v] = some t) : m_L_set [a, b] = .ret t := by
  rw [m_L_set_cut]
  simp (config := {decide := true}) only [k, k2, fn, env0, List.map, List.length, Nat.sub_self, Nat.zero_add, Nat.reduceSub, Nat.reduceAdd, List.replicate, List.append_nil, List.cons_append, List.nil_append, sIf, sSeq, sSet, sRet, sExpr, sNext, gNotT, gAndT, gOrT, gNotV, gAndV, gOrV, gIf, gOp, gCall, gCons, gNil, gVar, gC, gMeth, List.getElem?_cons_zero, List.getElem?_cons_succ, List.set_cons_zero, List.set_cons_succ, ret_bind, exc_bind, bindS, noexc, opt, Option.some_or, truth_bl, truth_non, asB, fldD, if_true, if_false, Bool.not_true, Bool.not_false, runS, outD, ite_true, ite_false, Bool.false_eq_true]
theorem lset_eq {n : Nat} (b : Nat) (hn : n ≤ 6) : m_L_set [eI b, eI n] = .ret (eT (bto n b)) := by
  refine lset_1 (v := eL (bto n b)) ?_ rfl
  refine gComp_ev eI (fun x => b.testBit x) eI (l := List.range n) ?_ (by rw [List.length_range]; omega) fun x _ => ⟨_, rfl, lset_t, fun _ => rfl⟩
  exact rng_nat (by omega)
/-- together -/
theorem bto_or {n a b : Nat} : ordN n (bto n a ++ bto n b) = bto n (a ||| b) := all_ext ord_all bto_all fun x _ => by
  rw [om bto_all bto_all, bto_mem, bto_mem, bto_mem, Nat.testBit_or, Bool.or_eq_true]
  constructor
  · rintro (⟨h1, h2⟩ | ⟨h1, h2⟩)
    · exact ⟨h1, .inl h2⟩
    · exact ⟨h1, .inr h2⟩
  · rintro ⟨h1, h2 | h2⟩
    · exact .inl ⟨h1, h2⟩
    · exact .inr ⟨h1, h2⟩
theorem togb_eq {n : Nat} (a b : Nat) (hn : n ≤ 6) : m_together [eT (bto n a), eT (bto n b)] = .ret (eT (bto n (a ||| b))) := by
  rw [togo_eq hn bto_all bto_all, bto_or]
theorem togb_eq2 {n : Nat} (a b : Nat) (hn : n ≤ 6) : m_together [eT (bto n b), eT (bto n a)] = .ret (eT (bto n (a ||| b))) := by
  rw [togb_eq b a hn, Nat.or_comm]
end Py
set_option Elab.async false
set_option linter.all false
set_option maxRecDepth 100000
set_option maxHeartbeats 1000000
namespace Py
open PySem PySem.Spec L2
/-! ### things that are no set -/
def m_L_odd_n : Sm := (sNew1 3 (oLst (gCons (gCall asL (gCons (gVar 2) (gNil))) (gCons (gC .non) (gCons (gC (.str "()")) (gCons (gC (.int 0)) (gCons (gC (.bl true)) (gCons (gC (.dic [] [])) (gCons (gTup (gCons (gVar 1) (gNil))) (gCons (gTup (gCons ((fun ρ => (gC (.int 1)) ρ >>= fun d => opt (iNeg d))) (gNil))) (gCons (gTup (gCons (gC (.str "0")) (gNil))) (gCons (gTup (gCons (gTup (gNil)) (gNil))) (gCons (gTup (gCons (gC .non) (gNil))) (gCons (gOp (fun a b => (iAdd a b).or (catD a b)) (gVar 2) (gTup (gCons (gVar 2) (gNil)))) (gNil)))))))))))))))
def m_L_odd_e : Sm := (sExt 3 (gOp (fun a b => (iAdd a b).or (catD a b)) (gOp (fun a b => (iAdd a b).or (catD a b)) (gComp ((fun ρ => (gSl (gVar 2) (optI none) (optI (some (gC (.int 1))))) ρ >>= seqD)) (bName 4) (gYes) (gTup (gCons (gVar 4) (gCons (gVar 4) (gNil)))) [4]) (gComp ((fun ρ => (gSl (gVar 2) (optI (some (gC (.int 1)))) (optI (some (gC (.int 2))))) ρ >>= seqD)) (bName 4) (gYes) (gStp (gVar 2) ((fun ρ => (gC (.int 1)) ρ >>= fun d => opt (iNeg d)))) [4])) (gComp ((fun ρ => (gSl (gVar 2) (optI none) (optI (some (gC (.int 1))))) ρ >>= seqD)) (bName 4) (gYes) (gOp (fun a b => (iAdd a b).or (catD a b)) (gVar 2) (gSl (gVar 2) (optI none) (optI (some (gC (.int 1)))))) [4])))
def m_L_odd_i : Sm := (sIf ((fun ρ => gOp (eqD false) (gSl (gVar 2) (optI none) (optI (some (gC (.int 1))))) (gTup (gCons (gC (.int 0)) (gNil))) ρ >>= asB)) (sApp 3 (gOp (fun a b => (iAdd a b).or (catD a b)) (gTup (gCons (gC (.bl false)) (gNil))) (gSl (gVar 2) (optI (some (gC (.int 1)))) (optI none)))) (sNext))
def m_L_odd_j : Sm := (sIf ((fun ρ => gOp (fun a b => (inD false a b).or ((inDic false a b).or (inN false a b))) (gC (.int 1)) (gVar 2) ρ >>= asB)) (sApp 3 (gCall asT (gCons (gComp ((fun ρ => (gVar 2) ρ >>= seqD)) (bName 4) (gYes) (gIf ((fun ρ => gOp (eqD false) (gVar 4) (gC (.int 1)) ρ >>= asB)) (gC (.bl true)) (gVar 4)) [4]) (gNil)))) (sNext))
def m_L_odd_z : Sm := (sFrz 3 (sRet ((fun ρ => (gCons (gVar 0) (gCons (gVar 3) (gNil))) ρ >>= fun l => if l.length = 2 then m_L_pick l else .bad))))
theorem m_L_odd_cut : m_L_odd = fn 5 (sSeq m_L_odd_n (sSeq m_L_odd_e (sSeq m_L_odd_i (sSeq m_L_odd_j m_L_odd_z)))) := rfl
theorem seq_as (a b c : Sm) : sSeq (sSeq a b) c = sSeq a (sSeq b c) := by
  funext ρ
  show (a ρ >>= fun o => match o with
    | .nx ρ' => b ρ'
    | o => .ret o) >>= _ = _
  rw [bind_bind]
  show _ = a ρ >>= fun o => match o with
    | .nx ρ' => sSeq b c ρ'
    | o => .ret o
  congr 1
  funext o
  cases o <;> rfl
def odS3 (n : Nat) (s : List Nat) : T Out := (sSeq m_L_odd_n (sSeq m_L_odd_e (sSeq m_L_odd_i m_L_odd_j))) [.val .deck, .val (eI n), .val (eT s), .none, .none]
/-- what the law asks of such a thing -/
structure Odd3 (n : Nat) (d : D) : Prop where
  no : m_is_set [eI n, d] = .ret (.bl false)
  eq : (eqD false d d).or (eqA d d) = some (.bl true)
  ne : (eqD false (.tup [d]) (.tup [])).or (eqTz (.tup [d]) (.tup [])) = some (.bl false)
  bl : ∃ b, (ansD (tabB "bool") d).map D.bl = some (.bl b)
def odB3 (n : Nat) (d : D) : Bool := isR (m_is_set [eI n, d]) (.bl false) && (isO ((eqD false d d).or (eqA d d)) (.bl true) && (isO ((eqD false (.tup [d]) (.tup [])).or (eqTz (.tup [d]) (.tup []))) (.bl false) && (isO ((ansD (tabB "bool") d).map D.bl) (.bl true) || isO ((ansD (tabB "bool") d).map D.bl) (.bl false))))
theorem odB3_is {n : Nat} {d : D} (h : odB3 n d = true) : Odd3 n d := by
  unfold odB3 at h
  rw [Bool.and_eq_true, Bool.and_eq_true, Bool.and_eq_true, Bool.or_eq_true] at h
  refine ⟨isR_eq h.1, isO_eq h.2.1, isO_eq h.2.2.1, ?_⟩
  rcases h.2.2.2 with z | z
  · exact ⟨true, isO_eq z⟩
  · exact ⟨false, isO_eq z⟩
def odR3 (n : Nat) (o : T Out) : Bool := match o with
  | .ret (.nx [.val .deck, .val _, .val _, .own (.lst l), _]) => decide (0 < l.length) && (decide (l.length < 1000000) && l.all fun d => odB3 n d)
  | _ => false
theorem odR3_is {n : Nat} {o : T Out} (h : odR3 n o = true) : ∃ a b l z, o = .ret (.nx [.val .deck, .val a, .val b, .own (.lst l), z]) ∧ 0 < l.length ∧ l.length < 1000000 ∧ ∀ d ∈ l, Odd3 n d := by
  unfold odR3 at h
  split at h
  · rename_i a b l z
    rw [Bool.and_eq_true, Bool.and_eq_true, decide_eq_true_iff, decide_eq_true_iff] at h
    exact ⟨a, b, l, z, rfl, h.1, h.2.1, fun d hd => odB3_is (List.all_eq_true.mp h.2.2 d hd)⟩
  · cases h
theorem od3_ok : ((List.range 7).all fun n => n == 0 || (allS n).all fun s => odR3 n (odS3 n s)) = true := by decide +kernel
theorem od3_dr {n : Nat} {s : List Nat} (h0 : 0 < n) (hn : n ≤ 6) (hs : s ∈ allS n) : Dr (m_L_odd [.deck, eI n, eT s]) 1 (Odd3 n) := by
  have k := of_all od3_ok (List.mem_range.mpr (show n < 7 by omega))
  rw [show (n == 0) = false from beq_eq_false_iff_ne.mpr (by omega), Bool.false_or] at k
  obtain ⟨a, b, l, z, e, h1, h2, h3⟩ := odR3_is (of_all k hs)
  rw [m_L_odd_cut]
  refine Dr.runS (P := fun o => ∃ d, Odd3 n d ∧ o = .ret d) ?_ fun o h => by
    obtain ⟨d, hd, rfl⟩ := h
    exact ⟨d, rfl, hd⟩
  rw [← seq_as m_L_odd_i, ← seq_as m_L_odd_e, ← seq_as m_L_odd_n]
  refine Dr.seq0 e ?_
  have q := pickL_dr h1 h2
  have c : m_L_odd_z = sFrz 3 (sRet ((fun ρ => (gCons (gVar 0) (gCons (gVar 3) (gNil))) ρ >>= fun l => if l.length = 2 then m_L_pick l else .bad))) := rfl
  rw [c]
  generalize m_L_pick = W at q ⊢
  refine (Dr.bindS (k := 1) (k' := 0) (show Dr (W [.deck, .lst l]) 1 _ from q) fun d hd => ?_).imp (Nat.le_refl _) fun o h => h
  exact .eq rfl ⟨d, h3 d hd, rfl⟩
/-! ### what is refused -/
section
variable {l : List D} {a d : D} {b : Bool}
theorem rq_x (k2 : m_is_set [a, d] = .ret (.bl false)) : m_require_set [.obj 25 (a :: l), d] = .exc 18 [d] := by
  simp (config := {decide := true}) only [m_require_set, sRaise1, k2, fn, env0, List.map, List.length, Nat.sub_self, Nat.zero_add, Nat.reduceSub, Nat.reduceAdd, List.replicate, List.append_nil, List.cons_append, List.nil_append, sIf, sSeq, sSet, sRet, sExpr, sNext, gNotT, gAndT, gOrT, gNotV, gAndV, gOrV, gIf, gOp, gCall, gCons, gNil, gVar, gC, gMeth, List.getElem?_cons_zero, List.getElem?_cons_succ, List.set_cons_zero, List.set_cons_succ, ret_bind, exc_bind, bindS, noexc, opt, Option.some_or, truth_bl, truth_non, asB, fldD, if_true, if_false, Bool.not_true, Bool.not_false, runS, outD, ite_true, ite_false, Bool.false_eq_true]
theorem tk_x {c : D} (k : m_require_set [c, d] = .exc 18 [d]) : m_Chooser_taken [c, d] = .exc 18 [d] := by
  simp (config := {decide := true}) only [m_Chooser_taken, k, fn, env0, List.map, List.length, Nat.sub_self, Nat.zero_add, Nat.reduceSub, Nat.reduceAdd, List.replicate, List.append_nil, List.cons_append, List.nil_append, sIf, sSeq, sSet, sRet, sExpr, sNext, gNotT, gAndT, gOrT, gNotV, gAndV, gOrV, gIf, gOp, gCall, gCons, gNil, gVar, gC, gMeth, List.getElem?_cons_zero, List.getElem?_cons_succ, List.set_cons_zero, List.set_cons_succ, ret_bind, exc_bind, bindS, noexc, opt, Option.some_or, truth_bl, truth_non, asB, fldD, if_true, if_false, Bool.not_true, Bool.not_false, runS, outD, ite_true, ite_false, Bool.false_eq_true]
theorem rfd_x (k : m_Chooser_taken [.obj 25 l, d] = .exc 18 [d]) : m_L_refused [.obj 25 l, d, .bl b] = .ret (.tup [d]) := by
  cases b <;> simp (config := {decide := true}) only [m_L_refused, sTry, exM, clr, outT, gXi, gXf, gTup, mkT, gMethK, permL, List.filterMap_cons, List.filterMap_nil, k, List.length_nil, List.length_cons, Option.map_some, List.mem_cons, fn, env0, List.map, List.length, Nat.sub_self, Nat.zero_add, Nat.reduceSub, Nat.reduceAdd, List.replicate, List.append_nil, List.cons_append, List.nil_append, sIf, sSeq, sSet, sRet, sExpr, sNext, gNotT, gAndT, gOrT, gNotV, gAndV, gOrV, gIf, gOp, gCall, gCons, gNil, gVar, gC, gMeth, List.getElem?_cons_zero, List.getElem?_cons_succ, List.set_cons_zero, List.set_cons_succ, ret_bind, exc_bind, bindS, noexc, opt, Option.some_or, truth_bl, truth_non, asB, fldD, if_true, if_false, Bool.not_true, Bool.not_false, runS, outD, ite_true, ite_false, Bool.false_eq_true] <;> rfl
theorem rfd_ok {v : D} (k : m_Chooser_taken [.obj 25 l, d] = .ret v) : m_L_refused [.obj 25 l, d, .bl b] = .ret (.tup []) := by
  cases b <;> simp (config := {decide := true}) only [m_L_refused, sTry, gTup, mkT, gMethK, permL, List.filterMap_cons, List.filterMap_nil, k, fn, env0, List.map, List.length, Nat.sub_self, Nat.zero_add, Nat.reduceSub, Nat.reduceAdd, List.replicate, List.append_nil, List.cons_append, List.nil_append, sIf, sSeq, sSet, sRet, sExpr, sNext, gNotT, gAndT, gOrT, gNotV, gAndV, gOrV, gIf, gOp, gCall, gCons, gNil, gVar, gC, gMeth, List.getElem?_cons_zero, List.getElem?_cons_succ, List.set_cons_zero, List.set_cons_succ, ret_bind, exc_bind, bindS, noexc, opt, Option.some_or, truth_bl, truth_non, asB, fldD, if_true, if_false, Bool.not_true, Bool.not_false, runS, outD, ite_true, ite_false, Bool.false_eq_true]
end
end Py
set_option Elab.async false
set_option linter.all false
set_option maxRecDepth 100000
set_option maxHeartbeats 1000000
namespace Py
open PySem PySem.Spec L2
/-! ### the sets -/
def m_L_sets_right_a : Sm := (sSet 1 (gOp (fun a b => (iAdd a b).or (catD a b)) (gC (.int 1)) ((fun ρ => (gCons (gVar 0) (gCons (gC (.int 6)) (gNil))) ρ >>= fun l => if l.length = 2 then m_L_draw l else .bad))))
def m_L_sets_right_b : Sm := (sSet 2 ((fun ρ => (gCons (gVar 1) (gNil)) ρ >>= fun l => if l.length = 1 then m_L_bits l else .bad)))
def m_L_sets_right_i : Sm := (sIf (gOrT ((fun ρ => gOp (eqD true) ((fun ρ => (gCons (gVar 1) (gNil)) ρ >>= fun l => if l.length = 1 then m_all_sets l else .bad)) (gCall asT (gCons (gComp ((fun ρ => (gVar 2) ρ >>= seqD)) (bName 8) (gYes) ((fun ρ => (gCons (gVar 8) (gCons (gVar 1) (gNil))) ρ >>= fun l => if l.length = 2 then m_L_set l else .bad)) [8]) (gNil))) ρ >>= asB)) ((fun ρ => gOp (eqD true) ((gFnK 0 1 1 [0] m_all_sets gNil (gCons (gC (.int 1)) (gNil)))) (gTup (gCons (gTup (gNil)) (gCons (gTup (gCons (gC (.int 0)) (gNil))) (gNil)))) ρ >>= asB))) (sRet (gC (.bl false))) (sNext))
def m_L_sets_right_l : Sm := (sFor ((fun ρ => (gCons (gC (.int 6)) (gNil)) ρ >>= rng1)) (bName 3) (sSeq (sPar [4, 5] (iVal ((fun ρ => (gCons (gVar 0) (gCons (gVar 2) (gNil))) ρ >>= fun l => if l.length = 2 then m_L_pick l else .bad)) (iVal ((fun ρ => (gCons (gVar 0) (gCons (gVar 2) (gNil))) ρ >>= fun l => if l.length = 2 then m_L_pick l else .bad)) (iNil)))) (sSeq (sPar [6, 7] (iVal ((fun ρ => (gCons (gVar 4) (gCons (gVar 1) (gNil))) ρ >>= fun l => if l.length = 2 then m_L_set l else .bad)) (iVal ((fun ρ => (gCons (gVar 5) (gCons (gVar 1) (gNil))) ρ >>= fun l => if l.length = 2 then m_L_set l else .bad)) (iNil)))) (sSeq (sIf (gOrT ((fun ρ => gOp (eqD true) ((fun ρ => (gCons (gVar 6) (gCons (gVar 7) (gNil))) ρ >>= fun l => if l.length = 2 then m_together l else .bad)) ((fun ρ => (gCons (gOp iBor (gVar 4) (gVar 5)) (gCons (gVar 1) (gNil))) ρ >>= fun l => if l.length = 2 then m_L_set l else .bad)) ρ >>= asB)) ((fun ρ => gOp (eqD true) ((gFnK 0 2 2 [1, 0] m_together gNil (gCons (gVar 6) (gCons (gVar 7) (gNil))))) ((fun ρ => (gCons (gVar 6) (gCons (gVar 7) (gNil))) ρ >>= fun l => if l.length = 2 then m_together l else .bad)) ρ >>= asB))) (sRet (gC (.bl false))) (sNext)) (sSeq (sIf (gOrT ((fun ρ => gOp (isB true) ((fun ρ => (gCons (gVar 1) (gCons (gVar 6) (gNil))) ρ >>= fun l => if l.length = 2 then m_is_set l else .bad)) (gC (.bl true)) ρ >>= asB)) ((fun ρ => gOp (isB true) ((gFnK 0 2 2 [1, 0] m_is_set gNil (gCons (gVar 6) (gCons (gVar 1) (gNil))))) (gC (.bl true)) ρ >>= asB))) (sRet (gC (.bl false))) (sNext)) (sSeq (sIf ((fun ρ => gOp (isB true) ((fun ρ => (gCons (gVar 1) (gCons ((fun ρ => (gCons (gVar 0) (gCons (gVar 1) (gCons (gVar 6) (gNil)))) ρ >>= fun l => if l.length = 3 then m_L_odd l else .bad)) (gNil))) ρ >>= fun l => if l.length = 2 then m_is_set l else .bad)) (gC (.bl false)) ρ >>= asB)) (sRet (gC (.bl false))) (sNext)) (sIf (gAndT ((fun ρ => gOp (cmpI (fun i j => decide (j < i))) (gVar 1) (gC (.int 1)) ρ >>= asB)) ((fun ρ => gOp (eqD true) ((fun ρ => (gCons (gOp iSub (gVar 1) (gC (.int 1))) (gCons (gVar 6) (gNil))) ρ >>= fun l => if l.length = 2 then m_is_set l else .bad)) (gOp (fun a b => (inD true a b).or ((inDic true a b).or (inN true a b))) (gOp iSub (gVar 1) (gC (.int 1))) (gVar 6)) ρ >>= asB))) (sRet (gC (.bl false))) (sNext))))))))
theorem m_L_sets_right_cut : m_L_sets_right = fn 9 (sSeq m_L_sets_right_a (sSeq m_L_sets_right_b (sSeq m_L_sets_right_i (sSeq m_L_sets_right_l (sRet (gC (.bl true))))))) := rfl
def m_L_sets_right_i_c : Env → T D := (gComp ((fun ρ => (gVar 2) ρ >>= seqD)) (bName 8) (gYes) ((fun ρ => (gCons (gVar 8) (gCons (gVar 1) (gNil))) ρ >>= fun l => if l.length = 2 then m_L_set l else .bad)) [8])
theorem m_L_sets_right_i_cut : m_L_sets_right_i = (sIf (gOrT ((fun ρ => gOp (eqD true) ((fun ρ => (gCons (gVar 1) (gNil)) ρ >>= fun l => if l.length = 1 then m_all_sets l else .bad)) (gCall asT (gCons m_L_sets_right_i_c (gNil))) ρ >>= asB)) ((fun ρ => gOp (eqD true) ((gFnK 0 1 1 [0] m_all_sets gNil (gCons (gC (.int 1)) (gNil)))) (gTup (gCons (gTup (gNil)) (gCons (gTup (gCons (gC (.int 0)) (gNil))) (gNil)))) ρ >>= asB))) (sRet (gC (.bl false))) (sNext)) := rfl
def m_L_sets_right_l_p : Sm := (sPar [4, 5] (iVal ((fun ρ => (gCons (gVar 0) (gCons (gVar 2) (gNil))) ρ >>= fun l => if l.length = 2 then m_L_pick l else .bad)) (iVal ((fun ρ => (gCons (gVar 0) (gCons (gVar 2) (gNil))) ρ >>= fun l => if l.length = 2 then m_L_pick l else .bad)) (iNil))))
def m_L_sets_right_l_q : Sm := (sPar [6, 7] (iVal ((fun ρ => (gCons (gVar 4) (gCons (gVar 1) (gNil))) ρ >>= fun l => if l.length = 2 then m_L_set l else .bad)) (iVal ((fun ρ => (gCons (gVar 5) (gCons (gVar 1) (gNil))) ρ >>= fun l => if l.length = 2 then m_L_set l else .bad)) (iNil))))
def m_L_sets_right_l_i : Sm := (sIf (gOrT ((fun ρ => gOp (eqD true) ((fun ρ => (gCons (gVar 6) (gCons (gVar 7) (gNil))) ρ >>= fun l => if l.length = 2 then m_together l else .bad)) ((fun ρ => (gCons (gOp iBor (gVar 4) (gVar 5)) (gCons (gVar 1) (gNil))) ρ >>= fun l => if l.length = 2 then m_L_set l else .bad)) ρ >>= asB)) ((fun ρ => gOp (eqD true) ((gFnK 0 2 2 [1, 0] m_together gNil (gCons (gVar 6) (gCons (gVar 7) (gNil))))) ((fun ρ => (gCons (gVar 6) (gCons (gVar 7) (gNil))) ρ >>= fun l => if l.length = 2 then m_together l else .bad)) ρ >>= asB))) (sRet (gC (.bl false))) (sNext))
def m_L_sets_right_l_j : Sm := (sIf (gOrT ((fun ρ => gOp (isB true) ((fun ρ => (gCons (gVar 1) (gCons (gVar 6) (gNil))) ρ >>= fun l => if l.length = 2 then m_is_set l else .bad)) (gC (.bl true)) ρ >>= asB)) ((fun ρ => gOp (isB true) ((gFnK 0 2 2 [1, 0] m_is_set gNil (gCons (gVar 6) (gCons (gVar 1) (gNil))))) (gC (.bl true)) ρ >>= asB))) (sRet (gC (.bl false))) (sNext))
def m_L_sets_right_l_k : Sm := (sIf ((fun ρ => gOp (isB true) ((fun ρ => (gCons (gVar 1) (gCons ((fun ρ => (gCons (gVar 0) (gCons (gVar 1) (gCons (gVar 6) (gNil)))) ρ >>= fun l => if l.length = 3 then m_L_odd l else .bad)) (gNil))) ρ >>= fun l => if l.length = 2 then m_is_set l else .bad)) (gC (.bl false)) ρ >>= asB)) (sRet (gC (.bl false))) (sNext))
def m_L_sets_right_l_m : Sm := (sIf (gAndT ((fun ρ => gOp (cmpI (fun i j => decide (j < i))) (gVar 1) (gC (.int 1)) ρ >>= asB)) ((fun ρ => gOp (eqD true) ((fun ρ => (gCons (gOp iSub (gVar 1) (gC (.int 1))) (gCons (gVar 6) (gNil))) ρ >>= fun l => if l.length = 2 then m_is_set l else .bad)) (gOp (fun a b => (inD true a b).or ((inDic true a b).or (inN true a b))) (gOp iSub (gVar 1) (gC (.int 1))) (gVar 6)) ρ >>= asB))) (sRet (gC (.bl false))) (sNext))
theorem m_L_sets_right_l_cut : m_L_sets_right_l = (sFor ((fun ρ => (gCons (gC (.int 6)) (gNil)) ρ >>= rng1)) (bName 3) (sSeq m_L_sets_right_l_p (sSeq m_L_sets_right_l_q (sSeq m_L_sets_right_l_i (sSeq m_L_sets_right_l_j (sSeq m_L_sets_right_l_k m_L_sets_right_l_m)))))) := rfl
theorem pickE_dr {l : List Nat} (h0 : 0 < l.length) (h1 : l.length ≤ 64) : Dr (m_L_pick [.deck, eL l]) 1 (fun d => ∃ x ∈ l, d = eI x) := by
  have := pickL_dr (l := l.map eI) (by rw [List.length_map]; exact h0) (by rw [List.length_map]; omega)
  refine Dr.imp (show Dr (m_L_pick [.deck, eL l]) 1 _ from this) (Nat.le_refl _) fun d h => ?_
  obtain ⟨x, hx, rfl⟩ := List.mem_map.mp h
  exact ⟨x, hx, rfl⟩
theorem ninE (x : Nat) (l : List Nat) : (inD true (eI x) (eT l)).or ((inDic true (eI x) (eT l)).or (inN true (eI x) (eT l))) = some (.bl !l.contains x) := by
  rw [nin_T]
  rfl
theorem below_ok : ((List.range 7).all fun n => decide (n ≤ 1) || (allS n).all fun s => isR (m_is_set [eI (n - 1), eT s]) (.bl !(s.contains (n - 1)))) = true := by decide +kernel
section
variable {nn bb e1 e2 ii jj : D} {a3 a4 a5 a6 a7 a8 : Slot}
theorem sr_i {v t : D} (k1 : m_all_sets [nn] = .ret t) (k2 : m_L_sets_right_i_c [.val .deck, .val nn, .val bb, .none, .none, .none, .none, .none, .none] = .ret v) (k3 : asT [v] = some t) (k4 : eqD true t t = some (.bl false)) (k5 : m_all_sets [.int 1] = .ret (.tup [.tup [], .tup [.int 0]])) (k6 : eqD true (.tup [.tup [], .tup [.int 0]]) (.tup [.tup [], .tup [.int 0]]) = some (.bl false)) : m_L_sets_right_i [.val .deck, .val nn, .val bb, .none, .none, .none, .none, .none, .none] = .ret (.nx [.val .deck, .val nn, .val bb, .none, .none, .none, .none, .none, .none]) := by
  rw [m_L_sets_right_i_cut]
  simp (config := {decide := true}) only [k1, k2, k3, k4, k5, k6, gFnK, permL, List.filterMap_cons, List.filterMap_nil, gTup, mkT, fn, env0, List.map, List.length, Nat.sub_self, Nat.zero_add, Nat.reduceSub, Nat.reduceAdd, List.replicate, List.append_nil, List.cons_append, List.nil_append, sIf, sSeq, sSet, sRet, sExpr, sNext, gNotT, gAndT, gOrT, gNotV, gAndV, gOrV, gIf, gOp, gCall, gCons, gNil, gVar, gC, gMeth, List.getElem?_cons_zero, List.getElem?_cons_succ, List.set_cons_zero, List.set_cons_succ, ret_bind, exc_bind, bindS, noexc, opt, Option.some_or, truth_bl, truth_non, asB, fldD, if_true, if_false, Bool.not_true, Bool.not_false, runS, outD, ite_true, ite_false, Bool.false_eq_true]
theorem sr_q (k1 : m_L_set [ii, nn] = .ret e1) (k2 : m_L_set [jj, nn] = .ret e2) : m_L_sets_right_l_q [.val .deck, .val nn, .val bb, a3, .val ii, .val jj, a6, a7, a8] = .ret (.nx [.val .deck, .val nn, .val bb, a3, .val ii, .val jj, .val e1, .val e2, a8]) := by
  simp (config := {decide := true}) only [m_L_sets_right_l_q, sPar, iVal, iNil, setE, k1, k2, fn, env0, List.map, List.length, Nat.sub_self, Nat.zero_add, Nat.reduceSub, Nat.reduceAdd, List.replicate, List.append_nil, List.cons_append, List.nil_append, sIf, sSeq, sSet, sRet, sExpr, sNext, gNotT, gAndT, gOrT, gNotV, gAndV, gOrV, gIf, gOp, gCall, gCons, gNil, gVar, gC, gMeth, List.getElem?_cons_zero, List.getElem?_cons_succ, List.set_cons_zero, List.set_cons_succ, ret_bind, exc_bind, bindS, noexc, opt, Option.some_or, truth_bl, truth_non, asB, fldD, if_true, if_false, Bool.not_true, Bool.not_false, runS, outD, ite_true, ite_false, Bool.false_eq_true]
theorem sr_t {u ij : D} (k1 : m_together [e1, e2] = .ret u) (k2 : iBor ii jj = some ij) (k3 : m_L_set [ij, nn] = .ret u) (k4 : m_together [e2, e1] = .ret u) (k5 : eqD true u u = some (.bl false)) : m_L_sets_right_l_i [.val .deck, .val nn, .val bb, a3, .val ii, .val jj, .val e1, .val e2, a8] = .ret (.nx [.val .deck, .val nn, .val bb, a3, .val ii, .val jj, .val e1, .val e2, a8]) := by
  simp (config := {decide := true}) only [m_L_sets_right_l_i, gFnK, permL, List.filterMap_cons, List.filterMap_nil, k1, k2, k3, k4, k5, fn, env0, List.map, List.length, Nat.sub_self, Nat.zero_add, Nat.reduceSub, Nat.reduceAdd, List.replicate, List.append_nil, List.cons_append, List.nil_append, sIf, sSeq, sSet, sRet, sExpr, sNext, gNotT, gAndT, gOrT, gNotV, gAndV, gOrV, gIf, gOp, gCall, gCons, gNil, gVar, gC, gMeth, List.getElem?_cons_zero, List.getElem?_cons_succ, List.set_cons_zero, List.set_cons_succ, ret_bind, exc_bind, bindS, noexc, opt, Option.some_or, truth_bl, truth_non, asB, fldD, if_true, if_false, Bool.not_true, Bool.not_false, runS, outD, ite_true, ite_false, Bool.false_eq_true]
theorem sr_j (k1 : m_is_set [nn, e1] = .ret (.bl true)) : m_L_sets_right_l_j [.val .deck, .val nn, .val bb, a3, a4, a5, .val e1, .val e2, a8] = .ret (.nx [.val .deck, .val nn, .val bb, a3, a4, a5, .val e1, .val e2, a8]) := by
  have k2 : isB true (.bl true) (.bl true) = some (.bl false) := rfl
  simp (config := {decide := true}) only [m_L_sets_right_l_j, gFnK, permL, List.filterMap_cons, List.filterMap_nil, k1, k2, fn, env0, List.map, List.length, Nat.sub_self, Nat.zero_add, Nat.reduceSub, Nat.reduceAdd, List.replicate, List.append_nil, List.cons_append, List.nil_append, sIf, sSeq, sSet, sRet, sExpr, sNext, gNotT, gAndT, gOrT, gNotV, gAndV, gOrV, gIf, gOp, gCall, gCons, gNil, gVar, gC, gMeth, List.getElem?_cons_zero, List.getElem?_cons_succ, List.set_cons_zero, List.set_cons_succ, ret_bind, exc_bind, bindS, noexc, opt, Option.some_or, truth_bl, truth_non, asB, fldD, if_true, if_false, Bool.not_true, Bool.not_false, runS, outD, ite_true, ite_false, Bool.false_eq_true]
theorem sr_m1 (k1 : cmpI (fun i j => decide (j < i)) nn (.int 1) = some (.bl false)) : m_L_sets_right_l_m [.val .deck, .val nn, .val bb, a3, a4, a5, .val e1, .val e2, a8] = .ret (.nx [.val .deck, .val nn, .val bb, a3, a4, a5, .val e1, .val e2, a8]) := by
  simp (config := {decide := true}) only [m_L_sets_right_l_m, k1, fn, env0, List.map, List.length, Nat.sub_self, Nat.zero_add, Nat.reduceSub, Nat.reduceAdd, List.replicate, List.append_nil, List.cons_append, List.nil_append, sIf, sSeq, sSet, sRet, sExpr, sNext, gNotT, gAndT, gOrT, gNotV, gAndV, gOrV, gIf, gOp, gCall, gCons, gNil, gVar, gC, gMeth, List.getElem?_cons_zero, List.getElem?_cons_succ, List.set_cons_zero, List.set_cons_succ, ret_bind, exc_bind, bindS, noexc, opt, Option.some_or, truth_bl, truth_non, asB, fldD, if_true, if_false, Bool.not_true, Bool.not_false, runS, outD, ite_true, ite_false, Bool.false_eq_true]
theorem sr_m2 {p : D} {b : Bool} (k1 : cmpI (fun i j => decide (j < i)) nn (.int 1) = some (.bl true)) (k2 : iSub nn (.int 1) = some p) (k3 : m_is_set [p, e1] = .ret (.bl b)) (k4 : (inD true p e1).or ((inDic true p e1).or (inN true p e1)) = some (.bl b)) (k5 : eqD true (.bl b) (.bl b) = some (.bl false)) : m_L_sets_right_l_m [.val .deck, .val nn, .val bb, a3, a4, a5, .val e1, .val e2, a8] = .ret (.nx [.val .deck, .val nn, .val bb, a3, a4, a5, .val e1, .val e2, a8]) := by
  simp (config := {decide := true}) only [m_L_sets_right_l_m, k1, k2, k3, k4, k5, fn, env0, List.map, List.length, Nat.sub_self, Nat.zero_add, Nat.reduceSub, Nat.reduceAdd, List.replicate, List.append_nil, List.cons_append, List.nil_append, sIf, sSeq, sSet, sRet, sExpr, sNext, gNotT, gAndT, gOrT, gNotV, gAndV, gOrV, gIf, gOp, gCall, gCons, gNil, gVar, gC, gMeth, List.getElem?_cons_zero, List.getElem?_cons_succ, List.set_cons_zero, List.set_cons_succ, ret_bind, exc_bind, bindS, noexc, opt, Option.some_or, truth_bl, truth_non, asB, fldD, if_true, if_false, Bool.not_true, Bool.not_false, runS, outD, ite_true, ite_false, Bool.false_eq_true]
theorem sr_k {n : Nat} (od : Dr (m_L_odd [.deck, eI n, e1]) 1 (Odd3 n)) : Dr (m_L_sets_right_l_k [.val .deck, .val (eI n), .val bb, a3, a4, a5, .val e1, .val e2, a8]) 1 (fun o => o = .nx [.val .deck, .val (eI n), .val bb, a3, a4, a5, .val e1, .val e2, a8]) := by
  have c : m_L_sets_right_l_k = sIf ((fun ρ => gOp (isB true) ((fun ρ => (gCons (gVar 1) (gCons ((fun ρ => (gCons (gVar 0) (gCons (gVar 1) (gCons (gVar 6) (gNil)))) ρ >>= fun l => if l.length = 3 then m_L_odd l else .bad)) (gNil))) ρ >>= fun l => if l.length = 2 then m_is_set l else .bad)) (gC (.bl false)) ρ >>= asB)) (sRet (gC (.bl false))) (sNext) := rfl
  have no : ∀ d, Odd3 n d → m_is_set [eI n, d] = .ret (.bl false) := fun d h => h.no
  rw [c]
  generalize m_L_odd = W at od ⊢
  generalize m_is_set = V at no ⊢
  refine sIf2_dr (k := 1) ?_ rfl
  show Dr (((((W [.deck, eI n, e1] >>= fun e => T.ret [e]) >>= fun l => T.ret (eI n :: l)) >>= fun l => if l.length = 2 then V l else .bad) >>= fun a => opt (isB true a (.bl false))) >>= asB) 1 _
  rw [bind_bind, bind_bind, bind_bind, bind_bind]
  refine (Dr.bind (k := 1) (k' := 0) od fun d hd => ?_).imp (Nat.le_refl _) fun o h => h
  have k := no d hd
  refine .eq (a := false) ?_ rfl
  show (V [eI n, d] >>= fun a => opt (isB true a (.bl false)) >>= asB) = _
  rw [k]
  rfl
end
def bl_self (b : Bool) : eqD true (.bl b) (.bl b) = some (.bl false) := by cases b <;> exact isO_eq (by decide +kernel)
theorem sr_l {n : Nat} (h0 : 0 < n) (hn : n ≤ 6) {a3 a4 a5 a6 a7 a8 : Slot} : Dr ((sSeq m_L_sets_right_l_p (sSeq m_L_sets_right_l_q (sSeq m_L_sets_right_l_i (sSeq m_L_sets_right_l_j (sSeq m_L_sets_right_l_k m_L_sets_right_l_m))))) [.val .deck, .val (eI n), .val (eL (bts n)), a3, a4, a5, a6, a7, a8]) 3 (fun o => ∃ ρ, o = .nx ρ ∧ ∃ b4 b5 b6 b7, ρ = [.val .deck, .val (eI n), .val (eL (bts n)), a3, b4, b5, b6, b7, a8]) := by
  refine (Dr.seq (k := 2) (k' := 1) (P := fun ρ => ∃ x y, ρ = [.val .deck, .val (eI n), .val (eL (bts n)), a3, .val (eI x), .val (eI y), a6, a7, a8]) ?_ fun ρ h => ?_).imp (Nat.le_refl _) fun o h => h
  · have d := pickE_dr (bts_pos hn) (bts_len hn)
    have c : m_L_sets_right_l_p = sPar [4, 5] (iVal ((fun ρ => (gCons (gVar 0) (gCons (gVar 2) (gNil))) ρ >>= fun l => if l.length = 2 then m_L_pick l else .bad)) (iVal ((fun ρ => (gCons (gVar 0) (gCons (gVar 2) (gNil))) ρ >>= fun l => if l.length = 2 then m_L_pick l else .bad)) (iNil))) := rfl
    rw [c]
    generalize m_L_pick = W at d ⊢
    refine (par2_dr (i := 4) (j := 5) (f := fun ρ => (gCons (gVar 0) (gCons (gVar 2) (gNil))) ρ >>= fun l => if l.length = 2 then W l else .bad) (g := fun ρ => (gCons (gVar 0) (gCons (gVar 2) (gNil))) ρ >>= fun l => if l.length = 2 then W l else .bad) (ρ := [.val .deck, .val (eI n), .val (eL (bts n)), a3, a4, a5, a6, a7, a8]) d d).imp (Nat.le_refl _) fun o h => ?_
    obtain ⟨a, b, ⟨x, _, rfl⟩, ⟨y, _, rfl⟩, rfl⟩ := h
    exact ⟨_, rfl, x, y, rfl⟩
  · obtain ⟨x, y, rfl⟩ := h
    have is := is_set_eq (n := n) hn (bto_all (n := n) (b := x))
    refine Dr.seq0 (sr_q (lset_eq x hn) (lset_eq y hn)) ?_
    refine Dr.seq0 (sr_t (togb_eq x y hn) (iBor_I x y) (lset_eq _ hn) (togb_eq2 x y hn) (pl_eq (pdT.pl1 _) (by decide) true)) ?_
    refine Dr.seq0 (sr_j is) ?_
    refine (Dr.seq (k := 1) (k' := 0) (P := fun ρ => ρ = [.val .deck, .val (eI n), .val (eL (bts n)), a3, .val (eI x), .val (eI y), .val (eT (bto n x)), .val (eT (bto n y)), a8]) ((sr_k (od3_dr h0 hn bto_all)).imp (Nat.le_refl _) fun o q => ⟨_, q, rfl⟩) fun ρ q => ?_).imp (Nat.le_refl _) fun o h => h
    subst q
    by_cases h1 : n ≤ 1
    · refine .eq (sr_m1 ?_) ⟨_, rfl, _, _, _, _, rfl⟩
      show some (D.bl (decide ((1 : Int) < (n : Int)))) = _
      rw [decide_eq_false (by omega)]
    · have ok := of_all below_ok (List.mem_range.mpr (show n < 7 by omega))
      rw [decide_eq_false h1, Bool.false_or] at ok
      have ok := isR_eq (of_all ok (bto_all (n := n) (b := x)))
      refine .eq (sr_m2 (p := eI (n - 1)) ?_ ?_ ok (ninE _ _) (bl_self _)) ⟨_, rfl, _, _, _, _, rfl⟩
      · show some (D.bl (decide ((1 : Int) < (n : Int)))) = _
        rw [decide_eq_true (by omega)]
      · show some (D.int ((n : Int) - 1)) = some (D.int ((n - 1 : Nat) : Int))
        congr 2
        omega
theorem sets_right : Dr (m_L_sets_right [.deck]) 19 (fun d => d = .bl true) := by
  rw [m_L_sets_right_cut]
  refine Dr.runS (P := fun o => o = .ret (.bl true)) ?_ fun o h => ⟨.bl true, by rw [h]; rfl, rfl⟩
  show Dr (sSeq _ _ [.val .deck, .none, .none, .none, .none, .none, .none, .none, .none]) _ _
  refine (Dr.seq (k := 1) (k' := 18) (P := fun ρ => ∃ n, (1 ≤ n ∧ n ≤ 6) ∧ ρ = [.val .deck, .val (eI n), .none, .none, .none, .none, .none, .none, .none]) ?_ fun ρ h => ?_).imp (Nat.le_refl _) fun o h => h
  · refine Dr.set (P := fun d => ∃ n, (1 ≤ n ∧ n ≤ 6) ∧ d = eI n) (more_dr (k := 6) (by decide) (by decide)) fun d h => ?_
    obtain ⟨n, h1, rfl⟩ := h
    exact ⟨n, h1, rfl⟩
  obtain ⟨n, ⟨h0, hn⟩, rfl⟩ := h
  have bq := bits_eq hn
  have eb : m_L_sets_right_b [.val .deck, .val (eI n), .none, .none, .none, .none, .none, .none, .none] = .ret (.nx [.val .deck, .val (eI n), .val (eL (bts n)), .none, .none, .none, .none, .none, .none]) := by
    simp (config := {decide := true}) only [m_L_sets_right_b, bq, fn, env0, List.map, List.length, Nat.sub_self, Nat.zero_add, Nat.reduceSub, Nat.reduceAdd, List.replicate, List.append_nil, List.cons_append, List.nil_append, sIf, sSeq, sSet, sRet, sExpr, sNext, gNotT, gAndT, gOrT, gNotV, gAndV, gOrV, gIf, gOp, gCall, gCons, gNil, gVar, gC, gMeth, List.getElem?_cons_zero, List.getElem?_cons_succ, List.set_cons_zero, List.set_cons_succ, ret_bind, exc_bind, bindS, noexc, opt, Option.some_or, truth_bl, truth_non, asB, fldD, if_true, if_false, Bool.not_true, Bool.not_false, runS, outD, ite_true, ite_false, Bool.false_eq_true]
  refine Dr.seq0 eb ?_
  have e0 : m_all_sets [eI n] = .ret (eTT (allS n)) := isR_eq (of_all alls_ok (List.mem_range.mpr (by omega)))
  have e1 : m_all_sets [.int 1] = .ret (.tup [.tup [], .tup [.int 0]]) := isR_eq (by decide +kernel)
  have ec : m_L_sets_right_i_c [.val .deck, .val (eI n), .val (eL (bts n)), .none, .none, .none, .none, .none, .none] = .ret (.lst ((bts n).map fun b => eT (bto n b))) := by
    refine gComp_all eI (fun b => eT (bto n b)) (l := bts n) rfl (by have := bts_len hn; omega) fun b _ => ⟨_, rfl, ?_⟩
    exact lset_eq b hn
  have ea : asT [.lst ((bts n).map fun b => eT (bto n b))] = some (eTT (allS n)) := by
    show some (D.tup _) = some (D.tup _)
    rw [← bts_all hn, List.map_map]
    rfl
  refine Dr.seq0 (sr_i e0 ec ea (pl_eq (pdT.tup.pl1 (allS n)) (by decide) true) e1 (isO_eq (by decide +kernel))) ?_
  refine (Dr.seq (k := 18) (k' := 0) (P := fun ρ => ∃ b3 b4 b5 b6 b7, ρ = [.val .deck, .val (eI n), .val (eL (bts n)), b3, b4, b5, b6, b7, .none]) ?_ fun ρ h => ?_).imp (Nat.le_refl _) fun o h => h
  · rw [m_L_sets_right_l_cut]
    have r6 : rng1 [.int 6] = .ret ((List.range 6).map eI) := rng_nat (n := 6) (by decide)
    refine (Dr.bindS (k := 0) (k' := 18) (P := fun ds => ds = (List.range 6).map eI) (.eq r6 rfl) fun ds hd => ?_).imp (Nat.le_refl _) fun o h => h
    subst hd
    have := Dr.loop (enc := eI) (b := bName 3) (body := sSeq m_L_sets_right_l_p (sSeq m_L_sets_right_l_q (sSeq m_L_sets_right_l_i (sSeq m_L_sets_right_l_j (sSeq m_L_sets_right_l_k m_L_sets_right_l_m))))) (fun j ρ => ∃ b3 b4 b5 b6 b7, ρ = [.val .deck, .val (eI n), .val (eL (bts n)), b3, b4, b5, b6, b7, .none]) 3 (List.range 6) 0 [.val .deck, .val (eI n), .val (eL (bts n)), .none, .none, .none, .none, .none, .none] ⟨_, _, _, _, _, rfl⟩ fun i a hi ρ h => by
      obtain ⟨b3, b4, b5, b6, b7, rfl⟩ := h
      refine ⟨[.val .deck, .val (eI n), .val (eL (bts n)), .val (eI a), b4, b5, b6, b7, .none], rfl, (sr_l h0 hn).imp (Nat.le_refl _) fun o h => ?_⟩
      obtain ⟨ρ, rfl, c4, c5, c6, c7, rfl⟩ := h
      exact ⟨_, rfl, _, c4, c5, c6, c7, rfl⟩
    exact this.imp (by decide) fun o h => h
  · obtain ⟨b3, b4, b5, b6, b7, rfl⟩ := h
    exact .eq rfl rfl
end Py
set_option Elab.async false
set_option linter.all false
set_option maxRecDepth 100000
set_option maxHeartbeats 1000000
namespace Py
open PySem PySem.Spec L2
/-! ### what is taken, what is refused -/
def m_L_taken_right_a : Sm := (sSet 1 (gOp (fun a b => (iAdd a b).or (catD a b)) (gC (.int 1)) ((fun ρ => (gCons (gVar 0) (gCons (gC (.int 4)) (gNil))) ρ >>= fun l => if l.length = 2 then m_L_draw l else .bad))))
def m_L_taken_right_b : Sm := (sSet 2 ((fun ρ => (gCons (gVar 1) (gNil)) ρ >>= fun l => if l.length = 1 then m_L_bits l else .bad)))
def m_L_taken_right_c : Sm := (sSet 3 (gComp ((fun ρ => (gVar 2) ρ >>= seqD)) (bName 7) (gYes) (gOp iBnd (gVar 7) ((fun ρ => (gCons (gVar 0) (gCons (gOp iShl (gC (.int 1)) (gVar 1)) (gNil))) ρ >>= fun l => if l.length = 2 then m_L_draw l else .bad))) [7]))
def m_L_taken_right_d : Sm := (sSet 4 (gMake 2 25 m_Chooser_init (gCons (gVar 1) (gCons (gCall asT (gCons (gComp ((fun ρ => (gVar 3) ρ >>= seqD)) (bName 7) (gYes) ((fun ρ => (gCons (gVar 7) (gCons (gVar 1) (gNil))) ρ >>= fun l => if l.length = 2 then m_L_set l else .bad)) [7]) (gNil))) (gNil)))))
def m_L_taken_right_w : Sm := (sSet 5 ((fun ρ => (gVar 4) ρ >>= fldD 25 1)))
def m_L_taken_right_z : Sm := (sFor ((fun ρ => (gCons (gVar 2) (gCons (gVar 3) (gNil))) ρ >>= zipR)) (bTup 2 (bCons (bName 7) (bCons (bName 8) (bNil)))) (sIf ((fun ρ => gOp (eqD true) ((gMeth 2 25 m_Chooser_taken (gVar 4) (gCons ((fun ρ => (gCons (gVar 7) (gCons (gVar 1) (gNil))) ρ >>= fun l => if l.length = 2 then m_L_set l else .bad)) (gNil)))) ((fun ρ => (gCons (gVar 8) (gCons (gVar 1) (gNil))) ρ >>= fun l => if l.length = 2 then m_L_set l else .bad)) ρ >>= asB)) (sRet (gC (.bl false))) (sNext)))
def m_L_taken_right_l : Sm := (sFor ((fun ρ => (gCons (gC (.int 4)) (gNil)) ρ >>= rng1)) (bName 6) (sSeq (sSet 9 ((fun ρ => (gCons ((fun ρ => (gCons (gVar 0) (gCons (gVar 2) (gNil))) ρ >>= fun l => if l.length = 2 then m_L_pick l else .bad)) (gCons (gVar 1) (gNil))) ρ >>= fun l => if l.length = 2 then m_L_set l else .bad))) (sSeq (sSet 10 ((fun ρ => (gCons (gVar 0) (gCons (gVar 1) (gCons (gVar 9) (gNil)))) ρ >>= fun l => if l.length = 3 then m_L_odd l else .bad))) (sSeq (sSet 11 ((fun ρ => (gCons (gVar 4) (gCons (gVar 10) (gCons (gOp (eqD false) (gVar 6) (gC (.int 1))) (gNil)))) ρ >>= fun l => if l.length = 3 then m_L_refused l else .bad))) (sSeq (sIf (gOrT ((fun ρ => gOp (fun a b => (eqD false a b).or (eqTz a b)) (gVar 11) (gTup (gNil)) ρ >>= asB)) (gOrT (gNotT ((fun ρ => gOp (fun a b => (eqD false a b).or (eqA a b)) (gOp ixA (gVar 11) (gC (.int 0))) (gVar 10) ρ >>= asB))) ((fun ρ => gOp (eqD true) (gIsi (ansD (tabB "bool")) (gOp ixA (gVar 11) (gC (.int 0)))) (gIsi (ansD (tabB "bool")) (gVar 10)) ρ >>= asB)))) (sRet (gC (.bl false))) (sNext)) (sIf (gOrT ((fun ρ => gOp (eqD true) ((gMethK 2 1 25 [0] m_Chooser_taken (gVar 4) (gCons (gVar 9) (gNil)))) ((gMeth 2 25 m_Chooser_taken (gVar 4) (gCons (gVar 9) (gNil)))) ρ >>= asB)) ((fun ρ => gOp (eqD true) ((fun ρ => (gCons (gVar 4) (gCons (gVar 9) (gCons (gC (.bl false)) (gNil)))) ρ >>= fun l => if l.length = 3 then m_L_refused l else .bad)) (gTup (gNil)) ρ >>= asB))) (sRet (gC (.bl false))) (sNext)))))))
def m_L_taken_right_r : Sm := (sRet (gAndV (gOp (eqTo 25 m_Chooser_eq) ((fun ρ => (gCons (gVar 4) (gCons (gVar 4) (gCons (gC (.bl false)) (gNil)))) ρ >>= fun l => if l.length = 3 then m_L_refused l else .bad)) (gTup (gCons (gVar 4) (gNil)))) (gOp (eqD false) ((fun ρ => (gVar 4) ρ >>= fldD 25 1)) (gVar 5))))
theorem m_L_taken_right_cut : m_L_taken_right = fn 12 (sSeq m_L_taken_right_a (sSeq m_L_taken_right_b (sSeq m_L_taken_right_c (sSeq m_L_taken_right_d (sSeq m_L_taken_right_w (sSeq m_L_taken_right_z (sSeq m_L_taken_right_l m_L_taken_right_r))))))) := rfl
def m_L_taken_right_c_c : Env → T D := (gComp ((fun ρ => (gVar 2) ρ >>= seqD)) (bName 7) (gYes) (gOp iBnd (gVar 7) ((fun ρ => (gCons (gVar 0) (gCons (gOp iShl (gC (.int 1)) (gVar 1)) (gNil))) ρ >>= fun l => if l.length = 2 then m_L_draw l else .bad))) [7])
theorem m_L_taken_right_c_cut : m_L_taken_right_c = (sSet 3 m_L_taken_right_c_c) := rfl
def m_L_taken_right_d_c : Env → T D := (gComp ((fun ρ => (gVar 3) ρ >>= seqD)) (bName 7) (gYes) ((fun ρ => (gCons (gVar 7) (gCons (gVar 1) (gNil))) ρ >>= fun l => if l.length = 2 then m_L_set l else .bad)) [7])
theorem m_L_taken_right_d_cut : m_L_taken_right_d = (sSet 4 (gMake 2 25 m_Chooser_init (gCons (gVar 1) (gCons (gCall asT (gCons m_L_taken_right_d_c (gNil))) (gNil))))) := rfl
def m_L_taken_right_z_i : Sm := (sIf ((fun ρ => gOp (eqD true) ((gMeth 2 25 m_Chooser_taken (gVar 4) (gCons ((fun ρ => (gCons (gVar 7) (gCons (gVar 1) (gNil))) ρ >>= fun l => if l.length = 2 then m_L_set l else .bad)) (gNil)))) ((fun ρ => (gCons (gVar 8) (gCons (gVar 1) (gNil))) ρ >>= fun l => if l.length = 2 then m_L_set l else .bad)) ρ >>= asB)) (sRet (gC (.bl false))) (sNext))
theorem m_L_taken_right_z_cut : m_L_taken_right_z = (sFor ((fun ρ => (gCons (gVar 2) (gCons (gVar 3) (gNil))) ρ >>= zipR)) (bTup 2 (bCons (bName 7) (bCons (bName 8) (bNil)))) m_L_taken_right_z_i) := rfl
def m_L_taken_right_l_s : Sm := (sSet 9 ((fun ρ => (gCons ((fun ρ => (gCons (gVar 0) (gCons (gVar 2) (gNil))) ρ >>= fun l => if l.length = 2 then m_L_pick l else .bad)) (gCons (gVar 1) (gNil))) ρ >>= fun l => if l.length = 2 then m_L_set l else .bad)))
def m_L_taken_right_l_o : Sm := (sSet 10 ((fun ρ => (gCons (gVar 0) (gCons (gVar 1) (gCons (gVar 9) (gNil)))) ρ >>= fun l => if l.length = 3 then m_L_odd l else .bad)))
def m_L_taken_right_l_t : Sm := (sSet 11 ((fun ρ => (gCons (gVar 4) (gCons (gVar 10) (gCons (gOp (eqD false) (gVar 6) (gC (.int 1))) (gNil)))) ρ >>= fun l => if l.length = 3 then m_L_refused l else .bad)))
def m_L_taken_right_l_i : Sm := (sIf (gOrT ((fun ρ => gOp (fun a b => (eqD false a b).or (eqTz a b)) (gVar 11) (gTup (gNil)) ρ >>= asB)) (gOrT (gNotT ((fun ρ => gOp (fun a b => (eqD false a b).or (eqA a b)) (gOp ixA (gVar 11) (gC (.int 0))) (gVar 10) ρ >>= asB))) ((fun ρ => gOp (eqD true) (gIsi (ansD (tabB "bool")) (gOp ixA (gVar 11) (gC (.int 0)))) (gIsi (ansD (tabB "bool")) (gVar 10)) ρ >>= asB)))) (sRet (gC (.bl false))) (sNext))
def m_L_taken_right_l_j : Sm := (sIf (gOrT ((fun ρ => gOp (eqD true) ((gMethK 2 1 25 [0] m_Chooser_taken (gVar 4) (gCons (gVar 9) (gNil)))) ((gMeth 2 25 m_Chooser_taken (gVar 4) (gCons (gVar 9) (gNil)))) ρ >>= asB)) ((fun ρ => gOp (eqD true) ((fun ρ => (gCons (gVar 4) (gCons (gVar 9) (gCons (gC (.bl false)) (gNil)))) ρ >>= fun l => if l.length = 3 then m_L_refused l else .bad)) (gTup (gNil)) ρ >>= asB))) (sRet (gC (.bl false))) (sNext))
theorem m_L_taken_right_l_cut : m_L_taken_right_l = (sFor ((fun ρ => (gCons (gC (.int 4)) (gNil)) ρ >>= rng1)) (bName 6) (sSeq m_L_taken_right_l_s (sSeq m_L_taken_right_l_o (sSeq m_L_taken_right_l_t (sSeq m_L_taken_right_l_i m_L_taken_right_l_j))))) := rfl
section
variable {nn bb pk wa : D} {l1 : List D} {a3 a4 a5 a6 a7 a8 a9 a10 a11 : Slot}
theorem tr_d {v t : D} {fs : List D} (k1 : m_L_taken_right_d_c [.val .deck, .val nn, .val bb, .val pk, .none, .none, .none, .none, .none, .none, .none, .none] = .ret v) (k2 : asT [v] = some t) (k3 : m_Chooser_init [nn, t] = .ret fs) : m_L_taken_right_d [.val .deck, .val nn, .val bb, .val pk, .none, .none, .none, .none, .none, .none, .none, .none] = .ret (.nx [.val .deck, .val nn, .val bb, .val pk, .val (.obj 25 fs), .none, .none, .none, .none, .none, .none, .none]) := by
  rw [m_L_taken_right_d_cut]
  simp (config := {decide := true}) only [gMake, k1, k2, k3, fn, env0, List.map, List.length, Nat.sub_self, Nat.zero_add, Nat.reduceSub, Nat.reduceAdd, List.replicate, List.append_nil, List.cons_append, List.nil_append, sIf, sSeq, sSet, sRet, sExpr, sNext, gNotT, gAndT, gOrT, gNotV, gAndV, gOrV, gIf, gOp, gCall, gCons, gNil, gVar, gC, gMeth, List.getElem?_cons_zero, List.getElem?_cons_succ, List.set_cons_zero, List.set_cons_succ, ret_bind, exc_bind, bindS, noexc, opt, Option.some_or, truth_bl, truth_non, asB, fldD, if_true, if_false, Bool.not_true, Bool.not_false, runS, outD, ite_true, ite_false, Bool.false_eq_true]
theorem tr_w {p1 : D} (k : fldD 25 1 (.obj 25 l1) = .ret p1) : m_L_taken_right_w [.val .deck, .val nn, .val bb, .val pk, .val (.obj 25 l1), .none, .none, .none, .none, .none, .none, .none] = .ret (.nx [.val .deck, .val nn, .val bb, .val pk, .val (.obj 25 l1), .val p1, .none, .none, .none, .none, .none, .none]) := by
  have c : m_L_taken_right_w = sSet 5 ((fun ρ => (gVar 4) ρ >>= fldD 25 1)) := rfl
  rw [c]
  generalize fldD 25 1 = F at k ⊢
  simp (config := {decide := true}) only [k, fn, env0, List.map, List.length, Nat.sub_self, Nat.zero_add, Nat.reduceSub, Nat.reduceAdd, List.replicate, List.append_nil, List.cons_append, List.nil_append, sIf, sSeq, sSet, sRet, sExpr, sNext, gNotT, gAndT, gOrT, gNotV, gAndV, gOrV, gIf, gOp, gCall, gCons, gNil, gVar, gC, gMeth, List.getElem?_cons_zero, List.getElem?_cons_succ, List.set_cons_zero, List.set_cons_succ, ret_bind, exc_bind, bindS, noexc, opt, Option.some_or, truth_bl, truth_non, asB, fldD, if_true, if_false, Bool.not_true, Bool.not_false, runS, outD, ite_true, ite_false, Bool.false_eq_true]
theorem tr_zi {x y u v : D} (k1 : m_L_set [x, nn] = .ret u) (k2 : m_Chooser_taken [.obj 25 l1, u] = .ret v) (k3 : m_L_set [y, nn] = .ret v) (k4 : eqD true v v = some (.bl false)) : m_L_taken_right_z_i [.val .deck, .val nn, .val bb, .val pk, .val (.obj 25 l1), .val wa, a6, .val x, .val y, a9, a10, a11] = .ret (.nx [.val .deck, .val nn, .val bb, .val pk, .val (.obj 25 l1), .val wa, a6, .val x, .val y, a9, a10, a11]) := by
  simp (config := {decide := true}) only [m_L_taken_right_z_i, k1, k2, k3, k4, fn, env0, List.map, List.length, Nat.sub_self, Nat.zero_add, Nat.reduceSub, Nat.reduceAdd, List.replicate, List.append_nil, List.cons_append, List.nil_append, sIf, sSeq, sSet, sRet, sExpr, sNext, gNotT, gAndT, gOrT, gNotV, gAndV, gOrV, gIf, gOp, gCall, gCons, gNil, gVar, gC, gMeth, List.getElem?_cons_zero, List.getElem?_cons_succ, List.set_cons_zero, List.set_cons_succ, ret_bind, exc_bind, bindS, noexc, opt, Option.some_or, truth_bl, truth_non, asB, fldD, if_true, if_false, Bool.not_true, Bool.not_false, runS, outD, ite_true, ite_false, Bool.false_eq_true]
theorem tr_t {tu od : D} {b : Bool} (k1 : eqD false tu (.int 1) = some (.bl b)) (k2 : m_L_refused [.obj 25 l1, od, .bl b] = .ret (.tup [od])) : m_L_taken_right_l_t [.val .deck, .val nn, .val bb, .val pk, .val (.obj 25 l1), .val wa, .val tu, a7, a8, a9, .val od, a11] = .ret (.nx [.val .deck, .val nn, .val bb, .val pk, .val (.obj 25 l1), .val wa, .val tu, a7, a8, a9, .val od, .val (.tup [od])]) := by
  simp (config := {decide := true}) only [m_L_taken_right_l_t, k1, k2, fn, env0, List.map, List.length, Nat.sub_self, Nat.zero_add, Nat.reduceSub, Nat.reduceAdd, List.replicate, List.append_nil, List.cons_append, List.nil_append, sIf, sSeq, sSet, sRet, sExpr, sNext, gNotT, gAndT, gOrT, gNotV, gAndV, gOrV, gIf, gOp, gCall, gCons, gNil, gVar, gC, gMeth, List.getElem?_cons_zero, List.getElem?_cons_succ, List.set_cons_zero, List.set_cons_succ, ret_bind, exc_bind, bindS, noexc, opt, Option.some_or, truth_bl, truth_non, asB, fldD, if_true, if_false, Bool.not_true, Bool.not_false, runS, outD, ite_true, ite_false, Bool.false_eq_true]
theorem tr_i {od : D} {b : Bool} (k1 : (eqD false (.tup [od]) (.tup [])).or (eqTz (.tup [od]) (.tup [])) = some (.bl false)) (k2 : ixA (.tup [od]) (.int 0) = some od) (k3 : (eqD false od od).or (eqA od od) = some (.bl true)) (k4 : (ansD (tabB "bool") od).map D.bl = some (.bl b)) (k5 : eqD true (.bl b) (.bl b) = some (.bl false)) : m_L_taken_right_l_i [.val .deck, .val nn, .val bb, .val pk, .val (.obj 25 l1), .val wa, a6, a7, a8, a9, .val od, .val (.tup [od])] = .ret (.nx [.val .deck, .val nn, .val bb, .val pk, .val (.obj 25 l1), .val wa, a6, a7, a8, a9, .val od, .val (.tup [od])]) := by
  simp (config := {decide := true}) only [m_L_taken_right_l_i, gTup, mkT, gIsi, k1, k2, k3, k4, k5, fn, env0, List.map, List.length, Nat.sub_self, Nat.zero_add, Nat.reduceSub, Nat.reduceAdd, List.replicate, List.append_nil, List.cons_append, List.nil_append, sIf, sSeq, sSet, sRet, sExpr, sNext, gNotT, gAndT, gOrT, gNotV, gAndV, gOrV, gIf, gOp, gCall, gCons, gNil, gVar, gC, gMeth, List.getElem?_cons_zero, List.getElem?_cons_succ, List.set_cons_zero, List.set_cons_succ, ret_bind, exc_bind, bindS, noexc, opt, Option.some_or, truth_bl, truth_non, asB, fldD, if_true, if_false, Bool.not_true, Bool.not_false, runS, outD, ite_true, ite_false, Bool.false_eq_true]
theorem tr_j {so v : D} (k1 : m_Chooser_taken [.obj 25 l1, so] = .ret v) (k2 : eqD true v v = some (.bl false)) (k3 : m_L_refused [.obj 25 l1, so, .bl false] = .ret (.tup [])) (k4 : eqD true (.tup []) (.tup []) = some (.bl false)) : m_L_taken_right_l_j [.val .deck, .val nn, .val bb, .val pk, .val (.obj 25 l1), .val wa, a6, a7, a8, .val so, a10, a11] = .ret (.nx [.val .deck, .val nn, .val bb, .val pk, .val (.obj 25 l1), .val wa, a6, a7, a8, .val so, a10, a11]) := by
  simp (config := {decide := true}) only [m_L_taken_right_l_j, gMethK, permL, List.filterMap_cons, List.filterMap_nil, gTup, mkT, k1, k2, k3, k4, fn, env0, List.map, List.length, Nat.sub_self, Nat.zero_add, Nat.reduceSub, Nat.reduceAdd, List.replicate, List.append_nil, List.cons_append, List.nil_append, sIf, sSeq, sSet, sRet, sExpr, sNext, gNotT, gAndT, gOrT, gNotV, gAndV, gOrV, gIf, gOp, gCall, gCons, gNil, gVar, gC, gMeth, List.getElem?_cons_zero, List.getElem?_cons_succ, List.set_cons_zero, List.set_cons_succ, ret_bind, exc_bind, bindS, noexc, opt, Option.some_or, truth_bl, truth_non, asB, fldD, if_true, if_false, Bool.not_true, Bool.not_false, runS, outD, ite_true, ite_false, Bool.false_eq_true]
theorem tr_r (k1 : m_L_refused [.obj 25 l1, .obj 25 l1, .bl false] = .ret (.tup [.obj 25 l1])) (k2 : eqTo 25 m_Chooser_eq (.tup [.obj 25 l1]) (.tup [.obj 25 l1]) = some (.bl true)) (k3 : fldD 25 1 (.obj 25 l1) = .ret wa) (k4 : eqD false wa wa = some (.bl true)) : m_L_taken_right_r [.val .deck, .val nn, .val bb, .val pk, .val (.obj 25 l1), .val wa, a6, a7, a8, a9, a10, a11] = .ret (.ret (.bl true)) := by
  have c : m_L_taken_right_r = sRet (gAndV (gOp (eqTo 25 m_Chooser_eq) ((fun ρ => (gCons (gVar 4) (gCons (gVar 4) (gCons (gC (.bl false)) (gNil)))) ρ >>= fun l => if l.length = 3 then m_L_refused l else .bad)) (gTup (gCons (gVar 4) (gNil)))) (gOp (eqD false) ((fun ρ => (gVar 4) ρ >>= fldD 25 1)) (gVar 5))) := rfl
  rw [c]
  generalize eqTo 25 m_Chooser_eq = E at k2 ⊢
  generalize fldD 25 1 = F at k3 ⊢
  simp (config := {decide := true}) only [gTup, mkT, k1, k2, k3, k4, fn, env0, List.map, List.length, Nat.sub_self, Nat.zero_add, Nat.reduceSub, Nat.reduceAdd, List.replicate, List.append_nil, List.cons_append, List.nil_append, sIf, sSeq, sSet, sRet, sExpr, sNext, gNotT, gAndT, gOrT, gNotV, gAndV, gOrV, gIf, gOp, gCall, gCons, gNil, gVar, gC, gMeth, List.getElem?_cons_zero, List.getElem?_cons_succ, List.set_cons_zero, List.set_cons_succ, ret_bind, exc_bind, bindS, noexc, opt, Option.some_or, truth_bl, truth_non, asB, fldD, if_true, if_false, Bool.not_true, Bool.not_false, runS, outD, ite_true, ite_false, Bool.false_eq_true]
end
theorem eC_ob3 (n : Nat) (C : List Nat → List Nat) : ∃ l, eC n C = .obj 25 (eI n :: l) := ⟨_, rfl⟩
theorem zip_map3 {α : Type} (f g : α → D) : ∀ l : List α, zipP (l.map f) (l.map g) = l.map fun a => .tup [f a, g a]
  | [] => rfl
  | a :: l => by
    have ih := zip_map3 f g l
    show D.tup [f a, g a] :: zipP (l.map f) (l.map g) = _
    rw [ih]
    rfl
theorem eq_ch3 {n : Nat} {C : List Nat → List Nat} : m_Chooser_eq [eC n C, eC n C] = .ret (.bl true) := by
  have h1 : eqD false (eI n) (eI n) = some (.bl true) := by rw [eq_int]; simp
  have h2 : eqD false (eTT ((allS n).map C)) (eTT ((allS n).map C)) = some (.bl true) := by rw [eq_TT]; simp
  have h3 : (ansD (tabO 25 [25]) (.obj 25 [eI n, eTT ((allS n).map C), .dicN ((allS n).map eT) ((allS n).map fun s => eT (C s))])).map D.bl = some (.bl true) := rfl
  unfold eC
  simp (config := {decide := true}) only [m_Chooser_eq, gIsi, h1, h2, h3, fn, env0, List.map, List.length, Nat.sub_self, Nat.zero_add, Nat.reduceSub, Nat.reduceAdd, List.replicate, List.append_nil, List.cons_append, List.nil_append, sIf, sSeq, sSet, sRet, sExpr, sNext, gNotT, gAndT, gOrT, gNotV, gAndV, gOrV, gIf, gOp, gCall, gCons, gNil, gVar, gC, gMeth, List.getElem?_cons_zero, List.getElem?_cons_succ, List.set_cons_zero, List.set_cons_succ, ret_bind, exc_bind, bindS, noexc, opt, Option.some_or, truth_bl, truth_non, asB, fldD, if_true, if_false, Bool.not_true, Bool.not_false, runS, outD, ite_true, ite_false, Bool.false_eq_true]
theorem eqTo3 {n : Nat} {C : List Nat → List Nat} : eqTo 25 m_Chooser_eq (.tup [eC n C]) (.tup [eC n C]) = some (.bl true) := by
  have e : eqOb 25 m_Chooser_eq (eC n C) (eC n C) = true := by
    have := eq_ch3 (n := n) (C := C)
    unfold eC at this ⊢
    simp only [eqOb, this, isTru, decide_true, Bool.and_self]
  show (if eqObs 25 m_Chooser_eq [eC n C] [eC n C] = true then some (D.bl true) else none) = _
  have e2 : eqObs 25 m_Chooser_eq [eC n C] [eC n C] = true := by
    simp only [eqObs, e, Bool.and_self]
  rw [if_pos e2]
section
variable {n : Nat} {C : List Nat → List Nat} {g : Nat → Nat} {l : List D} {pk wa : D}
theorem z_loop (h6 : n ≤ 6) (x1 : eC n C = .obj 25 (eI n :: l)) (cb : ∀ b ∈ bts n, C (bto n b) = bto n (g b)) : ∀ (m : List Nat), (∀ b ∈ m, b ∈ bts n) → ∀ a7 a8 : Slot, ∃ b7 b8, forL (bTup 2 (bCons (bName 7) (bCons (bName 8) (bNil)))) m_L_taken_right_z_i (m.map fun b => .tup [eI b, eI (g b)]) [.val .deck, .val (eI n), .val (eL (bts n)), .val pk, .val (.obj 25 (eI n :: l)), .val wa, .none, a7, a8, .none, .none, .none] = .ret (.nx [.val .deck, .val (eI n), .val (eL (bts n)), .val pk, .val (.obj 25 (eI n :: l)), .val wa, .none, b7, b8, .none, .none, .none])
  | [], _, a7, a8 => ⟨a7, a8, rfl⟩
  | b :: m, h, a7, a8 => by
    have tk := taken_eq (C := C) h6 (bto_all (n := n) (b := b))
    rw [x1, cb b (h b List.mem_cons_self)] at tk
    obtain ⟨b7, b8, e⟩ := z_loop h6 x1 cb m (fun x hx => h x (List.mem_cons_of_mem _ hx)) (.val (eI b)) (.val (eI (g b)))
    refine ⟨b7, b8, ?_⟩
    rw [← e]
    exact forL_step (ρ1 := [.val .deck, .val (eI n), .val (eL (bts n)), .val pk, .val (.obj 25 (eI n :: l)), .val wa, .none, .val (eI b), .val (eI (g b)), .none, .none, .none]) rfl (tr_zi (lset_eq b h6) tk (lset_eq (g b) h6) (pl_eq (pdT.pl1 _) (by decide) true))
/-- a turn with a thing that is no set -/
theorem tr_l (h0 : 0 < n) (hn : n ≤ 6) (x1 : eC n C = .obj 25 (eI n :: l)) {a7 a8 a9 a10 a11 : Slot} {tu : Nat} : Dr ((sSeq m_L_taken_right_l_s (sSeq m_L_taken_right_l_o (sSeq m_L_taken_right_l_t (sSeq m_L_taken_right_l_i m_L_taken_right_l_j)))) [.val .deck, .val (eI n), .val (eL (bts n)), .val pk, .val (.obj 25 (eI n :: l)), .val wa, .val (eI tu), a7, a8, a9, a10, a11]) 2 (fun o => ∃ ρ, o = .nx ρ ∧ ∃ b9 b10 b11, ρ = [.val .deck, .val (eI n), .val (eL (bts n)), .val pk, .val (.obj 25 (eI n :: l)), .val wa, .val (eI tu), a7, a8, b9, b10, b11]) := by
  refine (Dr.seq (k := 1) (k' := 1) (P := fun ρ => ∃ b, ρ = [.val .deck, .val (eI n), .val (eL (bts n)), .val pk, .val (.obj 25 (eI n :: l)), .val wa, .val (eI tu), a7, a8, .val (eT (bto n b)), a10, a11]) ?_ fun ρ h => ?_).imp (Nat.le_refl _) fun o h => h
  · have d := pickE_dr (bts_pos hn) (bts_len hn)
    have ls : ∀ b, m_L_set [eI b, eI n] = .ret (eT (bto n b)) := fun b => lset_eq b hn
    have c : m_L_taken_right_l_s = sSet 9 ((fun ρ => (gCons ((fun ρ => (gCons (gVar 0) (gCons (gVar 2) (gNil))) ρ >>= fun l => if l.length = 2 then m_L_pick l else .bad)) (gCons (gVar 1) (gNil))) ρ >>= fun l => if l.length = 2 then m_L_set l else .bad)) := rfl
    rw [c]
    generalize m_L_pick = W at d ⊢
    generalize m_L_set = V at ls ⊢
    refine Dr.set (P := fun d => ∃ b, d = eT (bto n b)) ?_ fun d h => ?_
    · show Dr ((W [.deck, eL (bts n)] >>= fun e => (T.ret [eI n] : T (List D)) >>= fun l => T.ret (e :: l)) >>= fun l => if l.length = 2 then V l else .bad) 1 _
      rw [bind_bind]
      refine (Dr.bind (k := 1) (k' := 0) d fun d hd => ?_).imp (Nat.le_refl _) fun o h => h
      obtain ⟨b, _, rfl⟩ := hd
      exact .eq (ls b) ⟨b, rfl⟩
    · obtain ⟨b, rfl⟩ := h
      exact ⟨b, rfl⟩
  · obtain ⟨b, rfl⟩ := h
    have hs : bto n b ∈ allS n := bto_all
    generalize bto n b = s at hs ⊢
    refine (Dr.seq (k := 1) (k' := 0) (P := fun ρ => ∃ d, Odd3 n d ∧ ρ = [.val .deck, .val (eI n), .val (eL (bts n)), .val pk, .val (.obj 25 (eI n :: l)), .val wa, .val (eI tu), a7, a8, .val (eT s), .val d, a11]) ?_ fun ρ h => ?_).imp (Nat.le_refl _) fun o h => h
    · have d := od3_dr h0 hn hs
      have c : m_L_taken_right_l_o = sSet 10 ((fun ρ => (gCons (gVar 0) (gCons (gVar 1) (gCons (gVar 9) (gNil)))) ρ >>= fun l => if l.length = 3 then m_L_odd l else .bad)) := rfl
      rw [c]
      generalize m_L_odd = W at d ⊢
      exact Dr.set (P := Odd3 n) d fun d h => ⟨d, h, rfl⟩
    · obtain ⟨d, h, rfl⟩ := h
      obtain ⟨b, hb⟩ := h.bl
      have tk := taken_eq (C := C) hn hs
      rw [x1] at tk
      refine Dr.seq0 (tr_t (b := decide (tu = 1)) (by rw [show D.int 1 = eI 1 from rfl, eq_int]) (rfd_x (tk_x (rq_x h.no)))) ?_
      refine Dr.seq0 (tr_i h.ne rfl h.eq hb (bl_self b)) ?_
      exact .eq (tr_j tk (pl_eq (pdT.pl1 _) (by decide) true) (rfd_ok tk) (isO_eq (by decide +kernel))) ⟨_, rfl, _, _, _, rfl⟩
end
theorem taken_right : Dr (m_L_taken_right [.deck]) 73 (fun d => d = .bl true) := by
  rw [m_L_taken_right_cut]
  refine Dr.runS (P := fun o => o = .ret (.bl true)) ?_ fun o h => ⟨.bl true, by rw [h]; rfl, rfl⟩
  show Dr (sSeq _ _ [.val .deck, .none, .none, .none, .none, .none, .none, .none, .none, .none, .none, .none]) _ _
  refine (Dr.seq (k := 1) (k' := 72) (P := fun ρ => ∃ n, (1 ≤ n ∧ n ≤ 4) ∧ ρ = [.val .deck, .val (eI n), .none, .none, .none, .none, .none, .none, .none, .none, .none, .none]) ?_ fun ρ h => ?_).imp (Nat.le_refl _) fun o h => h
  · refine Dr.set (P := fun d => ∃ n, (1 ≤ n ∧ n ≤ 4) ∧ d = eI n) (more_dr (k := 4) (by decide) (by decide)) fun d h => ?_
    obtain ⟨n, h1, rfl⟩ := h
    exact ⟨n, h1, rfl⟩
  obtain ⟨n, ⟨h0, hn⟩, rfl⟩ := h
  have h6 : n ≤ 6 := by omega
  have bq := bits_eq h6
  have few := bts_len h6
  have eb : m_L_taken_right_b [.val .deck, .val (eI n), .none, .none, .none, .none, .none, .none, .none, .none, .none, .none] = .ret (.nx [.val .deck, .val (eI n), .val (eL (bts n)), .none, .none, .none, .none, .none, .none, .none, .none, .none]) := by
    simp (config := {decide := true}) only [m_L_taken_right_b, bq, fn, env0, List.map, List.length, Nat.sub_self, Nat.zero_add, Nat.reduceSub, Nat.reduceAdd, List.replicate, List.append_nil, List.cons_append, List.nil_append, sIf, sSeq, sSet, sRet, sExpr, sNext, gNotT, gAndT, gOrT, gNotV, gAndV, gOrV, gIf, gOp, gCall, gCons, gNil, gVar, gC, gMeth, List.getElem?_cons_zero, List.getElem?_cons_succ, List.set_cons_zero, List.set_cons_succ, ret_bind, exc_bind, bindS, noexc, opt, Option.some_or, truth_bl, truth_non, asB, fldD, if_true, if_false, Bool.not_true, Bool.not_false, runS, outD, ite_true, ite_false, Bool.false_eq_true]
  refine Dr.seq0 eb ?_
  refine (Dr.seq (k := 64) (k' := 8) (P := fun ρ => ∃ g : Nat → Nat, (∀ b ∈ bts n, ∃ r, g b = b &&& r) ∧ ρ = [.val .deck, .val (eI n), .val (eL (bts n)), .val (.lst ((bts n).map fun b => eI (g b))), .none, .none, .none, .none, .none, .none, .none, .none]) ?_ fun ρ h => ?_).imp (Nat.le_refl _) fun o h => h
  · rw [m_L_taken_right_c_cut]
    refine Dr.set (P := fun d => ∃ g : Nat → Nat, (∀ b ∈ bts n, ∃ r, g b = b &&& r) ∧ d = .lst ((bts n).map fun b => eI (g b))) ?_ fun d h => ?_
    · refine (gComp_drP (l := bts n) (k := 1) eI eI (Q := fun b p => ∃ r, p = b &&& r) 0 (bts_nd h6) rfl (by omega) fun b _ => ⟨_, rfl, ?_⟩).imp (by omega) fun d h => h
      have q := draw_dr (top := 1000000) (n := 2 ^ n) (Nat.two_pow_pos n) (by
        have : (2 : Nat) ^ n ≤ 2 ^ 6 := Nat.pow_le_pow_right (by decide) h6
        omega)
      have sh : iShl (.int 1) (eI n) = some (eI (2 ^ n)) := iShl_I h6
      have ar : (gCons (gVar 0) (gCons (gOp iShl (gC (.int 1)) (gVar 1)) (gNil))) [.val .deck, .val (eI n), .val (eL (bts n)), .none, .none, .none, .none, .val (eI b), .none, .none, .none, .none] = .ret [.deck, eI (2 ^ n)] := by
        simp (config := {decide := true}) only [sh, fn, env0, List.map, List.length, Nat.sub_self, Nat.zero_add, Nat.reduceSub, Nat.reduceAdd, List.replicate, List.append_nil, List.cons_append, List.nil_append, sIf, sSeq, sSet, sRet, sExpr, sNext, gNotT, gAndT, gOrT, gNotV, gAndV, gOrV, gIf, gOp, gCall, gCons, gNil, gVar, gC, gMeth, List.getElem?_cons_zero, List.getElem?_cons_succ, List.set_cons_zero, List.set_cons_succ, ret_bind, exc_bind, bindS, noexc, opt, Option.some_or, truth_bl, truth_non, asB, fldD, if_true, if_false, Bool.not_true, Bool.not_false, runS, outD, ite_true, ite_false, Bool.false_eq_true]
      refine (gOp2_dr (k1 := 0) (k2 := 1) (P := fun d => d = eI b) (Q := fun d => ∃ i, i < 2 ^ n ∧ d = eI i) (.eq rfl rfl) ?_ fun a d ha hd => ?_).imp (Nat.le_refl _) fun o h => h
      · show Dr ((gCons (gVar 0) (gCons (gOp iShl (gC (.int 1)) (gVar 1)) (gNil))) [.val .deck, .val (eI n), .val (eL (bts n)), .none, .none, .none, .none, .val (eI b), .none, .none, .none, .none] >>= fun l => if l.length = 2 then m_L_draw l else .bad) 1 _
        rw [ar, ret_bind]
        exact q
      · subst ha
        obtain ⟨r, _, rfl⟩ := hd
        exact ⟨_, iBnd_I b r, _, ⟨r, rfl⟩, rfl⟩
    · obtain ⟨g, h1, rfl⟩ := h
      exact ⟨g, h1, rfl⟩
  obtain ⟨g, hg, rfl⟩ := h
  let C : List Nat → List Nat := fun s => bto n (g (cod s))
  have hC : ∀ s ∈ allS n, C s ∈ allS n := fun s _ => bto_all
  have hsub : ∀ s ∈ allS n, sub (C s) s = true := fun s hs => sub_iff.mpr fun x hx => by
    have hx := bto_mem.mp hx
    obtain ⟨r, hr⟩ := hg (cod s) (List.mem_map.mpr ⟨s, hs, rfl⟩)
    rw [hr, Nat.testBit_and, Bool.and_eq_true] at hx
    have : x ∈ bto n (cod s) := bto_mem.mpr ⟨hx.1, hx.2.1⟩
    rwa [bto_cod h6 hs] at this
  have cb : ∀ b ∈ bts n, C (bto n b) = bto n (g b) := fun b hb => by
    obtain ⟨s, hs, rfl⟩ := List.mem_map.mp hb
    show bto n (g (cod (bto n (cod s)))) = _
    rw [bto_cod h6 hs]
  have it := init_eq (n := n) (C := C) h0 h6 hC hsub
  have ed : m_L_taken_right_d_c [.val .deck, .val (eI n), .val (eL (bts n)), .val (.lst ((bts n).map fun b => eI (g b))), .none, .none, .none, .none, .none, .none, .none, .none] = .ret (.lst ((bts n).map fun b => eT (bto n (g b)))) := by
    refine gComp_all (fun b => eI (g b)) (fun b => eT (bto n (g b))) (l := bts n) rfl (by omega) fun b _ => ⟨_, rfl, ?_⟩
    exact lset_eq (g b) h6
  have ea : asT [.lst ((bts n).map fun b => eT (bto n (g b)))] = some (eTT ((allS n).map C)) := by
    show some (D.tup _) = some (D.tup _)
    unfold bts
    rw [List.map_map, List.map_map]
    rfl
  have xo : eC n C = .obj 25 [eI n, eTT ((allS n).map C), .dicN ((allS n).map eT) ((allS n).map fun s => eT (C s))] := rfl
  have f1 : fldD 25 1 (eC n C) = .ret (eTT ((allS n).map C)) := rfl
  have tk : ∀ s ∈ allS n, m_Chooser_taken [eC n C, eT s] = .ret (eT (C s)) := fun s hs => taken_eq h6 hs
  have oe := eqTo3 (n := n) (C := C)
  have nt : m_is_set [eI n, eC n C] = .ret (.bl false) := by
    have e1 : (ansD (tabBO "tuple" 25) (eC n C)).map D.bl = some (.bl false) := rfl
    generalize eC n C = c at e1 ⊢
    simp (config := {decide := true}) only [m_is_set, gIsi, e1, fn, env0, List.map, List.length, Nat.sub_self, Nat.zero_add, Nat.reduceSub, Nat.reduceAdd, List.replicate, List.append_nil, List.cons_append, List.nil_append, sIf, sSeq, sSet, sRet, sExpr, sNext, gNotT, gAndT, gOrT, gNotV, gAndV, gOrV, gIf, gOp, gCall, gCons, gNil, gVar, gC, gMeth, List.getElem?_cons_zero, List.getElem?_cons_succ, List.set_cons_zero, List.set_cons_succ, ret_bind, exc_bind, bindS, noexc, opt, Option.some_or, truth_bl, truth_non, asB, fldD, if_true, if_false, Bool.not_true, Bool.not_false, runS, outD, ite_true, ite_false, Bool.false_eq_true]
  obtain ⟨l, x1⟩ := eC_ob3 n C
  refine Dr.seq0 (tr_d ed ea it) ?_
  rw [← xo]
  have rr : m_L_refused [eC n C, eC n C, .bl false] = .ret (.tup [eC n C]) := by
    have k := nt
    rw [x1] at k ⊢
    exact rfd_x (tk_x (rq_x k))
  rw [x1] at f1 oe rr ⊢
  refine Dr.seq0 (tr_w f1) ?_
  have ez : ∃ b7 b8, m_L_taken_right_z [.val .deck, .val (eI n), .val (eL (bts n)), .val (.lst ((bts n).map fun b => eI (g b))), .val (.obj 25 (eI n :: l)), .val (eTT ((allS n).map C)), .none, .none, .none, .none, .none, .none] = .ret (.nx [.val .deck, .val (eI n), .val (eL (bts n)), .val (.lst ((bts n).map fun b => eI (g b))), .val (.obj 25 (eI n :: l)), .val (eTT ((allS n).map C)), .none, b7, b8, .none, .none, .none]) := by
    obtain ⟨b7, b8, e⟩ := z_loop (g := g) (pk := .lst ((bts n).map fun b => eI (g b))) (wa := eTT ((allS n).map C)) h6 x1 cb (bts n) (fun b h => h) .none .none
    refine ⟨b7, b8, ?_⟩
    rw [← e, m_L_taken_right_z_cut]
    have zz := zip_map3 eI (fun b => eI (g b)) (bts n)
    show bindS (T.ret (zipP ((bts n).map eI) ((bts n).map fun b => eI (g b)))) _ _ = _
    rw [zz]
    rfl
  obtain ⟨b7, b8, ez⟩ := ez
  refine Dr.seq0 ez ?_
  refine (Dr.seq (k := 8) (k' := 0) (P := fun ρ => ∃ b6 b9 b10 b11, ρ = [.val .deck, .val (eI n), .val (eL (bts n)), .val (.lst ((bts n).map fun b => eI (g b))), .val (.obj 25 (eI n :: l)), .val (eTT ((allS n).map C)), b6, b7, b8, b9, b10, b11]) ?_ fun ρ h => ?_).imp (Nat.le_refl _) fun o h => h
  · rw [m_L_taken_right_l_cut]
    have r4 : rng1 [.int 4] = .ret ((List.range 4).map eI) := rng_nat (n := 4) (by decide)
    refine (Dr.bindS (k := 0) (k' := 8) (P := fun ds => ds = (List.range 4).map eI) (.eq r4 rfl) fun ds hd => ?_).imp (Nat.le_refl _) fun o h => h
    subst hd
    have := Dr.loop (enc := eI) (b := bName 6) (body := sSeq m_L_taken_right_l_s (sSeq m_L_taken_right_l_o (sSeq m_L_taken_right_l_t (sSeq m_L_taken_right_l_i m_L_taken_right_l_j)))) (fun j ρ => ∃ b6 b9 b10 b11, ρ = [.val .deck, .val (eI n), .val (eL (bts n)), .val (.lst ((bts n).map fun b => eI (g b))), .val (.obj 25 (eI n :: l)), .val (eTT ((allS n).map C)), b6, b7, b8, b9, b10, b11]) 2 (List.range 4) 0 _ ⟨.none, .none, .none, .none, rfl⟩ fun i a hi ρ h => by
      obtain ⟨b6, b9, b10, b11, rfl⟩ := h
      refine ⟨[.val .deck, .val (eI n), .val (eL (bts n)), .val (.lst ((bts n).map fun b => eI (g b))), .val (.obj 25 (eI n :: l)), .val (eTT ((allS n).map C)), .val (eI a), b7, b8, b9, b10, b11], rfl, (tr_l h0 h6 x1).imp (Nat.le_refl _) fun o h => ?_⟩
      obtain ⟨ρ, rfl, c9, c10, c11, rfl⟩ := h
      exact ⟨_, rfl, _, c9, c10, c11, rfl⟩
    exact this.imp (by decide) fun o h => h
  · obtain ⟨b6, b9, b10, b11, rfl⟩ := h
    exact .eq (tr_r rr oe f1 (pl_eq (pdT.tup.pl1 _) (by decide) false)) rfl
theorem law_dr : Dr (sL (envL 2)) 92 (fun o => o = .ret (.bl true)) := by
  have h1 := sets_right
  have h2 := taken_right
  have c : sL = sRet (gAndV ((fun ρ => (gCons (gVar 1) (gNil)) ρ >>= fun l => if l.length = 1 then m_L_sets_right l else .bad)) ((fun ρ => (gCons (gVar 1) (gNil)) ρ >>= fun l => if l.length = 1 then m_L_taken_right l else .bad))) := rfl
  rw [c]
  generalize m_L_sets_right = W at h1 ⊢
  generalize m_L_taken_right = V at h2 ⊢
  show Dr (bindS (W [.deck] >>= fun d => match d with
    | .bl true => V [.deck]
    | .bl false => .ret (.bl false)
    | _ => .bad) (envL 2) fun d => T.ret (.ret d)) 92 _
  refine (Dr.bindS (k := 92) (k' := 0) (P := fun d => d = .bl true) ?_ fun d h => ?_).imp (Nat.le_refl _) fun o h => h
  · refine (Dr.bind (k := 19) (k' := 73) h1 fun d h => ?_).imp (Nat.le_refl _) fun o h => h
    subst h
    exact h2
  · subst h
    exact .eq rfl rfl
theorem hall : (sL (envL 2)).wp N0 (fun o _ => o = .ret (.bl true)) (fun _ _ _ => False) := T.wp_mono (law_dr.wp N0 (by decide)) (fun _ _ q => q.2) fun _ _ _ z => z
end Py

set_option Elab.async false
set_option linter.all false
set_option maxRecDepth 100000
set_option maxHeartbeats 0
open PySem PySem.W PySem.Calls PyProof.Rows
theorem PySem.Challenge.cw_offerstands_k03_sets_and_what_is_taken_holds : PySem.Challenge.rw_offerstands_k03_sets_and_what_is_taken.Holds := by
  w_on; o_law
  refine HandSHeadRun.head_imp (r := OpenLaw.row PySem.Challenge.rw_offerstands_k03_sets_and_what_is_taken) (q := view (OpenLaw.row PySem.Challenge.rw_offerstands_k03_sets_and_what_is_taken).prog [0, 34]) (H := Py.Hk.hkL) (ob := Py.Hk.obL) (M := 40000) (loose := ((["OfferError", "BadText", "BadChooser", "BadSet", "is_integer", "is_integer_within", "text_lines", "numbered_head", "line_at", "require_last"] : List Str) ++ (["MOST_OFFERS", "Chooser", "is_set", "require_set", "all_sets", "parts_of", "together", "is_within", "set_text", "picks_read"] : List Str) ++ (["_law_deck", "_law_draw", "_law_pick", "_law_bits", "_law_set", "_law_odd", "_law_refused", "_law_sets_right", "_law_taken_right"] : List Str))) (d := HandSHeadRun.topDef (OpenLaw.row PySem.Challenge.rw_offerstands_k03_sets_and_what_is_taken).prog 34) (kwd := []) Py.Hk.obL_eq
    Py.Hk.runL (by kernel_rfl) (by kernel_rfl) (by kernel_rfl) (by rfl) (by first | assumption | decide +kernel) (by decide +kernel) ⟨rfl, rfl, rfl, rfl, rfl, by decide +kernel⟩ ?hw ?hc
  case hw => w_witness2
  case hc =>
    refine LamX.walk_ofTsE (l := PySem.Challenge.rw_offerstands_k03_sets_and_what_is_taken) (n := 63) (k := 9) (x := "_law_script") (CX := fun w => L2.CX PySem.Challenge.pw_offerstands_k03_sets_and_what_is_taken w) rfl (by decide) (by kernel_rfl) ⟨rfl, by decide, by decide⟩ ?F ?hCX
    case hCX =>
      intro w H s e s' x
      obtain ⟨_, _, _, _, _, _, _, _, _, _, _, _, _, _, _, _, z⟩ := x
    case F =>
      intro w mg fa h Y G hmg0
      obtain ⟨K, Ps, KX, nP, hT, c⟩ := Y
      have hmg : mg ("law" : PySem.Str) = some (.ref fa) := by
        have e : (HandSHeadRun.topDef (OpenLaw.row PySem.Challenge.rw_offerstands_k03_sets_and_what_is_taken).prog 34).name = ("law" : PySem.Str) := by kernel_rfl
        rw [← e]
        exact hmg0
      have efa := hmg.symm.trans (He.glo_ok KX G (Py.Hk.factS c 42))
      cases efa
      obtain ⟨fd, FL⟩ := Py.Hk.fun_code (x := "law") (st := Py.top 34) (kws := []) (Py.Hk.defS c 21)
      have hb : ∀ (s : Shared) (u : Value), BindsTo s fd ⟨[u], []⟩ [("_law_script", u)] := by
        intro s u
        obtain ⟨oc, od, kV, doc, pm, an, ct, osl, e1, _⟩ := FL.ex
        rw [e1]
        exact .of_eq rfl
      refine ⟨K, KX, fd, Py.Hk.pairsA K Py.Hk.lamL Ps, Py.spLaw K (Py.Hk.namesA Py.Hk.lamL Ps), ?_, ?_, ?_, hb, ?_, ?_⟩
      · intro p hp
        exact hT _ (Py.Hk.pairs_in hp)
      · intro p hp
        exact nP _ (Py.Hk.pairs_in hp)
      · intro p hp
        exact Py.Hk.heads_ok KX (Py.Hk.headS c) p hp
      · intro H a ns hl _ hH sq
        refine ⟨a, ns, rfl, sq, hl, fun p hp => ?_, fun _ => rfl⟩
        obtain ⟨c1, hc1⟩ := Py.Hk.names_pair (K := K) hp
        exact ⟨#[], hH _ hc1, trivial, fun pos cv hc => nomatch hc⟩
      · intro base KB GB TB
        exact Py.okLaw (Py.Hk.factsL KX G c) (Py.Hk.lmL KX G c TB) FL Py.hall
