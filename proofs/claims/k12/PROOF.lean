import PyProof.Rows.All
import Wide.All
import OpenK.AllK
import Wide.FinOn
import HandS.ForMost
import HandS.ForExc
import HandS.Lambda
import KE.KeyNested
import KE.KDictKeyed
import HandS.IsInst
import HandS.TupAny
import HandS.Style
import HandS.MakeKwOnly
import HandS.ExcSuper
import HandS.TryOnly
import HandS.ExcField
import HandS.ExcIs
import HandS.OwnEq
import HandS.Dict
import KE.KEqSeq
import HandS.Conv
import HandS.ExcOwn
import HandS.SortInts
import HandS.TupLen
import KE.SortData
import KE.SortLaws
import KE.KDictSum
import KE.KDictCopyH
import PyProof.WalkInts
import HandS.SortKw
import HandS.RevRange
import KE.KDictDisplayH
import HandS.Head0
import HandS.Head1
import HandS.Head2
import HandS.HeadEnd
import HandS.HeadHook1
import HandS.HeadHook2
import HandS.HeadWalk
import PySem.Challenge.RW_offerstands_k12_streams_that_bring
set_option Elab.async false
set_option linter.all false
set_option maxRecDepth 100000
set_option maxHeartbeats 4000000
namespace Py
open PySem L2

/-- data: what a value is, its heap forgotten -/
inductive D where
  | non | bl (b : Bool) | int (i : Int) | str (x : Str)
  | tup (l : List D) | lst (l : List D)
  | dic (ks vs : List D) | dicN (ks vs : List D)
  | obj (c : Nat) (l : List D)
  | deck

/-- a run of plain Lean: a value, an error, an open draw below n, or no word -/
inductive T (α : Type) where
  | ret (a : α) | exc (c : Nat) (l : List D) | draw (n : Nat) (k : Nat → T α) | bad
namespace T
def bind {α β : Type} : T α → (α → T β) → T β
  | .ret a, f => f a
  | .exc c l, _ => .exc c l
  | .draw n k, f => .draw n fun i => bind (k i) f
  | .bad, _ => .bad
instance : Monad T where
  pure := .ret
  bind := bind
def wp {α : Type} : T α → (α → Prop) → (Nat → List D → Prop) → Prop
  | .ret a, Q, _ => Q a
  | .exc c l, _, E => E c l
  | .draw n k, Q, E => ∀ i, i < n → wp (k i) Q E
  | .bad, _, _ => False
theorem wp_bind {α β : Type} (t : T α) (f : α → T β) (Q : β → Prop) (E : Nat → List D → Prop) : (t.bind f).wp Q E ↔ t.wp (fun a => (f a).wp Q E) E := by
  induction t with
  | ret a => exact Iff.rfl
  | exc c l => exact Iff.rfl
  | draw n k ih => exact forall_congr' fun i => forall_congr' fun _ => ih i
  | bad => exact Iff.rfl
theorem wp_mono {α : Type} {Q Q' : α → Prop} {E E' : Nat → List D → Prop} : ∀ {t : T α}, t.wp Q E → (∀ a, Q a → Q' a) → (∀ c l, E c l → E' c l) → t.wp Q' E'
  | .ret a, h, q, _ => q a h
  | .exc c l, h, _, e => e c l h
  | .draw n k, h, q, e => fun i hi => wp_mono (h i hi) q e
  | .bad, h, _, _ => h
theorem wp_imp {α : Type} {Q Q' : α → Prop} {E : Nat → List D → Prop} {t : T α} (h : t.wp Q E) (q : ∀ a, Q a → Q' a) : t.wp Q' E := wp_mono h q fun _ _ x => x
end T

def Ex (H H' : Hp) : Prop := ∀ a o, H a = some o → H' a = some o
/-- what holds of a heap holds of a wider one -/
abbrev Up := { Q : Hp → Prop // ∀ H H', Ex H H' → Q H → Q H' }
/-- what is fixed through a law: the classes' addresses and attributes by number, the deck's objects (they alone change for the callers), what holds of them -/
structure Gl where
  P : Program
  w : World
  K : PySem.W.Frag
  cls : Nat → Addr
  flds : Nat → List Str
  dk : Addr
  M : Addr → Prop
  J : Hp → Prop
  /-- the tables of code objects, each with the name of the lambdas that it tells -/
  tb : List (Addr × Str)
  /-- the error that an except clause holds: its address, its class, its dict -/
  ea : Option (Addr × Value × Option Addr)
  /-- the lambda that a def got: its address, what it wants of the heap -/
  fa : Option (Addr × Up)
  has : ∀ H a, J H → M a → H a ≠ none
  stays : ∀ H H', J H → (∀ a, M a → H' a = H a) → (∀ a c q, H a = some (LamX.CodeO c q) → H' a = some (LamX.CodeO c q)) → J H'
  tabs : ∀ H, J H → LamX.Tabs tb H
  lam : ∀ H H', J H → LamX.ExtN H H' → LamX.Tabs tb H' → J H'
  code : ∀ H c q, J H → H c = some (LamX.CodeO c q) → ¬ M c
/-- no table of code objects -/
def notT (o : HO) : Prop := ∀ ps, o ≠ .tbl ps
/-- no table, no code object -/
structure Plain (o : HO) : Prop where
  nt : notT o
  ne : ∀ c q, o ≠ LamX.CodeO c q
/-- a dict whose keys are tuples, nested: its entries by key, the key's object, value -/
def DN (P : Program) (w : World) (a : Addr) (ps : List (NestedKey × Addr × V)) : HO := .ext fun h => ps.length ≤ sizeLine ∧ (a == sysModules) = false ∧ ∃ xs : List (NestedKey × Addr × Value),
  Paired (fun (p : NestedKey × Addr × V) (q : NestedKey × Addr × Value) => p.1 = q.1 ∧ p.2.1 = q.2.1 ∧ RelV p.2.2 q.2.2) ps xs ∧
  ∃ o es ep, h.get? a = some o ∧ o.ExactDict ∧ o.data = .dict es ep ∧ es.toList = xs.map (entryOfKey (nestedKind P w)) ∧ (xs.map (·.1)).Nodup
theorem DN_ne {P : Program} {w : World} {a c : Addr} {q : Str} {ps : List (NestedKey × Addr × V)} : DN P w a ps ≠ LamX.CodeO c q := by
  intro z
  have z1 := HO.ext.inj z
  have oc : Obj := { cls := .none, data := .fields #[.none, .str q 0] }
  have h0 := congrFun z1 { objs := Array.replicate (c + 1) { cls := .none, data := .fields #[.none, .str q 0] } }
  have g : ∀ (b : Addr) (o : Obj), Heap.get? { objs := Array.replicate (c + 1) { cls := .none, data := .fields #[.none, .str q 0] } } b = some o → o.data = .fields #[.none, .str q 0] := fun b o e => by
    unfold Heap.get? at e
    by_cases hb : b < c + 1
    · simp [hb] at e
      rw [← e]
    · simp [hb] at e
  have r := h0.mpr ⟨{ cls := .none, data := .fields #[.none, .str q 0] }, _, 0, by simp [Heap.get?], rfl, rfl⟩
  obtain ⟨_, _, xs, _, o, es, ep, e1, _, e2, _⟩ := r
  rw [g _ _ e1] at e2
  cases e2

mutual
/-- data as a dict's key -/
def nk : D → Option NestedKey
  | .non => some .none
  | .bl b => some (.num (if b then 1 else 0))
  | .int i => some (.num i)
  | .str x => some (.text x)
  | .tup l => (nks l).map .tup
  | _ => none
def nks : List D → Option (List NestedKey)
  | [] => some []
  | d :: l => (nk d).bind fun k => (nks l).map (k :: ·)
end
/-- the keys ks are those of the entries ps -/
def KN (ks : List D) (ps : List (NestedKey × Addr × V)) : Prop := nks ks = some (ps.map (·.1)) ∧ ∀ p ∈ ps, p.1.depth ≤ 8
mutual
/-- the value v of the heap H is the data d -/
inductive At (G : Gl) (H : Hp) : D → V → Prop
  | non : At G H .non .non
  | bl {b} : At G H (.bl b) (.bl b)
  | int {i} : At G H (.int i) (.int i)
  | str {x} : At G H (.str x) (.str x)
  | tup {l a xs} : SqT G.K H a xs → Ats G H l xs → At G H (.tup l) (.ref a)
  | lst {l a xs} : H a = some (.lst xs) → Ats G H l xs → At G H (.lst l) (.ref a)
  | dic {ks vs a kvs} : H a = some (.dK kvs) → Ats G H ks (kvs.map fun q => kV q.1) → Ats G H vs (kvs.map (·.2)) → At G H (.dic ks vs) (.ref a)
  | dicN {ks vs a ps} : H a = some (DN G.P G.w a ps) → KN ks ps → Ats G H ks (ps.map fun q => V.ref q.2.1) → Ats G H vs (ps.map fun q => q.2.2) → At G H (.dicN ks vs) (.ref a)
  | obj {c l a dx fs} : H a = some (.ins (G.cls c) dx fs) → fs.map (·.1) = G.flds c → Ats G H l (fs.map (·.2)) → At G H (.obj c l) (.ref a)
  | deck : At G H .deck (.ref G.dk)
inductive Ats (G : Gl) (H : Hp) : List D → List V → Prop
  | nil : Ats G H [] []
  | cons {d x l xs} : At G H d x → Ats G H l xs → Ats G H (d :: l) (x :: xs)
end

theorem Ex.refl (H : Hp) : Ex H H := fun _ _ h => h
theorem Ex.trans {H H1 H2 : Hp} (a : Ex H H1) (b : Ex H1 H2) : Ex H H2 := fun x o h => b x o (a x o h)
theorem Ex.new {H : Hp} {p : Addr} {o : HO} (h : H p = none) : Ex H (upd H p o) := fun a u e => by
  rw [upd_ne (ne_of_none e h)]
  exact e
theorem Ex.rd {H H' : Hp} {a : Addr} {u : HO} (e : Ex H H') (h : Rd H a u) : Rd H' a u := by
  rcases h with h | ⟨o, h⟩
  · exact .inl (e a _ h)
  · exact .inr ⟨o, e a _ h⟩
theorem Ex.sqL {K : PySem.W.Frag} {H H' : Hp} {a : Addr} {xs : List V} (e : Ex H H') (h : SqL K H a xs) : SqL K H' a xs := by
  rcases h with h | h
  · exact .inl (e.rd h)
  · exact .inr h
theorem Ex.sqT {K : PySem.W.Frag} {H H' : Hp} {a : Addr} {xs : List V} (e : Ex H H') (h : SqT K H a xs) : SqT K H' a xs := by
  rcases h with h | h
  · exact .inl (e.rd h)
  · exact .inr h

mutual
theorem At.mono {G : Gl} {H H' : Hp} (e : Ex H H') : ∀ {d : D} {v : V}, At G H d v → At G H' d v
  | _, _, .non => .non
  | _, _, .bl => .bl
  | _, _, .int => .int
  | _, _, .str => .str
  | _, _, .tup h r => .tup (e.sqT h) (Ats.mono e r)
  | _, _, .lst h r => .lst (e _ _ h) (Ats.mono e r)
  | _, _, .dic h r q => .dic (e _ _ h) (Ats.mono e r) (Ats.mono e q)
  | _, _, .dicN h n r q => .dicN (e _ _ h) n (Ats.mono e r) (Ats.mono e q)
  | _, _, .obj h n r => .obj (e _ _ h) n (Ats.mono e r)
  | _, _, .deck => .deck
theorem Ats.mono {G : Gl} {H H' : Hp} (e : Ex H H') : ∀ {l : List D} {xs : List V}, Ats G H l xs → Ats G H' l xs
  | _, _, .nil => .nil
  | _, _, .cons h r => .cons (At.mono e h) (Ats.mono e r)
end
theorem Ats.length {G : Gl} {H : Hp} : ∀ {l : List D} {xs : List V}, Ats G H l xs → l.length = xs.length
  | _, _, .nil => rfl
  | _, _, .cons _ r => by
    rw [List.length_cons, List.length_cons, Ats.length r]
theorem Ats.get {G : Gl} {H : Hp} : ∀ {l : List D} {xs : List V} {i : Nat} {x : V}, Ats G H l xs → xs[i]? = some x → ∃ d, l[i]? = some d ∧ At G H d x
  | _, _, _, _, .nil, e => by simp at e
  | _, _, 0, x, .cons h _, e => ⟨_, rfl, by
    have e1 := Option.some.inj e
    rw [← e1]
    exact h⟩
  | _, _, i + 1, x, .cons _ r, e => Ats.get (i := i) r (by simpa using e)
theorem Ats.get' {G : Gl} {H : Hp} : ∀ {l : List D} {xs : List V} {i : Nat} {d : D}, Ats G H l xs → l[i]? = some d → ∃ x, xs[i]? = some x ∧ At G H d x
  | _, _, _, _, .nil, e => by simp at e
  | _, _, 0, d, .cons h _, e => ⟨_, rfl, by
    have e1 := Option.some.inj e
    rw [← e1]
    exact h⟩
  | _, _, i + 1, d, .cons _ r, e => Ats.get' (i := i) r (by simpa using e)
theorem Ats.append {G : Gl} {H : Hp} : ∀ {l m : List D} {xs ys : List V}, Ats G H l xs → Ats G H m ys → Ats G H (l ++ m) (xs ++ ys)
  | _, _, _, _, .nil, q => q
  | _, _, _, _, .cons h r, q => .cons h (Ats.append r q)

/-! ### what is hidden -/
open Classical in
/-- what is hidden is not seen; tables of code objects are never seen -/
noncomputable def hide (h : Addr → Prop) (H : Hp) : Hp := fun a => if h a ∨ ∃ ps, H a = some (.tbl ps) then none else H a
theorem hide_all {h : Addr → Prop} {H : Hp} {a : Addr} {o : HO} : hide h H a = some o ↔ (¬ h a ∧ H a = some o) ∧ notT o := by
  unfold hide
  by_cases q : h a ∨ ∃ ps, H a = some (.tbl ps)
  · rw [if_pos q]
    refine ⟨fun z => (nomatch z), fun z => ?_⟩
    rcases q with q | ⟨ps, q⟩
    · exact absurd q z.1.1
    · rw [z.1.2] at q
      exact absurd (Option.some.inj q) (z.2 ps)
  · rw [if_neg q]
    refine ⟨fun z => ⟨⟨fun y => q (.inl y), z⟩, fun ps y => q (.inr ⟨ps, by rw [z, y]⟩)⟩, fun z => z.1.2⟩
theorem hide_get {h : Addr → Prop} {H : Hp} {a : Addr} {o : HO} (e : hide h H a = some o) : ¬ h a ∧ H a = some o := (hide_all.mp e).1
theorem hide_nt {h : Addr → Prop} {H : Hp} {a : Addr} {o : HO} (e : hide h H a = some o) : notT o := (hide_all.mp e).2
theorem hide_put {h : Addr → Prop} {H : Hp} {a : Addr} {o : HO} (n : ¬ h a) (e : H a = some o) (t : notT o) : hide h H a = some o := hide_all.mpr ⟨⟨n, e⟩, t⟩
theorem hide_sub {h : Addr → Prop} {H : Hp} : Ex (hide h H) H := fun a o e => (hide_get e).2
theorem hide_le {h h' : Addr → Prop} {H : Hp} (s : ∀ a, h' a → h a) : Ex (hide h H) (hide h' H) := fun a o e =>
  hide_put (fun z => (hide_get e).1 (s a z)) (hide_get e).2 (hide_nt e)
/-- all but the deck's objects stay, what holds of those holds -/
structure Lead (G : Gl) (H H' : Hp) : Prop where
  ex : ∀ a o, ¬ G.M a → notT o → H a = some o → H' a = some o
  j : G.J H → G.J H'
theorem Lead.refl {G : Gl} (H : Hp) : Lead G H H := ⟨fun _ _ _ _ h => h, fun h => h⟩
theorem Lead.trans {G : Gl} {H H1 H2 : Hp} (a : Lead G H H1) (b : Lead G H1 H2) : Lead G H H2 := ⟨fun x o m n h => b.ex x o m n (a.ex x o m n h), fun h => b.j (a.j h)⟩
theorem Lead.new {G : Gl} {H : Hp} {p : Addr} {o : HO} (h : H p = none) : Lead G H (upd H p o) :=
  ⟨fun a u _ _ e => Ex.new h a u e, fun j => G.stays H _ j (fun a m => upd_ne fun z => by
    rw [z] at m
    exact G.has H p j m h) fun a _ _ e => Ex.new h a _ e⟩
theorem Lead.hide {G : Gl} {H H' : Hp} {hd : Addr → Prop} (e : Lead G H H') (s : ∀ a, G.M a → hd a) : Ex (hide hd H) (hide hd H') := fun a o q =>
  hide_put (hide_get q).1 (e.ex a o (fun m => (hide_get q).1 (s a m)) (hide_nt q) (hide_get q).2) (hide_nt q)

/-- an error: its class, its own fields -/
def ErrAt (G : Gl) (H : Hp) (c : Nat) (l : List D) (cls : Value) (dx : Option Addr) : Prop :=
  cls = .ref (G.cls c) ∧ ((G.flds c = [] ∧ l = []) ∨ ∃ d fs, dx = some d ∧ H d = some (.xd fs) ∧ fs.map (·.1) = G.flds c ∧ Ats G H l (fs.map (·.2)))
theorem ErrAt.mono {G : Gl} {H H' : Hp} (e : Ex H H') {c : Nat} {l : List D} {cls : Value} {dx : Option Addr} (h : ErrAt G H c l cls dx) : ErrAt G H' c l cls dx := by
  obtain ⟨h1, h2⟩ := h
  refine ⟨h1, ?_⟩
  rcases h2 with h2 | ⟨d, fs, a, b, n, r⟩
  · exact .inl h2
  · exact .inr ⟨d, fs, a, e _ _ b, n, r.mono e⟩

/-! ### slots -/
/-- a thing that a def makes for itself and changes: a list, an instance with the attributes that it has so far, a dict -/
inductive Ow where
  | lst (l : List D) | obj (c : Nat) (ns : List Str) (l : List D) | dic (ks vs : List D) | dicN (ks vs : List D)
def OwH (G : Gl) (H : Hp) (a : Addr) : Ow → HO → Prop
  | .lst l, u => ∃ xs, u = .lst xs ∧ Ats G H l xs
  | .obj c ns l, u => ∃ dx fs, u = .ins (G.cls c) dx fs ∧ fs.map (·.1) = ns ∧ Ats G H l (fs.map (·.2))
  | .dic ks vs, u => ∃ kvs, u = .dK kvs ∧ Ats G H ks (kvs.map fun q => kV q.1) ∧ Ats G H vs (kvs.map (·.2))
  | .dicN ks vs, u => ∃ ps, u = DN G.P G.w a ps ∧ KN ks ps ∧ Ats G H ks (ps.map fun q => V.ref q.2.1) ∧ Ats G H vs (ps.map fun q => q.2.2)
theorem OwH.mono {G : Gl} {H H' : Hp} {a : Addr} (e : Ex H H') : ∀ {o : Ow} {u : HO}, OwH G H a o u → OwH G H' a o u
  | .lst _, _, ⟨xs, e1, r⟩ => ⟨xs, e1, r.mono e⟩
  | .obj _ _ _, _, ⟨dx, fs, e1, n, r⟩ => ⟨dx, fs, e1, n, r.mono e⟩
  | .dic _ _, _, ⟨kvs, e1, r, q⟩ => ⟨kvs, e1, r.mono e, q.mono e⟩
  | .dicN _ _, _, ⟨ps, e1, n, r, q⟩ => ⟨ps, e1, n, r.mono e, q.mono e⟩
/-- the thing at a, hidden -/
def OwAt (G : Gl) (hd : Addr → Prop) (H : Hp) (o : Ow) (a : Addr) : Prop := hd a ∧ ¬ G.M a ∧ ∃ u, H a = some u ∧ OwH G (hide hd H) a o u
theorem OwH.plain {G : Gl} {H : Hp} {a : Addr} : ∀ {o : Ow} {u : HO}, OwH G H a o u → Plain u
  | .lst _, _, ⟨_, e, _⟩ => by
    rw [e]
    exact ⟨(fun _ z => nomatch z), (fun _ _ z => nomatch z)⟩
  | .obj _ _ _, _, ⟨_, _, e, _⟩ => by
    rw [e]
    exact ⟨(fun _ z => nomatch z), (fun _ _ z => nomatch z)⟩
  | .dic _ _, _, ⟨_, e, _⟩ => by
    rw [e]
    exact ⟨(fun _ z => nomatch z), (fun _ _ z => nomatch z)⟩
  | .dicN _ _, _, ⟨_, e, _⟩ => by
    rw [e]
    exact ⟨(fun _ z => nomatch z), (fun _ _ z => DN_ne z)⟩
theorem OwH.nt {G : Gl} {H : Hp} {a : Addr} {o : Ow} {u : HO} (h : OwH G H a o u) : notT u := h.plain.nt
inductive Slot where
  | none | val (d : D) | own (l : Ow) | err (c : Nat) (l : List D) | thk
abbrev Env := List Slot
/-- what a slot says of the value there -/
def SlotAt (G : Gl) (hd : Addr → Prop) (H : Hp) : Slot → Option V → Prop
  | .none, _ => True
  | .val d, v => ∃ x, v = some x ∧ At G (hide hd H) d x
  | .own l, v => ∃ a, v = some (.ref a) ∧ OwAt G hd H l a
  | .err c l, v => ∃ a cls dx, v = some (.ref a) ∧ G.ea = some (a, cls, dx) ∧ ErrAt G (hide hd H) c l cls dx
  | .thk, v => ∃ f Q, v = some (.ref f) ∧ G.fa = some (f, Q) ∧ Q.1 (hide hd H)
def isOwn : Slot → Bool
  | .own _ => true
  | _ => false
/-- what is hidden is there; of what is not the deck's it is no table -/
structure Live (G : Gl) (hd : Addr → Prop) (H : Hp) : Prop where
  ne : ∀ a, hd a → H a ≠ none
  nt : ∀ a o, hd a → ¬ G.M a → H a = some o → Plain o
theorem Live.lead {G : Gl} {hd : Addr → Prop} {H H' : Hp} (L : Live G hd H) (e : Lead G H H') (j : G.J H) : Live G hd H' := by
  have key : ∀ a, hd a → ¬ G.M a → ∃ o, H a = some o ∧ H' a = some o ∧ Plain o := fun a h q => by
    cases z : H a with
    | none => exact absurd z (L.ne a h)
    | some o => exact ⟨o, rfl, e.ex a o q (L.nt a o h q z).nt z, L.nt a o h q z⟩
  refine ⟨fun a h => ?_, fun a o h q z => ?_⟩
  · by_cases q : G.M a
    · exact G.has H' a (e.j j) q
    · obtain ⟨o, _, z, _⟩ := key a h q
      rw [z]
      exact (fun y => nomatch y)
  · obtain ⟨o', _, z', n⟩ := key a h q
    rw [z] at z'
    cases z'
    exact n
structure Rep (G : Gl) (hd : Addr → Prop) (σ : St) (ρ : Env) (H : Hp) : Prop where
  j : G.J H
  m : ∀ a, G.M a → hd a
  live : Live G hd H
  len : ρ.length = σ.length
  at_ : ∀ (i : Nat) (s : Slot) (v : Option V), ρ[i]? = some s → σ[i]? = some v → SlotAt G hd H s v
  lone : ∀ (i k : Nat) (l : Ow) (v : Option V), ρ[i]? = some (.own l) → σ[i]? = some v → (∃ s, ρ[k]? = some s ∧ isOwn s = true) → σ[k]? = some v → i = k
theorem Rep.lead {G : Gl} {hd : Addr → Prop} {σ : St} {ρ : Env} {H H' : Hp} (R : Rep G hd σ ρ H) (e : Lead G H H') : Rep G hd σ ρ H' := by
  have live := R.live.lead e R.j
  refine ⟨e.j R.j, R.m, live, R.len, fun i s v h1 h2 => ?_, R.lone⟩
  have := R.at_ i s v h1 h2
  cases s with
  | none => trivial
  | val d =>
    obtain ⟨x, e1, a⟩ := this
    exact ⟨x, e1, a.mono (e.hide R.m)⟩
  | own l =>
    obtain ⟨a, e1, h, nm, u, e2, r⟩ := this
    exact ⟨a, e1, h, nm, u, e.ex a _ nm r.nt e2, r.mono (e.hide R.m)⟩
  | err c l =>
    obtain ⟨a, cls, dx, e1, e2, r⟩ := this
    exact ⟨a, cls, dx, e1, e2, r.mono (e.hide R.m)⟩
  | thk =>
    obtain ⟨f, Q, e1, e2, r⟩ := this
    exact ⟨f, Q, e1, e2, Q.2 _ _ (e.hide R.m) r⟩
theorem Rep.fresh {G : Gl} {hd : Addr → Prop} {σ : St} {ρ : Env} {H : Hp} (R : Rep G hd σ ρ H) {p : Addr} (h : H p = Option.none) : ¬ hd p := fun z => R.live.ne p z h
/-- a new object is seen -/
theorem Rep.new {G : Gl} {hd : Addr → Prop} {σ : St} {ρ : Env} {H : Hp} (R : Rep G hd σ ρ H) {p : Addr} {o : HO} (h : H p = Option.none) (t : notT o) : hide hd (upd H p o) p = some o := hide_put (R.fresh h) upd_same t
end Py
set_option Elab.async false
set_option linter.all false
set_option maxRecDepth 100000
set_option maxHeartbeats 4000000
namespace Py
open PySem L2

theorem PE_imp {X : Cx} {e : Expr} {t t' : TE} (h : PE X e t) (i : ∀ σ H Q, t' σ H Q → t σ H Q) : PE X e t' := ⟨fun pins s σ H Q I q => h.run pins s σ H Q I (i _ _ _ q)⟩
theorem PT_imp {X : Cx} {e : Expr} {t t' : TT} (h : PT X e t) (i : ∀ σ H Q, t' σ H Q → t σ H Q) : PT X e t' := ⟨fun pins s σ H Q I q => h.run pins s σ H Q I (i _ _ _ q)⟩
theorem PW_imp {X : Cx} {e : Expr} {t t' : TT} (h : PW X e t) (i : ∀ σ H Q, t' σ H Q → t σ H Q) : PW X e t' := ⟨fun wh pins s σ H Q I q => h.run wh pins s σ H Q I (i _ _ _ q)⟩
theorem PA_imp {X : Cx} {es : List Expr} {t t' : TA} (h : PA X es t) (i : ∀ σ H Q, t' σ H Q → t σ H Q) : PA X es t' := ⟨fun pos pins s σ H Q I q => h.run pos pins s σ H Q I (i _ _ _ q)⟩
theorem PS_imp {X : Cx} {e : Stmt} {t t' : TS} (h : PS X e t) (i : ∀ D σ H, t' D σ H → t D σ H) : PS X e t' := ⟨fun pins s σ H D I q => h.run pins s σ H D I (i _ _ _ q)⟩
theorem PSs_imp {X : Cx} {e : List Stmt} {t t' : TS} (h : PSs X e t) (i : ∀ D σ H, t' D σ H → t D σ H) : PSs X e t' := ⟨fun pins s σ H D I q => h.run pins s σ H D I (i _ _ _ q)⟩

/-! ### readings of plain functions -/
def xE (G : Gl) (W : WX) (hd : Addr → Prop) (σ : St) (H : Hp) (c : Nat) (l : List D) : Prop := ∀ cls dx H', Lead G H H' → ErrAt G (hide hd H') c l cls dx → W cls dx σ H'
def tEE (G : Gl) (W : WX) (f : Env → T D) : TE := fun σ H Q => ∃ ρ hd, Rep G hd σ ρ H ∧ (f ρ).wp (fun d => ∀ v H', Lead G H H' → At G (hide hd H') d v → Q v H') (xE G W hd σ H)
def tET (G : Gl) (W : WX) (f : Env → T Bool) : TT := fun σ H Q => ∃ ρ hd, Rep G hd σ ρ H ∧ (f ρ).wp (fun b => ∀ H', Lead G H H' → Q b H') (xE G W hd σ H)
def tEA (G : Gl) (W : WX) (f : Env → T (List D)) : TA := fun σ H Q => ∃ ρ hd, Rep G hd σ ρ H ∧ (f ρ).wp (fun l => ∀ vs H', Lead G H H' → Ats G (hide hd H') l vs → Q vs H') (xE G W hd σ H)
theorem xE.lead {G : Gl} {W : WX} {hd : Addr → Prop} {σ : St} {H H' : Hp} {c : Nat} {l : List D} (h : xE G W hd σ H c l) (e : Lead G H H') : xE G W hd σ H' c l := fun cls dx H2 e2 => h cls dx H2 (e.trans e2)

/-- the frame's facts that every rule may use -/
structure Good (G : Gl) (hd : Addr → Prop) (H : Hp) : Prop where
  j : G.J H
  m : ∀ a, G.M a → hd a
  live : Live G hd H
theorem Rep.good {G : Gl} {hd : Addr → Prop} {σ : St} {ρ : Env} {H : Hp} (R : Rep G hd σ ρ H) : Good G hd H := ⟨R.j, R.m, R.live⟩
theorem Good.lead {G : Gl} {hd : Addr → Prop} {H H' : Hp} (R : Good G hd H) (e : Lead G H H') : Good G hd H' := ⟨e.j R.j, R.m, R.live.lead e R.j⟩
theorem Good.fresh {G : Gl} {hd : Addr → Prop} {H : Hp} (R : Good G hd H) {p : Addr} (h : H p = Option.none) : ¬ hd p := fun z => R.live.ne p z h
theorem Good.seen {G : Gl} {hd : Addr → Prop} {H : Hp} (R : Good G hd H) {p : Addr} {o : HO} (h : H p = Option.none) (t : notT o := by exact (fun _ z => nomatch z)) : hide hd (upd H p o) p = some o := hide_put (R.fresh h) upd_same t
theorem Good.old {G : Gl} {hd : Addr → Prop} {H : Hp} (R : Good G hd H) {p : Addr} {o : HO} (h : H p = Option.none) : Ex (hide hd H) (hide hd (upd H p o)) := (Lead.new h).hide R.m

def opt {α : Type} : Option α → T α
  | some a => .ret a
  | none => .bad
theorem wp_opt {α : Type} {o : Option α} {Q : α → Prop} {E : Nat → List D → Prop} (h : (opt o).wp Q E) : ∃ a, o = some a ∧ Q a := by
  cases o with
  | none => exact h.elim
  | some a => exact ⟨a, rfl, h⟩

section
variable {X : Cx} {G : Gl} {W : WX}
abbrev EE (X : Cx) (G : Gl) (W : WX) (e : Expr) (f : Env → T D) : Prop := PE X e (tEE G W f)
abbrev ET (X : Cx) (G : Gl) (W : WX) (e : Expr) (f : Env → T Bool) : Prop := PT X e (tET G W f)
abbrev EW (X : Cx) (G : Gl) (W : WX) (e : Expr) (f : Env → T Bool) : Prop := PW X e (tET G W f)
abbrev EA (X : Cx) (G : Gl) (W : WX) (es : List Expr) (f : Env → T (List D)) : Prop := PA X es (tEA G W f)

/-! ### names, constants -/
def gVar (i : Nat) : Env → T D := fun ρ => match ρ[i]? with
  | some (.val d) => .ret d
  | _ => .bad
def gC (d : D) : Env → T D := fun _ => .ret d
theorem ee_pv {e : Expr} {i : Nat} (h : PE X e (tVar i)) : EE X G W e (gVar i) := by
  refine PE_imp h fun σ H Q q => ?_
  obtain ⟨ρ, hd, R, q⟩ := q
  unfold gVar at q
  cases e1 : ρ[i]? with
  | none =>
    rw [e1] at q
    exact q.elim
  | some s =>
    rw [e1] at q
    cases s with
    | none => exact q.elim
    | own l => exact q.elim
    | err c l => exact q.elim
    | thk => exact q.elim
    | val d =>
      have hi : i < σ.length := by
        rw [← R.len]
        exact (List.getElem?_eq_some_iff.mp e1).1
      obtain ⟨x, e2, a⟩ := R.at_ i (.val d) _ e1 (List.getElem?_eq_getElem hi)
      refine ⟨x, ?_, q x H (Lead.refl H) a⟩
      rw [List.getElem?_eq_getElem hi, e2]
theorem ee_const {e : Expr} {v : V} {d : D} (h : PE X e (tC v)) (a : ∀ H, At G H d v) : EE X G W e (gC d) :=
  PE_imp h fun σ H Q ⟨ρ, hd, R, q⟩ => q v H (Lead.refl H) (a _)
theorem ee_int {i j pos} : EE X G W (.Constant (.int i) j pos) (gC (.int i)) := ee_const pe_int fun _ => .int
theorem ee_bl {b j pos} : EE X G W (.Constant (.bool b) j pos) (gC (.bl b)) := ee_const pe_bl fun _ => .bl
theorem ee_non {j pos} : EE X G W (.Constant .none j pos) (gC .non) := ee_const pe_non fun _ => .non
theorem ee_str {x j pos} : EE X G W (.Constant (.str x) j pos) (gC (.str x)) := ee_const pe_str fun _ => .str

/-! ### a call, an operator, by values -/
/-- r does what g says -/
def Does2 (G : Gl) (r : R2) (g : D → D → Option D) : Prop := ∀ (hd : Addr → Prop) (H : Hp) (x y : V) (a b d : D) (Q : VK), Good G hd H → At G (hide hd H) a x → At G (hide hd H) b y → g a b = some d → (∀ v H', Lead G H H' → At G (hide hd H') d v → Q v H') → r x y H Q
def Does1 (G : Gl) (r : V → Hp → VK → Prop) (g : D → Option D) : Prop := ∀ (hd : Addr → Prop) (H : Hp) (x : V) (a d : D) (Q : VK), Good G hd H → At G (hide hd H) a x → g a = some d → (∀ v H', Lead G H H' → At G (hide hd H') d v → Q v H') → r x H Q
def DoesN (G : Gl) (r : List V → Hp → VK → Prop) (g : List D → Option D) : Prop := ∀ (hd : Addr → Prop) (H : Hp) (xs : List V) (l : List D) (d : D) (Q : VK), Good G hd H → Ats G (hide hd H) l xs → g l = some d → (∀ v H', Lead G H H' → At G (hide hd H') d v → Q v H') → r xs H Q
theorem Does2.or {r r' : R2} {g g' : D → D → Option D} (h : Does2 G r g) (h' : Does2 G r' g') : Does2 G (fun x y H Q => r x y H Q ∨ r' x y H Q) fun a b => (g a b).or (g' a b) := fun hd H x y a b d Q R h1 h2 e k => by
  have e : (g a b).or (g' a b) = some d := e
  cases q : g a b with
  | some d1 =>
    rw [q] at e
    have e1 : d1 = d := Option.some.inj e
    rw [e1] at q
    exact .inl (h hd H x y a b d Q R h1 h2 q k)
  | none =>
    rw [q] at e
    exact .inr (h' hd H x y a b d Q R h1 h2 e k)
theorem DoesN.or {r r' : List V → Hp → VK → Prop} {g g' : List D → Option D} (h : DoesN G r g) (h' : DoesN G r' g') : DoesN G (fun x H Q => r x H Q ∨ r' x H Q) fun a => (g a).or (g' a) := fun hd H x a d Q R h1 e k => by
  have e : (g a).or (g' a) = some d := e
  cases q : g a with
  | some d1 =>
    rw [q] at e
    have e1 : d1 = d := Option.some.inj e
    rw [e1] at q
    exact .inl (h hd H x a d Q R h1 q k)
  | none =>
    rw [q] at e
    exact .inr (h' hd H x a d Q R h1 e k)
theorem CallR_or {f : Value} {r r' : List V → Hp → VK → Prop} (h : CallR X f r) (h' : CallR X f r') : CallR X f (fun x H Q => r x H Q ∨ r' x H Q) := by
  intro pins s σ H x v Q I rx q
  rcases q with q | q
  · exact h pins s σ H x v Q I rx q
  · exact h' pins s σ H x v Q I rx q

/-- f and then g, by what is known behind f -/
theorem wp_then {α β : Type} {t : T α} {k : α → T β} {Q : β → Prop} {E : Nat → List D → Prop} (h : (t >>= k).wp Q E) : t.wp (fun a => (k a).wp Q E) E := (T.wp_bind t k Q E).mp h

def gOp (g : D → D → Option D) (f1 f2 : Env → T D) : Env → T D := fun ρ => f1 ρ >>= fun a => f2 ρ >>= fun b => opt (g a b)
theorem two {r : R2} {g : D → D → Option D} (hg : Does2 G r g) {f1 f2 : Env → T D} {σ : St} {H : Hp} {Q : VK} (q : tEE G W (gOp g f1 f2) σ H Q) : tEE G W f1 σ H fun x H1 => tEE G W f2 σ H1 fun y H2 => r x y H2 Q := by
  obtain ⟨ρ, hd, R, q⟩ := q
  refine ⟨ρ, hd, R, T.wp_imp (wp_then q) fun a q1 x H1 e1 h1 => ?_⟩
  refine ⟨ρ, hd, R.lead e1, T.wp_mono (wp_then q1) (fun b q2 y H2 e2 h2 => ?_) fun c l z => xE.lead z e1⟩
  obtain ⟨d, e3, q3⟩ := wp_opt q2
  exact hg hd H2 x y a b d Q (R.good.lead (e1.trans e2)) (h1.mono (e2.hide R.m)) h2 e3 fun v H' e4 h4 => q3 v H' ((e1.trans e2).trans e4) h4
theorem ee_op {a b : Expr} {op : Operator} {pos : Pos} {r : R2} {g : D → D → Option D} {f1 f2 : Env → T D} (ho : OpR X (binaryOp op) r) (hg : Does2 G r g) (ha : EE X G W a f1) (hb : EE X G W b f2) : EE X G W (.BinOp a op b pos) (gOp g f1 f2) :=
  PE_imp (pe_op ho ha hb) fun σ H Q q => two hg q
theorem ee_cmp {a b : Expr} {op : CmpOp} {pos : Pos} {r : R2} {g : D → D → Option D} {f1 f2 : Env → T D} (ho : OpR X (compareOp op) r) (hg : Does2 G r g) (ha : EE X G W a f1) (hb : EE X G W b f2) (hm : behindInMarks op b = false := by first | exact nomark _ | rfl) : EE X G W (.Compare a [op] [b] pos) (gOp g f1 f2) :=
  PE_imp (pe_cmpR ho ha hb hm) fun σ H Q q => two hg q
/-- a value's truth as a bool -/
def asB : D → T Bool
  | .bl b => .ret b
  | _ => .bad
theorem et_cmp {a b : Expr} {op : CmpOp} {pos : Pos} {r : R2} {g : D → D → Option D} {f1 f2 : Env → T D} (ho : OpR X (compareOp op) r) (hg : Does2 G r g) (ha : EE X G W a f1) (hb : EE X G W b f2) (hm : behindInMarks op b = false := by first | exact nomark _ | rfl) : ET X G W (.Compare a [op] [b] pos) (fun ρ => gOp g f1 f2 ρ >>= asB) := by
  refine PT_imp (pt_cmpR ho ha hb hm) fun σ H Q q => two hg ?_
  obtain ⟨ρ, hd, R, q⟩ := q
  refine ⟨ρ, hd, R, T.wp_imp (wp_then q) fun d q1 v H' e h => ?_⟩
  cases d with
  | bl b =>
    cases h
    exact ⟨b, rfl, q1 H' e⟩
  | _ => exact q1.elim
/-! ### arguments, displays -/
def gNil : Env → T (List D) := fun _ => .ret []
def gCons (f : Env → T D) (r : Env → T (List D)) : Env → T (List D) := fun ρ => f ρ >>= fun d => r ρ >>= fun l => .ret (d :: l)
theorem ea_nil : EA X G W [] gNil := PA_imp pa_nil fun σ H Q ⟨ρ, hd, R, q⟩ => q [] H (Lead.refl H) .nil
theorem ea_cons {e : Expr} {es : List Expr} {f : Env → T D} {r : Env → T (List D)} (h : EE X G W e f) (hr : EA X G W es r) (hs : starEach (e :: es) X.env = (false, eval e X.env) :: starEach es X.env := by rfl) : EA X G W (e :: es) (gCons f r) := by
  refine PA_imp (pa_cons h hr hs) fun σ H Q q => ?_
  obtain ⟨ρ, hd, R, q⟩ := q
  refine ⟨ρ, hd, R, T.wp_imp (wp_then q) fun a q1 x H1 e1 h1 => ?_⟩
  refine ⟨ρ, hd, R.lead e1, T.wp_mono (wp_then q1) (fun l q2 xs H2 e2 h2 => ?_) fun c l z => xE.lead z e1⟩
  exact q2 (x :: xs) H2 (e1.trans e2) (.cons (h1.mono (e2.hide R.m)) h2)
/-- a display of at most a thousand items -/
def mkT (l : List D) : T D := if l.length ≤ 1000 then .ret (.tup l) else .bad
def mkL (l : List D) : T D := if l.length ≤ 1000 then .ret (.lst l) else .bad
theorem wp_mkT {l : List D} {Q : D → Prop} {E : Nat → List D → Prop} (h : (mkT l).wp Q E) : l.length ≤ 1000 ∧ Q (.tup l) := by
  unfold mkT at h
  by_cases q : l.length ≤ 1000
  · rw [if_pos q] at h
    exact ⟨q, h⟩
  · rw [if_neg q] at h
    exact h.elim
theorem wp_mkL {l : List D} {Q : D → Prop} {E : Nat → List D → Prop} (h : (mkL l).wp Q E) : l.length ≤ 1000 ∧ Q (.lst l) := by
  unfold mkL at h
  by_cases q : l.length ≤ 1000
  · rw [if_pos q] at h
    exact ⟨q, h⟩
  · rw [if_neg q] at h
    exact h.elim
theorem line1000 {n : Nat} (h : n ≤ 1000) : n ≤ sizeLine := Nat.le_of_lt (small1000 h)
def gTup (r : Env → T (List D)) : Env → T D := fun ρ => r ρ >>= mkT
def gLst (r : Env → T (List D)) : Env → T D := fun ρ => r ρ >>= mkL
theorem ee_tup {es : List Expr} {pos : Pos} {x1} {r : Env → T (List D)} (h : EA X G W es r) : EE X G W (.Tuple es x1 pos) (gTup r) := by
  refine PE_imp (pe_tup h) fun σ H Q q => ?_
  obtain ⟨ρ, hd, R, q⟩ := q
  refine ⟨ρ, hd, R, T.wp_imp (wp_then q) fun l q1 xs H1 e1 h1 => ?_⟩
  obtain ⟨hl, q2⟩ := wp_mkT q1
  refine ⟨line1000 (by rw [← h1.length]; exact hl), fun p hp => q2 (.ref p) _ (e1.trans (Lead.new hp)) ?_⟩
  have g := R.good.lead e1
  exact .tup (.inl (.inl (g.seen hp))) (h1.mono (g.old hp))
theorem ee_lst {es : List Expr} {pos : Pos} {r : Env → T (List D)} (h : EA X G W es r) : EE X G W (.List es pos) (gLst r) := by
  refine PE_imp (pe_lst h) fun σ H Q q => ?_
  obtain ⟨ρ, hd, R, q⟩ := q
  refine ⟨ρ, hd, R, T.wp_imp (wp_then q) fun l q1 xs H1 e1 h1 => ?_⟩
  obtain ⟨hl, q2⟩ := wp_mkL q1
  refine ⟨line1000 (by rw [← h1.length]; exact hl), fun p hp => q2 (.ref p) _ (e1.trans (Lead.new hp)) ?_⟩
  have g := R.good.lead e1
  exact .lst (g.seen hp) (h1.mono (g.old hp))
/-! ### built-ins by name -/
def gCall (g : List D → Option D) (r : Env → T (List D)) : Env → T D := fun ρ => r ρ >>= fun l => opt (g l)
theorem many {r : List V → Hp → VK → Prop} {g : List D → Option D} (hg : DoesN G r g) {fa : Env → T (List D)} {σ : St} {H : Hp} {Q : VK} (q : tEE G W (gCall g fa) σ H Q) : tEA G W fa σ H fun vs H1 => r vs H1 Q := by
  obtain ⟨ρ, hd, R, q⟩ := q
  refine ⟨ρ, hd, R, T.wp_imp (wp_then q) fun l q1 xs H1 e1 h1 => ?_⟩
  obtain ⟨d, e3, q3⟩ := wp_opt q1
  exact hg hd H1 xs l d Q (R.good.lead e1) h1 e3 fun v H' e4 h4 => q3 v H' (e1.trans e4) h4
theorem ee_blt {id : String} {x : Str} {p pos : Pos} {e : Expr} {es : List Expr} {r : List V → Hp → VK → Prop} {g : List D → Option D} {fa : Env → T (List D)} (hc : CallR X (.builtin id) r) (hd : DoesN G r g) (hg : L2.Gl X x) (hm : X.mg x = none) (hv : bootBuiltins x = some (.builtin id)) (ha : EA X G W (e :: es) fa)
    (hn : x ≠ "__name__" := by decide) (hdb : (x == ("__debug__" : Str)) = false := by decide) (he : starEach (e :: es) X.env = (false, eval e X.env) :: starEach es X.env := by rfl) (hpl : (backTo pos (starEach es X.env)).any (·.1) = false := by rfl) :
    EE X G W (.Call (.Name x p) (e :: es) [] pos) (gCall g fa) := PE_imp (pe_callB hc hg hm hv ha hn hdb he hpl) fun σ H Q q => many hd q
theorem ee_bty {ty : String} {x : Str} {p pos : Pos} {e : Expr} {es : List Expr} {r : List V → Hp → VK → Prop} {g : List D → Option D} {fa : Env → T (List D)} (hc : CallR X (.type ty) r) (hd : DoesN G r g) (hg : L2.Gl X x) (hm : X.mg x = none) (hv : bootBuiltins x = some (.type ty)) (ha : EA X G W (e :: es) fa)
    (hn : x ≠ "__name__" := by decide) (hdb : (x == ("__debug__" : Str)) = false := by decide) (he : starEach (e :: es) X.env = (false, eval e X.env) :: starEach es X.env := by rfl) (hpl : (backTo pos (starEach es X.env)).any (·.1) = false := by rfl) :
    EE X G W (.Call (.Name x p) (e :: es) [] pos) (gCall g fa) := PE_imp (pe_callTy hc hg hm hv ha hn hdb he hpl) fun σ H Q q => many hd q
end
end Py
set_option Elab.async false
set_option linter.all false
set_option maxRecDepth 100000
set_option maxHeartbeats 4000000
namespace Py
open PySem L2

/-! ### tests -/
def truthS (x : Str) : T Bool := if x.length ≤ 1000 then .ret ((x.length : Int) != 0) else .bad
def truth : D → T Bool
  | .non => .ret false
  | .bl b => .ret b
  | .int i => .ret (i != 0)
  | .str x => truthS x
  | .tup l => .ret !l.isEmpty
  | .lst l => .ret !l.isEmpty
  | .dic ks _ => .ret !ks.isEmpty
  | _ => .bad
theorem isEmpty_ats {G : Gl} {H : Hp} {l : List D} {xs : List V} (h : Ats G H l xs) : l.isEmpty = xs.isEmpty := by
  cases h <;> rfl
section
variable {X : Cx} {G : Gl} {W : WX}
theorem tru_of (hK : G.K = X.K) {H : Hp} {d : D} {v : V} {b : Bool} {hd : Addr → Prop} (a : At G (hide hd H) d v) (h : ∀ Q : Bool → Prop, ∀ E, (truth d).wp Q E → Q b → Q b) (e : (truth d).wp (fun c => c = b) (fun _ _ => False)) : TruV X.K v H b := by
  cases a with
  | non => exact e.symm
  | bl => exact e.symm
  | int => exact e.symm
  | @str x =>
    have e1 : (truthS x).wp (fun c => c = b) (fun _ _ => False) := e
    unfold truthS at e1
    by_cases q : x.length ≤ 1000
    · rw [if_pos q] at e1
      exact ⟨line1000 q, e1.symm⟩
    · rw [if_neg q] at e1
      exact e1.elim
  | tup h1 h2 =>
    refine .inr (.inl ⟨_, by rw [← hK]; exact hide_sub.sqT h1, ?_⟩)
    rw [← isEmpty_ats h2]
    exact e.symm
  | lst h1 h2 =>
    refine .inl ⟨_, .inl (.inl (hide_sub _ _ h1)), ?_⟩
    rw [← isEmpty_ats h2]
    exact e.symm
  | @dic ks vs a kvs h1 h2 h3 =>
    refine .inr (.inr ⟨_, hide_sub _ _ h1, ?_⟩)
    have e1 : ks.isEmpty = kvs.isEmpty := by
      rw [isEmpty_ats h2]
      cases kvs <;> rfl
    rw [← e1]
    exact e.symm
  | obj h1 h2 h3 => exact e.elim
  | dicN h1 h2 h3 h4 => exact e.elim
  | deck => exact e.elim
/-- no error in a truth -/
theorem truth_wp {d : D} {Q : Bool → Prop} {E : Nat → List D → Prop} (h : (truth d).wp Q E) : ∃ b, truth d = .ret b ∧ Q b := by
  cases d with
  | str x =>
    have h1 : (truthS x).wp Q E := h
    show ∃ b, truthS x = .ret b ∧ Q b
    unfold truthS at h1 ⊢
    by_cases q : x.length ≤ 1000
    · rw [if_pos q] at h1 ⊢
      exact ⟨_, rfl, h1⟩
    · rw [if_neg q] at h1
      exact h1.elim
  | obj c l => exact h.elim
  | dicN ks vs => exact h.elim
  | deck => exact h.elim
  | _ => exact ⟨_, rfl, h⟩
theorem et_tru (hK : G.K = X.K) {a : Expr} {f : Env → T D} (ha : EE X G W a f) (he : ∀ whole, isTrue a X.env whole = (do let v ← whole; standAt a.pos; holding [v] (truthy v)) := by intro _; rfl) : ET X G W a (fun ρ => f ρ >>= truth) := by
  refine PT_imp (pt_truth ha he) fun σ H Q q => ?_
  obtain ⟨ρ, hd, R, q⟩ := q
  refine ⟨ρ, hd, R, T.wp_imp (wp_then q) fun d q1 v H' e h => ?_⟩
  obtain ⟨b, eb, q2⟩ := truth_wp q1
  exact ⟨b, tru_of hK h (fun _ _ _ z => z) (by rw [eb]; rfl), q2 H' e⟩
def gNotT (f : Env → T Bool) : Env → T Bool := fun ρ => f ρ >>= fun b => .ret !b
theorem et_not {a : Expr} {pos : Pos} {f : Env → T Bool} (ha : ET X G W a f) : ET X G W (.UnaryOp .Not a pos) (gNotT f) := by
  refine PT_imp (pt_not ha) fun σ H Q q => ?_
  obtain ⟨ρ, hd, R, q⟩ := q
  exact ⟨ρ, hd, R, T.wp_imp (wp_then q) fun b q1 H' e => q1 H' e⟩
def gAndT (f g : Env → T Bool) : Env → T Bool := fun ρ => f ρ >>= fun b => if b = true then g ρ else .ret false
def gOrT (f g : Env → T Bool) : Env → T Bool := fun ρ => f ρ >>= fun b => if b = true then .ret true else g ρ
theorem ew_and1 {a : Expr} {pos : Pos} {f : Env → T Bool} (ha : ET X G W a f) : EW X G W (.BoolOp .And [a] pos) f := pw_and1 ha
theorem ew_or1 {a : Expr} {pos : Pos} {f : Env → T Bool} (ha : ET X G W a f) : EW X G W (.BoolOp .Or [a] pos) f := pw_or1 ha
theorem ew_and {a b : Expr} {rest : List Expr} {pos : Pos} {f g : Env → T Bool} (ha : ET X G W a f) (hb : EW X G W (.BoolOp .And (b :: rest) pos) g) : EW X G W (.BoolOp .And (a :: b :: rest) pos) (gAndT f g) := by
  refine PW_imp (pw_and ha hb) fun σ H Q q => ?_
  obtain ⟨ρ, hd, R, q⟩ := q
  refine ⟨ρ, hd, R, T.wp_imp (wp_then q) fun c q1 H' e => ?_⟩
  cases c with
  | true =>
    rw [if_pos rfl]
    exact ⟨ρ, hd, R.lead e, T.wp_mono q1 (fun b q2 H2 e2 => q2 H2 (e.trans e2)) fun c l z => xE.lead z e⟩
  | false =>
    rw [if_neg Bool.false_ne_true]
    exact q1 H' e
theorem ew_or {a b : Expr} {rest : List Expr} {pos : Pos} {f g : Env → T Bool} (ha : ET X G W a f) (hb : EW X G W (.BoolOp .Or (b :: rest) pos) g) : EW X G W (.BoolOp .Or (a :: b :: rest) pos) (gOrT f g) := by
  refine PW_imp (pw_or ha hb) fun σ H Q q => ?_
  obtain ⟨ρ, hd, R, q⟩ := q
  refine ⟨ρ, hd, R, T.wp_imp (wp_then q) fun c q1 H' e => ?_⟩
  cases c with
  | false =>
    rw [if_neg Bool.false_ne_true]
    exact ⟨ρ, hd, R.lead e, T.wp_mono q1 (fun b q2 H2 e2 => q2 H2 (e.trans e2)) fun c l z => xE.lead z e⟩
  | true =>
    rw [if_pos rfl]
    exact q1 H' e
/-! ### and, or, not of bools as values; a if t else b; two comparisons -/
def gAndV (f g : Env → T D) : Env → T D := fun ρ => f ρ >>= fun d => match d with
  | .bl true => g ρ
  | .bl false => .ret (.bl false)
  | _ => .bad
def gOrV (f g : Env → T D) : Env → T D := fun ρ => f ρ >>= fun d => match d with
  | .bl true => .ret (.bl true)
  | .bl false => g ρ
  | _ => .bad
theorem ee_one {a : Expr} {op : BoolOp} {pos : Pos} {f : Env → T D} (ha : EE X G W a f) : EE X G W (.BoolOp op [a] pos) f := pe_one ha
theorem ee_and {a b : Expr} {rest : List Expr} {pos : Pos} {f g : Env → T D} (ha : EE X G W a f) (hb : EE X G W (.BoolOp .And (b :: rest) pos) g) : EE X G W (.BoolOp .And (a :: b :: rest) pos) (gAndV f g) := by
  refine PE_imp (pe_and ha hb) fun σ H Q q => ?_
  obtain ⟨ρ, hd, R, q⟩ := q
  refine ⟨ρ, hd, R, T.wp_imp (wp_then q) fun d q1 v H' e h => ?_⟩
  cases d with
  | bl c =>
    cases h
    refine ⟨c, rfl, ?_⟩
    cases c with
    | true =>
      rw [if_pos rfl]
      exact ⟨ρ, hd, R.lead e, T.wp_mono q1 (fun b q2 v H2 e2 => q2 v H2 (e.trans e2)) fun c l z => xE.lead z e⟩
    | false =>
      rw [if_neg Bool.false_ne_true]
      exact q1 _ H' e .bl
  | _ => exact q1.elim
theorem ee_or {a b : Expr} {rest : List Expr} {pos : Pos} {f g : Env → T D} (ha : EE X G W a f) (hb : EE X G W (.BoolOp .Or (b :: rest) pos) g) : EE X G W (.BoolOp .Or (a :: b :: rest) pos) (gOrV f g) := by
  refine PE_imp (pe_or ha hb) fun σ H Q q => ?_
  obtain ⟨ρ, hd, R, q⟩ := q
  refine ⟨ρ, hd, R, T.wp_imp (wp_then q) fun d q1 v H' e h => ?_⟩
  cases d with
  | bl c =>
    cases h
    refine ⟨c, rfl, ?_⟩
    cases c with
    | false =>
      rw [if_neg Bool.false_ne_true]
      exact ⟨ρ, hd, R.lead e, T.wp_mono q1 (fun b q2 v H2 e2 => q2 v H2 (e.trans e2)) fun c l z => xE.lead z e⟩
    | true =>
      rw [if_pos rfl]
      exact q1 _ H' e .bl
  | _ => exact q1.elim
def gNotV (f : Env → T D) : Env → T D := fun ρ => f ρ >>= fun d => match d with
  | .bl b => .ret (.bl !b)
  | _ => .bad
theorem ee_not {a : Expr} {pos : Pos} {f : Env → T D} (ha : EE X G W a f) : EE X G W (.UnaryOp .Not a pos) (gNotV f) := by
  refine PE_imp (pe_not ha) fun σ H Q q => ?_
  obtain ⟨ρ, hd, R, q⟩ := q
  refine ⟨ρ, hd, R, T.wp_imp (wp_then q) fun d q1 v H' e h => ?_⟩
  cases d with
  | bl c =>
    cases h
    exact ⟨c, rfl, q1 _ H' e .bl⟩
  | _ => exact q1.elim
def gIf (t : Env → T Bool) (f g : Env → T D) : Env → T D := fun ρ => t ρ >>= fun b => if b = true then f ρ else g ρ
theorem ee_if {c a b : Expr} {pos : Pos} {t : Env → T Bool} {f g : Env → T D} (hc : ET X G W c t) (ha : EE X G W a f) (hb : EE X G W b g) : EE X G W (.IfExp c a b pos) (gIf t f g) := by
  refine PE_imp (pe_ifExp hc ha hb) fun σ H Q q => ?_
  obtain ⟨ρ, hd, R, q⟩ := q
  refine ⟨ρ, hd, R, T.wp_imp (wp_then q) fun c q1 H' e => ?_⟩
  cases c with
  | true =>
    rw [if_pos rfl] at q1 ⊢
    exact ⟨ρ, hd, R.lead e, T.wp_mono q1 (fun b q2 v H2 e2 => q2 v H2 (e.trans e2)) fun c l z => xE.lead z e⟩
  | false =>
    rw [if_neg Bool.false_ne_true] at q1 ⊢
    exact ⟨ρ, hd, R.lead e, T.wp_mono q1 (fun b q2 v H2 e2 => q2 v H2 (e.trans e2)) fun c l z => xE.lead z e⟩
def gChain (g g' : D → D → Option D) (f1 f2 f3 : Env → T D) : Env → T D := fun ρ => f1 ρ >>= fun a => f2 ρ >>= fun b => opt (g a b) >>= fun c => match c with
  | .bl true => f3 ρ >>= fun d => opt (g' b d)
  | .bl false => .ret (.bl false)
  | _ => .bad
theorem chain_imp {r r' : R2} {g g' : D → D → Option D} (hg : Does2 G r g) (hg' : Does2 G r' g') {f1 f2 f3 : Env → T D} {σ : St} {H : Hp} {Q : VK} (q : tEE G W (gChain g g' f1 f2 f3) σ H Q) : tChain r r' (tEE G W f1) (tEE G W f2) (tEE G W f3) σ H Q := by
  obtain ⟨ρ, hd, R, q⟩ := q
  refine ⟨ρ, hd, R, T.wp_imp (wp_then q) fun a q1 x H1 e1 h1 => ?_⟩
  refine ⟨ρ, hd, R.lead e1, T.wp_mono (wp_then q1) (fun b q2 y H2 e2 h2 => ?_) fun c l z => xE.lead z e1⟩
  obtain ⟨d, e3, q3⟩ := wp_opt (wp_then q2)
  refine hg hd H2 x y a b d _ (R.good.lead (e1.trans e2)) (h1.mono (e2.hide R.m)) h2 e3 fun v H3 e4 h4 => ?_
  cases d with
  | bl c =>
    cases h4
    refine ⟨c, rfl, ?_⟩
    cases c with
    | true =>
      rw [if_pos rfl]
      refine ⟨ρ, hd, R.lead ((e1.trans e2).trans e4), T.wp_mono (wp_then q3) (fun w q4 z H4 e5 h5 => ?_) fun c l z => xE.lead z ((e1.trans e2).trans e4)⟩
      obtain ⟨d', e6, q6⟩ := wp_opt q4
      exact hg' hd H4 y z b w d' Q (R.good.lead (((e1.trans e2).trans e4).trans e5)) (h2.mono ((e4.trans e5).hide R.m)) h5 e6 fun v H' e7 h7 => q6 v H' ((((e1.trans e2).trans e4).trans e5).trans e7) h7
    | false =>
      rw [if_neg Bool.false_ne_true]
      exact q3 _ H3 ((e1.trans e2).trans e4) .bl
  | _ => exact q3.elim
theorem ee_chain {a b c : Expr} {op op' : CmpOp} {pos : Pos} {r r' : R2} {g g' : D → D → Option D} {f1 f2 f3 : Env → T D} (ho : OpR X (compareOp op) r) (hg : Does2 G r g) (ho' : OpR X (compareOp op') r') (hg' : Does2 G r' g') (ha : EE X G W a f1) (hb : EE X G W b f2) (hc : EE X G W c f3)
    (hm : lastMarks [op, op'] [b, c] = false := by with_unfolding_all rfl) : EE X G W (.Compare a [op, op'] [b, c] pos) (gChain g g' f1 f2 f3) :=
  PE_imp (pe_chain ho ho' ha hb hc hm) fun σ H Q q => chain_imp hg hg' q
theorem et_chain {a b c : Expr} {op op' : CmpOp} {pos : Pos} {r r' : R2} {g g' : D → D → Option D} {f1 f2 f3 : Env → T D} (ho : OpR X (compareOp op) r) (hg : Does2 G r g) (ho' : OpR X (compareOp op') r') (hg' : Does2 G r' g') (ha : EE X G W a f1) (hb : EE X G W b f2) (hc : EE X G W c f3)
    (hm : lastMarks [op, op'] [b, c] = false := by with_unfolding_all rfl) : ET X G W (.Compare a [op, op'] [b, c] pos) (fun ρ => gChain g g' f1 f2 f3 ρ >>= asB) := by
  refine PT_imp (pt_chain ho ho' ha hb hc hm) fun σ H Q q => chain_imp hg hg' ?_
  obtain ⟨ρ, hd, R, q⟩ := q
  refine ⟨ρ, hd, R, T.wp_imp (wp_then q) fun d q1 v H' e h => ?_⟩
  cases d with
  | bl b =>
    cases h
    exact ⟨b, rfl, q1 H' e⟩
  | _ => exact q1.elim
end
end Py
set_option Elab.async false
set_option linter.all false
set_option maxRecDepth 100000
set_option maxHeartbeats 4000000
namespace Py
open PySem PySem.Spec L2

/-! ### statements -/
inductive Out where
  | nx (ρ : Env) | ret (d : D) | brk (ρ : Env) | ct (ρ : Env) | rz (c : Nat) (l : List D) (ρ : Env)
/-- an expression's run within a statement: an error is told with the slots -/
def bindS {α : Type} (t : T α) (ρ : Env) (k : α → T Out) : T Out := match t with
  | .ret a => k a
  | .exc c l => .ret (.rz c l ρ)
  | .draw n f => .draw n fun i => bindS (f i) ρ k
  | .bad => .bad
theorem wp_bindS {α : Type} (t : T α) (ρ : Env) (k : α → T Out) (Q : Out → Prop) (E : Nat → List D → Prop) : (bindS t ρ k).wp Q E ↔ t.wp (fun a => (k a).wp Q E) (fun c l => Q (.rz c l ρ)) := by
  induction t with
  | ret a => exact Iff.rfl
  | exc c l => exact Iff.rfl
  | draw n k ih => exact forall_congr' fun i => forall_congr' fun _ => ih i
  | bad => exact Iff.rfl
theorem bindS_then {α : Type} {t : T α} {ρ : Env} {k : α → T Out} {Q : Out → Prop} {E : Nat → List D → Prop} (h : (bindS t ρ k).wp Q E) : t.wp (fun a => (k a).wp Q E) (fun c l => Q (.rz c l ρ)) := (wp_bindS t ρ k Q E).mp h
abbrev Sm := Env → T Out

/-- of a def's callers: what is hidden of theirs; the instance that it is to fill (of an __init__ alone) -/
structure Hid where
  h : Addr → Prop
  self : Addr → Prop
/-- all stays but the deck's objects and the instance that is being filled -/
structure LeadS (G : Gl) (sf : Addr → Prop) (H H' : Hp) : Prop where
  ex : ∀ a o, ¬ G.M a → ¬ sf a → notT o → H a = some o → H' a = some o
  j : G.J H → G.J H'
theorem LeadS.trans {G : Gl} {sf : Addr → Prop} {H H1 H2 : Hp} (a : LeadS G sf H H1) (b : Lead G H1 H2) : LeadS G sf H H2 := ⟨fun x o m n t h => b.ex x o m t (a.ex x o m n t h), fun h => b.j (a.j h)⟩
theorem LeadS.refl {G : Gl} {sf : Addr → Prop} (H : Hp) : LeadS G sf H H := ⟨fun _ _ _ _ _ h => h, fun h => h⟩
/-- nothing stood there but perhaps a table -/
def newIn (H : Hp) (a : Addr) : Prop := ∀ o, H a = some o → ¬ notT o
theorem Live.some {G : Gl} {hd : Addr → Prop} {H : Hp} (L : Live G hd H) : ∀ a, hd a → G.M a ∨ ∃ o, H a = some o ∧ notT o := fun a h => by
  by_cases m : G.M a
  · exact .inl m
  · cases z : H a with
    | none => exact absurd z (L.ne a h)
    | some o => exact .inr ⟨o, rfl, (L.nt a o h m z).nt⟩
def mineO (X : Cx) (hs : Hid) : Ow → Addr → Prop
  | .obj _ _ _, a => hs.self a
  | _, a => newIn X.H_0 a
structure SRep (X : Cx) (G : Gl) (hs : Hid) (hd : Addr → Prop) (σ : St) (ρ : Env) (H : Hp) : Prop where
  rep : Rep G hd σ ρ H
  lead : LeadS G hs.self X.H_0 H
  sub : ∀ a, hs.h a → hd a
  old : ∀ a, hs.h a → G.M a ∨ ∃ o, X.H_0 a = some o ∧ notT o
  selfs : ∀ a, hs.self a → ¬ G.M a ∧ ∃ o, H a = some o ∧ notT o
  mine : ∀ (k : Nat) (l : Ow) (a : Addr), ρ[k]? = some (.own l) → σ[k]? = some (some (.ref a)) → mineO X hs l a
theorem SRep.self_to {X : Cx} {G : Gl} {hs : Hid} {hd : Addr → Prop} {σ : St} {ρ : Env} {H H' : Hp} (R : SRep X G hs hd σ ρ H) (e : Lead G H H') : ∀ a, hs.self a → ¬ G.M a ∧ ∃ o, H' a = some o ∧ notT o := fun a h => by
  obtain ⟨h1, o, h2, h3⟩ := R.selfs a h
  exact ⟨h1, o, e.ex a o h1 h3 h2, h3⟩
theorem SRep.to {X : Cx} {G : Gl} {hs : Hid} {hd : Addr → Prop} {σ : St} {ρ : Env} {H H' : Hp} (R : SRep X G hs hd σ ρ H) (e : Lead G H H') : SRep X G hs hd σ ρ H' := ⟨R.rep.lead e, R.lead.trans e, R.sub, R.old, R.self_to e, R.mine⟩
/-- own lists are as they were -/
def Kp (ρ : Env) (σ : St) (ρ' : Env) (σ' : St) : Prop := ∀ (k : Nat) (l : Ow), ρ'[k]? = some (.own l) → ρ[k]? = some (.own l) ∧ σ'[k]? = σ[k]?
theorem Kp.refl {ρ : Env} {σ : St} : Kp ρ σ ρ σ := fun _ _ h => ⟨h, rfl⟩
theorem Kp.trans {ρ ρ1 ρ2 : Env} {σ σ1 σ2 : St} (a : Kp ρ σ ρ1 σ1) (b : Kp ρ1 σ1 ρ2 σ2) : Kp ρ σ ρ2 σ2 := fun k l h => ⟨(a k l (b k l h).1).1, (b k l h).2.trans (a k l (b k l h).1).2⟩
theorem Kp.set {ρ : Env} {σ : St} {i : Nat} {d : D} {v : Option V} : Kp ρ σ (ρ.set i (.val d)) (σ.set i v) := fun k l h => by
  by_cases hk : i = k
  · rw [hk] at h
    by_cases hi : k < ρ.length
    · rw [List.getElem?_set_self hi] at h
      cases h
    · rw [List.getElem?_eq_none (by rw [List.length_set]; omega)] at h
      cases h
  · rw [List.getElem?_set_ne hk] at h
    exact ⟨h, List.getElem?_set_ne hk⟩
theorem SRep.by {X : Cx} {G : Gl} {hs : Hid} {hd : Addr → Prop} {σ σ' : St} {ρ ρ' : Env} {H H' : Hp} (R : SRep X G hs hd σ ρ H) (e : Lead G H H') (R' : Rep G hd σ' ρ' H') (k : Kp ρ σ ρ' σ') : SRep X G hs hd σ' ρ' H' :=
  ⟨R', R.lead.trans e, R.sub, R.old, R.self_to e, fun i l a h1 h2 => R.mine i l a (k i l h1).1 (by rw [← (k i l h1).2]; exact h2)⟩
/-- what is wanted of an outcome, from where the hidden things are h0, the heap H0 -/
def oQ (X : Cx) (G : Gl) (W : WX) (hs : Hid) (Dn : Ends) (h0 : Addr → Prop) (H0 : Hp) : Out → Prop
  | .nx ρ => ∀ hd σ H, SRep X G hs hd σ ρ H → Ex (hide h0 H0) (hide hd H) → Dn.nx σ H
  | .ret d => ∀ v H, G.J H → LeadS G hs.self X.H_0 H → At G (hide hs.h H) d v → Dn.rt v H
  | .brk ρ => ∀ hd σ H, SRep X G hs hd σ ρ H → Ex (hide h0 H0) (hide hd H) → Dn.bk σ H
  | .ct ρ => ∀ hd σ H, SRep X G hs hd σ ρ H → Ex (hide h0 H0) (hide hd H) → Dn.ct σ H
  | .rz c l ρ => ∀ hd cls dx σ H, SRep X G hs hd σ ρ H → Ex (hide h0 H0) (hide hd H) → ErrAt G (hide hd H) c l cls dx → W cls dx σ H
theorem oQ.to {X : Cx} {G : Gl} {W : WX} {hs : Hid} {Dn : Ends} {h0 h1 : Addr → Prop} {H0 H1 : Hp} (x : Ex (hide h0 H0) (hide h1 H1)) : ∀ {o : Out}, oQ X G W hs Dn h0 H0 o → oQ X G W hs Dn h1 H1 o
  | .nx _, h => fun hd σ H R e => h hd σ H R (x.trans e)
  | .ret _, h => h
  | .brk _, h => fun hd σ H R e => h hd σ H R (x.trans e)
  | .ct _, h => fun hd σ H R e => h hd σ H R (x.trans e)
  | .rz _ _ _, h => fun hd cls dx σ H R e => h hd cls dx σ H R (x.trans e)
def tSS (X : Cx) (G : Gl) (W : WX) (hs : Hid) (s : Sm) : TS := fun Dn σ H => ∃ ρ hd, SRep X G hs hd σ ρ H ∧ (s ρ).wp (oQ X G W hs Dn hd H) (fun _ _ => False)

section
variable {X : Cx} {G : Gl} {W : WX} {hs : Hid}
abbrev SS (X : Cx) (G : Gl) (W : WX) (hs : Hid) (st : Stmt) (s : Sm) : Prop := PS X st (tSS X G W hs s)
abbrev SSs (X : Cx) (G : Gl) (W : WX) (hs : Hid) (st : List Stmt) (s : Sm) : Prop := PSs X st (tSS X G W hs s)
/-- the errors of an expression at these slots -/
theorem rz_of {Dn : Ends} {hd : Addr → Prop} {σ : St} {ρ : Env} {H : Hp} (R : SRep X G hs hd σ ρ H) {c : Nat} {l : List D} (h : oQ X G W hs Dn hd H (.rz c l ρ)) : xE G W hd σ H c l := fun cls dx H' e a => h hd cls dx σ H' (R.to e) (e.hide R.rep.m) a

def sSeq (s t : Sm) : Sm := fun ρ => s ρ >>= fun o => match o with
  | .nx ρ' => t ρ'
  | o => .ret o
def sNext : Sm := fun ρ => .ret (.nx ρ)
theorem ss_nil : SSs X G W hs [] sNext := PSs_imp pss_nil fun Dn σ H ⟨ρ, hd, R, q⟩ => q hd σ H R (Ex.refl _)
theorem ss_cons {st : Stmt} {rest : List Stmt} {s t : Sm} (h1 : SS X G W hs st s) (h2 : SSs X G W hs rest t) : SSs X G W hs (st :: rest) (sSeq s t) := by
  refine PSs_imp (pss_cons h1 h2) fun Dn σ H q => ?_
  obtain ⟨ρ, hd, R, q⟩ := q
  refine ⟨ρ, hd, R, T.wp_imp (wp_then q) fun o q1 => ?_⟩
  cases o with
  | nx ρ' => exact fun hd' σ' H' R' x => ⟨ρ', hd', R', T.wp_imp q1 fun o z => oQ.to x z⟩
  | ret d => exact q1
  | brk ρ' => exact q1
  | ct ρ' => exact q1
  | rz c l ρ' => exact q1
theorem ss_one {st : Stmt} {s : Sm} (h1 : SS X G W hs st s) : SSs X G W hs [st] s := pss_one h1
theorem ss_pass {pos : Pos} : SS X G W hs (.Pass pos) sNext := PS_imp ps_pass fun Dn σ H ⟨ρ, hd, R, q⟩ => q hd σ H R (Ex.refl _)
def sBrk : Sm := fun ρ => .ret (.brk ρ)
def sCt : Sm := fun ρ => .ret (.ct ρ)
theorem ss_break {pos : Pos} : SS X G W hs (.Break pos) sBrk := PS_imp ps_break fun Dn σ H ⟨ρ, hd, R, q⟩ => q hd σ H R (Ex.refl _)
theorem ss_continue {pos : Pos} : SS X G W hs (.Continue pos) sCt := PS_imp ps_continue fun Dn σ H ⟨ρ, hd, R, q⟩ => q hd σ H R (Ex.refl _)
def sExpr (f : Env → T D) : Sm := fun ρ => bindS (f ρ) ρ fun _ => .ret (.nx ρ)
def sRet (f : Env → T D) : Sm := fun ρ => bindS (f ρ) ρ fun d => .ret (.ret d)
def sRetN : Sm := fun _ => .ret (.ret .non)
def sIf (t : Env → T Bool) (s u : Sm) : Sm := fun ρ => bindS (t ρ) ρ fun b => if b = true then s ρ else u ρ
theorem ss_expr {e : Expr} {f : Env → T D} {pos : Pos} (he : EE X G W e f) (h : swapsWith e none pos.line X.env = pure false := by rfl) : SS X G W hs (.Expr e pos) (sExpr f) := by
  refine PS_imp (ps_expr he h) fun Dn σ H q => ?_
  obtain ⟨ρ, hd, R, q⟩ := q
  exact ⟨ρ, hd, R.rep, T.wp_mono (bindS_then q) (fun d q1 v H' e h => q1 hd σ H' (R.to e) (e.hide R.rep.m)) fun c l z => rz_of R z⟩
theorem ss_ret {e : Expr} {f : Env → T D} {pos : Pos} (he : EE X G W e f) : SS X G W hs (.Return (some e) pos) (sRet f) := by
  refine PS_imp (ps_ret he) fun Dn σ H q => ?_
  obtain ⟨ρ, hd, R, q⟩ := q
  exact ⟨ρ, hd, R.rep, T.wp_mono (bindS_then q) (fun d q1 v H' e h => q1 v H' (e.j R.rep.j) (R.lead.trans e) (h.mono (hide_le R.sub))) fun c l z => rz_of R z⟩
theorem ss_retN {pos : Pos} : SS X G W hs (.Return none pos) sRetN := PS_imp ps_retN fun Dn σ H ⟨ρ, hd, R, q⟩ => q _ H R.rep.j R.lead .non
theorem ss_if {c : Expr} {a b : List Stmt} {t : Env → T Bool} {s u : Sm} {pos : Pos} (hc : ET X G W c t) (ha : SSs X G W hs a s) (hb : SSs X G W hs b u) : SS X G W hs (.If c a b pos) (sIf t s u) := by
  refine PS_imp (ps_if hc ha hb) fun Dn σ H q => ?_
  obtain ⟨ρ, hd, R, q⟩ := q
  refine ⟨ρ, hd, R.rep, T.wp_mono (bindS_then q) (fun c q1 H' e => ?_) fun c l z => rz_of R z⟩
  cases c with
  | true =>
    rw [if_pos rfl] at q1 ⊢
    exact ⟨ρ, hd, R.to e, T.wp_imp q1 fun o z => oQ.to (e.hide R.rep.m) z⟩
  | false =>
    rw [if_neg Bool.false_ne_true] at q1 ⊢
    exact ⟨ρ, hd, R.to e, T.wp_imp q1 fun o z => oQ.to (e.hide R.rep.m) z⟩

/-! ### slots are set -/
theorem Rep.set {hd : Addr → Prop} {σ : St} {ρ : Env} {H : Hp} {i : Nat} {d : D} {v : V} (R : Rep G hd σ ρ H) (a : At G (hide hd H) d v) : Rep G hd (σ.set i (some v)) (ρ.set i (.val d)) H := by
  have hl := R.len
  refine ⟨R.j, R.m, R.live, by rw [List.length_set, List.length_set]; exact R.len, fun k s v' h1 h2 => ?_, fun k m l v' h1 h2 h3 h4 => ?_⟩
  · by_cases hk : i = k
    · rw [← hk] at h1 h2
      by_cases hi : i < ρ.length
      · rw [List.getElem?_set_self hi] at h1
        rw [List.getElem?_set_self (by omega)] at h2
        cases h1
        cases h2
        exact ⟨v, rfl, a⟩
      · rw [List.getElem?_eq_none (by rw [List.length_set]; omega)] at h1
        cases h1
    · rw [List.getElem?_set_ne hk] at h1 h2
      exact R.at_ k s v' h1 h2
  · obtain ⟨s, h3, h5⟩ := h3
    have k1 : i ≠ k := fun z => by
      rw [z] at h1
      by_cases hi : k < ρ.length
      · rw [List.getElem?_set_self hi] at h1
        cases h1
      · rw [List.getElem?_eq_none (by rw [List.length_set]; omega)] at h1
        cases h1
    have k2 : i ≠ m := fun z => by
      rw [z] at h3
      by_cases hi : m < ρ.length
      · rw [List.getElem?_set_self hi] at h3
        cases h3
        cases h5
      · rw [List.getElem?_eq_none (by rw [List.length_set]; omega)] at h3
        cases h3
    rw [List.getElem?_set_ne k1] at h1 h2
    rw [List.getElem?_set_ne k2] at h3 h4
    exact R.lone k m l v' h1 h2 ⟨s, h3, h5⟩ h4
theorem SRep.set {hd : Addr → Prop} {σ : St} {ρ : Env} {H : Hp} {i : Nat} {d : D} {v : V} (R : SRep X G hs hd σ ρ H) (a : At G (hide hd H) d v) : SRep X G hs hd (σ.set i (some v)) (ρ.set i (.val d)) H := R.by (Lead.refl H) (R.rep.set a) Kp.set
def sSet (i : Nat) (f : Env → T D) : Sm := fun ρ => bindS (f ρ) ρ fun d => .ret (.nx (ρ.set i (.val d)))
theorem ss_set {i : Nat} {x : Str} {e : Expr} {f : Env → T D} {pos pos' : Pos} (hN : X.N.Nodup) (hi : X.N[i]? = some x) (hx : Loc X.env.scope x) (he : EE X G W e f) (h : swapsWith e (some (.Name x pos')) pos.line X.env = pure false := by rfl) (hf : X.fn x = true ∨ X.env.scope.names.lookup x = some .local := by first | exact .inl rfl | exact .inr rfl | assumption) :
    SS X G W hs (.Assign [.Name x pos'] e pos) (sSet i f) := by
  refine PS_imp (ps_set (i := i) hN hi hx he h hf) fun Dn σ H q => ?_
  obtain ⟨ρ, hd, R, q⟩ := q
  exact ⟨ρ, hd, R.rep, T.wp_mono (bindS_then q) (fun d q1 v H' e h => q1 hd _ H' ((R.to e).set h) (e.hide R.rep.m)) fun c l z => rz_of R z⟩
end

/-! ### a def's promise -/
def outD : Out → T D
  | .nx _ => .ret .non
  | .ret d => .ret d
  | .rz c l _ => .exc c l
  | _ => .bad
def runS : T Out → T D
  | .ret o => outD o
  | .exc _ _ => .bad
  | .draw n k => .draw n fun i => runS (k i)
  | .bad => .bad
theorem runS_wp {Q : D → Prop} {E : Nat → List D → Prop} : ∀ {t : T Out}, (runS t).wp Q E → t.wp (fun o => (outD o).wp Q E) (fun _ _ => False)
  | .ret o, h => h
  | .exc _ _, h => h
  | .draw n k, h => fun i hi => runS_wp (h i hi)
  | .bad, h => h
/-- the slots at a def's entry -/
def env0 (n : Nat) (l : List D) : Env := l.map Slot.val ++ List.replicate (n - l.length) Slot.none
/-- a def by its body -/
def fn (n : Nat) (s : Sm) : List D → T D := fun l => runS (s (env0 n l))
def spD (G : Gl) (k : Nat) (m : List D → T D) : Sp := fun vs H Q E => vs.length = k ∧ ∃ (l : List D) (hs : Addr → Prop), Good G hs H ∧ Ats G (hide hs H) l vs ∧
  (m l).wp (fun d => ∀ v H', G.J H' → Lead G H H' → At G (hide hs H') d v → Q v H') (fun c es => ∀ cls dx H', Lead G H H' → ErrAt G (hide hs H') c es cls dx → E cls dx H')
theorem no_own {n : Nat} {l : List D} {k : Nat} {s : Slot} (e : (env0 n l)[k]? = some s) : isOwn s = false := by
  unfold env0 at e
  by_cases hk : k < l.length
  · rw [List.getElem?_append_left (by rw [List.length_map]; exact hk), List.getElem?_map] at e
    cases q : l[k]? with
    | none =>
      rw [q] at e
      cases e
    | some d =>
      rw [q] at e
      cases e
      rfl
  · rw [List.getElem?_append_right (by rw [List.length_map]; omega)] at e
    have := List.mem_of_getElem? e
    rw [List.mem_replicate] at this
    rw [this.2]
    rfl
theorem rep_start {G : Gl} {hs : Addr → Prop} {H : Hp} {N : List Str} {l : List D} {vs : List V} (g : Good G hs H) (h : Ats G (hide hs H) l vs) (hn : vs.length ≤ N.length) : Rep G hs (L2.start N vs) (env0 N.length l) H := by
  have hl := h.length
  refine ⟨g.j, g.m, g.live, ?_, fun i s v h1 h2 => ?_, fun i k l' v h1 _ _ _ => ?_⟩
  · unfold env0 L2.start
    rw [List.length_append, List.length_append, List.length_map, List.length_map, List.length_replicate, List.length_replicate, hl]
  · unfold env0 at h1
    unfold L2.start at h2
    by_cases hk : i < l.length
    · rw [List.getElem?_append_left (by rw [List.length_map]; exact hk), List.getElem?_map] at h1
      rw [List.getElem?_append_left (by rw [List.length_map]; omega), List.getElem?_map] at h2
      cases q : l[i]? with
      | none =>
        rw [q] at h1
        cases h1
      | some d =>
        rw [q] at h1
        cases h1
        obtain ⟨x, e1, a⟩ := h.get' q
        rw [e1] at h2
        cases h2
        exact ⟨x, rfl, a⟩
    · rw [List.getElem?_append_right (by rw [List.length_map]; omega)] at h1
      have := List.mem_of_getElem? h1
      rw [List.mem_replicate] at this
      rw [this.2]
      trivial
  · have := no_own h1
    cases this
section
variable {P : Program} {w : World} {K : PySem.W.Frag} {mg : Str → Option Value} {base : Heap} {G : Gl}
theorem toLead {H H' : Hp} (e : LeadS G (fun _ => False) H H') : Lead G H H' := ⟨fun a o m t h => e.ex a o m (fun z => z) t h, e.j⟩
/-- THE RULE for a def -/
theorem fn_ok {x qual : Str} {st : Stmt} {f : Addr} {fd : FuncData} {N ps : List Str} {k : Nat} {s : Sm} (F : Fun K x qual st f fd) (S : FnScope N ps (defScope st)) (hN : ps.length ≤ N.length)
    (hbody : ∀ (cdv : Value) (A : Around) (outer : List PySem.Env) (s0 : Shared) (H : Hp) (hs : Hid) (E : XK), Room k (A.deeper (PyProof.Rows.envOfC qual (defScope st) s0.heap.objs.size f cdv)) →
      SSs (cxOf (L2.CX P w) P w K mg base N qual (defScope st) f cdv A outer s0 H E) G (fun cls dx _ H' => E cls dx H') hs (defBody st) s) : FnOk P w K mg base (L2.CX P w) (k + 1) f fd ps (spD G ps.length (fn N.length s)) := by
  refine F.okX S (fun vs H Q E h => h.1) fun cdv A outer s0 H vs Q E hr h => ?_
  obtain ⟨hl, l, hs, g, hv, q⟩ := h
  refine ⟨_, hbody cdv A outer s0 H ⟨hs, fun _ => False⟩ E hr, env0 N.length l, hs, ⟨rep_start g hv (by rw [hl]; exact hN), LeadS.refl H, fun _ z => z, g.live.some, fun _ z => z.elim, fun k l' a h1 _ => absurd (no_own h1) (fun z => nomatch z)⟩, T.wp_imp (runS_wp q) fun o q1 => ?_⟩
  cases o with
  | nx ρ => exact fun hd σ H' R _ => q1 _ H' R.rep.j (toLead R.lead) .non
  | ret d => exact fun v H' j e a => q1 v H' j (toLead e) a
  | brk ρ => exact q1.elim
  | ct ρ => exact q1.elim
  | rz c l ρ => exact fun hd cls dx σ H' R _ a => q1 cls dx H' (toLead R.lead) (a.mono (hide_le R.sub))
end
section
variable {X : Cx} {G : Gl} {W : WX}
def gFn (m : List D → T D) (r : Env → T (List D)) : Env → T D := fun ρ => r ρ >>= m
/-- f(e, ..) -/
theorem ee_call {k n : Nat} {f : Addr} {fd : FuncData} {ps : List Str} {x : Str} {p pos : Pos} {e : Expr} {es : List Expr} {m : List D → T D} {fa : Env → T (List D)} (F : FnOk X.prog X.w X.K X.mg X.base (L2.CX X.prog X.w) k f fd ps (spD G n m)) (hr : Room k X.A) (hg : L2.Gl X x) (hm : X.mg x = some (.ref f)) (hk : PySem.W.keepIn X.K (.ref f) = true)
    (hb : Binds X.K fd ps []) (tk : Takes X W) (ha : EA X G W (e :: es) fa)
    (hdb : (x == ("__debug__" : Str)) = false := by decide) (he : starEach (e :: es) X.env = (false, eval e X.env) :: starEach es X.env := by rfl) (hpl : (backTo pos (starEach es X.env)).any (·.1) = false := by rfl) :
    EE X G W (.Call (.Name x p) (e :: es) [] pos) (fun ρ => fa ρ >>= fun l => if l.length = n then m l else .bad) := by
  refine PE_imp (pe_callS F hr hg hm hk hb (fun σ => passAt tk σ) ha hdb he hpl) fun σ H Q q => ?_
  obtain ⟨ρ, hd, R, q⟩ := q
  refine ⟨ρ, hd, R, T.wp_imp (wp_then q) fun l q1 vs H1 e1 h1 => ?_⟩
  by_cases hl : l.length = n
  · rw [if_pos hl] at q1
    refine ⟨by rw [← h1.length]; exact hl, l, hd, R.good.lead e1, h1, T.wp_mono q1 (fun d q2 v H' j e2 a => q2 v H' (e1.trans e2) a) fun c es z cls dx H' e2 a => z cls dx H' (e1.trans e2) a⟩
  · rw [if_neg hl] at q1
    exact q1.elim
end
end Py
set_option Elab.async false
set_option linter.all false
set_option maxRecDepth 100000
set_option maxHeartbeats 4000000
namespace Py
open PySem PySem.Spec L2

/-! ### what is walked -/
/-- J yields the data ds, whatever else changes -/
def ItRep (G : Gl) (hd : Addr → Prop) (J : It) (ds : List D) (H0 : Hp) : Prop := ∀ (i : Nat) (hd' : Addr → Prop) (H : Hp), Ex (hide hd H0) (hide hd' H) → Good G hd' H →
  (i < ds.length → J.go i H ∧ ∀ x H', J.yld i H x H' → Lead G H H' ∧ ∃ d, ds[i]? = some d ∧ At G (hide hd' H') d x) ∧ (ds.length ≤ i → J.stop i H)
def tEI (G : Gl) (W : WX) (f : Env → T (List D)) : TI := fun σ H R => ∃ ρ hd, Rep G hd σ ρ H ∧ (f ρ).wp (fun ds => ∀ J H', Lead G H H' → ItRep G hd J ds H' → R J H') (xE G W hd σ H)
theorem PI_imp {X : Cx} {tg e : Expr} {t t' : TI} (h : PI X tg e t) (i : ∀ σ H Q, t' σ H Q → t σ H Q) : PI X tg e t' := ⟨fun pins s σ H Q I q => h.run pins s σ H Q I (i _ _ _ q)⟩
abbrev EI (X : Cx) (G : Gl) (W : WX) (tg e : Expr) (f : Env → T (List D)) : Prop := PI X tg e (tEI G W f)
def seqD : D → T (List D)
  | .tup l => .ret l
  | .lst l => .ret l
  | _ => .bad
section
variable {X : Cx} {G : Gl} {W : WX} {tg : Expr}
/-- an iterator at the next free place comes over a list, over a tuple -/
theorem come_list {pins : List (Addr × Obj)} {σ : L2.St} {H : Hp} {s : Shared} {a : Addr} {xs : List V} {R : It → Hp → Prop} (I : Inv X pins σ H s) (h : SqL X.K H a xs) (q : R (Itl X.K a) H) : wpAny (model X.prog X.w) X.A (pyIter (.ref a)) (PIE X pins σ tg R) X.xe s := by
  obtain ⟨vs, _, pl, _⟩ := I.list h
  have fresh : FpOk X pins H s.heap.objs.size := I.fpOk (Nat.le_refl _) (I.hok.fresh (Nat.le_refl _))
  refine wpAny_pyIter_list pl.isList ⟨_, [s.heap.objs.size], _, _, H, rfl, ?_, turn_list a _, ⟨_, Heap.get?_push_size _ rfl, rfl, rfl⟩, fun b hb => ?_, q⟩
  · exact I.kept (t' := s.toks) fun b o e => Heap.get?_push_of_some _ e
  · rw [List.mem_singleton.mp hb]
    exact fresh
theorem come_tup {pins : List (Addr × Obj)} {σ : L2.St} {H : Hp} {s : Shared} {a : Addr} {xs : List V} {R : It → Hp → Prop} (I : Inv X pins σ H s) (h : SqT X.K H a xs) (q : R (Itt X.K a) H) : wpAny (model X.prog X.w) X.A (pyIter (.ref a)) (PIE X pins σ tg R) X.xe s := by
  obtain ⟨vs, _, pl, _⟩ := I.tuple h
  have fresh : FpOk X pins H s.heap.objs.size := I.fpOk (Nat.le_refl _) (I.hok.fresh (Nat.le_refl _))
  have isT : s.heap.IsTuple a vs.toArray := pl
  refine wpAny_pyIter_tuple isT ⟨_, [s.heap.objs.size], _, _, H, rfl, ?_, turn_tuple a _, ⟨_, Heap.get?_push_size _ rfl, rfl, rfl⟩, fun b hb => ?_, q⟩
  · exact I.kept (t' := s.toks) fun b o e => Heap.get?_push_of_some _ e
  · rw [List.mem_singleton.mp hb]
    exact fresh
theorem pi_seq {l : Expr} {tl : TE} (hl : PE X l tl) : PI X tg l (fun σ H R => tl σ H fun x H1 => (∃ a, x = .ref a ∧ (∃ xs, SqL X.K H1 a xs) ∧ R (Itl X.K a) H1) ∨ (∃ a, x = .ref a ∧ (∃ xs, SqT X.K H1 a xs) ∧ R (Itt X.K a) H1)) := by
  refine ⟨fun pins s σ H R I h => thn (hl.run pins s σ H _ I h) fun v s1 y => ?_⟩
  obtain ⟨x, H1, I1, r1, q1⟩ := y
  rcases q1 with ⟨a, rfl, ⟨xs, hq⟩, q⟩ | ⟨a, rfl, ⟨xs, hq⟩, q⟩
  · cases r1
    exact come_list I1 hq q
  · cases r1
    exact come_tup I1 hq q
theorem itl_rep (hK : G.K = X.K) {hd : Addr → Prop} {H : Hp} {a : Addr} {xs : List V} {ds : List D} (h : hide hd H a = some (.lst xs)) (r : Ats G (hide hd H) ds xs) : ItRep G hd (Itl X.K a) ds H := fun i hd' H1 e g => by
  have h1 : H1 a = some (.lst xs) := hide_sub _ _ (e _ _ h)
  have r1 : Ats G (hide hd' H1) ds xs := r.mono e
  refine ⟨fun hi => ?_, fun hi => ⟨xs, .inl (.inl h1), by rw [← r1.length]; exact hi⟩⟩
  obtain ⟨x, hx, ax⟩ := r1.get' (List.getElem?_eq_getElem hi)
  refine ⟨⟨xs, x, .inl (.inl h1), hx⟩, fun y H2 q => ?_⟩
  obtain ⟨e2, q⟩ := q
  rw [e2]
  refine ⟨Lead.refl _, _, List.getElem?_eq_getElem hi, ?_⟩
  have z := q xs (.inl (.inl h1))
  rw [hx] at z
  cases z
  exact ax
theorem itt_rep (hK : G.K = X.K) {hd : Addr → Prop} {H : Hp} {a : Addr} {xs : List V} {ds : List D} (h : SqT G.K (hide hd H) a xs) (r : Ats G (hide hd H) ds xs) : ItRep G hd (Itt X.K a) ds H := fun i hd' H1 e g => by
  have h1 : SqT X.K H1 a xs := by
    rw [← hK]
    exact hide_sub.sqT (e.sqT h)
  have r1 : Ats G (hide hd' H1) ds xs := r.mono e
  refine ⟨fun hi => ?_, fun hi => ⟨xs, h1, by rw [← r1.length]; exact hi⟩⟩
  obtain ⟨x, hx, ax⟩ := r1.get' (List.getElem?_eq_getElem hi)
  refine ⟨⟨xs, x, h1, hx⟩, fun y H2 q => ?_⟩
  obtain ⟨e2, q⟩ := q
  rw [e2]
  refine ⟨Lead.refl _, _, List.getElem?_eq_getElem hi, ?_⟩
  have z := q xs h1
  rw [hx] at z
  cases z
  exact ax
theorem seqD_wp {d : D} {Q : List D → Prop} {E : Nat → List D → Prop} (h : (seqD d).wp Q E) : ∃ l, (d = .tup l ∨ d = .lst l) ∧ Q l := by
  cases d with
  | tup l => exact ⟨l, .inl rfl, h⟩
  | lst l => exact ⟨l, .inr rfl, h⟩
  | _ => exact h.elim
/-- over a list or a tuple -/
theorem ei_seq (hK : G.K = X.K) {l : Expr} {f : Env → T D} (hl : EE X G W l f) : EI X G W tg l (fun ρ => f ρ >>= seqD) := by
  refine PI_imp (pi_seq hl) fun σ H R q => ?_
  obtain ⟨ρ, hd, Rp, q⟩ := q
  refine ⟨ρ, hd, Rp, T.wp_imp (wp_then q) fun d q1 v H1 e h => ?_⟩
  obtain ⟨ds, hds, q2⟩ := seqD_wp q1
  rcases hds with rfl | rfl
  · cases h with
    | tup h1 h2 => exact .inr ⟨_, rfl, ⟨_, by rw [← hK]; exact hide_sub.sqT h1⟩, q2 _ _ e (itt_rep hK h1 h2)⟩
  · cases h with
    | lst h1 h2 => exact .inl ⟨_, rfl, ⟨_, .inl (.inl (hide_sub _ _ h1))⟩, q2 _ _ e (itl_rep hK h1 h2)⟩
/-- lo, lo + 1, .. -/
def rngD (lo hi : Int) : List D := (List.range (hi - lo).toNat).map fun i : Nat => D.int (lo + (i : Int))
theorem itr_rep {hd : Addr → Prop} {H : Hp} (lo : Int) (n : Nat) : ItRep G hd (Itr lo n) ((List.range n).map fun i : Nat => D.int (lo + (i : Int))) H := fun i hd' H1 e g => by
  refine ⟨fun hi => ?_, fun hi => ?_⟩
  · rw [List.length_map, List.length_range] at hi
    refine ⟨hi, fun x H' q => ?_⟩
    obtain ⟨e2, e3⟩ := q
    rw [e2, e3]
    refine ⟨Lead.refl _, .int (lo + (i : Int)), ?_, .int⟩
    rw [List.getElem?_map, List.getElem?_range hi]
    rfl
  · rw [List.length_map, List.length_range] at hi
    exact hi
def rng1 : List D → T (List D)
  | [.int j] => if -100000 ≤ j ∧ j ≤ 100000 then .ret (rngD 0 j) else .bad
  | _ => .bad
def rng2 : List D → T (List D)
  | [.int i, .int j] => if -100000 ≤ i ∧ i ≤ 100000 ∧ -100000 ≤ j ∧ j ≤ 100000 then .ret (rngD i j) else .bad
  | _ => .bad
theorem wp_if {α : Type} {c : Prop} [Decidable c] {t : T α} {Q : α → Prop} {E : Nat → List D → Prop} (h : (if c then t else .bad).wp Q E) : c ∧ t.wp Q E := by
  by_cases q : c
  · rw [if_pos q] at h
    exact ⟨q, h⟩
  · rw [if_neg q] at h
    exact h.elim
theorem rng1_wp {l : List D} {Q : List D → Prop} {E : Nat → List D → Prop} (h : (rng1 l).wp Q E) : ∃ j : Int, l = [.int j] ∧ (-100000 ≤ j ∧ j ≤ 100000) ∧ Q (rngD 0 j) := by
  unfold rng1 at h
  split at h
  · obtain ⟨a, b⟩ := wp_if h
    exact ⟨_, rfl, a, b⟩
  · exact h.elim
theorem rng2_wp {l : List D} {Q : List D → Prop} {E : Nat → List D → Prop} (h : (rng2 l).wp Q E) : ∃ i j : Int, l = [.int i, .int j] ∧ (-100000 ≤ i ∧ i ≤ 100000 ∧ -100000 ≤ j ∧ j ≤ 100000) ∧ Q (rngD i j) := by
  unfold rng2 at h
  split at h
  · obtain ⟨a, b⟩ := wp_if h
    exact ⟨_, _, rfl, a, b⟩
  · exact h.elim
theorem ei_range1 {a : Expr} {p pos : Pos} {fa : Env → T (List D)} (hg : L2.Gl X "range") (hm : X.mg "range" = none) (ha : EA X G W [a] fa) (hs : starEach [a] X.env = [(false, eval a X.env)] := by rfl) : EI X G W tg (.Call (.Name "range" p) [a] [] pos) (fun ρ => fa ρ >>= rng1) := by
  refine PI_imp (pi_range1 hg hm ha hs) fun σ H R q => ?_
  obtain ⟨ρ, hd, Rp, q⟩ := q
  refine ⟨ρ, hd, Rp, T.wp_imp (wp_then q) fun l q1 vs H1 e h => ?_⟩
  obtain ⟨j, rfl, b, q2⟩ := rng1_wp q1
  cases h with
  | cons h1 h2 =>
    cases h1
    cases h2
    refine ⟨j, rfl, by omega, by omega, q2 _ _ e ?_⟩
    have z := itr_rep (G := G) (hd := hd) (H := H1) 0 j.toNat
    unfold rngD
    rw [Int.sub_zero]
    exact z
theorem ei_range2 {a b : Expr} {p pos : Pos} {fa : Env → T (List D)} (hg : L2.Gl X "range") (hm : X.mg "range" = none) (ha : EA X G W [a, b] fa) (hs : starEach [a, b] X.env = [(false, eval a X.env), (false, eval b X.env)] := by rfl) (hs2 : starEach [b] X.env = [(false, eval b X.env)] := by rfl) : EI X G W tg (.Call (.Name "range" p) [a, b] [] pos) (fun ρ => fa ρ >>= rng2) := by
  refine PI_imp (pi_range2 hg hm ha hs hs2) fun σ H R q => ?_
  obtain ⟨ρ, hd, Rp, q⟩ := q
  refine ⟨ρ, hd, Rp, T.wp_imp (wp_then q) fun l q1 vs H1 e h => ?_⟩
  obtain ⟨i, j, rfl, b, q2⟩ := rng2_wp q1
  cases h with
  | cons h1 h2 =>
    cases h1
    cases h2 with
    | cons h3 h4 =>
      cases h3
      cases h4
      exact ⟨i, j, rfl, ⟨by omega, by omega, by omega, by omega⟩, q2 _ _ e (itr_rep i _)⟩
/-! ### targets -/
/-- what a target makes of the slots -/
abbrev Tg := D → Env → Option Env
abbrev Tgs := List D → Env → Option Env
def Tgt (G : Gl) (g : TG) (b : Tg) (vs : List Nat) : Prop := ∀ (hd : Addr → Prop) (σ : L2.St) (ρ ρ' : Env) (H : Hp) (v : V) (d : D) (Q : L2.St → Hp → Prop), Rep G hd σ ρ H → At G (hide hd H) d v → b d ρ = some ρ' → (∀ σ', Rep G hd σ' ρ' H → wipe σ' vs = wipe σ vs → Kp ρ σ ρ' σ' → Q σ' H) → g v σ H Q
def Tgts' (G : Gl) (g : TGs) (b : Tgs) (vs : List Nat) : Prop := ∀ (hd : Addr → Prop) (σ : L2.St) (ρ ρ' : Env) (H : Hp) (xs : List V) (l : List D) (Q : L2.St → Hp → Prop), Rep G hd σ ρ H → Ats G (hide hd H) l xs → b l ρ = some ρ' → (∀ σ', Rep G hd σ' ρ' H → wipe σ' vs = wipe σ vs → Kp ρ σ ρ' σ' → Q σ' H) → g xs σ H Q
def bName (i : Nat) : Tg := fun d ρ => some (ρ.set i (.val d))
theorem wipe_get {σ τ : L2.St} {vs : List Nat} (hl : σ.length = τ.length) (h : ∀ k, k ∉ vs → σ[k]? = τ[k]?) : wipe σ vs = wipe τ vs := by
  have key : ∀ (us : List Nat) (k : Nat), (wipe σ us)[k]? = if k ∈ us ∧ k < σ.length then some none else σ[k]? := by
    intro us
    induction us with
    | nil =>
      intro k
      show σ[k]? = _
      rw [if_neg (fun z => by simp at z)]
    | cons u us ih =>
      intro k
      show ((wipe σ us).set u none)[k]? = _
      by_cases hk : u = k
      · rw [hk]
        by_cases hi : k < σ.length
        · rw [List.getElem?_set_self (by rw [wipe_length]; exact hi), if_pos ⟨by simp, hi⟩]
        · rw [List.getElem?_eq_none (by rw [List.length_set, wipe_length]; omega), if_neg (fun z => hi z.2), List.getElem?_eq_none (by omega)]
      · rw [List.getElem?_set_ne hk, ih k]
        by_cases c : k ∈ us ∧ k < σ.length
        · rw [if_pos c, if_pos ⟨List.mem_cons_of_mem _ c.1, c.2⟩]
        · rw [if_neg c, if_neg (fun z => c ⟨(List.mem_cons.mp z.1).resolve_left (fun y => hk y.symm), z.2⟩)]
  have key2 : ∀ (us : List Nat) (k : Nat), (wipe τ us)[k]? = if k ∈ us ∧ k < τ.length then some none else τ[k]? := by
    intro us
    induction us with
    | nil =>
      intro k
      show τ[k]? = _
      rw [if_neg (fun z => by simp at z)]
    | cons u us ih =>
      intro k
      show ((wipe τ us).set u none)[k]? = _
      by_cases hk : u = k
      · rw [hk]
        by_cases hi : k < τ.length
        · rw [List.getElem?_set_self (by rw [wipe_length]; exact hi), if_pos ⟨by simp, hi⟩]
        · rw [List.getElem?_eq_none (by rw [List.length_set, wipe_length]; omega), if_neg (fun z => hi z.2), List.getElem?_eq_none (by omega)]
      · rw [List.getElem?_set_ne hk, ih k]
        by_cases c : k ∈ us ∧ k < τ.length
        · rw [if_pos c, if_pos ⟨List.mem_cons_of_mem _ c.1, c.2⟩]
        · rw [if_neg c, if_neg (fun z => c ⟨(List.mem_cons.mp z.1).resolve_left (fun y => hk y.symm), z.2⟩)]
  refine List.ext_getElem? fun k => ?_
  rw [key, key2, hl]
  by_cases c : k ∈ vs ∧ k < τ.length
  · rw [if_pos c, if_pos c]
  · rw [if_neg c, if_neg c]
    by_cases hk : k ∈ vs
    · have hn : ¬ k < τ.length := fun z => c ⟨hk, z⟩
      rw [List.getElem?_eq_none (by omega), List.getElem?_eq_none (by omega)]
    · exact h k hk
theorem wipe_set {σ : L2.St} {i : Nat} {v : Option V} {vs : List Nat} (h : i ∈ vs) : wipe (σ.set i v) vs = wipe σ vs :=
  wipe_get (List.length_set ..) fun k hk => List.getElem?_set_ne fun z => hk (by rw [← z]; exact h)
theorem tgt_name (i : Nat) {vs : List Nat} (h : i ∈ vs) : Tgt G (gName i) (bName i) vs := fun hd σ ρ ρ' H v d Q R a e k => by
  have e1 : ρ.set i (.val d) = ρ' := Option.some.inj e
  rw [← e1] at k
  exact k _ (R.set a) (wipe_set h) Kp.set
def bNil : Tgs := fun l ρ => match l with
  | [] => some ρ
  | _ => none
def bCons (b : Tg) (r : Tgs) : Tgs := fun l ρ => match l with
  | d :: l => (b d ρ).bind (r l)
  | [] => none
theorem tgts_nil {vs : List Nat} : Tgts' G L2.gNil bNil vs := fun hd σ ρ ρ' H xs l Q R a e k => by
  cases a with
  | nil =>
    have e1 : ρ = ρ' := Option.some.inj e
    rw [← e1] at k
    exact ⟨rfl, k σ R rfl Kp.refl⟩
  | cons _ _ => cases e
theorem tgts_cons {g : TG} {gs : TGs} {b : Tg} {bs : Tgs} {vs : List Nat} (h : Tgt G g b vs) (hr : Tgts' G gs bs vs) : Tgts' G (L2.gCons g gs) (bCons b bs) vs := fun hd σ ρ ρ' H xs l Q R a e k => by
  cases a with
  | nil => cases e
  | @cons d x l' xs' a1 a2 =>
    have e1 : (b d ρ).bind (bs l') = some ρ' := e
    cases q : b d ρ with
    | none =>
      rw [q] at e1
      cases e1
    | some ρ1 =>
      rw [q] at e1
      exact ⟨x, xs', rfl, h hd σ ρ ρ1 H x d _ R a1 q fun σ1 R1 w1 k1 => hr hd σ1 ρ1 ρ' H xs' l' Q R1 a2 e1 fun σ2 R2 w2 k2 => k σ2 R2 (w2.trans w1) (k1.trans k2)⟩
def bTup (n : Nat) (b : Tgs) : Tg := fun d ρ => match d with
  | .tup l => if l.length = n then b l ρ else none
  | _ => none
theorem tgt_tup (hK : G.K = X.K) {n : Nat} {g : TGs} {b : Tgs} {vs : List Nat} (h : Tgts' G g b vs) : Tgt G (L2.gTup X.K n g) (bTup n b) vs := fun hd σ ρ ρ' H v d Q R a e k => by
  cases a with
  | @tup l p xs h1 h2 =>
    have e1 : (if l.length = n then b l ρ else none) = some ρ' := e
    by_cases q : l.length = n
    · rw [if_pos q] at e1
      exact ⟨p, xs, rfl, by rw [← hK]; exact hide_sub.sqT h1, by rw [← h2.length]; exact q, h hd σ ρ ρ' H xs l Q R h2 e1 k⟩
    · rw [if_neg q] at e1
      cases e1
  | _ => cases e
/-- target = value -/
def sAsg (b : Tg) (f : Env → T D) : Sm := fun ρ => bindS (f ρ) ρ fun d => opt (b d ρ) >>= fun ρ' => .ret (.nx ρ')
theorem ss_asg {hs : Hid} {t e : Expr} {f : Env → T D} {g : TG} {b : Tg} {vs : List Nat} {pos : Pos} (he : EE X G W e f) (hg : PG X t g) (ht : Tgt G g b vs) (h : swapsWithSole [t] e pos.line X.env = pure false := by rfl) (hw : swappedStores [t] e X.env = pure none := by rfl)
    (h1 : (assignEach [t] X.env).map (·.2) = [assign t X.env] := by rfl) : SS X G W hs (.Assign [t] e pos) (sAsg b f) := by
  refine PS_imp (ps_asg he hg h hw h1) fun Dn σ H q => ?_
  obtain ⟨ρ, hd, R, q⟩ := q
  refine ⟨ρ, hd, R.rep, T.wp_mono (bindS_then q) (fun d q1 v H' e h => ?_) fun c l z => rz_of R z⟩
  obtain ⟨ρ', e1, q2⟩ := wp_opt (wp_then q1)
  exact ht hd σ ρ ρ' H' v d _ (R.rep.lead e) h e1 fun σ' R' _ kp => q2 hd σ' H' (R.by e R' kp) (e.hide R.rep.m)
/-! ### for -/
def forL (b : Tg) (body : Sm) : List D → Sm
  | [] => fun ρ => .ret (.nx ρ)
  | d :: ds => fun ρ => opt (b d ρ) >>= fun ρ1 => body ρ1 >>= fun o => match o with
    | .nx ρ2 => forL b body ds ρ2
    | .ct ρ2 => forL b body ds ρ2
    | .brk ρ2 => .ret (.nx ρ2)
    | o => .ret o
def sFor (it : Env → T (List D)) (b : Tg) (body : Sm) : Sm := fun ρ => bindS (it ρ) ρ fun ds => forL b body ds ρ
theorem ss_for {hs : Hid} {t iter : Expr} {body : List Stmt} {it : Env → T (List D)} {g : TG} {b : Tg} {vs : List Nat} {s : Sm} {pos : Pos} (hp : PassesOwn (model X.prog X.w) X.A X.env X.xe) (hc : X.calm = true) (hi : EI X G W t iter it) (hg : PG X t g) (ht : Tgt G g b vs) (hb : SSs X G W hs body s)
    (hq : ∀ x, foldedSetIterable iter X.env x = pure x := by intro _; rfl) : SS X G W hs (.For t iter body [] pos) (sFor it b s) := by
  refine PS_imp (ps_for hp hc hi hg hb hq) fun Dn σ H q => ?_
  obtain ⟨ρ, hd, R, q⟩ := q
  refine ⟨ρ, hd, R.rep, T.wp_mono (bindS_then q) (fun ds q1 J H1 e1 hJ => ?_) fun c l z => rz_of R z⟩
  have x0 : Ex (hide hd H) (hide hd H1) := e1.hide R.rep.m
  refine ⟨fun i m σ' H' => m = ds.length - i ∧ i ≤ ds.length ∧ ∃ ρ hd', SRep X G hs hd' σ' ρ H' ∧ Ex (hide hd H1) (hide hd' H') ∧ (forL b s (ds.drop i) ρ).wp (oQ X G W hs Dn hd H) (fun _ _ => False), ⟨ds.length, rfl, Nat.zero_le _, ρ, hd, R.to e1, Ex.refl _, q1⟩, ?_⟩
  rintro i m σ2 H2 ⟨rfl, hi2, ρ2, hd2, R2, x2, q2⟩
  obtain ⟨h1, h2⟩ := hJ i hd2 H2 x2 R2.rep.good
  by_cases hlt : i < ds.length
  · obtain ⟨go, yl⟩ := h1 hlt
    refine .inr ⟨go, fun σ' H' => i + 1 ≤ ds.length ∧ ∃ ρ hd', SRep X G hs hd' σ' ρ H' ∧ Ex (hide hd H1) (hide hd' H') ∧ (forL b s (ds.drop (i + 1)) ρ).wp (oQ X G W hs Dn hd H) (fun _ _ => False), fun σ' H' z => ⟨ds.length - (i + 1), by omega, rfl, z.1, z.2⟩, fun x H3 y => ?_⟩
    obtain ⟨e3, d, hd3, ax⟩ := yl x H3 y
    have ed : ds.drop i = d :: ds.drop (i + 1) := by
      have z := List.getElem?_eq_some_iff.mp hd3
      rw [← z.2]
      exact List.drop_eq_getElem_cons hlt
    rw [ed] at q2
    obtain ⟨ρ3, eb, q3⟩ := wp_opt (wp_then q2)
    refine ht hd2 σ2 ρ2 ρ3 H3 x d _ (R2.rep.lead e3) ax eb fun σ4 R4 _ kp => ?_
    refine ⟨ρ3, hd2, R2.by e3 R4 kp, T.wp_imp (wp_then q3) fun o q4 => ?_⟩
    have x3 : Ex (hide hd H1) (hide hd2 H3) := x2.trans (e3.hide R2.rep.m)
    cases o with
    | nx ρ5 => exact fun hd5 σ5 H5 R5 x5 => ⟨by omega, ρ5, hd5, R5, x3.trans x5, q4⟩
    | ct ρ5 => exact fun hd5 σ5 H5 R5 x5 => ⟨by omega, ρ5, hd5, R5, x3.trans x5, q4⟩
    | brk ρ5 => exact fun hd5 σ5 H5 R5 x5 => q4 hd5 σ5 H5 R5 ((x0.trans x3).trans x5)
    | ret d5 => exact q4
    | rz c l ρ5 => exact fun hd5 cls dx σ5 H5 R5 x5 => q4 hd5 cls dx σ5 H5 R5 ((x0.trans x3).trans x5)
  · exact .inl ⟨h2 (by omega), by
      rw [List.drop_eq_nil_of_le (by omega)] at q2
      exact q2 hd2 σ2 H2 R2 (x0.trans x2)⟩
end
end Py
set_option Elab.async false
set_option linter.all false
set_option maxRecDepth 100000
set_option maxHeartbeats 4000000
namespace Py
open PySem PySem.Spec L2

def noexc {α : Type} : T α → T α
  | .ret a => .ret a
  | .exc _ _ => .bad
  | .draw n k => .draw n fun i => noexc (k i)
  | .bad => .bad
theorem noexc_wp {α : Type} {Q : α → Prop} {E E' : Nat → List D → Prop} : ∀ {t : T α}, (noexc t).wp Q E → t.wp Q E'
  | .ret _, h => h
  | .exc _ _, h => h.elim
  | .draw n k, h => fun i hi => noexc_wp (h i hi)
  | .bad, h => h
/-- within a block nothing is raised -/
abbrev W0 : WX := fun _ _ _ _ => False
abbrev PTs0 (X : Cx) (G : Gl) (ifs : List Expr) (f : Env → T Bool) : Prop := PTs X ifs (tET G W0 f)
section
variable {X : Cx} {G : Gl}
def gYes : Env → T Bool := fun _ => .ret true
theorem ets_nil : PTs0 X G [] gYes := ⟨fun pins s σ H Q I h => pts_nil.run pins s σ H Q I (by
  obtain ⟨ρ, hd, R, q⟩ := h
  exact q H (Lead.refl H))⟩
theorem ets_one {c : Expr} {f : Env → T Bool} (h : ET X G W0 c f) : PTs0 X G [c] f := pts_one h
end
/-- the slots of a block's own names, none -/
def wipeE (ρ : Env) : List Nat → Env
  | [] => ρ
  | v :: vs => (wipeE ρ vs).set v Slot.none
theorem wipeE_length (ρ : Env) : ∀ vs : List Nat, (wipeE ρ vs).length = ρ.length
  | [] => rfl
  | v :: vs => by
    unfold wipeE
    rw [List.length_set, wipeE_length ρ vs]
theorem wipeE_own {ρ : Env} : ∀ {vs : List Nat} {i : Nat} {s : Slot}, (wipeE ρ vs)[i]? = some s → (s = Slot.none ∧ i ∈ vs) ∨ (ρ[i]? = some s ∧ i ∉ vs)
  | [], i, s, h => .inr ⟨h, by simp⟩
  | v :: vs, i, s, h => by
    unfold wipeE at h
    by_cases hi : v = i
    · subst hi
      by_cases hv : v < (wipeE ρ vs).length
      · rw [List.getElem?_set_self hv] at h
        exact .inl ⟨(Option.some.inj h).symm, by simp⟩
      · rw [List.getElem?_eq_none (by rw [List.length_set]; omega)] at h
        cases h
    · rw [List.getElem?_set_ne hi] at h
      rcases wipeE_own h with ⟨a, b⟩ | ⟨a, b⟩
      · exact .inl ⟨a, List.mem_cons_of_mem _ b⟩
      · exact .inr ⟨a, fun z => (List.mem_cons.mp z).elim (fun y => hi y.symm) b⟩
theorem wipe_out {σ : L2.St} : ∀ {vs : List Nat} {i : Nat}, i ∉ vs → (wipe σ vs)[i]? = σ[i]?
  | [], i, h => rfl
  | v :: vs, i, h => by
    unfold wipe
    rw [List.getElem?_set_ne (fun z => h (by rw [z]; simp)), wipe_out fun z => h (List.mem_cons_of_mem _ z)]
theorem Rep.wipe {G : Gl} {hd : Addr → Prop} {σ : L2.St} {ρ : Env} {H : Hp} (R : Rep G hd σ ρ H) (vs : List Nat) : Rep G hd (L2.wipe σ vs) (wipeE ρ vs) H := by
  refine ⟨R.j, R.m, R.live, by rw [wipeE_length, wipe_length]; exact R.len, fun i s v h1 h2 => ?_, fun i k l v h1 h2 h3 h4 => ?_⟩
  · rcases wipeE_own h1 with ⟨e, _⟩ | ⟨e, n⟩
    · rw [e]
      trivial
    · rw [wipe_out n] at h2
      exact R.at_ i s v e h2
  · obtain ⟨s, h3, h5⟩ := h3
    rcases wipeE_own h1 with ⟨e, _⟩ | ⟨e1, n1⟩
    · cases e
    · rcases wipeE_own h3 with ⟨e, _⟩ | ⟨e2, n2⟩
      · rw [e] at h5
        cases h5
      · rw [wipe_out n1] at h2
        rw [wipe_out n2] at h4
        exact R.lone i k l v e1 h2 ⟨s, e2, h5⟩ h4
def orIs (hd : Addr → Prop) (p : Addr) : Addr → Prop := fun a => hd a ∨ a = p
theorem Live.more {G : Gl} {hd : Addr → Prop} {H : Hp} {p : Addr} {o : HO} (L : Live G hd H) (hp : H p = Option.none) (t : Plain o) : Live G (orIs hd p) (upd H p o) := by
  refine ⟨fun a h => ?_, fun a u h m z => ?_⟩
  · by_cases q : a = p
    · rw [q, upd_same]
      exact (fun z => nomatch z)
    · rw [upd_ne q]
      exact L.ne a (h.elim (fun z => z) fun z => absurd z q)
  · by_cases q : a = p
    · rw [q, upd_same] at z
      cases z
      exact t
    · rw [upd_ne q] at z
      exact L.nt a u (h.elim (fun z => z) fun z => absurd z q) m z
theorem Live.poke {G : Gl} {hd : Addr → Prop} {H : Hp} {p : Addr} {o : HO} (L : Live G hd H) (t : Plain o) : Live G hd (upd H p o) := by
  refine ⟨fun a h => ?_, fun a u h m z => ?_⟩
  · by_cases q : a = p
    · rw [q, upd_same]
      exact (fun z => nomatch z)
    · rw [upd_ne q]
      exact L.ne a h
  · by_cases q : a = p
    · rw [q, upd_same] at z
      cases z
      exact t
    · rw [upd_ne q] at z
      exact L.nt a u h m z
/-- one more thing is hidden: new, or seen by nothing that is told here -/
theorem Rep.more {G : Gl} {hd : Addr → Prop} {σ : L2.St} {ρ : Env} {H : Hp} {p : Addr} {o : HO} (R : Rep G hd σ ρ H) (hp : H p = Option.none) (t : Plain o := by exact ⟨fun _ z => (nomatch z), fun _ _ z => (nomatch z)⟩) : Rep G (orIs hd p) σ ρ (upd H p o) := by
  have x : Ex (hide hd H) (hide (orIs hd p) (upd H p o)) := fun a u e => by
    have en := hide_nt e
    obtain ⟨n, e⟩ := hide_get e
    have np : a ≠ p := ne_of_none e hp
    exact hide_put (fun z => z.elim n np) (by rw [upd_ne np]; exact e) en
  have L : Lead G H (upd H p o) := Lead.new hp
  refine ⟨L.j R.j, fun a m => .inl (R.m a m), R.live.more hp t, R.len, fun i s v h1 h2 => ?_, R.lone⟩
  · have := R.at_ i s v h1 h2
    cases s with
    | none => trivial
    | val d =>
      obtain ⟨y, e1, a⟩ := this
      exact ⟨y, e1, a.mono x⟩
    | own l =>
      obtain ⟨a, e1, h, nm, u, e2, r⟩ := this
      exact ⟨a, e1, .inl h, nm, u, by rw [upd_ne (ne_of_none e2 hp)]; exact e2, r.mono x⟩
    | err c l =>
      obtain ⟨a, cls, dx, e1, e2, r⟩ := this
      exact ⟨a, cls, dx, e1, e2, r.mono x⟩
    | thk =>
      obtain ⟨f, Q, e1, e2, r⟩ := this
      exact ⟨f, Q, e1, e2, Q.2 _ _ x r⟩
/-- a hidden thing of no slot changes -/
theorem Rep.poke {G : Gl} {hd : Addr → Prop} {σ : L2.St} {ρ : Env} {H : Hp} {p : Addr} {o : HO} (R : Rep G hd σ ρ H) (hp : hd p) (nm : ¬ G.M p) (no : ∀ (i : Nat) (l : Ow) (v : Option V), ρ[i]? = some (.own l) → σ[i]? = some v → v ≠ some (.ref p)) (t : Plain o := by exact ⟨fun _ z => (nomatch z), fun _ _ z => (nomatch z)⟩) : Rep G hd σ ρ (upd H p o) := by
  have x : Ex (hide hd H) (hide hd (upd H p o)) := fun a u e => by
    have en := hide_nt e
    obtain ⟨n, e⟩ := hide_get e
    have np : a ≠ p := fun z => n (by rw [z]; exact hp)
    exact hide_put n (by rw [upd_ne np]; exact e) en
  have j : G.J (upd H p o) := G.stays H _ R.j (fun a m => upd_ne fun z => nm (by rw [← z]; exact m)) fun a c q e => by
    rw [upd_ne fun z => (R.live.nt p _ hp nm (by rw [← z]; exact e)).ne c q rfl]
    exact e
  refine ⟨j, R.m, R.live.poke t, R.len, fun i s v h1 h2 => ?_, R.lone⟩
  · have := R.at_ i s v h1 h2
    cases s with
    | none => trivial
    | val d =>
      obtain ⟨y, e1, a⟩ := this
      exact ⟨y, e1, a.mono x⟩
    | own l =>
      obtain ⟨a, e1, h, nm', u, e2, r⟩ := this
      have np : a ≠ p := fun z => no i l v h1 h2 (by rw [e1, z])
      exact ⟨a, e1, h, nm', u, by rw [upd_ne np]; exact e2, r.mono x⟩
    | err c l =>
      obtain ⟨a, cls, dx, e1, e2, r⟩ := this
      exact ⟨a, cls, dx, e1, e2, r.mono x⟩
    | thk =>
      obtain ⟨f, Q, e1, e2, r⟩ := this
      exact ⟨f, Q, e1, e2, Q.2 _ _ x r⟩

/-! ### comprehensions -/
def compL (b : Tg) (c : Env → T Bool) (e : Env → T D) (ρ0 : Env) : List D → T (List D)
  | [] => .ret []
  | d :: ds => opt (b d ρ0) >>= fun ρ1 => noexc (c ρ1) >>= fun k => if k = true then noexc (e ρ1) >>= fun x => compL b c e ρ0 ds >>= fun r => .ret (x :: r) else compL b c e ρ0 ds
def few {α : Type} (ds : List D) (t : T α) : T α := if ds.length ≤ 100000 then t else .bad
def gComp (it : Env → T (List D)) (b : Tg) (c : Env → T Bool) (e : Env → T D) (own : List Nat) : Env → T D := fun ρ => it ρ >>= fun ds => few ds (compL b c e (wipeE ρ own) ds >>= fun l => .ret (.lst l))
section
variable {X : Cx} {G : Gl} {W : WX}
/-- the reading of a comprehension, of the kit's -/
theorem lc_imp {it : Env → T (List D)} {g : TG} {b : Tg} {c : Env → T Bool} {e : Env → T D} {own : List (Str × Nat)} {W : WX} (ht : Tgt G g b (own.map (·.2))) {σ : L2.St} {H : Hp} {Q : VK} (q : tEE G W (gComp it b c e (own.map (·.2))) σ H Q) : tLc (tEI G W it) g (tET G W0 c) (tEE G W0 e) (own.map (·.2)) σ H Q := by
  obtain ⟨ρ, hd, R, q⟩ := q
  refine ⟨ρ, hd, R, T.wp_imp (wp_then q) fun ds q1 J H1 e1 hJ D0 hD => ?_⟩
  have q2 : ds.length ≤ 100000 ∧ (compL b c e (wipeE ρ (own.map (·.2))) ds >>= fun l => T.ret (D.lst l)).wp (fun d => ∀ v H', Lead G H H' → At G (hide hd H') d v → Q v H') (xE G W hd σ H) := wp_if q1
  obtain ⟨hlen, q2⟩ := q2
  have R1 := R.lead e1
  have nD : ¬ hd D0 := R1.fresh hD
  have nM : ¬ G.M D0 := fun m => nD (R.m D0 m)
  have x0 : Ex (hide hd H1) (hide (orIs hd D0) (upd H1 D0 (.lst []))) := fun a u z => by
    have zn := hide_nt z
    obtain ⟨n, z⟩ := hide_get z
    have np : a ≠ D0 := ne_of_none z hD
    exact hide_put (fun y => y.elim n np) (by rw [upd_ne np]; exact z) zn
  refine ⟨fun i m H' => m = ds.length - i ∧ i ≤ ds.length ∧ ∃ acc xs, H' D0 = some (.lst xs) ∧ Ats G (hide (orIs hd D0) H') acc xs ∧ xs.length ≤ i ∧ Rep G (orIs hd D0) (wipe σ (own.map (·.2))) (wipeE ρ (own.map (·.2))) H' ∧ Ex (hide hd H1) (hide (orIs hd D0) H') ∧ Lead G H1 H' ∧
    (compL b c e (wipeE ρ (own.map (·.2))) (ds.drop i)).wp (fun r => ∀ v H2, Lead G H H2 → At G (hide hd H2) (.lst (acc ++ r)) v → Q v H2) (fun _ _ => True),
    ⟨ds.length, rfl, Nat.zero_le _, [], [], upd_same, .nil, Nat.zero_le _, (R1.wipe _).more hD, x0, Lead.new hD, T.wp_mono (wp_then q2) (fun r z => z) fun _ _ _ => trivial⟩, ?_⟩
  rintro i m H2 ⟨rfl, hi2, acc, xs, hx, ha, hxl, R2, x2, L2', q3⟩
  obtain ⟨h1, h2⟩ := hJ i (orIs hd D0) H2 x2 R2.good
  by_cases hlt : i < ds.length
  · obtain ⟨go, yl⟩ := h1 hlt
    refine .inr ⟨go, fun H' => i + 1 ≤ ds.length ∧ ∃ acc xs, H' D0 = some (.lst xs) ∧ Ats G (hide (orIs hd D0) H') acc xs ∧ xs.length ≤ i + 1 ∧ Rep G (orIs hd D0) (wipe σ (own.map (·.2))) (wipeE ρ (own.map (·.2))) H' ∧ Ex (hide hd H1) (hide (orIs hd D0) H') ∧ Lead G H1 H' ∧
      (compL b c e (wipeE ρ (own.map (·.2))) (ds.drop (i + 1))).wp (fun r => ∀ v H2, Lead G H H2 → At G (hide hd H2) (.lst (acc ++ r)) v → Q v H2) (fun _ _ => True), fun H' z => ⟨ds.length - (i + 1), by omega, rfl, z.1, z.2⟩, fun x H3 y => ?_⟩
    obtain ⟨e3, d, hd3, ax⟩ := yl x H3 y
    have ed : ds.drop i = d :: ds.drop (i + 1) := by
      have z := List.getElem?_eq_some_iff.mp hd3
      rw [← z.2]
      exact List.drop_eq_getElem_cons hlt
    rw [ed] at q3
    obtain ⟨ρ3, eb, q3⟩ := wp_opt (wp_then q3)
    refine ht (orIs hd D0) _ _ ρ3 H3 x d _ (R2.lead e3) ax eb fun σ4 R4 w4 _ => ?_
    refine ⟨w4.trans (wipe_get (wipe_length _ _) fun k hk => wipe_out hk), ρ3, orIs hd D0, R4, T.wp_mono (noexc_wp (E' := fun _ _ => False) (wp_then q3)) (fun k q4 H4 e4 => ?_) fun _ _ z => z.elim⟩
    have x4 : Ex (hide (orIs hd D0) H2) (hide (orIs hd D0) H4) := (e3.trans e4).hide R2.m
    have hx4 : H4 D0 = some (.lst xs) := (e3.trans e4).ex D0 _ nM (fun _ z => nomatch z) hx
    cases k with
    | true =>
      rw [if_pos rfl] at q4
      refine L2.iteT ?_
      refine ⟨ρ3, orIs hd D0, R4.lead e4, T.wp_mono (noexc_wp (E' := fun _ _ => False) (wp_then q4)) (fun dv q5 v H5 e5 av => ?_) fun _ _ z => z.elim⟩
      have x5 : Ex (hide (orIs hd D0) H2) (hide (orIs hd D0) H5) := x4.trans (e5.hide R2.m)
      have hx5 : H5 D0 = some (.lst xs) := e5.ex D0 _ nM (fun _ z => nomatch z) hx4
      have R5 : Rep G (orIs hd D0) (wipe σ (own.map (·.2))) (wipeE ρ (own.map (·.2))) H5 := R2.lead ((e3.trans e4).trans e5)
      refine ⟨xs, hx5, Nat.lt_of_le_of_lt hxl (Nat.lt_of_lt_of_le (Nat.lt_of_lt_of_le hlt hlen) (by decide)), by omega, acc ++ [dv], xs ++ [v], upd_same, ?_, by rw [List.length_append, List.length_singleton]; omega, ?_, ?_, ?_, ?_⟩
      · have y5 : Ex (hide (orIs hd D0) H5) (hide (orIs hd D0) (upd H5 D0 (.lst (xs ++ [v])))) := fun a u z => by
          have zn := hide_nt z
          obtain ⟨n, z⟩ := hide_get z
          exact hide_put n (by rw [upd_ne (fun y => n (.inr y))]; exact z) zn
        exact ((ha.mono x5).mono y5).append (.cons (av.mono y5) .nil)
      · refine R5.poke (.inr rfl) nM fun k l u h6 h7 h8 => ?_
        rcases wipeE_own h6 with ⟨z, _⟩ | ⟨z, n⟩
        · cases z
        · have h9 : σ[k]? = some u := by
            rw [wipe_out n] at h7
            exact h7
          obtain ⟨a, e6, e7, _, ys, e8, _⟩ := R1.at_ k (.own l) u z h9
          rw [h8] at e6
          cases e6
          rw [hD] at e8
          cases e8
      · refine (x2.trans x5).trans fun a u z => ?_
        have zn := hide_nt z
        obtain ⟨n, z⟩ := hide_get z
        exact hide_put n (by rw [upd_ne (fun y => n (.inr y))]; exact z) zn
      · have L5 : Lead G H1 H5 := L2'.trans ((e3.trans e4).trans e5)
        refine ⟨fun a o nm t z => ?_, fun j => G.stays H5 _ (L5.j j) (fun a m => upd_ne fun z => nM (by rw [← z]; exact m)) fun a φ ψ e => by
          rw [upd_ne fun z => by rw [z, hx5] at e; cases e]
          exact e⟩
        rw [upd_ne (ne_of_none z hD)]
        exact L5.ex a o nm t z
      · refine T.wp_imp (wp_then q5) fun r z v' H' e' a' => z v' H' e' ?_
        have ea : acc ++ dv :: r = acc ++ [dv] ++ r := by
          rw [List.append_assoc]
          rfl
        rw [ea]
        exact a'
    | false =>
      rw [if_neg Bool.false_ne_true] at q4
      refine L2.iteF ?_
      exact ⟨by omega, acc, xs, hx4, ha.mono x4, by omega, R2.lead (e3.trans e4), x2.trans x4, L2'.trans (e3.trans e4), q4⟩
  · refine .inl ⟨h2 (by omega), ?_⟩
    rw [List.drop_eq_nil_of_le (by omega)] at q3
    refine q3 (.ref D0) H2 (e1.trans L2') ?_
    rw [List.append_nil]
    exact .lst (hide_put nD hx (fun _ z => nomatch z)) (ha.mono (hide_le fun a z => .inl z))
theorem ee_comp {elt tg iter : Expr} {ifs : List Expr} {scope : Scope} {own : List (Str × Nat)} {pos : Pos} {it : Env → T (List D)} {g : TG} {b : Tg} {c : Env → T Bool} {e : Env → T D} (hc : X.calm = true) (hN : X.N.Nodup) (hi : EI X G W tg iter it) (ok : BlkOk X.N X.env.scope scope own) (ht : Tgt G g b (own.map (·.2)))
    (hg : ∀ (s : Shared) (H : Hp) (C : Addr) (cl : List (Str × Addr)) (fp : List Addr), PG (X.blk s H scope (compEnvC scope cl C X.env) fp) tg g)
    (hifs : ∀ (s : Shared) (H : Hp) (C : Addr) (cl : List (Str × Addr)) (fp : List Addr), PTs0 (X.blk s H scope (compEnvC scope cl C X.env) fp) G ifs c)
    (he : ∀ (s : Shared) (H : Hp) (C : Addr) (cl : List (Str × Addr)) (fp : List Addr), EE (X.blk s H scope (compEnvC scope cl C X.env) fp) G W0 elt e) (hs : ∀ x, foldedSetIterable iter X.env x = pure x := by intro _; rfl) :
    EE X G W (.ListComp elt [⟨tg, iter, ifs, 0⟩] scope pos) (gComp it b c e (own.map (·.2))) := by
  exact PE_imp (pe_lc hc hN hi ok hg hifs he hs) fun σ H Q q => lc_imp ht q
end
end Py
set_option Elab.async false
set_option linter.all false
set_option maxRecDepth 100000
set_option maxHeartbeats 4000000
namespace Py
open PySem PySem.Spec L2

section
variable {X : Cx} {G : Gl} {W : WX}
/-! ### numbers -/
def iAdd : D → D → Option D
  | .int i, .int j => some (.int (i + j))
  | _, _ => none
def iSub : D → D → Option D
  | .int i, .int j => some (.int (i - j))
  | _, _ => none
def iMul : D → D → Option D
  | .int i, .int j => if (-(2 ^ 64) < i ∧ i < 2 ^ 64) ∨ (-(2 ^ 64) < j ∧ j < 2 ^ 64) then some (.int (i * j)) else none
  | _, _ => none
def iDiv : D → D → Option D
  | .int i, .int j => if j ≠ 0 ∧ j.natAbs < 1073741824 then some (.int (i.fdiv j)) else none
  | _, _ => none
def iMod : D → D → Option D
  | .int i, .int j => if j ≠ 0 then some (.int (i.fmod j)) else none
  | _, _ => none
def cmpI (p : Int → Int → Bool) : D → D → Option D
  | .int i, .int j => some (.bl (p i j))
  | _, _ => none
theorem does_I0 {f : Int → Int → V} {g : D → D → Option D} (h : ∀ a b d, g a b = some d → ∃ i j, a = .int i ∧ b = .int j ∧ ∀ H, At G H d (f i j)) : Does2 G (rI0 f) g := fun hd H x y a b d Q R h1 h2 e k => by
  obtain ⟨i, j, rfl, rfl, q⟩ := h a b d e
  cases h1
  cases h2
  exact ⟨i, j, rfl, rfl, k _ H (Lead.refl H) (q _)⟩
theorem does_I {C : Int → Int → Prop} {f : Int → Int → V} {g : D → D → Option D} (h : ∀ a b d, g a b = some d → ∃ i j, a = .int i ∧ b = .int j ∧ C i j ∧ ∀ H, At G H d (f i j)) : Does2 G (rI C f) g := fun hd H x y a b d Q R h1 h2 e k => by
  obtain ⟨i, j, rfl, rfl, c, q⟩ := h a b d e
  cases h1
  cases h2
  exact ⟨i, j, rfl, rfl, c, k _ H (Lead.refl H) (q _)⟩
theorem d_add : Does2 G (rI0 fun i j => V.int (i + j)) iAdd := does_I0 fun a b d e => by
  unfold iAdd at e
  split at e
  · cases e
    exact ⟨_, _, rfl, rfl, fun _ => .int⟩
  · cases e
theorem d_sub : Does2 G (rI0 fun i j => V.int (i - j)) iSub := does_I0 fun a b d e => by
  unfold iSub at e
  split at e
  · cases e
    exact ⟨_, _, rfl, rfl, fun _ => .int⟩
  · cases e
theorem d_cmp (p : Int → Int → Bool) : Does2 G (rI0 fun i j => V.bl (p i j)) (cmpI p) := does_I0 fun a b d e => by
  unfold cmpI at e
  split at e
  · cases e
    exact ⟨_, _, rfl, rfl, fun _ => .bl⟩
  · cases e
theorem d_mul : Does2 G (rI CMul fun i j => V.int (i * j)) iMul := does_I fun a b d e => by
  unfold iMul at e
  split at e
  · split at e
    · cases e
      exact ⟨_, _, rfl, rfl, (by assumption), fun _ => .int⟩
    · cases e
  · cases e
theorem d_div : Does2 G (rI CDivN fun i j => V.int (i.fdiv j)) iDiv := does_I fun a b d e => by
  unfold iDiv at e
  split at e
  · split at e
    · cases e
      exact ⟨_, _, rfl, rfl, (by assumption), fun _ => .int⟩
    · cases e
  · cases e
theorem d_mod : Does2 G (rI (fun _ j => j ≠ 0) fun i j => V.int (i.fmod j)) iMod := does_I fun a b d e => by
  unfold iMod at e
  split at e
  · split at e
    · cases e
      exact ⟨_, _, rfl, rfl, (by assumption), fun _ => .int⟩
    · cases e
  · cases e
def iNeg : D → Option D
  | .int i => some (.int (-i))
  | _ => none
theorem ee_neg {a : Expr} {pos : Pos} {f : Env → T D} (ha : EE X G W a f) : EE X G W (.UnaryOp .USub a pos) (fun ρ => f ρ >>= fun d => opt (iNeg d)) := by
  refine PE_imp (pe_un un_neg ha) fun σ H Q q => ?_
  obtain ⟨ρ, hd, R, q⟩ := q
  refine ⟨ρ, hd, R, T.wp_imp (wp_then q) fun d q1 v H' e h => ?_⟩
  obtain ⟨d', e1, q2⟩ := wp_opt q1
  cases d with
  | int i =>
    cases h
    cases e1
    exact ⟨i, rfl, q2 _ H' e .int⟩
  | _ => cases e1
/-! ### is -/
def isN (neg : Bool) : D → T D
  | .non => .ret (.bl (!neg))
  | .deck => .bad
  | _ => .ret (.bl neg)
theorem ee_isN {a : Expr} {pos p2 : Pos} {k : Nat} {f : Env → T D} (ha : EE X G W a f) : EE X G W (.Compare a [.Is] [.Constant .none k p2] pos) (fun ρ => f ρ >>= isN false) := by
  refine PE_imp (pe_cmp (pc_isN ha) rfl) fun σ H Q q => ?_
  obtain ⟨ρ, hd, R, q⟩ := q
  refine ⟨ρ, hd, R, T.wp_imp (wp_then q) fun d q1 v H' e h => ?_⟩
  cases h <;> first | exact q1 _ H' e .bl | exact q1.elim
theorem ee_notN {a : Expr} {pos p2 : Pos} {k : Nat} {f : Env → T D} (ha : EE X G W a f) : EE X G W (.Compare a [.IsNot] [.Constant .none k p2] pos) (fun ρ => f ρ >>= isN true) := by
  refine PE_imp (pe_cmp (pc_notN ha) rfl) fun σ H Q q => ?_
  obtain ⟨ρ, hd, R, q⟩ := q
  refine ⟨ρ, hd, R, T.wp_imp (wp_then q) fun d q1 v H' e h => ?_⟩
  cases h <;> first | exact q1 _ H' e .bl | exact q1.elim
def gT (f : Env → T D) : Env → T Bool := fun ρ => f ρ >>= asB
theorem et_isN {a : Expr} {pos p2 : Pos} {k : Nat} {f : Env → T D} (ha : EE X G W a f) : ET X G W (.Compare a [.Is] [.Constant .none k p2] pos) (gT fun ρ => f ρ >>= isN false) := by
  refine PT_imp (pt_cmp (pc_isN ha) rfl) fun σ H Q q => ?_
  obtain ⟨ρ, hd, R, q⟩ := q
  refine ⟨ρ, hd, R, T.wp_imp (wp_then (wp_then q)) fun d q1 v H' e h => ?_⟩
  cases h <;> first | exact ⟨_, rfl, q1 H' e⟩ | exact q1.elim
theorem et_notN {a : Expr} {pos p2 : Pos} {k : Nat} {f : Env → T D} (ha : EE X G W a f) : ET X G W (.Compare a [.IsNot] [.Constant .none k p2] pos) (gT fun ρ => f ρ >>= isN true) := by
  refine PT_imp (pt_cmp (pc_notN ha) rfl) fun σ H Q q => ?_
  obtain ⟨ρ, hd, R, q⟩ := q
  refine ⟨ρ, hd, R, T.wp_imp (wp_then (wp_then q)) fun d q1 v H' e h => ?_⟩
  cases h <;> first | exact ⟨_, rfl, q1 H' e⟩ | exact q1.elim
def isB (neg : Bool) : D → D → Option D
  | .bl a, .bl b => some (.bl (if neg then !decide (a = b) else decide (a = b)))
  | _, _ => none
theorem d_isB : Does2 G rIsB (isB false) := fun hd H x y a b d Q R h1 h2 e k => by
  unfold isB at e
  split at e
  · cases e
    cases h1
    cases h2
    exact ⟨_, _, rfl, rfl, k _ H (Lead.refl H) .bl⟩
  · cases e
theorem d_notB : Does2 G rNotB (isB true) := fun hd H x y a b d Q R h1 h2 e k => by
  unfold isB at e
  split at e
  · cases e
    cases h1
    cases h2
    exact ⟨_, _, rfl, rfl, k _ H (Lead.refl H) .bl⟩
  · cases e
/-! ### isinstance -/
def kindN : D → Option String
  | .non => some "NoneType"
  | .bl _ => some "bool"
  | .int _ => some "int"
  | .str _ => some "str"
  | .tup _ => some "tuple"
  | .lst _ => some "list"
  | .dic _ _ => some "dict"
  | _ => none
theorem kind_ty (hK : G.K = X.K) {H : Hp} {hd : Addr → Prop} {d : D} {x : V} {n : String} (a : At G (hide hd H) d x) (e : kindN d = some n) : TyX X.K H x (.type n) := by
  cases a with
  | tup h1 h2 =>
    cases e
    rw [hK] at h1
    rcases h1 with (h | ⟨o, h⟩) | ⟨o, its, m, h, c, _⟩
    · exact .base (.tup (hide_sub _ _ h))
    · exact .fTuple (hide_sub _ _ h)
    · exact .kTuple h c
  | lst h1 h2 =>
    cases e
    exact .base (.lst (hide_sub _ _ h1))
  | dic h1 h2 h3 =>
    cases e
    exact .base (.dK (hide_sub _ _ h1))
  | non =>
    cases e
    exact .base .non
  | bl =>
    cases e
    exact .base (.bl _)
  | int =>
    cases e
    exact .base (.int _)
  | str =>
    cases e
    exact .base (.str _)
  | obj h1 h2 h3 => cases e
  | dicN h1 h2 h3 h4 => cases e
  | deck => cases e
/-- what isinstance(d, c) says, for the class value u -/
def Answers (X : Cx) (G : Gl) (u : Value) (ans : D → Option Bool) : Prop := ∀ (H : Hp) (hd : Addr → Prop) (d : D) (x : V) (b : Bool), At G (hide hd H) d x → ans d = some b → ∃ t, TyX X.K H x t ∧ PySem.W.kitOne X.K t u = some b
def ansT (n : String) : D → Option Bool := fun d => (kindN d).bind fun k => kitB k n
theorem ans_ty (hK : G.K = X.K) (n : String) : Answers X G (.type n) (ansT n) := fun H hd d x b a e => by
  unfold ansT at e
  cases q : kindN d with
  | none =>
    rw [q] at e
    cases e
  | some k =>
    rw [q] at e
    exact ⟨_, kind_ty hK a q, kit_ty e⟩
def gIsi (ans : D → Option Bool) (f : Env → T D) : Env → T D := fun ρ => f ρ >>= fun d => opt ((ans d).map D.bl)
theorem ee_isi {a c : Expr} {p pos : Pos} {f : Env → T D} {cv : V} {u : Value} {ans : D → Option Bool} (hans : Answers X G u ans) (hg : L2.Gl X "isinstance") (hm : X.mg "isinstance" = none) (ha : EE X G W a f) (hc : PE X c (tC cv)) (k : ClsV cv u)
    (he : starEach [a, c] X.env = (false, eval a X.env) :: starEach [c] X.env := by rfl) (hec : starEach [c] X.env = (false, eval c X.env) :: starEach [] X.env := by rfl) (hpl : (backTo pos (starEach [c] X.env)).any (·.1) = false := by rfl) :
    EE X G W (.Call (.Name "isinstance" p) [a, c] [] pos) (gIsi ans f) := by
  refine PE_imp (pe_callB call_isi hg hm (by decide +kernel) (pa_cons ha (pa_cons hc pa_nil hec) he) (by decide) (by decide) he hpl) fun σ H Q q => ?_
  obtain ⟨ρ, hd, R, q⟩ := q
  refine ⟨ρ, hd, R, T.wp_imp (wp_then q) fun d q1 v H' e h => ?_⟩
  obtain ⟨d', e1, q2⟩ := wp_opt q1
  cases q : ans d with
  | none =>
    rw [q] at e1
    cases e1
  | some b =>
    rw [q] at e1
    cases e1
    obtain ⟨t, ty, e3⟩ := hans H' hd d v b h q
    exact ⟨v, cv, t, u, b, rfl, k, ty, e3, q2 _ H' e .bl⟩
/-! ### len -/
def lenS : List D → Option D
  | [.tup l] => some (.int (l.length : Int))
  | [.lst l] => some (.int (l.length : Int))
  | _ => none
theorem d_lenS (hK : G.K = X.K) : DoesN G (fun xs H Q => ∃ p ys, xs = [.ref p] ∧ (SqL X.K H p ys ∨ SqT X.K H p ys) ∧ Q (.int ys.length) H) lenS := fun hd H xs l d Q R h e k => by
  unfold lenS at e
  split at e
  · cases e
    cases h with
    | cons h1 h2 =>
      cases h2
      cases h1 with
      | tup h1 h2 => exact ⟨_, _, rfl, .inr (by rw [← hK]; exact hide_sub.sqT h1), k _ H (Lead.refl H) (by rw [h2.length]; exact .int)⟩
  · cases e
    cases h with
    | cons h1 h2 =>
      cases h2
      cases h1 with
      | lst h1 h2 => exact ⟨_, _, rfl, .inl (.inl (.inl (hide_sub _ _ h1))), k _ H (Lead.refl H) (by rw [h2.length]; exact .int)⟩
  · cases e
/-! ### list(..), tuple(..) -/
def asL : List D → Option D
  | [.tup l] => some (.lst l)
  | [.lst l] => some (.lst l)
  | _ => none
def asT : List D → Option D
  | [.tup l] => some (.tup l)
  | [.lst l] => some (.tup l)
  | _ => none
theorem d_asL (hK : G.K = X.K) : DoesN G (fun xs H Q => ∃ p ys, xs = [.ref p] ∧ (SqL X.K H p ys ∨ SqT X.K H p ys) ∧ ∀ l, H l = none → Q (.ref l) (upd H l (.lst ys))) asL := fun hd H xs l d Q R h e k => by
  unfold asL at e
  split at e
  · cases e
    cases h with
    | cons h1 h2 =>
      cases h2
      cases h1 with
      | tup h1 h2 => exact ⟨_, _, rfl, .inr (by rw [← hK]; exact hide_sub.sqT h1), fun p hp => k _ _ (Lead.new hp) (.lst (R.seen hp) (h2.mono (R.old hp)))⟩
  · cases e
    cases h with
    | cons h1 h2 =>
      cases h2
      cases h1 with
      | lst h1 h2 => exact ⟨_, _, rfl, .inl (.inl (.inl (hide_sub _ _ h1))), fun p hp => k _ _ (Lead.new hp) (.lst (R.seen hp) (h2.mono (R.old hp)))⟩
  · cases e
theorem d_asT (hK : G.K = X.K) : DoesN G (fun xs H Q => ∃ p ys, xs = [.ref p] ∧ ((SqL X.K H p ys ∧ ∀ l, H l = none → Q (.ref l) (upd H l (.tup ys))) ∨ (SqT X.K H p ys ∧ Q (.ref p) H))) asT := fun hd H xs l d Q R h e k => by
  unfold asT at e
  split at e
  · cases e
    cases h with
    | cons h1 h2 =>
      cases h2
      cases h1 with
      | tup h1 h2 => exact ⟨_, _, rfl, .inr ⟨by rw [← hK]; exact hide_sub.sqT h1, k _ H (Lead.refl H) (.tup h1 h2)⟩⟩
  · cases e
    cases h with
    | cons h1 h2 =>
      cases h2
      cases h1 with
      | lst h1 h2 => exact ⟨_, _, rfl, .inl ⟨.inl (.inl (hide_sub _ _ h1)), fun p hp => k _ _ (Lead.new hp) (.tup (.inl (.inl (R.seen hp))) (h2.mono (R.old hp)))⟩⟩
  · cases e
/-! ### all, any of a list of bools -/
def boolsD : List D → Option (List Bool)
  | [] => some []
  | .bl b :: r => (boolsD r).map (b :: ·)
  | _ => none
theorem bools_of : ∀ {l : List D} {bs : List Bool} {H : Hp} {xs : List V}, boolsD l = some bs → Ats G H l xs → xs = bs.map V.bl
  | [], bs, H, xs, e, h => by
    cases e
    cases h
    rfl
  | d :: r, bs, H, xs, e, h => by
    cases h with
    | cons h1 h2 =>
      cases d with
      | bl b =>
        have e1 : (boolsD r).map (b :: ·) = some bs := e
        cases q : boolsD r with
        | none =>
          rw [q] at e1
          cases e1
        | some cs =>
          rw [q] at e1
          cases e1
          cases h1
          rw [bools_of q h2]
          rfl
      | _ => cases e
def allB : List D → Option D
  | [.lst l] => (boolsD l).map fun bs => .bl (bs.all id)
  | _ => none
def anyB' : List D → Option D
  | [.lst l] => (boolsD l).map fun bs => .bl (bs.any id)
  | _ => none
theorem d_all (hK : G.K = X.K) : DoesN G (rAll X.K) allB := fun hd H xs l d Q R h e k => by
  unfold allB at e
  split at e
  · rename_i l
    cases h with
    | cons h1 h2 =>
      cases h2
      cases h1 with
      | @lst _ a ys h1 h2 =>
        cases q : boolsD l with
        | none =>
          rw [q] at e
          cases e
        | some bs =>
          rw [q] at e
          cases e
          have eq := bools_of q h2
          subst eq
          exact ⟨_, bs, rfl, .inl (.inl (hide_sub _ _ h1)), k _ H (Lead.refl H) .bl⟩
  · cases e
theorem d_any (hK : G.K = X.K) : DoesN G (rAny X.K) anyB' := fun hd H xs l d Q R h e k => by
  unfold anyB' at e
  split at e
  · rename_i l
    cases h with
    | cons h1 h2 =>
      cases h2
      cases h1 with
      | @lst _ a ys h1 h2 =>
        cases q : boolsD l with
        | none =>
          rw [q] at e
          cases e
        | some bs =>
          rw [q] at e
          cases e
          have eq := bools_of q h2
          subst eq
          exact ⟨_, bs, rfl, .inl (.inl (hide_sub _ _ h1)), k _ H (Lead.refl H) .bl⟩
  · cases e
/-! ### items, slices, + -/
def ixD : D → D → Option D
  | .tup l, .int i => atI l i
  | .lst l, .int i => atI l i
  | _, _ => none
theorem atI_ats {H : Hp} {l : List D} {xs : List V} {i : Int} {d : D} (h : Ats G H l xs) (e : atI l i = some d) : ∃ x, atI xs i = some x ∧ At G H d x := by
  unfold atI at e ⊢
  rw [← h.length]
  cases q : ixN l.length i with
  | none =>
    rw [q] at e
    cases e
  | some j =>
    rw [q] at e
    exact h.get' e
theorem d_ix (hK : G.K = X.K) : Does2 G (fun x y H Q => rIxL X.K x y H Q ∨ rIxT X.K x y H Q) ixD := fun hd H x y a b d Q R h1 h2 e k => by
  unfold ixD at e
  split at e
  · cases h2
    cases h1 with
    | tup h1 h2 =>
      obtain ⟨v, e1, a⟩ := atI_ats h2 e
      exact .inr ⟨_, _, _, v, rfl, rfl, by rw [← hK]; exact hide_sub.sqT h1, e1, k v H (Lead.refl H) a⟩
  · cases h2
    cases h1 with
    | lst h1 h2 =>
      obtain ⟨v, e1, a⟩ := atI_ats h2 e
      exact .inl ⟨_, _, _, v, rfl, rfl, .inl (.inl (hide_sub _ _ h1)), e1, k v H (Lead.refl H) a⟩
  · cases e
theorem ee_ix (hK : G.K = X.K) {a b : Expr} {pos : Pos} {f g : Env → T D} (ha : EE X G W a f) (hb : EE X G W b g) (hs : PlainIx b := by intro _ _; rfl) : EE X G W (.Subscript a b pos) (gOp ixD f g) :=
  PE_imp (pe_ix (ix_list.or ix_tup) ha hb hs) fun σ H Q q => two (d_ix hK) q
/-- the part l[lo:hi] -/
def cutD (l : List D) (lo hi : Option Int) : List D := (l.drop (HT.sIx l.length 0 lo)).take (HT.sIx l.length l.length hi - HT.sIx l.length 0 lo)
theorem Ats.drop {H : Hp} : ∀ {l : List D} {xs : List V} (n : Nat), Ats G H l xs → Ats G H (l.drop n) (xs.drop n)
  | _, _, 0, h => h
  | _, _, _ + 1, .nil => .nil
  | _, _, n + 1, .cons _ r => Ats.drop n r
theorem Ats.take {H : Hp} : ∀ {l : List D} {xs : List V} (n : Nat), Ats G H l xs → Ats G H (l.take n) (xs.take n)
  | _, _, 0, _ => .nil
  | _, _, _ + 1, .nil => .nil
  | _, _, n + 1, .cons h r => .cons h (Ats.take n r)
theorem cut_ats {H : Hp} {l : List D} {xs : List V} {lo hi : Option Int} (h : Ats G H l xs) : Ats G H (cutD l lo hi) (cutV xs lo hi) := by
  unfold cutD cutV
  rw [h.length]
  exact Ats.take _ (Ats.drop _ h)
def slD (d : D) (lo hi : Option Int) : Option D := match d with
  | .tup l => some (.tup (cutD l lo hi))
  | .lst l => some (.lst (cutD l lo hi))
  | _ => none
/-- a bound of a slice -/
def optI : Option (Env → T D) → Env → T (Option Int)
  | none, _ => .ret none
  | some f, ρ => f ρ >>= fun d => match d with
    | .int i => .ret (some i)
    | _ => .bad
def tEO (G : Gl) (W : WX) (f : Env → T (Option Int)) : TO := fun σ H Q => ∃ ρ hd, Rep G hd σ ρ H ∧ (f ρ).wp (fun b => ∀ H', Lead G H H' → Q b H') (xE G W hd σ H)
theorem PO_imp {e : Option Expr} {t t' : TO} (h : PO X e t) (i : ∀ σ H Q, t' σ H Q → t σ H Q) : PO X e t' := ⟨fun pins s σ H Q I q => h.run pins s σ H Q I (i _ _ _ q)⟩
theorem eo_none : PO X none (tEO G W (optI none)) := PO_imp po_none fun σ H Q ⟨ρ, hd, R, q⟩ => q H (Lead.refl H)
theorem eo_some {e : Expr} {f : Env → T D} (h : EE X G W e f) : PO X (some e) (tEO G W (optI (some f))) := by
  refine PO_imp (po_some h) fun σ H Q q => ?_
  obtain ⟨ρ, hd, R, q⟩ := q
  refine ⟨ρ, hd, R, T.wp_imp (wp_then q) fun d q1 v H' e h => ?_⟩
  cases d with
  | int i =>
    cases h
    exact ⟨i, rfl, q1 H' e⟩
  | _ => exact q1.elim
def gSl (f : Env → T D) (lo hi : Env → T (Option Int)) : Env → T D := fun ρ => f ρ >>= fun d => lo ρ >>= fun l => hi ρ >>= fun h => opt (slD d l h)
theorem cutV_whole {xs : List V} {lo hi : Option Int} (h : HT.sIx xs.length 0 lo = 0 ∧ HT.sIx xs.length xs.length hi = xs.length) : cutV xs lo hi = xs := by
  unfold cutV
  rw [h.1, h.2, Nat.sub_zero, List.drop_zero, List.take_length]
theorem ee_sl (hK : G.K = X.K) {e : Expr} {lo hi : Option Expr} {p2 pos : Pos} {f : Env → T D} {fl fh : Env → T (Option Int)} (he : EE X G W e f) (hl : PO X lo (tEO G W fl)) (hh : PO X hi (tEO G W fh)) : EE X G W (.Subscript e (.Slice lo hi none p2) pos) (gSl f fl fh) := by
  refine PE_imp (pe_slice (sl_list.or sl_tupA) he hl hh) fun σ H Q q => ?_
  obtain ⟨ρ, hd, R, q⟩ := q
  refine ⟨ρ, hd, R, T.wp_imp (wp_then q) fun d q1 v H1 e1 h1 => ?_⟩
  refine ⟨ρ, hd, R.lead e1, T.wp_mono (wp_then q1) (fun l q2 H2 e2 => ?_) fun c l z => xE.lead z e1⟩
  refine ⟨ρ, hd, R.lead (e1.trans e2), T.wp_mono (wp_then q2) (fun u q3 H3 e3 => ?_) fun c l z => xE.lead z (e1.trans e2)⟩
  obtain ⟨d', e4, q4⟩ := wp_opt q3
  have g := R.good.lead ((e1.trans e2).trans e3)
  have h3 := h1.mono ((e2.trans e3).hide R.m)
  have E3 := (e1.trans e2).trans e3
  cases d with
  | tup l' =>
    cases e4
    cases h3 with
    | @tup _ a xs h4 h5 =>
      refine .inr ⟨a, xs, rfl, by rw [← hK]; exact hide_sub.sqT h4, fun w => q4 _ H3 E3 (.tup h4 ?_), fun _ p hp => q4 _ _ (E3.trans (Lead.new hp)) (.tup (.inl (.inl (g.seen hp))) ((cut_ats h5).mono (g.old hp)))⟩
      have z := cut_ats (lo := l) (hi := u) h5
      rw [cutV_whole w] at z
      exact z
  | lst l' =>
    cases e4
    cases h3 with
    | @lst _ a xs h4 h5 => exact .inl ⟨a, xs, rfl, .inl (.inl (hide_sub _ _ h4)), fun p hp => q4 _ _ (E3.trans (Lead.new hp)) (.lst (g.seen hp) ((cut_ats h5).mono (g.old hp)))⟩
  | _ => cases e4
/-- t + u, xs + ys -/
def catD : D → D → Option D
  | .tup l, .tup m => if l.length + m.length ≤ 100000 then some (.tup (l ++ m)) else none
  | .lst l, .lst m => if l.length + m.length ≤ 100000 then some (.lst (l ++ m)) else none
  | _, _ => none
theorem line5 {n : Nat} (h : n ≤ 100000) : n ≤ sizeLine := Nat.le_trans h (by decide)
theorem Ats.nil_iff {H : Hp} {l : List D} {xs : List V} (h : Ats G H l xs) : xs = [] ↔ l = [] := by
  cases h with
  | nil => exact ⟨fun _ => rfl, fun _ => rfl⟩
  | cons _ _ => exact ⟨fun z => (nomatch z), fun z => (nomatch z)⟩
theorem d_cat (hK : G.K = X.K) : Does2 G (fun x y H Q => rCatA X.K x y H Q ∨ rCat x y H Q) catD := fun hd H x y a b d Q R h1 h2 e k => by
  unfold catD at e
  split at e
  · split at e
    · rename_i hl
      cases e
      cases h1 with
      | tup h1 h3 =>
        cases h2 with
        | tup h2 h4 =>
          refine .inl ⟨_, _, _, _, rfl, rfl, by rw [← hK]; exact hide_sub.sqT h1, by rw [← hK]; exact hide_sub.sqT h2, line5 (by rw [← h3.length, ← h4.length]; exact hl), fun z => ?_, fun _ z => ?_, fun _ _ p hp => k _ _ (Lead.new hp) (.tup (.inl (.inl (R.seen hp))) ((h3.append h4).mono (R.old hp)))⟩
          · rw [h3.nil_iff] at z
            rw [z] at k
            exact k _ H (Lead.refl H) (.tup h2 h4)
          · rw [h4.nil_iff] at z
            rw [z, List.append_nil] at k
            exact k _ H (Lead.refl H) (.tup h1 h3)
    · cases e
  · split at e
    · rename_i hl
      cases e
      cases h1 with
      | lst h1 h3 =>
        cases h2 with
        | lst h2 h4 =>
          exact .inr ⟨_, _, _, _, rfl, rfl, hide_sub _ _ h1, hide_sub _ _ h2, line5 (by rw [← h3.length, ← h4.length]; exact hl), fun p hp => k _ _ (Lead.new hp) (.lst (R.seen hp) ((h3.append h4).mono (R.old hp)))⟩
    · cases e
  · cases e
/-- x in xs: numbers, texts, True, None -/
def flatD : D → Bool
  | .non => true
  | .bl _ => true
  | .int _ => true
  | .str _ => true
  | _ => false
def eqF : D → D → Bool
  | .non, .non => true
  | .bl a, .bl b => a == b
  | .bl a, .int b => (if a then 1 else 0) == b
  | .int a, .bl b => a == (if b then 1 else 0)
  | .int a, .int b => a == b
  | .str a, .str b => a == b
  | _, _ => false
theorem flat_of {H : Hp} {d : D} {x : V} (h : At G H d x) (f : flatD d = true) : flatV x = true := by
  cases h <;> first | rfl | cases f
theorem flats_of {H : Hp} : ∀ {l : List D} {xs : List V}, Ats G H l xs → l.all flatD = true → xs.all flatV = true
  | _, _, .nil, _ => rfl
  | _, _, .cons h r, f => by
    rw [List.all_cons, Bool.and_eq_true] at f
    rw [List.all_cons, flat_of h f.1, flats_of r f.2]
    rfl
theorem eqF_of {H : Hp} {a b : D} {x y : V} (h : At G H a x) (h' : At G H b y) (f : flatD a = true) (f' : flatD b = true) : eqV x y = eqF a b := by
  cases h <;> first | (cases f; done) | (cases h' <;> first | rfl | (cases f'; done))
theorem inF_of {H : Hp} {a : D} {x : V} (h : At G H a x) (f : flatD a = true) : ∀ {l : List D} {xs : List V}, Ats G H l xs → l.all flatD = true → inV x xs = l.any fun y => eqF y a
  | _, _, .nil, _ => rfl
  | _, _, .cons h1 r, g => by
    rw [List.all_cons, Bool.and_eq_true] at g
    unfold inV
    rw [List.any_cons, List.any_cons, eqF_of h1 h g.1 f]
    have z := inF_of h f r g.2
    unfold inV at z
    rw [z]
def inD (neg : Bool) : D → D → Option D
  | a, .tup l => if flatD a && l.all flatD then some (.bl (if neg then !(l.any fun y => eqF y a) else l.any fun y => eqF y a)) else none
  | a, .lst l => if flatD a && l.all flatD then some (.bl (if neg then !(l.any fun y => eqF y a) else l.any fun y => eqF y a)) else none
  | _, _ => none
theorem d_in (hK : G.K = X.K) (neg : Bool) : Does2 G (rIn X.K neg) (inD neg) := fun hd H x y a b d Q R h1 h2 e k => by
  unfold inD at e
  split at e
  · split at e
    · rename_i hl
      rw [Bool.and_eq_true] at hl
      cases e
      cases h2 with
      | tup h2 h3 => exact ⟨_, _, rfl, .inr (by rw [← hK]; exact hide_sub.sqT h2), flat_of h1 hl.1, flats_of h3 hl.2, by rw [inF_of h1 hl.1 h3 hl.2]; exact k _ H (Lead.refl H) .bl⟩
    · cases e
  · split at e
    · rename_i hl
      rw [Bool.and_eq_true] at hl
      cases e
      cases h2 with
      | lst h2 h3 => exact ⟨_, _, rfl, .inl (.inl (.inl (hide_sub _ _ h2))), flat_of h1 hl.1, flats_of h3 hl.2, by rw [inF_of h1 hl.1 h3 hl.2]; exact k _ H (Lead.refl H) .bl⟩
    · cases e
  · cases e
/-! ### == of data -/
mutual
def pyD : D → Option PyData
  | .non => some .none
  | .bl b => some (.bool b)
  | .int i => some (.int i)
  | .str x => some (.str x)
  | .tup l => (pyDs l).map .tuple
  | .lst l => (pyDs l).map .list
  | _ => none
def pyDs : List D → Option (List PyData)
  | [] => some []
  | d :: l => match pyD d, pyDs l with
    | some a, some r => some (a :: r)
    | _, _ => none
end
mutual
theorem dp_of (hK : G.K = X.K) {H : Hp} {hd : Addr → Prop} : ∀ {d : D} {v : V} {p : PyData}, At G (hide hd H) d v → pyD d = some p → Dp X.K H v p
  | _, _, _, .non, e => by
    cases e
    exact .non
  | _, _, _, .bl, e => by
    cases e
    exact .bl _
  | _, _, _, .int, e => by
    cases e
    exact .int _
  | _, _, _, .str, e => by
    cases e
    exact .str _
  | .tup l, _, p, .tup h1 h2, e => by
    have e1 : (pyDs l).map PyData.tuple = some p := e
    cases q : pyDs l with
    | none =>
      rw [q] at e1
      cases e1
    | some r =>
      rw [q] at e1
      cases e1
      exact .tup (by rw [← hK]; exact hide_sub.sqT h1) (dps_of hK h2 q)
  | .lst l, _, p, .lst h1 h2, e => by
    have e1 : (pyDs l).map PyData.list = some p := e
    cases q : pyDs l with
    | none =>
      rw [q] at e1
      cases e1
    | some r =>
      rw [q] at e1
      cases e1
      exact .lst (.inl (.inl (hide_sub _ _ h1))) (dps_of hK h2 q)
  | _, _, _, .dic _ _ _, e => by cases e
  | _, _, _, .dicN _ _ _ _, e => by cases e
  | _, _, _, .obj _ _ _, e => by cases e
  | _, _, _, .deck, e => by cases e
theorem dps_of (hK : G.K = X.K) {H : Hp} {hd : Addr → Prop} : ∀ {l : List D} {xs : List V} {ps : List PyData}, Ats G (hide hd H) l xs → pyDs l = some ps → DpAll X.K H xs ps
  | _, _, _, .nil, e => by
    cases e
    exact .nil
  | d :: l, _, ps, .cons h r, e => by
    have e1 : (match pyD d, pyDs l with
      | some a, some r => some (a :: r)
      | _, _ => none) = some ps := e
    cases q : pyD d with
    | none =>
      rw [q] at e1
      cases e1
    | some a =>
      cases q2 : pyDs l with
      | none =>
        rw [q, q2] at e1
        cases e1
      | some b =>
        rw [q, q2] at e1
        cases e1
        exact .cons (dp_of hK h q) (dps_of hK r q2)
end
def eqD (neg : Bool) (a b : D) : Option D := match pyD a, pyD b with
  | some p, some q => if SeqAt.shaped p && SeqAt.shaped q then some (.bl (if neg then !PyData.eqv p q else PyData.eqv p q)) else none
  | _, _ => none
theorem eqD_some {neg : Bool} {a b d : D} (e : eqD neg a b = some d) : ∃ p q, pyD a = some p ∧ pyD b = some q ∧ SeqAt.shaped p = true ∧ SeqAt.shaped q = true ∧ d = .bl (if neg then !PyData.eqv p q else PyData.eqv p q) := by
  unfold eqD at e
  cases h1 : pyD a with
  | none =>
    rw [h1] at e
    cases e
  | some p =>
    cases h2 : pyD b with
    | none =>
      rw [h1, h2] at e
      cases e
    | some q =>
      rw [h1, h2] at e
      have e1 : (if SeqAt.shaped p && SeqAt.shaped q then some (D.bl (if neg then !PyData.eqv p q else PyData.eqv p q)) else none) = some d := e
      split at e1
      · rename_i hs
        rw [Bool.and_eq_true] at hs
        exact ⟨p, q, rfl, rfl, hs.1, hs.2, (Option.some.inj e1).symm⟩
      · cases e1
theorem d_eq (hK : G.K = X.K) : Does2 G (rEqD X.K) (eqD false) := fun hd H x y a b d Q R h1 h2 e k => by
  obtain ⟨p, q, e1, e2, s1, s2, rfl⟩ := eqD_some e
  exact ⟨p, q, dp_of hK h1 e1, dp_of hK h2 e2, s1, s2, k _ H (Lead.refl H) .bl⟩
theorem d_ne (hK : G.K = X.K) : Does2 G (rNeD X.K) (eqD true) := fun hd H x y a b d Q R h1 h2 e k => by
  obtain ⟨p, q, e1, e2, s1, s2, rfl⟩ := eqD_some e
  exact ⟨p, q, dp_of hK h1 e1, dp_of hK h2 e2, s1, s2, k _ H (Lead.refl H) .bl⟩
end
end Py
set_option Elab.async false
set_option linter.all false
set_option maxRecDepth 100000
set_option maxHeartbeats 4000000
namespace Py
open PySem PySem.Spec L2

section
variable {X : Cx} {G : Gl} {W : WX} {hs : Hid}
/-! ### lists that a def makes for itself and changes -/
theorem Rep.setOwn {hd : Addr → Prop} {σ : L2.St} {ρ : Env} {H : Hp} {i : Nat} {l : Ow} {p : Addr} (R : Rep G hd σ ρ H) (a : OwAt G hd H l p)
    (no : ∀ (k : Nat) (s : Slot) (v : Option V), ρ[k]? = some s → isOwn s = true → σ[k]? = some v → v ≠ some (.ref p)) : Rep G hd (σ.set i (some (.ref p))) (ρ.set i (.own l)) H := by
  have hl := R.len
  have self : ∀ {k : Nat} {s : Slot}, (ρ.set i (.own l))[k]? = some s → (k = i ∧ s = .own l) ∨ (i ≠ k ∧ ρ[k]? = some s) := fun {k s} h1 => by
    by_cases hk : i = k
    · rw [← hk] at h1
      by_cases hi : i < ρ.length
      · rw [List.getElem?_set_self hi] at h1
        exact .inl ⟨hk.symm, (Option.some.inj h1).symm⟩
      · rw [List.getElem?_eq_none (by rw [List.length_set]; omega)] at h1
        cases h1
    · rw [List.getElem?_set_ne hk] at h1
      exact .inr ⟨hk, h1⟩
  have val : ∀ {k : Nat} {v : Option V}, (σ.set i (some (.ref p)))[k]? = some v → (k = i → v = some (.ref p)) ∧ (i ≠ k → σ[k]? = some v) := fun {k v} h2 => by
    refine ⟨fun z => ?_, fun z => ?_⟩
    · rw [z] at h2
      by_cases hi : i < σ.length
      · rw [List.getElem?_set_self hi] at h2
        exact (Option.some.inj h2).symm
      · rw [List.getElem?_eq_none (by rw [List.length_set]; omega)] at h2
        cases h2
    · rw [List.getElem?_set_ne z] at h2
      exact h2
  refine ⟨R.j, R.m, R.live, by rw [List.length_set, List.length_set]; exact R.len, fun k s v' h1 h2 => ?_, fun k m l' v' h1 h2 h3 h4 => ?_⟩
  · rcases self h1 with ⟨e1, e2⟩ | ⟨e1, e2⟩
    · rw [e2, (val h2).1 e1]
      exact ⟨p, rfl, a⟩
    · exact R.at_ k s v' e2 ((val h2).2 e1)
  · obtain ⟨s, h3, h5⟩ := h3
    rcases self h1 with ⟨e1, e2⟩ | ⟨e1, e2⟩
    · rcases self h3 with ⟨e3, e4⟩ | ⟨e3, e4⟩
      · rw [e1, e3]
      · have q1 := (val h2).1 e1
        have q2 := (val h4).2 e3
        exact absurd q1 (no m s v' e4 h5 q2)
    · rcases self h3 with ⟨e3, e4⟩ | ⟨e3, e4⟩
      · have q1 := (val h4).1 e3
        have q2 := (val h2).2 e1
        exact absurd q1 (no k _ v' e2 rfl q2)
      · exact R.lone k m l' v' e2 ((val h2).2 e1) ⟨s, e4, h5⟩ ((val h4).2 e3)
theorem Rep.ownAt {hd : Addr → Prop} {σ : L2.St} {ρ : Env} {H : Hp} (R : Rep G hd σ ρ H) {p : Addr} (hp : H p = Option.none) (k : Nat) (s : Slot) (v : Option V) (h1 : ρ[k]? = some s) (h2 : isOwn s = true) (h3 : σ[k]? = some v) : v ≠ some (.ref p) := fun z => by
  cases s with
  | own l =>
    obtain ⟨a, e1, _, _, u, e2, _⟩ := R.at_ k _ v h1 h3
    rw [z] at e1
    cases e1
    rw [hp] at e2
    cases e2
  | _ => cases h2
theorem SRep.newAt {hd : Addr → Prop} {σ : L2.St} {ρ : Env} {H : Hp} (R : SRep X G hs hd σ ρ H) {p : Addr} (hp : H p = Option.none) : newIn X.H_0 p := fun o q t => by
  by_cases m : G.M p
  · exact absurd hp (G.has H p R.rep.j m)
  · by_cases z : hs.self p
    · obtain ⟨_, o2, h2, _⟩ := R.selfs p z
      rw [h2] at hp
      cases hp
    · rw [R.lead.ex p o m z t q] at hp
      cases hp
theorem SRep.own {hd hd' : Addr → Prop} {σ : L2.St} {ρ : Env} {H H' : Hp} {i : Nat} {l : Ow} {p : Addr} (R : SRep X G hs hd σ ρ H) (R' : Rep G hd' (σ.set i (some (.ref p))) (ρ.set i (.own l)) H') (e : Lead G H H') (sub : ∀ a, hs.h a → hd' a) (n : mineO X hs l p) : SRep X G hs hd' (σ.set i (some (.ref p))) (ρ.set i (.own l)) H' := by
  refine ⟨R', R.lead.trans e, sub, R.old, R.self_to e, fun k l' a h1 h2 => ?_⟩
  by_cases hk : i = k
  · rw [hk] at h1 h2
    by_cases hi : k < σ.length
    · rw [List.getElem?_set_self hi] at h2
      rw [List.getElem?_set_self (by rw [R.rep.len]; exact hi)] at h1
      cases h2
      cases h1
      exact n
    · rw [List.getElem?_eq_none (by rw [List.length_set]; omega)] at h2
      cases h2
  · rw [List.getElem?_set_ne hk] at h1 h2
    exact R.mine k l' a h1 h2
def sNew (i : Nat) (r : Env → T (List D)) : Sm := fun ρ => bindS (r ρ) ρ fun l => if l.length ≤ 1000 then .ret (.nx (ρ.set i (.own (.lst l)))) else .bad
/-- x = [..], a list of the def's own -/
theorem ss_new {i : Nat} {x : Str} {es : List Expr} {r : Env → T (List D)} {pos pos' p3 : Pos} (hN : X.N.Nodup) (hi : X.N[i]? = some x) (hx : Loc X.env.scope x) (ha : EA X G W es r) (h : swapsWith (.List es p3) (some (.Name x pos')) pos.line X.env = pure false := by rfl) (hf : X.fn x = true ∨ X.env.scope.names.lookup x = some .local := by first | exact .inl rfl | exact .inr rfl | assumption) :
    SS X G W hs (.Assign [.Name x pos'] (.List es p3) pos) (sNew i r) := by
  refine PS_imp (ps_set (i := i) hN hi hx (pe_lst ha) h hf) fun Dn σ H q => ?_
  obtain ⟨ρ, hd, R, q⟩ := q
  refine ⟨ρ, hd, R.rep, T.wp_mono (bindS_then q) (fun l q1 xs H1 e1 h1 => ?_) fun c l z => rz_of R z⟩
  obtain ⟨hl, q2⟩ := wp_if q1
  refine ⟨line1000 (by rw [← h1.length]; exact hl), fun p hp => ?_⟩
  have R1 := R.rep.lead e1
  have nM : ¬ G.M p := fun m => R1.fresh hp (R1.m p m)
  have x1 : Ex (hide hd H1) (hide (orIs hd p) (upd H1 p (.lst xs))) := fun a u z => by
    have zn := hide_nt z
    obtain ⟨n, z⟩ := hide_get z
    have np : a ≠ p := ne_of_none z hp
    exact hide_put (fun y => y.elim n np) (by rw [upd_ne np]; exact z) zn
  have R2 : Rep G (orIs hd p) (σ.set i (some (.ref p))) (ρ.set i (.own (.lst l))) (upd H1 p (.lst xs)) :=
    (R1.more hp).setOwn ⟨.inr rfl, nM, _, upd_same, xs, rfl, h1.mono x1⟩ (fun k s v a b c => R1.ownAt hp k s v a b c)
  exact q2 (orIs hd p) _ _ ((R.to e1).own R2 (Lead.new hp) (fun a z => .inl (R.sub a z)) ((R.to e1).newAt hp)) ((e1.hide R.rep.m).trans x1)
/-- the slot's list is a list as others are, from now on -/
def frzO : Ow → D
  | .lst l => .lst l
  | .obj c _ l => .obj c l
  | .dic ks vs => .dic ks vs
  | .dicN ks vs => .dicN ks vs
def frz (i : Nat) (ρ : Env) : Env := match ρ[i]? with
  | some (.own (.lst l)) => ρ.set i (.val (.lst l))
  | some (.own (.dic ks vs)) => ρ.set i (.val (.dic ks vs))
  | some (.own (.dicN ks vs)) => ρ.set i (.val (.dicN ks vs))
  | _ => ρ
theorem frzO_at {hd : Addr → Prop} {H : Hp} {o : Ow} {p : Addr} {u : HO} (hno : ∀ c ns l, o ≠ .obj c ns l) (h : hide (fun a => hd a ∧ a ≠ p) H p = some u) (r : OwH G (hide (fun a => hd a ∧ a ≠ p) H) p o u) : At G (hide (fun a => hd a ∧ a ≠ p) H) (frzO o) (.ref p) := by
  cases o with
  | lst l =>
    obtain ⟨xs, e, r⟩ := r
    rw [e] at h
    exact .lst h r
  | obj c ns l => exact absurd rfl (hno c ns l)
  | dic ks vs =>
    obtain ⟨kvs, e, r, q⟩ := r
    rw [e] at h
    exact .dic h r q
  | dicN ks vs =>
    obtain ⟨ps, e, n, r, q⟩ := r
    rw [e] at h
    exact .dicN h n r q
theorem Rep.frz {hd : Addr → Prop} {σ : L2.St} {ρ : Env} {H : Hp} {i : Nat} {l : Ow} {p : Addr} (R : Rep G hd σ ρ H) (hno : ∀ c ns l', l ≠ .obj c ns l') (h1 : ρ[i]? = some (.own l)) (h2 : σ[i]? = some (some (.ref p))) (r : OwAt G hd H l p) :
    Rep G (fun a => hd a ∧ a ≠ p) σ (ρ.set i (.val (frzO l))) H := by
  obtain ⟨h, nm, u, hp, r⟩ := r
  have x : Ex (hide hd H) (hide (fun a => hd a ∧ a ≠ p) H) := hide_le fun a z => z.1
  have hi : i < ρ.length := (List.getElem?_eq_some_iff.mp h1).1
  refine ⟨R.j, fun a m => ⟨R.m a m, fun z => nm (by rw [← z]; exact m)⟩, ⟨fun a z => R.live.ne a z.1, fun a o z => R.live.nt a o z.1⟩, by rw [List.length_set]; exact R.len, fun k s v e1 e2 => ?_, fun k m l' v e1 e2 e3 e4 => ?_⟩
  · by_cases hk : i = k
    · rw [← hk] at e1 e2
      rw [List.getElem?_set_self hi] at e1
      rw [h2] at e2
      cases e1
      cases e2
      exact ⟨.ref p, rfl, frzO_at hno (hide_put (fun z => z.2 rfl) hp r.nt) (r.mono x)⟩
    · rw [List.getElem?_set_ne hk] at e1
      have z := R.at_ k s v e1 e2
      cases s with
      | none => trivial
      | val d =>
        obtain ⟨y, a, b⟩ := z
        exact ⟨y, a, b.mono x⟩
      | err c2 l2 =>
        obtain ⟨a, cls, dx, e5, e6, b⟩ := z
        exact ⟨a, cls, dx, e5, e6, b.mono x⟩
      | thk =>
        obtain ⟨f, Q, e5, e6, b⟩ := z
        exact ⟨f, Q, e5, e6, Q.2 _ _ x b⟩
      | own l2 =>
        obtain ⟨a, e5, e6, e7, ys, e8, e9⟩ := z
        refine ⟨a, e5, ⟨e6, fun z => hk ?_⟩, e7, ys, e8, e9.mono x⟩
        rw [z] at e5
        exact R.lone i k l (some (.ref p)) h1 h2 ⟨_, e1, rfl⟩ (by rw [e2, e5])
  · obtain ⟨s, e3, e5⟩ := e3
    have k1 : i ≠ k := fun z => by
      rw [← z, List.getElem?_set_self hi] at e1
      cases e1
    have k2 : i ≠ m := fun z => by
      rw [← z, List.getElem?_set_self hi] at e3
      cases e3
      cases e5
    rw [List.getElem?_set_ne k1] at e1
    rw [List.getElem?_set_ne k2] at e3
    exact R.lone k m l' v e1 e2 ⟨s, e3, e5⟩ e4
def sFrz (i : Nat) (s : Sm) : Sm := fun ρ => s (frz i ρ)
theorem ss_frz {i : Nat} {st : List Stmt} {s : Sm} (h : SSs X G W hs st s) : SSs X G W hs st (sFrz i s) := by
  refine PSs_imp h fun Dn σ H q => ?_
  obtain ⟨ρ, hd, R, q⟩ := q
  have go : ∀ (l : Ow), (∀ c ns l', l ≠ .obj c ns l') → ρ[i]? = some (.own l) → (s (ρ.set i (.val (frzO l)))).wp (oQ X G W hs Dn hd H) (fun _ _ => False) → tSS X G W hs s Dn σ H := fun l hno e q => by
    have hi : i < σ.length := by
      rw [← R.rep.len]
      exact (List.getElem?_eq_some_iff.mp e).1
    obtain ⟨p, e1, h1⟩ := R.rep.at_ i _ _ e (List.getElem?_eq_getElem hi)
    have e3 : σ[i]? = some (some (.ref p)) := by rw [List.getElem?_eq_getElem hi, e1]
    have new : newIn X.H_0 p := by
      have z := R.mine i l p e e3
      cases l with
      | obj c ns l' => exact absurd rfl (hno c ns l')
      | _ => exact z
    have x : Ex (hide hd H) (hide (fun a => hd a ∧ a ≠ p) H) := hide_le fun a z => z.1
    refine ⟨ρ.set i (.val (frzO l)), fun a => hd a ∧ a ≠ p, ⟨R.rep.frz hno e e3 h1, R.lead, fun a z => ⟨R.sub a z, fun y => (R.old a z).elim (fun m => h1.2.1 (by rw [← y]; exact m)) fun ⟨o, e5, e6⟩ => new o (by rw [← y]; exact e5) e6⟩, R.old, R.selfs, fun k l' a h2 h3 => ?_⟩, T.wp_imp q fun o z => oQ.to x z⟩
    by_cases hk : i = k
    · rw [hk, List.getElem?_set_self (by rw [← hk, R.rep.len]; exact hi)] at h2
      cases h2
    · rw [List.getElem?_set_ne hk] at h2
      exact R.mine k l' a h2 h3
  unfold sFrz frz at q
  cases e : ρ[i]? with
  | none =>
    rw [e] at q
    exact ⟨ρ, hd, R, q⟩
  | some sl =>
    rw [e] at q
    cases sl with
    | none => exact ⟨ρ, hd, R, q⟩
    | val d => exact ⟨ρ, hd, R, q⟩
    | err c l => exact ⟨ρ, hd, R, q⟩
    | thk => exact ⟨ρ, hd, R, q⟩
    | own l =>
      cases l with
      | lst l => exact go (.lst l) (fun _ _ _ z => nomatch z) e q
      | obj c ns l => exact ⟨ρ, hd, R, q⟩
      | dic ks vs => exact go (.dic ks vs) (fun _ _ _ z => nomatch z) e q
      | dicN ks vs => exact go (.dicN ks vs) (fun _ _ _ z => nomatch z) e q
/-- x.append(e) -/
def onOwn (i : Nat) (k : List D → T Out) (ρ : Env) : T Out := match ρ[i]? with
  | some (.own (.lst l)) => k l
  | _ => .bad
theorem onOwn_wp {i : Nat} {k : List D → T Out} {ρ : Env} {Q : Out → Prop} {E : Nat → List D → Prop} (h : (onOwn i k ρ).wp Q E) : ∃ l, ρ[i]? = some (.own (.lst l)) ∧ (k l).wp Q E := by
  unfold onOwn at h
  cases e : ρ[i]? with
  | none =>
    rw [e] at h
    exact h.elim
  | some s =>
    rw [e] at h
    cases s with
    | own o =>
      cases o with
      | lst l => exact ⟨l, rfl, h⟩
      | _ => exact h.elim
    | _ => exact h.elim
def sApp (i : Nat) (f : Env → T D) : Sm := fun ρ => onOwn i (fun l => bindS (f ρ) ρ fun d => if l.length ≤ 50000 then .ret (.nx (ρ.set i (.own (.lst (l ++ [d]))))) else .bad) ρ
def sExt (i : Nat) (f : Env → T D) : Sm := fun ρ => onOwn i (fun l => bindS (f ρ) ρ fun d => match d with
  | .lst m => if l.length + m.length ≤ 50000 then .ret (.nx (ρ.set i (.own (.lst (l ++ m))))) else .bad
  | _ => .bad) ρ
theorem own_of {hd : Addr → Prop} {σ : L2.St} {ρ : Env} {H : Hp} (R : Rep G hd σ ρ H) {i : Nat} {l : Ow} (e : ρ[i]? = some (.own l)) : ∃ p u, σ[i]? = some (some (.ref p)) ∧ hd p ∧ ¬ G.M p ∧ H p = some u ∧ OwH G (hide hd H) p l u := by
  have hi : i < σ.length := by
    rw [← R.len]
    exact (List.getElem?_eq_some_iff.mp e).1
  obtain ⟨p, e1, h1, nm, u, e2, r⟩ := R.at_ i _ _ e (List.getElem?_eq_getElem hi)
  exact ⟨p, u, by rw [List.getElem?_eq_getElem hi, e1], h1, nm, e2, r⟩
theorem own_lst {hd : Addr → Prop} {σ : L2.St} {ρ : Env} {H : Hp} (R : Rep G hd σ ρ H) {i : Nat} {l : List D} (e : ρ[i]? = some (.own (.lst l))) : ∃ p xs, σ[i]? = some (some (.ref p)) ∧ hd p ∧ ¬ G.M p ∧ H p = some (.lst xs) ∧ Ats G (hide hd H) l xs := by
  obtain ⟨p, u, e1, h1, nm, e2, xs, rfl, r⟩ := own_of R e
  exact ⟨p, xs, e1, h1, nm, e2, r⟩
/-- the own list at i is changed -/
theorem SRep.change {hd : Addr → Prop} {σ : L2.St} {ρ : Env} {H : Hp} {i : Nat} {l l' : Ow} {p : Addr} {u' : HO} (R : SRep X G hs hd σ ρ H) (e : ρ[i]? = some (.own l)) (e1 : σ[i]? = some (some (.ref p))) (h : hd p) (nm : ¬ G.M p) (r : OwH G (hide hd H) p l' u') (same : ∀ a, mineO X hs l a → mineO X hs l' a) :
    SRep X G hs hd σ (ρ.set i (.own l')) (upd H p u') ∧ Ex (hide hd H) (hide hd (upd H p u')) := by
  have x : Ex (hide hd H) (hide hd (upd H p u')) := fun a u z => by
    have zn := hide_nt z
    obtain ⟨n, z⟩ := hide_get z
    exact hide_put n (by rw [upd_ne (fun y => n (by rw [y]; exact h))]; exact z) zn
  have hi : i < ρ.length := (List.getElem?_eq_some_iff.mp e).1
  have new := R.mine i l p e e1
  have j : G.J (upd H p u') := G.stays H _ R.rep.j (fun a m => upd_ne fun z => nm (by rw [← z]; exact m)) fun a c q e => by
    rw [upd_ne fun z => (R.rep.live.nt p _ h nm (by rw [← z]; exact e)).ne c q rfl]
    exact e
  refine ⟨⟨⟨j, R.rep.m, R.rep.live.poke r.plain, by rw [List.length_set]; exact R.rep.len, fun k s v h1 h2 => ?_, fun k m l2 v h1 h2 h3 h4 => ?_⟩, ⟨fun a o m n t z => ?_, fun j' => j⟩, R.sub, R.old, fun a z => ⟨(R.selfs a z).1, ?_⟩, fun k l2 a h1 h2 => ?_⟩, x⟩
  · by_cases hk : i = k
    · rw [← hk] at h1 h2
      rw [List.getElem?_set_self hi] at h1
      rw [e1] at h2
      cases h1
      cases h2
      exact ⟨p, rfl, h, nm, u', upd_same, r.mono x⟩
    · rw [List.getElem?_set_ne hk] at h1
      have z := R.rep.at_ k s v h1 h2
      cases s with
      | none => trivial
      | val d =>
        obtain ⟨y, a, b⟩ := z
        exact ⟨y, a, b.mono x⟩
      | err c2 l2 =>
        obtain ⟨a, cls, dx, e5, e6, b⟩ := z
        exact ⟨a, cls, dx, e5, e6, b.mono x⟩
      | thk =>
        obtain ⟨f, Q, e5, e6, b⟩ := z
        exact ⟨f, Q, e5, e6, Q.2 _ _ x b⟩
      | own l2 =>
        obtain ⟨a, e5, e6, e7, ys, e8, e9⟩ := z
        have np : a ≠ p := fun z => hk (by
          rw [z] at e5
          exact R.rep.lone i k l (some (.ref p)) e e1 ⟨_, h1, rfl⟩ (by rw [h2, e5]))
        exact ⟨a, e5, e6, e7, ys, by rw [upd_ne np]; exact e8, e9.mono x⟩
  · have back : ∀ {k : Nat} {s : Slot}, (ρ.set i (.own l'))[k]? = some s → isOwn s = true → ∃ s', ρ[k]? = some s' ∧ isOwn s' = true := fun {k s} z y => by
      by_cases hk : i = k
      · rw [← hk]
        exact ⟨_, e, rfl⟩
      · rw [List.getElem?_set_ne hk] at z
        exact ⟨s, z, y⟩
    obtain ⟨s, h3, h5⟩ := h3
    obtain ⟨s1, b1, b2⟩ := back h1 rfl
    obtain ⟨s2, b3, b4⟩ := back h3 h5
    cases s1 with
    | own l3 => exact R.rep.lone k m l3 v b1 h2 ⟨s2, b3, b4⟩ h4
    | _ => cases b2
  · have np : a ≠ p := fun y => by
      cases l with
      | obj c ns l4 => exact n (by rw [y]; exact new)
      | lst l4 => exact new o (by rw [← y]; exact z) t
      | dic k4 v4 => exact new o (by rw [← y]; exact z) t
      | dicN k4 v4 => exact new o (by rw [← y]; exact z) t
    rw [upd_ne np]
    exact R.lead.ex a o m n t z
  · by_cases q : a = p
    · rw [q]
      exact ⟨u', upd_same, r.nt⟩
    · obtain ⟨_, o, h2, h3⟩ := R.selfs a z
      exact ⟨o, by rw [upd_ne q]; exact h2, h3⟩
  · by_cases hk : i = k
    · rw [← hk, e1] at h2
      rw [← hk, List.getElem?_set_self hi] at h1
      cases h2
      cases h1
      exact same p new
    · rw [List.getElem?_set_ne hk] at h1
      exact R.mine k l2 a h1 h2
theorem ss_app {i : Nat} {o e : Expr} {f : Env → T D} {p2 p3 pos : Pos} (ho : PE X o (tVar i)) (he : EE X G W e f) (hbase : attributeBase o "append" X.env (eval o X.env) = eval o X.env := by rfl)
    (hfew : ((backTo p3 (starEach [e] X.env)).all (fun x => !x.1) && (backToKw p3 (keywordEach [] X.env)).all (fun x => x.1.isSome)
      && decide (([e] : List Expr).length + ([] : List Keyword).length + (if ([] : List Keyword).isEmpty then 0 else 1) < 30)) = true := by rfl)
    (hline : (p2.endLine == p3.line) = true := by rfl) (hs' : starEach (e :: []) X.env = (false, eval e X.env) :: starEach [] X.env := by rfl) (hplain : (backTo p3 (starEach [] X.env)).any (·.1) = false := by rfl) (h : swapsWith (.Call (.Attribute o "append" p2) [e] [] p3) none pos.line X.env = pure false := by rfl) :
    SS X G W hs (.Expr (.Call (.Attribute o "append" p2) [e] [] p3) pos) (sApp i f) := by
  refine PS_imp (ps_expr (pe_bm PySem.F.plainAttrs_list PySem.F.slot_list_append PySem.F.type_list_append mt_append ho (pa_cons he pa_nil hs') hbase hfew hline hs' hplain) h) fun Dn σ H q => ?_
  obtain ⟨ρ, hd, R, q⟩ := q
  obtain ⟨l, e0, q⟩ := onOwn_wp q
  obtain ⟨p, xs, e1, h1, nm, e2, r⟩ := own_lst R.rep e0
  refine ⟨_, e1, .inl ⟨rfl, xs, .inl (.inl e2)⟩, ρ, hd, R.rep, T.wp_mono (bindS_then q) (fun d q1 v H' e h2 => ?_) fun c l z => rz_of R z⟩
  obtain ⟨hl, q2⟩ := wp_if q1
  have R' := R.to e
  have r' := r.mono (e.hide R.rep.m)
  have e2' := e.ex p _ nm (by intro _ z; cases z) e2
  obtain ⟨R2, x2⟩ := R'.change (l' := .lst (l ++ [d])) (u' := .lst (xs ++ [v])) e0 e1 h1 nm ⟨_, rfl, r'.append (.cons h2 .nil)⟩ (fun _ z => z)
  exact ⟨p, xs, v, rfl, rfl, e2', Nat.lt_of_le_of_lt (by rw [← r.length]; exact hl) (by decide), q2 hd σ _ R2 ((e.hide R.rep.m).trans x2)⟩
theorem ss_ext {i : Nat} {o e : Expr} {f : Env → T D} {p2 p3 pos : Pos} (ho : PE X o (tVar i)) (he : EE X G W e f) (hbase : attributeBase o "extend" X.env (eval o X.env) = eval o X.env := by rfl)
    (hfew : ((backTo p3 (starEach [e] X.env)).all (fun x => !x.1) && (backToKw p3 (keywordEach [] X.env)).all (fun x => x.1.isSome)
      && decide (([e] : List Expr).length + ([] : List Keyword).length + (if ([] : List Keyword).isEmpty then 0 else 1) < 30)) = true := by rfl)
    (hline : (p2.endLine == p3.line) = true := by rfl) (hs' : starEach (e :: []) X.env = (false, eval e X.env) :: starEach [] X.env := by rfl) (hplain : (backTo p3 (starEach [] X.env)).any (·.1) = false := by rfl) (h : swapsWith (.Call (.Attribute o "extend" p2) [e] [] p3) none pos.line X.env = pure false := by rfl) :
    SS X G W hs (.Expr (.Call (.Attribute o "extend" p2) [e] [] p3) pos) (sExt i f) := by
  refine PS_imp (ps_expr (pe_bm PySem.F.plainAttrs_list PySem.F.slot_list_extend PySem.F.type_list_extend mt_extend ho (pa_cons he pa_nil hs') hbase hfew hline hs' hplain) h) fun Dn σ H q => ?_
  obtain ⟨ρ, hd, R, q⟩ := q
  obtain ⟨l, e0, q⟩ := onOwn_wp q
  obtain ⟨p, xs, e1, h1, nm, e2, r⟩ := own_lst R.rep e0
  refine ⟨_, e1, .inl ⟨rfl, xs, .inl (.inl e2)⟩, ρ, hd, R.rep, T.wp_mono (bindS_then q) (fun d q1 v H' e h2 => ?_) fun c l z => rz_of R z⟩
  cases d with
  | lst m =>
    obtain ⟨hl, q2⟩ := wp_if q1
    have R' := R.to e
    have r' := r.mono (e.hide R.rep.m)
    have e2' := e.ex p _ nm (by intro _ z; cases z) e2
    cases h2 with
    | @lst _ b ys h3 h4 =>
      obtain ⟨R2, x2⟩ := R'.change (l' := .lst (l ++ m)) (u' := .lst (xs ++ ys)) e0 e1 h1 nm ⟨_, rfl, r'.append h4⟩ (fun _ z => z)
      exact ⟨p, b, xs, ys, rfl, rfl, e2', hide_sub _ _ h3, line5 (by rw [← r.length, ← h4.length]; omega), q2 hd σ _ R2 ((e.hide R.rep.m).trans x2)⟩
  | _ => exact q1.elim
end
end Py
set_option Elab.async false
set_option linter.all false
set_option maxRecDepth 100000
set_option maxHeartbeats 4000000
namespace Py
open PySem PySem.Spec L2

section
variable {X : Cx} {G : Gl} {W : WX} {hs : Hid}
/-! ### fields -/
def nsIx : List Str → Str → Option Nat
  | [], _ => none
  | a :: r, f => if f = a then some 0 else (nsIx r f).map (· + 1)
theorem lookup_ix {f : Str} : ∀ {fs : List (Str × V)} {i : Nat}, nsIx (fs.map (·.1)) f = some i → fs.lookup f = (fs.map (·.2))[i]?
  | [], i, e => by cases e
  | (a, v) :: r, i, e => by
    have e1 : (if f = a then some 0 else (nsIx (r.map (·.1)) f).map (· + 1)) = some i := e
    rw [lookup_put' f a v r]
    by_cases h : f = a
    · rw [if_pos h] at e1 ⊢
      cases e1
      rfl
    · rw [if_neg h] at e1 ⊢
      cases q : nsIx (r.map (·.1)) f with
      | none =>
        rw [q] at e1
        cases e1
      | some j =>
        rw [q] at e1
        cases e1
        exact lookup_ix q
where lookup_put' (f a : Str) (v : V) (r : List (Str × V)) : ((a, v) :: r).lookup f = if f = a then some v else r.lookup f := by
        by_cases h : f = a
        · rw [if_pos h, h]
          simp [List.lookup]
        · rw [if_neg h]
          have e : (f == a) = false := by simpa using h
          simp [List.lookup, e]
theorem lookup_no {f : Str} : ∀ {fs : List (Str × V)}, nsIx (fs.map (·.1)) f = none → fs.lookup f = none
  | [], e => rfl
  | (a, v) :: r, e => by
    have e1 : (if f = a then some 0 else (nsIx (r.map (·.1)) f).map (· + 1)) = none := e
    by_cases h : f = a
    · rw [if_pos h] at e1
      cases e1
    · rw [if_neg h] at e1
      have e2 : (f == a) = false := by simpa using h
      have e3 : nsIx (r.map (·.1)) f = none := by
        cases q : nsIx (r.map (·.1)) f with
        | none => rfl
        | some j =>
          rw [q] at e1
          cases e1
      show ((a, v) :: r).lookup f = none
      simp only [List.lookup, e2]
      exact lookup_no e3
def fldD (c i : Nat) : D → T D
  | .obj c' l => if c' = c then opt l[i]? else .bad
  | _ => .bad
theorem ee_fld {e : Expr} {f : Str} {pos : Pos} {c i : Nat} {g : Env → T D} (cl : Cls X.K (G.cls c)) (na : NoAttr X.K (G.cls c) f) (hi : nsIx (G.flds c) f = some i) (he : EE X G W e g) (hb : attributeBase e f X.env (eval e X.env) = eval e X.env := by rfl) : EE X G W (.Attribute e f pos) (fun ρ => g ρ >>= fldD c i) := by
  refine PE_imp (pe_fld he hb) fun σ H Q q => ?_
  obtain ⟨ρ, hd, R, q⟩ := q
  refine ⟨ρ, hd, R, T.wp_imp (wp_then q) fun d q1 v H' e h => ?_⟩
  cases d with
  | obj c' l =>
    obtain ⟨hc, q2⟩ := wp_if q1
    subst hc
    obtain ⟨d', e1, q3⟩ := wp_opt q2
    cases h with
    | @obj _ _ a dx fs h1 h2 h3 =>
      obtain ⟨x, e2, a2⟩ := h3.get' e1
      exact ⟨a, G.cls c', dx, fs, x, rfl, hide_sub _ _ h1, cl, na, by rw [lookup_ix (by rw [h2]; exact hi), e2], q3 x H' e a2⟩
  | _ => exact q1.elim
/-! ### methods -/
theorem pe_methS {CX : CXT} {k : Nat} {f C : Addr} {fd : FuncData} {ps : List Str} {sp : Sp} {E : L2.St → XK} {m : Str} {pos apos : Pos} {e o : Expr} {es : List Expr} {ta : TE} {t : TA} {pl : Sem Bool} (he : PE X o ta) (c : Cls X.K C) (hm : Meth X.K C m f) (F : FnOk X.prog X.w X.K X.mg X.base CX k f fd ps sp) (hr : Room k X.A) (hb : Binds X.K fd ps []) (hx : ∀ σ, PassesAt CX X σ (E σ)) (ha : PA X (e :: es) t)
    (hst : starEach (e :: es) X.env = (false, eval e X.env) :: starEach es X.env := by rfl) (hpl : (backTo pos (starEach es X.env)).any (·.1) = false := by rfl)
    (ht : eval (.Call (.Attribute o m apos) (e :: es) [] pos) X.env = (do
      let ov ← eval o X.env
      standAt apos.atName
      let (f, first) ← holding [ov] (getMethod ov m pl)
      callWith pos f first (backTo pos (starEach (e :: es) X.env)) (backToKw pos (keywordEach [] X.env))) := by rfl) :
    PE X (.Call (.Attribute o m apos) (e :: es) [] pos) (fun σ H Q => ta σ H fun x H1 => ∃ a dx fs, x = .ref a ∧ H1 a = some (.ins C dx fs) ∧ fs.lookup m = none ∧ t σ H1 fun vs H2 => sp (x :: vs) H2 Q (E σ)) := by
  refine ⟨fun pins s σ H Q I h => PySem.W.methodCall_KW (pl := pl) (thn (he.run pins s σ H _ I h) fun u s1 y => ?_) ht⟩
  obtain ⟨x, H1, I1, rx, a, dx, fs, rfl, ea, l, q⟩ := y
  cases (show u = Value.ref a from rx)
  have args := ha.run pos pins s1 σ H1 _ I1 q
  refine getmeth_ok I1 ea c hm l (PySem.W.callWith_K (first := [.ref a]) (h₀ := X.base) I.ok.mod.kin hm.kp (thn args fun us s2 z => ?_) hst hpl)
  obtain ⟨vs, H2, I2, r, q2⟩ := z
  have all : Vals (V.ref a :: vs) (Value.ref a :: us) := .cons rfl r
  exact ⟨I2.kIn, run_fnS F hr hb (hx σ) I2 all q2⟩
/-- o.m(e, ..) -/
def gMeth (n : Nat) (c : Nat) (m : List D → T D) (f : Env → T D) (r : Env → T (List D)) : Env → T D := fun ρ => f ρ >>= fun d => match d with
  | .obj c' l => if c' = c then r ρ >>= fun l' => if l'.length + 1 = n then m (.obj c' l :: l') else .bad else .bad
  | _ => .bad
theorem ee_meth {k n c : Nat} {f : Addr} {fd : FuncData} {ps : List Str} {nm : Str} {apos pos : Pos} {o e : Expr} {es : List Expr} {m : List D → T D} {g : Env → T D} {fa : Env → T (List D)} {pl : Sem Bool} (cl : Cls X.K (G.cls c)) (hm : Meth X.K (G.cls c) nm f) (hno : nsIx (G.flds c) nm = none) (F : FnOk X.prog X.w X.K X.mg X.base (L2.CX X.prog X.w) k f fd ps (spD G n m)) (hr : Room k X.A)
    (hb : Binds X.K fd ps []) (tk : Takes X W) (ho : EE X G W o g) (ha : EA X G W (e :: es) fa)
    (hst : starEach (e :: es) X.env = (false, eval e X.env) :: starEach es X.env := by rfl) (hpl : (backTo pos (starEach es X.env)).any (·.1) = false := by rfl)
    (ht : eval (.Call (.Attribute o nm apos) (e :: es) [] pos) X.env = (do
      let ov ← eval o X.env
      standAt apos.atName
      let (f, first) ← holding [ov] (getMethod ov nm pl)
      callWith pos f first (backTo pos (starEach (e :: es) X.env)) (backToKw pos (keywordEach [] X.env))) := by rfl) :
    EE X G W (.Call (.Attribute o nm apos) (e :: es) [] pos) (gMeth n c m g fa) := by
  refine PE_imp (pe_methS ho cl hm F hr hb (fun σ => passAt tk σ) ha hst hpl ht) fun σ H Q q => ?_
  obtain ⟨ρ, hd, R, q⟩ := q
  refine ⟨ρ, hd, R, T.wp_imp (wp_then q) fun d q1 v H1 e1 h1 => ?_⟩
  cases d with
  | obj c' l =>
    obtain ⟨hc, q2⟩ := wp_if q1
    subst hc
    cases h1 with
    | @obj _ _ a dx fs h2 h3 h4 =>
      refine ⟨a, dx, fs, rfl, hide_sub _ _ h2, lookup_no (by rw [h3]; exact hno), ρ, hd, R.lead e1, T.wp_mono (wp_then q2) (fun l' q3 vs H2 e2 a2 => ?_) fun c l z => xE.lead z e1⟩
      obtain ⟨hl, q4⟩ := wp_if q3
      have aself : At G (hide hd H2) (.obj c' l) (.ref a) := (At.obj h2 h3 h4).mono (e2.hide R.m)
      refine ⟨by rw [List.length_cons, ← a2.length]; exact hl, _, hd, R.good.lead (e1.trans e2), .cons aself a2, T.wp_mono q4 (fun d q5 v H' j e3 a => q5 v H' ((e1.trans e2).trans e3) a) fun c es z cls dx H' e3 a => z cls dx H' ((e1.trans e2).trans e3) a⟩
  | _ => exact q1.elim
/-! ### an instance is made -/
/-- __init__: from the arguments the fields -/
def spI (G : Gl) (n c : Nat) (m : List D → T (List D)) : Sp := fun vs H Q E => ∃ x dx us, vs = .ref x :: us ∧ us.length = n ∧ H x = some (.ins (G.cls c) dx []) ∧ ∃ (l : List D) (hs : Addr → Prop), Good G hs H ∧ hs x ∧ ¬ G.M x ∧ Ats G (hide hs H) l us ∧
  (m l).wp (fun r => ∀ H' dx' fs, G.J H' → (∀ a o, a ≠ x → ¬ G.M a → notT o → H a = some o → H' a = some o) → H' x = some (.ins (G.cls c) dx' fs) → fs.map (·.1) = G.flds c → Ats G (hide hs H') r (fs.map (·.2)) → Q .non H')
    (fun c es => ∀ cls dx H', G.J H' → (∀ a o, a ≠ x → ¬ G.M a → notT o → H a = some o → H' a = some o) → ErrAt G (hide hs H') c es cls dx → E cls dx H')
theorem pe_makeS {CX : CXT} {k : Nat} {f C : Addr} {fd : FuncData} {ps : List Str} {sp : Sp} {E : L2.St → XK} {x : Str} {p pos : Pos} {e : Expr} {es : List Expr} {t : TA} (M : Mk X.K C f) (F : FnOk X.prog X.w X.K X.mg X.base CX k f fd ps sp) (hr : Room (k + 1) X.A) (hg : L2.Gl X x) (hm : X.mg x = some (.ref C)) (hb : Binds X.K fd ps []) (hx : ∀ σ, PassesAt CX X σ (E σ))
    (ha : PA X (e :: es) t) (hdb : (x == ("__debug__" : Str)) = false := by decide) (he : starEach (e :: es) X.env = (false, eval e X.env) :: starEach es X.env := by rfl) (hpl : (backTo pos (starEach es X.env)).any (·.1) = false := by rfl) :
    PE X (.Call (.Name x p) (e :: es) [] pos) (fun σ H Q => t σ H fun vs H1 => ∀ x dx, H1 x = none → H1 dx = none → dx ≠ x → sp (.ref x :: vs) (upd (upd H1 dx (.own x)) x (.ins C dx [])) (fun v H2 => v = .non ∧ Q (.ref x) H2) (E σ)) := by
  refine ⟨fun pins s σ H Q I h => ?_⟩
  refine wpAny_Call_Name_kw (ld_glob I hg hm ?_ hdb)
  refine PySem.W.callWith_K (h₀ := X.base) I.ok.mod.kin M.kp (thn (ha.run pos pins s σ H _ I h) fun us s1 ⟨vs, H1, I1, r, h⟩ => ⟨I1.kIn, ?_⟩) he hpl
  have hq := h (s1.heap.objs.size + 1) s1.heap.objs.size (I1.hok.fresh (Nat.le_succ _)) (I1.hok.fresh (Nat.le_refl _)) (Nat.ne_of_lt (Nat.lt_succ_self _))
  have I2 := Inv.made (C := C) I1
  have r2 : Vals (V.ref (s1.heap.objs.size + 1) :: vs) (Value.ref (s1.heap.objs.size + 1) :: us) := .cons rfl r
  have hl : (Value.ref (s1.heap.objs.size + 1) :: us).length = ps.length := by
    have e := r2.length
    rw [F.len _ _ _ _ hq] at e
    exact e.symm
  have hbb := hb _ (Value.ref (s1.heap.objs.size + 1) :: us) I2.kIn (by rw [List.append_nil]; exact hl)
  rw [List.append_nil] at hbb
  refine wpAny_call ((make_map (f := f) I1.kIn M.makes M.init (beq_iff_eq.mp M.fn) (codeAny_mono (F.run _ X.stack _ _ ⟨Value.ref (s1.heap.objs.size + 1) :: us, []⟩ (Value.ref (s1.heap.objs.size + 1) :: us) _ _ (E σ) (hr.make C us [])
    (I2.env0.make C us []) hbb r2 hq) fun r s' hq' => ?_)))
  cases r with
  | error e => exact hx σ pins _ _ e s' I2 hq'
  | ok fl =>
    cases fl with
    | ret u =>
      obtain ⟨v, H', I3, rv, ev, q3⟩ := I2.after hq'
      subst ev
      exact ⟨rv, ⟨V.ref (s1.heap.objs.size + 1), H', I3, rfl, q3⟩⟩
    | next => exact False.elim hq'
    | brk => exact False.elim hq'
    | cont => exact False.elim hq'
/-- C(e, ..) -/
def gMake (n c : Nat) (m : List D → T (List D)) (r : Env → T (List D)) : Env → T D := fun ρ => r ρ >>= fun l => if l.length = n then m l >>= fun fs => .ret (.obj c fs) else .bad
theorem made_imp {n c : Nat} {m : List D → T (List D)} {hd : Addr → Prop} {σ : L2.St} {ρ : Env} {H H1 : Hp} {l : List D} {vs : List V} {Q : VK} (R : Rep G hd σ ρ H) (e1 : Lead G H H1) (h1 : Ats G (hide hd H1) l vs) (hl : l.length = n)
    (q : (m l >>= fun fs => T.ret (D.obj c fs)).wp (fun d => ∀ v H', Lead G H H' → At G (hide hd H') d v → Q v H') (xE G W hd σ H)) {x dx : Addr} (nx : H1 x = none) (ndx : H1 dx = none) (ne : dx ≠ x) :
    spI G n c m (.ref x :: vs) (upd (upd H1 dx (.own x)) x (.ins (G.cls c) dx [])) (fun v H2 => v = .non ∧ Q (.ref x) H2) (fun cls d H' => W cls d σ H') := by
  have R1 := R.lead e1
  have nM : ¬ G.M x := fun m => R1.fresh nx (R1.m x m)
  have L2 : Lead G H1 (upd (upd H1 dx (.own x)) x (.ins (G.cls c) dx [])) := (Lead.new ndx).trans (Lead.new (by rw [upd_ne ne.symm]; exact nx))
  have y : Ex (hide hd H1) (hide (orIs hd x) (upd (upd H1 dx (.own x)) x (.ins (G.cls c) dx []))) := fun a u z => by
    have zn := hide_nt z
    obtain ⟨n, z⟩ := hide_get z
    have n1 : a ≠ x := ne_of_none z nx
    exact hide_put (fun w => w.elim n n1) (by rw [upd_ne n1, upd_ne (ne_of_none z ndx)]; exact z) zn
  have live2 : Live G (orIs hd x) (upd (upd H1 dx (.own x)) x (.ins (G.cls c) dx [])) := by
    refine ⟨fun a z => ?_, fun a o z m e => ?_⟩
    · rcases z with z | z
      · have live := R1.live.ne a z
        cases q : H1 a with
        | none => exact absurd q live
        | some o =>
          rw [upd_ne (ne_of_none q nx), upd_ne (ne_of_none q ndx), q]
          exact (fun z => nomatch z)
      · rw [z, upd_same]
        exact (fun z => nomatch z)
    · by_cases n1 : a = x
      · rw [n1, upd_same] at e
        cases e
        exact ⟨fun _ z => (nomatch z), fun _ _ z => (nomatch z)⟩
      · rw [upd_ne n1] at e
        by_cases n2 : a = dx
        · rw [n2, upd_same] at e
          cases e
          exact ⟨fun _ z => (nomatch z), fun _ _ z => (nomatch z)⟩
        · rw [upd_ne n2] at e
          exact R1.live.nt a o (z.elim (fun y => y) fun y => absurd y n1) m e
  refine ⟨x, dx, vs, rfl, by rw [← h1.length]; exact hl, upd_same, l, orIs hd x, ⟨L2.j R1.j, fun a m => .inl (R1.m a m), live2⟩, .inr rfl, nM, h1.mono y, T.wp_mono (wp_then q) (fun fs q1 H' dx' fs' j k h2 h3 h4 => ?_) fun c es z cls d H' j k a => ?_⟩
  · have L3 : Lead G H H' := e1.trans ⟨fun a o m t z => k a o (ne_of_none z nx) m t (by rw [upd_ne (ne_of_none z nx), upd_ne (ne_of_none z ndx)]; exact z), fun _ => j⟩
    exact ⟨rfl, q1 _ H' L3 (.obj (hide_put (R1.fresh nx) h2 (fun _ z => nomatch z)) h3 (h4.mono (hide_le fun a z => .inl z)))⟩
  · have L3 : Lead G H H' := e1.trans ⟨fun a o m t z => k a o (ne_of_none z nx) m t (by rw [upd_ne (ne_of_none z nx), upd_ne (ne_of_none z ndx)]; exact z), fun _ => j⟩
    exact z cls d H' L3 (a.mono (hide_le fun a z => .inl z))
theorem ee_make {k n c : Nat} {f : Addr} {fd : FuncData} {ps : List Str} {x : Str} {p pos : Pos} {e : Expr} {es : List Expr} {m : List D → T (List D)} {fa : Env → T (List D)} (M : Mk X.K (G.cls c) f) (F : FnOk X.prog X.w X.K X.mg X.base (L2.CX X.prog X.w) k f fd ps (spI G n c m)) (hr : Room (k + 1) X.A) (hg : L2.Gl X x) (hm : X.mg x = some (.ref (G.cls c)))
    (hb : Binds X.K fd ps []) (tk : Takes X W) (ha : EA X G W (e :: es) fa)
    (hdb : (x == ("__debug__" : Str)) = false := by decide) (he : starEach (e :: es) X.env = (false, eval e X.env) :: starEach es X.env := by rfl) (hpl : (backTo pos (starEach es X.env)).any (·.1) = false := by rfl) :
    EE X G W (.Call (.Name x p) (e :: es) [] pos) (gMake n c m fa) := by
  refine PE_imp (pe_makeS M F hr hg hm hb (fun σ => passAt tk σ) ha hdb he hpl) fun σ H Q q => ?_
  obtain ⟨ρ, hd, R, q⟩ := q
  refine ⟨ρ, hd, R, T.wp_imp (wp_then q) fun l q1 vs H1 e1 h1 x dx nx ndx ne => ?_⟩
  obtain ⟨hl, q2⟩ := wp_if q1
  exact made_imp R e1 h1 hl q2 nx ndx ne
/-! ### keywords -/
abbrev EK (X : Cx) (G : Gl) (W : WX) (ks : List Keyword) (f : Env → T (List D)) : Prop := PK X ks (tEA G W f)
theorem PK_imp {es : List Keyword} {t t' : TA} (h : PK X es t) (i : ∀ σ H Q, t' σ H Q → t σ H Q) : PK X es t' := ⟨fun pos pins s σ H Q I q => h.run pos pins s σ H Q I (i _ _ _ q)⟩
theorem ek_nil : EK X G W [] gNil := PK_imp pk_nil fun σ H Q ⟨ρ, hd, R, q⟩ => q [] H (Lead.refl H) .nil
theorem ek_cons {nm : Option Str} {kpos : Pos} {e : Expr} {kws : List Keyword} {f : Env → T D} {r : Env → T (List D)} (h : PK X (⟨nm, e, kpos⟩ :: kws) (tCons (tEE G W f) (tEA G W r))) : EK X G W (⟨nm, e, kpos⟩ :: kws) (gCons f r) := by
  refine PK_imp h fun σ H Q q => ?_
  obtain ⟨ρ, hd, R, q⟩ := q
  refine ⟨ρ, hd, R, T.wp_imp (wp_then q) fun a q1 x H1 e1 h1 => ?_⟩
  refine ⟨ρ, hd, R.lead e1, T.wp_mono (wp_then q1) (fun l q2 xs H2 e2 h2 => ?_) fun c l z => xE.lead z e1⟩
  exact q2 (x :: xs) H2 (e1.trans e2) (.cons (h1.mono (e2.hide R.m)) h2)
/-- the parameters' values: those by place, then those by name, put in the parameters' order -/
def permL {α : Type} (js : List Nat) (l : List α) : List α := js.filterMap fun j => l[j]?
theorem perm_vals : ∀ (js : List Nat) {xs : List V} {us : List Value}, Vals xs us → Vals (permL js xs) (permL js us)
  | [], _, _, _ => .nil
  | j :: r, xs, us, h => by
    have ih := perm_vals r h
    unfold permL at ih ⊢
    rw [List.filterMap_cons, List.filterMap_cons]
    cases e : xs[j]? with
    | none =>
      rw [h.none_of e]
      exact ih
    | some x =>
      obtain ⟨u, e2, ru⟩ := h.get e
      rw [e2]
      exact .cons ru ih
theorem perm_ats {H : Hp} : ∀ (js : List Nat) {l : List D} {xs : List V}, Ats G H l xs → Ats G H (permL js l) (permL js xs)
  | [], _, _, _ => .nil
  | j :: r, l, xs, h => by
    have ih := perm_ats r h
    unfold permL at ih ⊢
    rw [List.filterMap_cons, List.filterMap_cons]
    cases e : l[j]? with
    | none =>
      have e2 : xs[j]? = none := List.getElem?_eq_none_iff.mpr (by rw [← h.length]; exact List.getElem?_eq_none_iff.mp e)
      rw [e2]
      exact ih
    | some d =>
      obtain ⟨x, e2, a⟩ := h.get' e
      rw [e2]
      exact .cons a ih
def KBd (K : PySem.W.Frag) (fd : FuncData) (ps : List Str) (n : Nat) (ks : List Str) (js : List Nat) : Prop :=
  ∀ (s : Shared) (us ws : List Value), K.In s.heap → us.length = n → ws.length = ks.length → BindsTo s fd ⟨us, ks.zip ws⟩ (ps.zip (permL js (us ++ ws)))
theorem run_fnKS {CX : CXT} {k n : Nat} {f : Addr} {fd : FuncData} {ps ks : List Str} {js : List Nat} {sp : Sp} {E : L2.St → XK} {pins : List (Addr × Obj)} {σ : L2.St} {H : Hp} {s : Shared} {Q : VK} {us ws : List Value} {vs zs : List V} (F : FnOk X.prog X.w X.K X.mg X.base CX k f fd ps sp) (hr : Room k X.A) (hb : KBd X.K fd ps n ks js) (hx : PassesAt CX X σ (E σ))
    (I : Inv X pins σ H s) (r : Vals vs us) (rz : Vals zs ws) (l1 : vs.length = n) (l2 : zs.length = ks.length) (h : sp (permL js (vs ++ zs)) H Q (E σ)) : wpAny (model X.prog X.w) X.A (call (.ref f) us (ks.zip ws)) (EP X pins σ Q) X.xe s := by
  have r2 := perm_vals js (r.append rz)
  refine wpAny_call (codeAny_mono (F.run X.A X.stack s H ⟨us, ks.zip ws⟩ (permL js (us ++ ws)) (permL js (vs ++ zs)) Q (E σ) hr I.env0 (hb s us ws I.kIn (by rw [← r.length]; exact l1) (by rw [← rz.length]; exact l2)) r2 h) fun r s' hq => ?_)
  cases r with
  | error e => exact hx pins H s e s' I hq
  | ok fl =>
    cases fl with
    | ret u => exact I.after hq
    | next => exact False.elim hq
    | brk => exact False.elim hq
    | cont => exact False.elim hq
/-- f(k = v, ..) -/
theorem pe_callK0 {CX : CXT} {k : Nat} {f : Addr} {fd : FuncData} {ps ks : List Str} {js : List Nat} {sp : Sp} {E : L2.St → XK} {x : Str} {p pos : Pos} {kws : List Keyword} {tk : TA} (F : FnOk X.prog X.w X.K X.mg X.base CX k f fd ps sp) (hr : Room k X.A) (hg : L2.Gl X x) (hm : X.mg x = some (.ref f)) (hk : PySem.W.keepIn X.K (.ref f) = true) (hb : KBd X.K fd ps 0 ks js) (hx : ∀ σ, PassesAt CX X σ (E σ)) (hkw : PK X kws tk)
    (hall : (backToKw pos (keywordEach kws X.env)).all (·.1.isSome) = true := by rfl) (hks : (backToKw pos (keywordEach kws X.env)).filterMap (·.1) = ks := by rfl) (hdb : (x == ("__debug__" : Str)) = false := by decide)
    (hpl : ((backTo pos (starEach [] X.env)).any (·.1) || (backToKw pos (keywordEach kws X.env)).any (·.1.isNone)) = false := by rfl) :
    PE X (.Call (.Name x p) [] kws pos) (fun σ H Q => tk σ H fun zs H1 => zs.length = ks.length ∧ sp (permL js zs) H1 Q (E σ)) := by
  refine ⟨fun pins s σ H Q I h => ?_⟩
  refine wpAny_Call_Name_kw (ld_glob I hg hm ?_ hdb)
  refine PySem.W.callWith_KW0 (h₀ := X.base) I.ok.mod.kin hk hall ?_ hpl
  refine thn (hkw.run pos pins s σ H _ I h) fun ws s2 ⟨zs, H2, I2, rz, l2, q2⟩ => ⟨I2.kIn, ?_⟩
  rw [hks]
  exact run_fnKS (us := []) (vs := []) F hr hb (hx σ) I2 .nil rz rfl l2 q2
/-- f(e, .., k = v, ..) -/
theorem pe_callK1 {CX : CXT} {k n : Nat} {f : Addr} {fd : FuncData} {ps ks : List Str} {js : List Nat} {sp : Sp} {E : L2.St → XK} {x : Str} {p pos : Pos} {e : Expr} {es : List Expr} {kws : List Keyword} {t tk : TA} (F : FnOk X.prog X.w X.K X.mg X.base CX k f fd ps sp) (hr : Room k X.A) (hg : L2.Gl X x) (hm : X.mg x = some (.ref f)) (hk : PySem.W.keepIn X.K (.ref f) = true) (hb : KBd X.K fd ps n ks js) (hx : ∀ σ, PassesAt CX X σ (E σ)) (ha : PA X (e :: es) t) (hkw : PK X kws tk)
    (hall : (backToKw pos (keywordEach kws X.env)).all (·.1.isSome) = true := by rfl) (hks : (backToKw pos (keywordEach kws X.env)).filterMap (·.1) = ks := by rfl) (hdb : (x == ("__debug__" : Str)) = false := by decide)
    (he : starEach (e :: es) X.env = (false, eval e X.env) :: starEach es X.env := by rfl) (hpl : ((backTo pos (starEach (e :: es) X.env)).any (·.1) || (backToKw pos (keywordEach kws X.env)).any (·.1.isNone)) = false := by rfl) :
    PE X (.Call (.Name x p) (e :: es) kws pos) (fun σ H Q => t σ H fun vs H1 => tk σ H1 fun zs H2 => vs.length = n ∧ zs.length = ks.length ∧ sp (permL js (vs ++ zs)) H2 Q (E σ)) := by
  refine ⟨fun pins s σ H Q I h => ?_⟩
  refine wpAny_Call_Name_kw (ld_glob I hg hm ?_ hdb)
  refine PySem.W.callWith_KW (h₀ := X.base) I.ok.mod.kin hk hall (thn (ha.run pos pins s σ H _ I h) fun us s1 ⟨vs, H1, I1, r, q⟩ => ?_) hpl he
  refine thn (hkw.run pos pins s1 σ H1 _ I1 q) fun ws s2 ⟨zs, H2, I2, rz, l1, l2, q2⟩ => ⟨I2.kIn, ?_⟩
  rw [hks]
  exact run_fnKS F hr hb (hx σ) I2 r rz l1 l2 q2
def gFnK (a b n : Nat) (js : List Nat) (m : List D → T D) (r s : Env → T (List D)) : Env → T D := fun ρ => r ρ >>= fun l => s ρ >>= fun z => if l.length = a ∧ z.length = b ∧ (permL js (l ++ z)).length = n then m (permL js (l ++ z)) else .bad
theorem ee_callK0 {k n : Nat} {f : Addr} {fd : FuncData} {ps ks : List Str} {js : List Nat} {x : Str} {p pos : Pos} {kws : List Keyword} {m : List D → T D} {fk : Env → T (List D)} (F : FnOk X.prog X.w X.K X.mg X.base (L2.CX X.prog X.w) k f fd ps (spD G n m)) (hr : Room k X.A) (hg : L2.Gl X x) (hm : X.mg x = some (.ref f)) (hk : PySem.W.keepIn X.K (.ref f) = true)
    (hb : KBd X.K fd ps 0 ks js) (tk : Takes X W) (hkw : EK X G W kws fk)
    (hall : (backToKw pos (keywordEach kws X.env)).all (·.1.isSome) = true := by rfl) (hks : (backToKw pos (keywordEach kws X.env)).filterMap (·.1) = ks := by rfl) (hdb : (x == ("__debug__" : Str)) = false := by decide)
    (hpl : ((backTo pos (starEach [] X.env)).any (·.1) || (backToKw pos (keywordEach kws X.env)).any (·.1.isNone)) = false := by rfl) :
    EE X G W (.Call (.Name x p) [] kws pos) (gFnK 0 ks.length n js m gNil fk) := by
  refine PE_imp (pe_callK0 F hr hg hm hk hb (fun σ => passAt tk σ) hkw hall hks hdb hpl) fun σ H Q q => ?_
  obtain ⟨ρ, hd, R, q⟩ := q
  have q0 : (fk ρ >>= fun z => if ([] : List D).length = 0 ∧ z.length = ks.length ∧ (permL js ([] ++ z)).length = n then m (permL js ([] ++ z)) else .bad).wp (fun d => ∀ v H', Lead G H H' → At G (hide hd H') d v → Q v H') (xE G W hd σ H) := q
  refine ⟨ρ, hd, R, T.wp_imp (wp_then q0) fun l q1 vs H1 e1 h1 => ?_⟩
  obtain ⟨⟨_, c2, c3⟩, q2⟩ := wp_if q1
  rw [List.nil_append] at c3 q2
  have h2 := perm_ats js h1
  exact ⟨by rw [← h1.length]; exact c2, by rw [← h2.length]; exact c3, _, hd, R.good.lead e1, h2, T.wp_mono q2 (fun d q2 v H' j e2 a => q2 v H' (e1.trans e2) a) fun c es z cls dx H' e2 a => z cls dx H' (e1.trans e2) a⟩
theorem ee_callK1 {k n a : Nat} {f : Addr} {fd : FuncData} {ps ks : List Str} {js : List Nat} {x : Str} {p pos : Pos} {e : Expr} {es : List Expr} {kws : List Keyword} {m : List D → T D} {fa fk : Env → T (List D)} (F : FnOk X.prog X.w X.K X.mg X.base (L2.CX X.prog X.w) k f fd ps (spD G n m)) (hr : Room k X.A) (hg : L2.Gl X x) (hm : X.mg x = some (.ref f)) (hk : PySem.W.keepIn X.K (.ref f) = true)
    (hb : KBd X.K fd ps a ks js) (tk : Takes X W) (ha : EA X G W (e :: es) fa) (hkw : EK X G W kws fk)
    (hall : (backToKw pos (keywordEach kws X.env)).all (·.1.isSome) = true := by rfl) (hks : (backToKw pos (keywordEach kws X.env)).filterMap (·.1) = ks := by rfl) (hdb : (x == ("__debug__" : Str)) = false := by decide)
    (he : starEach (e :: es) X.env = (false, eval e X.env) :: starEach es X.env := by rfl) (hpl : ((backTo pos (starEach (e :: es) X.env)).any (·.1) || (backToKw pos (keywordEach kws X.env)).any (·.1.isNone)) = false := by rfl) :
    EE X G W (.Call (.Name x p) (e :: es) kws pos) (gFnK a ks.length n js m fa fk) := by
  refine PE_imp (pe_callK1 F hr hg hm hk hb (fun σ => passAt tk σ) ha hkw hall hks hdb he hpl) fun σ H Q q => ?_
  obtain ⟨ρ, hd, R, q⟩ := q
  refine ⟨ρ, hd, R, T.wp_imp (wp_then q) fun l q1 vs H1 e1 h1 => ?_⟩
  refine ⟨ρ, hd, R.lead e1, T.wp_mono (wp_then q1) (fun z q2 zs H2 e2 h2 => ?_) fun c l z => xE.lead z e1⟩
  obtain ⟨⟨c1, c2, c3⟩, q3⟩ := wp_if q2
  have h3 := perm_ats js ((h1.mono (e2.hide R.m)).append h2)
  have e3 := e1.trans e2
  exact ⟨by rw [← h1.length]; exact c1, by rw [← h2.length]; exact c2, by rw [← h3.length]; exact c3, _, hd, R.good.lead e3, h3, T.wp_mono q3 (fun d q2 v H' j e2 a => q2 v H' (e3.trans e2) a) fun c es z cls dx H' e2 a => z cls dx H' (e3.trans e2) a⟩
/-! ### __init__ -/
/-- self.f = e -/
def sFld' (i c : Nat) (nm : Str) (f : Env → T D) : Sm := fun ρ => bindS (f ρ) ρ fun d => match ρ[i]? with
  | some (.own (.obj c' ns l)) => if c' = c ∧ nsIx ns nm = none ∧ ns.length < 100 then .ret (.nx (ρ.set i (.own (.obj c' (ns ++ [nm]) (l ++ [d]))))) else .bad
  | _ => .bad
theorem putF_new {f : Str} {v : V} : ∀ {fs : List (Str × V)}, nsIx (fs.map (·.1)) f = none → putF f v fs = fs ++ [(f, v)]
  | [], _ => rfl
  | (a, x) :: r, e => by
    have e1 : (if f = a then some 0 else (nsIx (r.map (·.1)) f).map (· + 1)) = none := e
    by_cases h : f = a
    · rw [if_pos h] at e1
      cases e1
    · rw [if_neg h] at e1
      have e3 : nsIx (r.map (·.1)) f = none := by
        cases q : nsIx (r.map (·.1)) f with
        | none => rfl
        | some j =>
          rw [q] at e1
          cases e1
      show (if a = f then (a, v) :: r else (a, x) :: putF f v r) = (a, x) :: (r ++ [(f, v)])
      rw [if_neg (fun z => h z.symm), putF_new e3]
theorem ss_fld {i c : Nat} {o e : Expr} {nm : Str} {f : Env → T D} {p2 pos : Pos} (cl : Cls X.K (G.cls c)) (na : NoAttr X.K (G.cls c) nm) (ho : PE X o (tVar i)) (he : EE X G W e f) (h : swapsWith e (some (.Attribute o nm p2)) pos.line X.env = pure false := by rfl) : SS X G W hs (.Assign [.Attribute o nm p2] e pos) (sFld' i c nm f) := by
  refine PS_imp (ps_fld ho he h) fun Dn σ H q => ?_
  obtain ⟨ρ, hd, R, q⟩ := q
  refine ⟨ρ, hd, R.rep, T.wp_mono (bindS_then q) (fun d q1 v H1 e1 h1 => ?_) fun c l z => rz_of R z⟩
  cases e0 : ρ[i]? with
  | none =>
    rw [e0] at q1
    exact q1.elim
  | some s =>
    rw [e0] at q1
    cases s with
    | own o =>
      cases o with
      | obj c' ns l =>
        obtain ⟨⟨hc, hn, hl⟩, q2⟩ := wp_if q1
        subst hc
        have R1 := R.to e1
        obtain ⟨p, u, e3, h3, nm', e4, dx, fs, rfl, e5, r⟩ := own_of R1.rep e0
        have hf : nsIx (fs.map (·.1)) nm = none := by
          rw [e5]
          exact hn
        obtain ⟨R2, x2⟩ := R1.change (l' := .obj c' (ns ++ [nm]) (l ++ [d])) (u' := .ins (G.cls c') dx (putF nm v fs)) e0 e3 h3 nm' ⟨dx, _, rfl, by rw [putF_new hf, List.map_append, e5]; rfl, by rw [putF_new hf, List.map_append]; exact r.append (.cons h1 .nil)⟩ (fun _ z => z)
        refine ⟨.ref p, e3, p, G.cls c', dx, fs, rfl, e4, cl, na, ?_, q2 hd σ _ R2 ((e1.hide R.rep.m).trans x2)⟩
        have z : ns.length = fs.length := by rw [← e5, List.length_map]
        omega
      | _ => exact q1.elim
    | _ => exact q1.elim
def initEnv (n c : Nat) (l : List D) : Env := Slot.own (.obj c [] []) :: (l.map Slot.val ++ List.replicate (n - (l.length + 1)) Slot.none)
def outI (c : Nat) (ns : List Str) : Out → T (List D)
  | .nx ρ => match ρ[(0 : Nat)]? with
    | some (.own (.obj c' ns' r)) => if c' = c ∧ ns' = ns then .ret r else .bad
    | _ => .bad
  | .rz c l _ => .exc c l
  | _ => .bad
def runI (c : Nat) (ns : List Str) : T Out → T (List D)
  | .ret o => outI c ns o
  | .exc _ _ => .bad
  | .draw n k => .draw n fun i => runI c ns (k i)
  | .bad => .bad
theorem runI_wp {c : Nat} {ns : List Str} {Q : List D → Prop} {E : Nat → List D → Prop} : ∀ {t : T Out}, (runI c ns t).wp Q E → t.wp (fun o => (outI c ns o).wp Q E) (fun _ _ => False)
  | .ret o, h => h
  | .exc _ _, h => h
  | .draw n k, h => fun i hi => runI_wp (h i hi)
  | .bad, h => h
/-- an __init__ by its body: self, and the rest -/
def ini (n c : Nat) (ns : List Str) (s : Sm) : List D → T (List D) := fun l => runI c ns (s (initEnv n c l))
theorem init_at {n c : Nat} {l : List D} {k : Nat} {s : Slot} (e : (initEnv n c l)[k]? = some s) : (k = 0 ∧ s = .own (.obj c [] [])) ∨ (∃ j, k = j + 1 ∧ ((∃ d, l[j]? = some d ∧ s = .val d) ∨ (l.length ≤ j ∧ s = .none))) := by
  cases k with
  | zero =>
    have e1 : some (Slot.own (.obj c [] [])) = some s := e
    exact .inl ⟨rfl, (Option.some.inj e1).symm⟩
  | succ j =>
    have e1 : (l.map Slot.val ++ List.replicate (n - (l.length + 1)) Slot.none)[j]? = some s := e
    refine .inr ⟨j, rfl, ?_⟩
    by_cases hj : j < l.length
    · rw [List.getElem?_append_left (by rw [List.length_map]; exact hj), List.getElem?_map] at e1
      cases q : l[j]? with
      | none =>
        rw [q] at e1
        cases e1
      | some d =>
        rw [q] at e1
        exact .inl ⟨d, rfl, (Option.some.inj e1).symm⟩
    · rw [List.getElem?_append_right (by rw [List.length_map]; omega)] at e1
      have := List.mem_of_getElem? e1
      rw [List.mem_replicate] at this
      exact .inr ⟨by omega, this.2⟩
end
section
variable {P : Program} {w : World} {K : PySem.W.Frag} {mg : Str → Option Value} {base : Heap} {G : Gl}
/-- THE RULE for an __init__ -/
theorem ini_ok {x qual : Str} {st : Stmt} {f : Addr} {fd : FuncData} {N ps : List Str} {k n c : Nat} {s : Sm} (F : Fun K x qual st f fd) (S : FnScope N ps (defScope st)) (hps : ps.length = n + 1) (hN : ps.length ≤ N.length)
    (hbody : ∀ (cdv : Value) (A : Around) (outer : List PySem.Env) (s0 : Shared) (H : Hp) (hs : Hid) (E : XK), Room k (A.deeper (PyProof.Rows.envOfC qual (defScope st) s0.heap.objs.size f cdv)) →
      SSs (cxOf (L2.CX P w) P w K mg base N qual (defScope st) f cdv A outer s0 H E) G (fun cls dx _ H' => E cls dx H') hs (defBody st) s) : FnOk P w K mg base (L2.CX P w) (k + 1) f fd ps (spI G n c (ini N.length c (G.flds c) s)) := by
  refine F.okX S (fun vs H Q E h => ?_) fun cdv A outer s0 H vs Q E hr h => ?_
  · obtain ⟨x, dx, us, rfl, hu, _⟩ := h
    rw [List.length_cons, hu, hps]
  · obtain ⟨x, dx, us, rfl, hu, hx, l, hs, g, hsx, nm, hv, q⟩ := h
    have hl := hv.length
    have hst : L2.start N (.ref x :: us) = some (.ref x) :: (us.map some ++ List.replicate (N.length - (us.length + 1)) none) := rfl
    have hat : ∀ {j : Nat} {d : D}, l[j]? = some d → ∃ v, (L2.start N (.ref x :: us))[j + 1]? = some (some v) ∧ At G (hide hs H) d v := fun {j d} e => by
      obtain ⟨v, e1, a⟩ := hv.get' e
      refine ⟨v, ?_, a⟩
      rw [hst]
      show (us.map some ++ _)[j]? = _
      have hj : j < us.length := (List.getElem?_eq_some_iff.mp e1).1
      rw [List.getElem?_append_left (by rw [List.length_map]; exact hj), List.getElem?_map, e1]
      rfl
    have R : Rep G hs (L2.start N (.ref x :: us)) (initEnv N.length c l) H := by
      refine ⟨g.j, g.m, g.live, ?_, fun i s v h1 h2 => ?_, fun i k l' v h1 h2 h3 h4 => ?_⟩
      · rw [hst]
        unfold initEnv
        rw [List.length_cons, List.length_cons, List.length_append, List.length_append, List.length_map, List.length_map, List.length_replicate, List.length_replicate, hl]
      · rcases init_at h1 with ⟨rfl, rfl⟩ | ⟨j, rfl, ⟨d, e1, rfl⟩ | ⟨_, rfl⟩⟩
        · rw [hst] at h2
          have h2 : some (some (V.ref x)) = some v := h2
          cases h2
          exact ⟨x, rfl, hsx, nm, _, hx, dx, [], rfl, rfl, .nil⟩
        · obtain ⟨y, e2, a⟩ := hat e1
          rw [e2] at h2
          cases h2
          exact ⟨y, rfl, a⟩
        · trivial
      · obtain ⟨s, h3, h5⟩ := h3
        rcases init_at h1 with ⟨rfl, _⟩ | ⟨j, _, ⟨d, _, z⟩ | ⟨_, z⟩⟩
        · rcases init_at h3 with ⟨rfl, _⟩ | ⟨j, _, ⟨d, _, z⟩ | ⟨_, z⟩⟩
          · rfl
          · rw [z] at h5
            cases h5
          · rw [z] at h5
            cases h5
        · cases z
        · cases z
    refine ⟨_, hbody cdv A outer s0 H ⟨hs, fun a => a = x⟩ E hr, initEnv N.length c l, hs, ⟨R, LeadS.refl H, fun _ z => z, g.live.some, fun a z => ?_, fun k l' a h1 h2 => ?_⟩, T.wp_imp (runI_wp q) fun o q1 => ?_⟩
    · have z : a = x := z
      rw [z]
      exact ⟨nm, _, hx, (fun _ y => nomatch y)⟩
    · rcases init_at h1 with ⟨rfl, e1⟩ | ⟨j, _, ⟨d, _, z⟩ | ⟨_, z⟩⟩
      · cases e1
        rw [hst] at h2
        have h2 : some (some (V.ref x)) = some (some (.ref a)) := h2
        cases h2
        exact rfl
      · cases z
      · cases z
    · cases o with
      | nx ρ =>
        intro hd σ H' R' x'
        have q2 : (match ρ[(0 : Nat)]? with
          | some (.own (.obj c' ns' r)) => if c' = c ∧ ns' = G.flds c then T.ret r else .bad
          | _ => .bad).wp _ _ := q1
        cases e0 : ρ[(0 : Nat)]? with
        | none =>
          rw [e0] at q2
          exact q2.elim
        | some s =>
          rw [e0] at q2
          cases s with
          | own o =>
            cases o with
            | obj c' ns l' =>
              obtain ⟨⟨hc, hn⟩, q3⟩ := wp_if q2
              subst hc
              obtain ⟨p, u, e3, h3, nm', e4, dx', fs, rfl, e5, r⟩ := own_of R'.rep e0
              have ep : p = x := R'.mine 0 _ p e0 e3
              rw [ep] at e4
              exact q3 H' dx' fs R'.rep.j (fun a o n m t e => R'.lead.ex a o m n t e) e4 (e5.trans hn) (r.mono (hide_le R'.sub))
            | _ => exact q2.elim
          | _ => exact q2.elim
      | ret d => exact q1.elim
      | brk ρ => exact q1.elim
      | ct ρ => exact q1.elim
      | rz c' l' ρ => exact fun hd cls dx' σ H' R' _ a => q1 cls dx' H' R'.rep.j (fun a o n m t e => R'.lead.ex a o m n t e) (a.mono (hide_le R'.sub))
end
end Py
set_option Elab.async false
set_option linter.all false
set_option maxRecDepth 100000
set_option maxHeartbeats 4000000
namespace Py
namespace Er
open PySem PySem.W PySem.Calls PyProof.Rows PySem.HandSPX
open Builtin Builtin.ObjectAttr
/-- the classes above an error of the package: OfferError at D, then the built-in ones -/
abbrev up (D : Addr) : List Value := .ref D :: PySem.ESX.exTail
theorem up_type (D : Addr) (n : String) : (up D).contains (.type n) = PySem.ESX.exTail.contains (.type n) := by
  rw [List.contains_cons]
  rfl
section
variable {prog : Program} {w : World} {A : Around} {R : Result → Shared → Prop} {hp : Heap} {gs : Array GenState} {dr : Drawn} {tk0 : Nat} {os : OsState}
variable {K : Frag} {f : Str} {tk : Tok} {v : Value} {x C D : Addr} {cd : ClassData}
theorem is_obj (e1 : clsIn K C = some cd) (e2 : cd.mro = .ref C :: up D) : mroIn K C (.type "object") = some true := by
  unfold mroIn
  rw [e1, Option.bind_some, e2]
  have y : (Value.ref C :: up D).contains (.type "object") = true := by
    have z : PySem.ESX.exTail.contains (.type "object") = true := by decide +kernel
    rw [List.contains_cons, up_type, z, Bool.or_true]
  rw [y]
  rfl
/-- object.__setattr__ comes to the own dict -/
theorem to_dict {ox : Obj} {od : Option Obj} (kin : K.In hp) (at_ : InstAt hp x ox C od) (e1 : clsIn K C = some cd) (e2 : cd.mro = .ref C :: up D) (no : findIn K (.ref C) f = some none)
    (go : wpAny (model prog w) A.in1 (storeInOwnDict (.ref x) (.ref C) (.str f tk) f v false)
      (fun r s => match r with
        | .done y => R (.ok y) s
        | .again c => c.quiet = true ∧ codeAny (model prog w) A c R s) (fun e s => R (.error e) s) ⟨hp, gs, dr, tk0, os⟩) :
    codeAny (model prog w) A (.call (.builtin "object.__setattr__") ⟨[.ref x, .str f tk, v], []⟩) R ⟨hp, gs, dr, tk0, os⟩ := by
  have so := F.store_object
  have isO : Looks (model prog w) hp (isInstance (.ref x) (.type "object")) true := at_.type.andThen (looks_mroIn kin (is_obj e1 e2))
  refine codeAny_call_builtin so.slot.plain so.entry ?_
  refine @check_slot (model prog w) _ _ ⟨hp, gs, dr, tk0, os⟩ "object.__setattr__" "object" "__setattr__" (.ref x) [.str f tk, v] [] _ so.kind so.split isO (so.args (.ref x) (.str f tk) v) ?_
  have mro : Looks (model prog w) hp (mroOf (.ref C)) cd.mro := (looks_clsIn kin e1).andThen .now
  have nobody : Looks (model prog w) hp (storeTaker? none) none := .now
  have pass : refuseLoop (.ref x) "__setattr__" cd.mro = pure () := by
    rw [e2, refuseLoop_ref, refuseLoop_ref]
    exact F.store_Exception.passes _
  rw [osa_eq, refuse_eq]
  refine wpAny_bind (wpAny_bind (at_.type.at (wpAny_bind (mro.at ?_))))
  rw [pass]
  exact wpAny_pure (wpAny_bind (at_.type.at (wpAny_bind ((looks_findIn kin no).at (wpAny_bind (nobody.at go))))))
/-- self.f = v, the first one -/
theorem first {fv : Array Value} (kin : K.In hp) (ox : hp.get? x = some { cls := .ref C, data := .fields fv }) (e1 : clsIn K C = some cd) (e2 : cd.mro = .ref C :: up D) (hd : cd.hasDict = true) (no : findIn K (.ref C) f = some none)
    (k : ∀ h' tk' dx, (∀ b o, b ≠ x → hp.get? b = some o → h'.get? b = some o) → hp.objs.size ≤ dx → dx ≠ x →
      h'.get? x = some { cls := .ref C, dict := some dx, data := .fields fv } → h'.Ns1 dx (fun y => if y = f then some v else none) → R (.ok (.ret .none)) ⟨h', gs, dr, tk', os⟩) :
    codeAny (model prog w) A (.call (.builtin "object.__setattr__") ⟨[.ref x, .str f tk, v], []⟩) R ⟨hp, gs, dr, tk0, os⟩ := by
  have at_ : InstAt hp x { cls := .ref C, data := .fields fv } C none := ⟨ox, rfl, rfl, trivial⟩
  have ne : x ≠ hp.objs.size := Nat.ne_of_lt (Heap.lt_size ox)
  refine to_dict kin at_ e1 e2 no ?_
  have lc : Looks (model prog w) hp (classData C) cd := looks_clsIn kin e1
  obtain ⟨a1, a2, a3, a4, a5, a6, a7, a8, a9, a10, a11⟩ := cd
  dsimp only at hd
  subst hd
  unfold storeInOwnDict ownDictForStores
  repeat (first
    | with_reducible refine store_in_new ?_ ?_
    | with_reducible refine wpAny_loadPart_at ox ?_
    | with_reducible refine lc.at ?_
    | wp_step)
  · exact ⟨_, #[], _, (Heap.get?_update_ne _ _ _ _ ne.symm).trans (Heap.get?_push_at rfl rfl), rfl, fun e z => absurd z (by simp), fun _ => rfl⟩
  · intro h' tk' ns same
    have ox' : (hp.push { cls := .type "dict", data := .dict #[] }).get? x = some { cls := .ref C, data := .fields fv } := Heap.get?_push_of_some _ ox
    refine k h' tk' hp.objs.size (fun b o nb e => ?_) (Nat.le_refl _) ne.symm ?_ ns
    · refine (same.2 b (Nat.ne_of_lt (Heap.lt_size e))).trans ?_
      exact (Heap.get?_update_ne _ _ _ _ nb).trans (Heap.get?_push_of_some _ e)
    · exact (same.2 x ne).trans (Heap.get?_update_self _ ox' rfl)
/-- a further one -/
theorem further {fv : Array Value} {dx : Addr} {m0 : Str → Option Value} {nl : List Str} (kin : K.In hp) (ox : hp.get? x = some { cls := .ref C, dict := some dx, data := .fields fv }) (ns0 : hp.Ns1 dx m0) (wi : Within m0 nl) (few : nl.length ≤ 1000)
    (e1 : clsIn K C = some cd) (e2 : cd.mro = .ref C :: up D) (hd : cd.hasDict = true) (no : findIn K (.ref C) f = some none)
    (k : ∀ h' tk', (∀ b o, b ≠ dx → hp.get? b = some o → h'.get? b = some o) → h'.Ns1 dx (fun y => if y = f then some v else m0 y) → R (.ok (.ret .none)) ⟨h', gs, dr, tk', os⟩) :
    codeAny (model prog w) A (.call (.builtin "object.__setattr__") ⟨[.ref x, .str f tk, v], []⟩) R ⟨hp, gs, dr, tk0, os⟩ := by
  obtain ⟨od, _, _, hod, _, _⟩ := ns0.count wi
  have at_ : InstAt hp x { cls := .ref C, dict := some dx, data := .fields fv } C (some od) := ⟨ox, rfl, rfl, hod⟩
  refine to_dict kin at_ e1 e2 no ?_
  have lc : Looks (model prog w) hp (classData C) cd := looks_clsIn kin e1
  obtain ⟨a1, a2, a3, a4, a5, a6, a7, a8, a9, a10, a11⟩ := cd
  dsimp only at hd
  subst hd
  unfold storeInOwnDict ownDictForStores
  repeat (first
    | with_reducible refine PySem.ESX.store_in_old ns0 wi few ?_
    | with_reducible refine wpAny_loadPart_at ox ?_
    | with_reducible refine lc.at ?_
    | wp_step)
  intro h' tk' ns same
  exact k h' tk' (fun b o nb e => (same.2 b nb).trans e) ns
end
/-! ### the text of an __init__ that keeps its one parameter -/
def iA (f : Str) (p1 p2 : Pos) : Arguments := { posonlyargs := [], args := [{ arg := "self", annotation := none, pos := p1 }, { arg := f, annotation := none, pos := p2 }], vararg := none, kwonlyargs := [], kw_defaults := [], kwarg := none, defaults := [] }
def iB (f : Str) (q1 q2 q3 q4 : Pos) : List Stmt := [.Assign [.Attribute (.Name "self" q1) f q2] (.Name f q3) q4]
def iS (f : Str) : Scope := { kind := .function, names := [(PySem.Str.ofString "self", .local), (f, .local)], isGenerator := false, isCoroutine := false, more := [] }
/-- what the written part says of such a class at C, of its __init__ at fI -/
structure Txt1 (K : Frag) (mg : Str → Option Value) (x f : Str) (C fI : Addr) : Prop where
  gC : mg x = some (.ref C)
  cls : ∃ nm q N bs D sn sub ab col dd k0 k1 k2 k3 k5, K.lookup C = some (excClassObj nm q C N bs (up D) true sn sub ab col dd k0 k1 k2 k3 k5 "Exception.__new__")
  sa : findIn K (.ref C) "__setattr__" = some (some (.builtin "object.__setattr__"))
  noN : findIn K (.ref C) f = some none
  iC : findIn K (.ref C) "__init__" = some (some (.ref fI))
  tC : typeIn K (.ref fI) = some (.type "function")
  kC : keepIn K (.ref C) = true
  exC : subIn K (.ref C) (.type "BaseException") = some true
  tyC : typeIn K (.ref C) = some (.type "type")
  nf : (f == ("__debug__" : Str)) = false ∧ f ≠ "self"
  bd : ∀ (qn : Str) (p1 p2 q1 q2 q3 q4 : Pos) (doc pm cdv ct : Value) (an : Option Addr) (a b : Value), bindArgs (fnOf "__init__" qn (iA f p1 p2) (iB f q1 q2 q3 q4) (iS f) .none .none doc pm an cdv ct) ⟨[a, b], []⟩ = pure [(PySem.Str.ofString "self", a), (f, b)]
  fn : ∃ (qn : Str) (oc : Value) (od : Option Addr) (doc pm : Value) (an : Option Addr) (cdv ct : Value) (osl : Array (Option Value)) (p1 p2 q1 q2 q3 q4 : Pos),
    K.lookup fI = some ⟨oc, od, .func (fnOf "__init__" qn (iA f p1 p2) (iB f q1 q2 q3 q4) (iS f) .none .none doc pm an cdv ct), osl⟩ ∧ codeIn K cdv qn = true
theorem line1 (v : Value) : [v].length ≤ sizeLine := by
  rw [sizeLine_eq]
  exact (by decide : 1 ≤ 16777216)
section
variable {prog : Program} {w : World} {A : Around} {R : Result → Shared → Prop} {s : Shared} {K : Frag} {mg : Str → Option Value} {x0 f : Str} {C fI : Addr}
theorem ldL {M : Model} {E : Value → Shared → Prop} {nm : Str} {sc : Scope} {L a : Addr} {cd : Value} {m : Str → Option Value} {x : Str} {pos : Pos} {v : Value} {Q : Value → Shared → Prop} (hn : s.heap.Ns L m) (hv : m x = some v) (h : Q v s)
    (hl : (envOfC nm sc L a cd).kindOf x = some .local) (hd : (x == ("__debug__" : Str)) = false) (hk : sc.kind = .function := by rfl) :
    wpAny M A (eval (.Name x pos) (envOfC nm sc L a cd)) Q E s := wpAny_Name (wpAny_loadName_local hk hl hn hv h) hd
/-- what __init__ leaves of the fresh exception at x -/
structure Left (f : Str) (h h' : Heap) (x C dx t1 : Addr) (v : Value) : Prop where
  old : ∀ b o, b ≠ x → h.get? b = some o → h'.get? b = some o
  obj : h'.get? x = some { cls := .ref C, dict := some dx, data := .fields #[.ref t1, .none, .none, .none, .bool false, .none] }
  big : h.objs.size ≤ dx
  ne : dx ≠ x
  ns : h'.Ns1 dx (fun y => if y = f then some v else none)
theorem kind_self (nm : Str) (L a : Addr) (cd : Value) : (envOfC nm (iS f) L a cd).kindOf "self" = some .local := by
  show (List.lookup ("self" : Str) (iS f).names) = some .local
  rfl
theorem kind_f (nm : Str) (L a : Addr) (cd : Value) (h : f ≠ "self") : (envOfC nm (iS f) L a cd).kindOf f = some .local := by
  show (List.lookup f [(PySem.Str.ofString "self", .local), (f, NameKind.local)]) = some .local
  have e : (f == PySem.Str.ofString "self") = false := by simpa using h
  simp [List.lookup, e]
theorem init1 (T : Txt1 K mg x0 f C fI) {x t0 : Addr} {v : Value} (kin : K.In s.heap) (lim : s.heap.NoLimit) (hx : s.heap.get? x = some (excO C t0)) (nk : K.lookup x = none) (room : A.depth < recursionLimit)
    (k : ∀ h' tk dx, Left f s.heap h' x C dx t0 v → R (.ok (.ret .none)) { s with heap := h', toks := tk }) :
    codeAny (model prog w) A (.call (.ref fI) ⟨[.ref x, v], []⟩) R s := by
  obtain ⟨qn, oc, od, doc, pm, an, cdv, ct, osl, p1, p2, q1, q2, q3, q4, ho, hcd⟩ := T.fn
  obtain ⟨nm, q, N, bs, D, sn, sub, ab, col, dd, k0, k1, k2, k3, k5, hC⟩ := T.cls
  obtain ⟨nd, ns⟩ := T.nf
  have hcl : clsIn K C = some { name := nm, bases := bs, mro := .ref C :: up D, ns := N, qualname := q, hasDict := true, slotNames := sn, subclasses := sub, abstract := ab, collection := col, hasDel := false } := by
    unfold clsIn
    rw [hC] <;> rfl
  have ef : (f == ("self" : Str)) = false := by simpa using ns
  have es : (("self" : Str) == f) = false := by simpa using Ne.symm ns
  refine Att.call_fn (binds := [("self", .ref x), (f, v)]) kin lim ho hcd room (BindsTo.of_eq (T.bd _ _ _ _ _ _ _ _ _ _ _ _ _ _)) (by simp [iS, List.lookup, ef]) (fun s₁ IC => ?_) rfl rfl rfl
  obtain ⟨h₁, tk₁, rfl⟩ := IC.toInCall.same
  have kp : ∀ b o, s.heap.get? b = some o → h₁.get? b = some o := IC.toInCall.keep
  have hn := IC.toInCall.ns
  have kin₁ : K.In h₁ := kin.keeps kp
  have hx₁ := kp _ _ hx
  show wpAny _ _ (execs _ _) _ _ _
  refine wpAny_execs_cons (plainObj_wpAny_Assign_Attribute ?_)
  refine ldL (v := v) hn (by simp [PySem.bindL, kind_f _ _ _ _ ns, kind_self]) (ldL (v := .ref x) hn (by simp [PySem.bindL, kind_f _ _ _ _ ns, kind_self, Ne.symm ns]) ?_ (kind_self _ _ _ _) (by decide)) (kind_f _ _ _ _ ns) nd
  refine set_plain kin₁ (ox := excO C t0) (od := none) ⟨hx₁, rfl, rfl, trivial⟩ T.sa ?_
  refine first kin₁ hx₁ hcl rfl rfl T.noN (fun h₃ tk₃ dx k₃ dn dne hx₃ hn₃ => ?_)
  show wpAny _ _ (execs _ _) _ _ _
  have z : s.heap.objs.size < h₁.objs.size := hn.lt
  exact wpAny_execs_nil (k h₃ tk₃ dx ⟨fun b o hb e => k₃ b o hb (kp b o e), hx₃, Nat.le_of_lt (Nat.lt_of_lt_of_le z dn), dne, hn₃⟩)
/-- a made error -/
structure Made (f : Str) (h h' : Heap) (e C d : Addr) (v : Value) : Prop where
  old : ∀ b o, h.get? b = some o → h'.get? b = some o
  new : h.objs.size ≤ e
  obj : ∃ oe vs, h'.get? e = some oe ∧ oe.cls = .ref C ∧ oe.dict = some d ∧ oe.data = .fields vs ∧ vs[1]? = some .none
  big : h.objs.size ≤ d
  ne : d ≠ e
  ns : h'.Ns1 d (fun y => if y = f then some v else none)
theorem made1 (T : Txt1 K mg x0 f C fI) {v : Value} (kin : K.In s.heap) (lim : s.heap.NoLimit) (room : A.depth + 1 < recursionLimit)
    (k : ∀ h' tk e d, Made f s.heap h' e C d v → R (.ok (.ret (.ref e))) { s with heap := h', toks := tk }) :
    codeAny (model prog w) A (.call (.ref C) ⟨[v], []⟩) R s := by
  obtain ⟨nm, q, N, bs, D, sn, sub, ab, col, dd, k0, k1, k2, k3, k5, hC⟩ := T.cls
  obtain ⟨hp, g, dr, tk, os⟩ := s
  have kp : ∀ b o, hp.get? b = some o → ((hp.push (kdv_tup [v])).push (excO C hp.objs.size)).get? b = some o := fun b o e => Heap.get?_push_of_some _ (Heap.get?_push_of_some _ e)
  have at_ : ((hp.push (kdv_tup [v])).push (excO C hp.objs.size)).get? (hp.objs.size + 1) = some (excO C hp.objs.size) := by heap_get
  have nk : K.lookup (hp.objs.size + 1) = none := by
    cases e : K.lookup (hp.objs.size + 1) with
    | none => rfl
    | some o => exact absurd (Nat.lt_of_succ_lt (Heap.lt_size (kin _ _ e))) (Nat.lt_irrefl _)
  have tails : ∀ n : String, (up D).contains (.type n) = PySem.ESX.exTail.contains (.type n) := up_type D
  refine call_own F.excBase_Exception tails (kin _ _ hC) (looks_findIn kin T.iC) (fun self => bind_fn kin self T.tC) (line1 v) ?_
  refine init1 (s := ⟨(hp.push (kdv_tup [v])).push (excO C hp.objs.size), g, dr, tk, os⟩) T (kin.keeps kp) (lim.keeps kp) at_ nk room fun h' tk' dx ⟨k', hx, dn, dne, hns⟩ => ?_
  have old : ∀ b o, hp.get? b = some o → h'.get? b = some o := fun b o e => k' b o (Nat.ne_of_lt (Nat.lt_succ_of_lt (Heap.lt_size e))) (kp b o e)
  have z : hp.objs.size + 1 + 1 ≤ dx := by
    have q := dn
    rw [Heap.size_push, Heap.size_push] at q
    exact q
  exact ⟨rfl, k h' tk' (hp.objs.size + 1) dx ⟨old, Nat.le_succ _, ⟨_, _, hx, rfl, rfl, rfl, rfl⟩, Nat.le_trans (Nat.le_trans (Nat.le_succ _) (Nat.le_succ _)) z, dne, hns⟩⟩
end
end Er
open PySem PySem.Spec L2 PyProof.Rows
theorem relO_one {v : V} {v' : Value} (r : RelV v v') (f g : Str) : RelO (List.lookup g [(f, v)]) (if g = f then some v' else none) := by
  by_cases h : g = f
  · rw [if_pos h, h]
    have q : List.lookup f [(f, v)] = some v := by simp [List.lookup]
    rw [q]
    exact r
  · rw [if_neg h]
    have e : (g == f) = false := by simpa using h
    have q : List.lookup g [(f, v)] = none := by simp [List.lookup, e]
    rw [q]
    trivial
section
variable {X : Cx} {G : Gl} {W : WX} {hs : Hid}
/-- C(e), an error to be raised -/
def tMk1 (C : Addr) (f : Str) (ta : TA) : L2.St → Hp → XK → Prop := fun σ H Q => ta σ H fun vs H1 => ∃ v, vs = [v] ∧ ∀ d, H1 d = none → Q (.ref C) (some d) (upd H1 d (.xd [(f, v)]))
theorem pmk1 {x f : Str} {C fI : Addr} {a : Expr} {ta : TA} {p pos : Pos} {k : Nat} (T : Er.Txt1 X.K X.mg x f C fI) (hr : Room k X.A) (ha : PA X [a] ta) (hg : L2.Gl X x) (hdb : (x == ("__debug__" : Str)) = false := by decide)
    (he : starEach (a :: []) X.env = (false, eval a X.env) :: starEach [] X.env := by rfl) (hpl : (backTo pos (starEach [] X.env)).any (·.1) = false := by rfl) :
    PMk X (.Call (.Name x p) [a] [] pos) (tMk1 C f ta) := by
  intro pins s σ H Q I h
  refine wpAny_Call_Name_kw (ld_glob I hg T.gC ?_ hdb)
  refine PySem.W.callWith_K (h₀ := X.base) I.ok.mod.kin T.kC (thn (ha.run pos pins s σ H _ I h) fun us s1 hh => ?_) he hpl
  obtain ⟨vs, H1, I1, r1, v, ev, q1⟩ := hh
  subst ev
  refine ⟨I1.kIn, ?_⟩
  cases r1 with
  | @cons _ v' _ us' rv rn =>
    cases rn
    show wpAny _ _ (call (.ref C) [v']) _ _ _
    have lim := I1.nolimit
    obtain ⟨hp, g, dr, tk, os⟩ := s1
    refine wpAny_call (Er.made1 T I1.kIn lim (by have := hr.dp; omega) fun h' tk' e d M => ?_)
    show MkP X pins σ Q (.ref e) ⟨h', g, dr, tk', os⟩
    obtain ⟨oe, fv, hoe, hc, hd, hdat, h1⟩ := M.obj
    have ns := M.ns
    obtain ⟨G', g1, g2⟩ := restrict h' fun b => decide (b ≠ e)
    have gk : ∀ b, b ≠ e → G'.get? b = h'.get? b := fun b hb => g1 b (decide_eq_true hb)
    have ge : G'.get? e = none := g2 e (by simp)
    have below : ∀ b o, hp.get? b = some o → b ≠ e := fun b o q => Nat.ne_of_lt (Nat.lt_of_lt_of_le (Heap.lt_size q) M.new)
    have old : ∀ b o, hp.get? b = some o → G'.get? b = some o := fun b o q => (gk b (below b o q)).trans (M.old b o q)
    have ob : ObjOk X.prog X.w (upd H1 d (.xd [(f, v)])) G' d (.xd [(f, v)]) := ⟨_, ns.at (fun o q => (gk d M.ne).trans q), relO_one rv f⟩
    have J : Inv X pins σ (upd H1 d (.xd [(f, v)])) ⟨G', g, dr, tk', os⟩ := I1.laid (t' := tk') old M.big ob
    have fe : H1 e = none := I1.hok.fresh M.new
    refine ⟨e, oe, fv, ⟨G', g, dr, tk', os⟩, _, .ref C, some d, rfl, J, fun b o q => ?_, ge, hoe, ⟨hc, hd⟩, hdat, h1, by rw [upd_ne (Ne.symm M.ne)]; exact fe, rfl, I1.bare, raises_own T.exC T.tyC, q1 d (I1.hok.fresh M.big)⟩
    have ne : b ≠ e := fun z => by
      have q' : G'.get? b = some o := q
      rw [z, ge] at q'
      cases q'
    exact (gk b ne).symm.trans q
/-- raise C(e) -/
def sRaise1 (c : Nat) (f : Env → T D) : Sm := fun ρ => bindS (f ρ) ρ fun d => .ret (.rz c [d] ρ)
theorem ss_raise1 {x f : Str} {c : Nat} {fI : Addr} {a : Expr} {fa : Env → T D} {p pos pos2 : Pos} {k : Nat} (hc : X.calm = true) (T1 : Er.Txt1 X.K X.mg x f (G.cls c) fI) (hf : G.flds c = [f]) (hr : Room k X.A) (tk : Takes X W) (ha : EE X G W a fa) (hg : L2.Gl X x) (hdb : (x == ("__debug__" : Str)) = false := by decide)
    (he : starEach (a :: []) X.env = (false, eval a X.env) :: starEach [] X.env := by rfl) (hpl : (backTo pos (starEach [] X.env)).any (·.1) = false := by rfl) :
    SS X G W hs (.Raise (some (.Call (.Name x p) [a] [] pos)) none pos2) (sRaise1 c fa) := by
  refine PS_imp (ps_raise hc tk (pmk1 T1 hr (pa_cons ha pa_nil he) hg hdb he hpl)) fun Dn σ H q => ?_
  obtain ⟨ρ, hd, R, q⟩ := q
  refine ⟨ρ, hd, R.rep, T.wp_mono (bindS_then q) (fun d q1 v H1 e1 h1 => ⟨v, rfl, fun dx nd => ?_⟩) fun c l z => rz_of R z⟩
  have R1 := R.to e1
  have L : Lead G H1 (upd H1 dx (.xd [(f, v)])) := Lead.new nd
  have x1 := L.hide R1.rep.m
  refine q1 hd _ _ σ _ (R1.to L) ((e1.hide R.rep.m).trans x1) ⟨rfl, .inr ⟨dx, _, rfl, R1.rep.good.seen nd, by rw [hf]; rfl, .cons (h1.mono x1) .nil⟩⟩
end
end Py
set_option Elab.async false
set_option linter.all false
set_option maxRecDepth 100000
set_option maxHeartbeats 4000000
namespace Py
open PySem PySem.Spec L2

/-! ### an except suite: what is fixed, with the error that it holds -/
abbrev Gl.to (G : Gl) (x : Option (Addr × Value × Option Addr)) (y : Option (Addr × Up)) : Gl := { G with ea := x, fa := y }
section
variable {G : Gl} {x : Option (Addr × Value × Option Addr)} {y : Option (Addr × Up)}
mutual
theorem At.er {H : Hp} : ∀ {d : D} {v : V}, At G H d v → At (G.to x y) H d v
  | _, _, .non => .non
  | _, _, .bl => .bl
  | _, _, .int => .int
  | _, _, .str => .str
  | _, _, .tup h r => .tup h (Ats.er r)
  | _, _, .lst h r => .lst h (Ats.er r)
  | _, _, .dic h r q => .dic h (Ats.er r) (Ats.er q)
  | _, _, .dicN h n r q => .dicN h n (Ats.er r) (Ats.er q)
  | _, _, .obj h n r => .obj h n (Ats.er r)
  | _, _, .deck => .deck
theorem Ats.er {H : Hp} : ∀ {l : List D} {xs : List V}, Ats G H l xs → Ats (G.to x y) H l xs
  | _, _, .nil => .nil
  | _, _, .cons h r => .cons (At.er h) (Ats.er r)
end
mutual
theorem At.re {H : Hp} : ∀ {d : D} {v : V}, At (G.to x y) H d v → At G H d v
  | _, _, .non => .non
  | _, _, .bl => .bl
  | _, _, .int => .int
  | _, _, .str => .str
  | _, _, .tup h r => .tup h (Ats.re r)
  | _, _, .lst h r => .lst h (Ats.re r)
  | _, _, .dic h r q => .dic h (Ats.re r) (Ats.re q)
  | _, _, .dicN h n r q => .dicN h n (Ats.re r) (Ats.re q)
  | _, _, .obj h n r => .obj h n (Ats.re r)
  | _, _, .deck => .deck
theorem Ats.re {H : Hp} : ∀ {l : List D} {xs : List V}, Ats (G.to x y) H l xs → Ats G H l xs
  | _, _, .nil => .nil
  | _, _, .cons h r => .cons (At.re h) (Ats.re r)
end
theorem at_er : At (G.to x y) = At G := by
  funext H d v
  exact propext ⟨At.re, At.er⟩
theorem ats_er : Ats (G.to x y) = Ats G := by
  funext H d v
  exact propext ⟨Ats.re, Ats.er⟩
theorem err_er : ErrAt (G.to x y) = ErrAt G := by
  funext H c l cls dx
  unfold ErrAt
  rw [ats_er]
theorem lead_er : Lead (G.to x y) = Lead G := by
  funext H H'
  exact propext ⟨fun e => ⟨e.ex, e.j⟩, fun e => ⟨e.ex, e.j⟩⟩
theorem leadS_er : LeadS (G.to x y) = LeadS G := by
  funext sf H H'
  exact propext ⟨fun e => ⟨e.ex, e.j⟩, fun e => ⟨e.ex, e.j⟩⟩
theorem live_er : Live (G.to x y) = Live G := by
  funext hd H
  exact propext ⟨fun e => ⟨e.ne, e.nt⟩, fun e => ⟨e.ne, e.nt⟩⟩
theorem good_er : Good (G.to x y) = Good G := by
  funext hd H
  exact propext ⟨fun e => ⟨e.j, e.m, live_er ▸ e.live⟩, fun e => ⟨e.j, e.m, live_er.symm ▸ e.live⟩⟩
theorem owH_er : OwH (G.to x y) = OwH G := by
  funext H a o u
  cases o <;> (unfold OwH; rw [ats_er])
theorem owAt_er : OwAt (G.to x y) = OwAt G := by
  funext hd H o a
  unfold OwAt
  rw [owH_er]
theorem spD_er : spD (G.to x y) = spD G := by
  funext k m vs H Q E
  unfold spD
  rw [good_er, ats_er, at_er, lead_er, err_er]
theorem spI_er : spI (G.to x y) = spI G := by
  funext n c m vs H Q E
  unfold spI
  rw [good_er, ats_er, err_er]
/-- no error is held -/
def clr (ρ : Env) : Env := ρ.map fun s => match s with
  | .err _ _ => .none
  | s => s
theorem clr_at {ρ : Env} {k : Nat} {s : Slot} (e : (clr ρ)[k]? = some s) : s = .none ∨ (ρ[k]? = some s ∧ ∀ c l, s ≠ .err c l) := by
  unfold clr at e
  rw [List.getElem?_map] at e
  cases q : ρ[k]? with
  | none =>
    rw [q] at e
    cases e
  | some s' =>
    rw [q] at e
    cases e
    cases s' with
    | err c l => exact .inl rfl
    | none => exact .inl rfl
    | val d => exact .inr ⟨rfl, fun _ _ z => nomatch z⟩
    | own o => exact .inr ⟨rfl, fun _ _ z => nomatch z⟩
    | thk => exact .inr ⟨rfl, fun _ _ z => nomatch z⟩
theorem Rep.clear {hd : Addr → Prop} {σ : L2.St} {ρ : Env} {H : Hp} {x' : Option (Addr × Value × Option Addr)} (R : Rep (G.to x' y) hd σ ρ H) : Rep (G.to x y) hd σ (clr ρ) H := by
  refine ⟨R.j, R.m, ?_, by unfold clr; rw [List.length_map]; exact R.len, fun i s v h1 h2 => ?_, fun i k l v h1 h2 h3 h4 => ?_⟩
  · have := R.live
    rw [live_er] at this ⊢
    exact this
  · rcases clr_at h1 with rfl | ⟨h3, n⟩
    · trivial
    · have := R.at_ i s v h3 h2
      cases s with
      | none => trivial
      | val d =>
        obtain ⟨a, e, z⟩ := this
        exact ⟨a, e, z.re.er⟩
      | own o =>
        obtain ⟨a, e, z⟩ := this
        rw [owAt_er] at z
        exact ⟨a, e, by rw [owAt_er]; exact z⟩
      | thk => exact this
      | err c l => exact absurd rfl (n c l)
  · obtain ⟨s, h3, h5⟩ := h3
    rcases clr_at h1 with z | ⟨h6, _⟩
    · cases z
    · rcases clr_at h3 with rfl | ⟨h7, _⟩
      · cases h5
      · exact R.lone i k l v h6 h2 ⟨s, h7, h5⟩ h4
theorem Rep.put {hd : Addr → Prop} {σ : L2.St} {ρ : Env} {H : Hp} {i : Nat} {s : Slot} {v : Option V} (R : Rep G hd σ ρ H) (no : isOwn s = false) (a : SlotAt G hd H s v) : Rep G hd (σ.set i v) (ρ.set i s) H := by
  have hl := R.len
  have put : ∀ {k : Nat} {s' : Slot}, (ρ.set i s)[k]? = some s' → (k = i ∧ s' = s) ∨ (i ≠ k ∧ ρ[k]? = some s') := fun {k s'} h => by
    by_cases hk : i = k
    · rw [← hk] at h
      by_cases hi : i < ρ.length
      · rw [List.getElem?_set_self hi] at h
        exact .inl ⟨hk.symm, (Option.some.inj h).symm⟩
      · rw [List.getElem?_eq_none (by rw [List.length_set]; omega)] at h
        cases h
    · rw [List.getElem?_set_ne hk] at h
      exact .inr ⟨hk, h⟩
  refine ⟨R.j, R.m, R.live, by rw [List.length_set, List.length_set]; exact R.len, fun k s' v' h1 h2 => ?_, fun k m l v' h1 h2 h3 h4 => ?_⟩
  · rcases put h1 with ⟨rfl, rfl⟩ | ⟨ne, h3⟩
    · by_cases hi : k < σ.length
      · rw [List.getElem?_set_self hi] at h2
        cases h2
        exact a
      · rw [List.getElem?_eq_none (by rw [List.length_set]; omega)] at h2
        cases h2
    · rw [List.getElem?_set_ne ne] at h2
      exact R.at_ k s' v' h3 h2
  · obtain ⟨s', h3, h5⟩ := h3
    rcases put h1 with ⟨_, rfl⟩ | ⟨n1, h6⟩
    · cases no
    · rcases put h3 with ⟨_, rfl⟩ | ⟨n2, h7⟩
      · rw [no] at h5
        cases h5
      · rw [List.getElem?_set_ne n1] at h2
        rw [List.getElem?_set_ne n2] at h4
        exact R.lone k m l v' h6 h2 ⟨s', h7, h5⟩ h4
end
section
variable {X : Cx} {G : Gl} {W : WX} {hs : Hid}
theorem SRep.clear {x x' : Option (Addr × Value × Option Addr)} {y : Option (Addr × Up)} {hd : Addr → Prop} {σ : L2.St} {ρ : Env} {H : Hp} (R : SRep X (G.to x' y) hs hd σ ρ H) : SRep X (G.to x y) hs hd σ (clr ρ) H := by
  refine ⟨R.rep.clear, ?_, R.sub, R.old, R.selfs, fun k l a h1 h2 => ?_⟩
  · have := R.lead
    rw [leadS_er] at this ⊢
    exact this
  · rcases clr_at h1 with z | ⟨h3, _⟩
    · cases z
    · exact R.mine k l a h3 h2
theorem SRep.put {hd : Addr → Prop} {σ : L2.St} {ρ : Env} {H : Hp} {i : Nat} {s : Slot} {v : Option V} (R : SRep X G hs hd σ ρ H) (no : isOwn s = false) (a : SlotAt G hd H s v) : SRep X G hs hd (σ.set i v) (ρ.set i s) H := by
  refine ⟨R.rep.put no a, R.lead, R.sub, R.old, R.selfs, fun k l b h1 h2 => ?_⟩
  by_cases hk : i = k
  · rw [← hk] at h1
    by_cases hi : i < ρ.length
    · rw [List.getElem?_set_self hi] at h1
      cases h1
      cases no
    · rw [List.getElem?_eq_none (by rw [List.length_set]; omega)] at h1
      cases h1
  · rw [List.getElem?_set_ne hk] at h1 h2
    exact R.mine k l b h1 h2
/-- the same of a context with the same heap at its entry -/
theorem SRep.cx {Y : Cx} {hd : Addr → Prop} {σ : L2.St} {ρ : Env} {H : Hp} (e : Y.H_0 = X.H_0) (R : SRep X G hs hd σ ρ H) : SRep Y G hs hd σ ρ H := by
  refine ⟨R.rep, by rw [e]; exact R.lead, R.sub, by rw [e]; exact R.old, R.selfs, fun k l a h1 h2 => ?_⟩
  have := R.mine k l a h1 h2
  cases l with
  | obj c ns r => exact this
  | lst r =>
    show newIn Y.H_0 a
    rw [e]
    exact this
  | dic ks vs =>
    show newIn Y.H_0 a
    rw [e]
    exact this
  | dicN ks vs =>
    show newIn Y.H_0 a
    rw [e]
    exact this
theorem oQ.cx {Y : Cx} {Dn : Ends} {hd : Addr → Prop} {H : Hp} (e : Y.H_0 = X.H_0) : ∀ {o : Out}, oQ X G W hs Dn hd H o → oQ Y G W hs Dn hd H o
  | .nx _, h => fun hd σ H R x => h hd σ H (R.cx e.symm) x
  | .ret _, h => fun v H j l a => h v H j (by rw [← e]; exact l) a
  | .brk _, h => fun hd σ H R x => h hd σ H (R.cx e.symm) x
  | .ct _, h => fun hd σ H R x => h hd σ H (R.cx e.symm) x
  | .rz _ _ _, h => fun hd cls dx σ H R x => h hd cls dx σ H (R.cx e.symm) x
theorem tSS.cx {Y : Cx} {s : Sm} {Dn : Ends} {σ : L2.St} {H : Hp} (e : Y.H_0 = X.H_0) (h : tSS X G W hs s Dn σ H) : tSS Y G W hs s Dn σ H := by
  obtain ⟨ρ, hd, R, q⟩ := h
  exact ⟨ρ, hd, R.cx e, T.wp_imp q fun o z => z.cx e⟩

/-! ### try -/
/-- the end of a suite: its error's name is gone -/
def outT (i : Nat) : Out → T Out
  | .nx ρ => .ret (.nx ((clr ρ).set i .none))
  | .ret d => .ret (.ret d)
  | .brk ρ => .ret (.brk ((clr ρ).set i .none))
  | .ct ρ => .ret (.ct ((clr ρ).set i .none))
  | .rz _ _ _ => .bad
def sTry (i : Nat) (m : Nat → Option Bool) (s u : Sm) : Sm := fun ρ => s ρ >>= fun o => match o with
  | .rz c l ρ' => match m c with
    | some true => u ((clr ρ').set i (.err c l)) >>= outT i
    | some false => .ret (.rz c l ρ')
    | none => .bad
  | o => .ret o
theorem ss_try {x n : Str} {c : Value} {i : Nat} {m : Nat → Option Bool} {body suite : List Stmt} {b₀ : Stmt} {np pos pos' : Pos} {s u : Sm} (h1 : X.stack = X.env :: X.outer) (h2 : X.env.frame = some X.env.locals) (hN : X.N.Nodup) (hi : X.N[i]? = some n) (hln : X.env.kindOf n = some .local) (hc : Names X x c) (tk : Takes X W)
    (hm : ∀ k b, m k = some b → PySem.W.exmOne X.K (.ref (G.cls k)) c = some b)
    (hb : ∀ (W : WX) (pn : List (Addr × Obj)) (xe : Value → Shared → Prop), Takes (X.tr pn xe) W → SSs (X.tr pn xe) G W hs body s)
    (hu : ∀ (a : Addr) (oe : Obj) (cls : Value) (d : Option Addr) (pn : List (Addr × Obj)), Zc cls d oe → (∃ vs, oe.data = .fields vs) → SSs (X.suite a ((a, oe) :: pn)) (G.to (some (a, cls, d)) G.fa) (fun _ _ _ _ => False) hs (b₀ :: suite) u) :
    SS X G W hs (.Try body [.ExceptHandler (some (.Name x np)) (some n) (b₀ :: suite) pos'] [] [] pos) (sTry i m s u) := by
  refine PS_imp (ps_try_as (i := i) (tb := fun W => tSS X G W hs s) (ts := fun a cls d => tSS X (G.to (some (a, cls, d)) G.fa) (fun _ _ _ _ => False) hs u) h1 h2 hN hi hln hc tk
    (fun W pn xe tk' _ => PSs_imp (hb W pn xe tk') fun Dn σ H q => tSS.cx (X := X) (Y := X.tr pn xe) rfl q) (fun a oe cls d pn z f => PSs_imp (hu a oe cls d pn z f) fun Dn σ H q => tSS.cx (X := X) (Y := X.suite a ((a, oe) :: pn)) rfl q)) fun Dn σ H q => ?_
  obtain ⟨ρ, hd, R, q⟩ := q
  refine ⟨ρ, hd, R, T.wp_imp (wp_then q) fun o q1 => ?_⟩
  cases o with
  | nx ρ' => exact q1
  | ret d => exact q1
  | brk ρ' => exact q1
  | ct ρ' => exact q1
  | rz k l ρ' =>
    intro hd1 cls dx σ1 H1 R1 x1 E1
    have q2 : (match m k with
      | some true => u ((clr ρ').set i (.err k l)) >>= outT i
      | some false => T.ret (.rz k l ρ')
      | none => .bad).wp (oQ X G W hs Dn hd H) (fun _ _ => False) := q1
    cases e : m k with
    | none =>
      rw [e] at q2
      exact q2.elim
    | some b =>
      rw [e] at q2
      have ex := hm k b e
      have ecls := E1.1
      refine ⟨b, by rw [ecls]; exact ex, fun hb' a na => ?_, fun hb' => ?_⟩
      · rw [hb'] at q2
        have S1 : SRep X (G.to (some (a, cls, dx)) G.fa) hs hd1 σ1 (clr ρ') H1 := SRep.clear (x' := G.ea) R1
        have S2 := S1.put (i := i) (s := .err k l) (v := some (.ref a)) rfl ⟨a, cls, dx, rfl, rfl, by rw [err_er]; exact E1⟩
        refine ⟨_, hd1, S2, T.wp_imp (wp_then q2) fun o z => ?_⟩
        have back : ∀ {hd2 : Addr → Prop} {σ2 : L2.St} {ρ2 : Env} {H2 : Hp}, SRep X (G.to (some (a, cls, dx)) G.fa) hs hd2 σ2 ρ2 H2 → SRep X G hs hd2 (σ2.set i none) ((clr ρ2).set i .none) H2 := fun {hd2 σ2 ρ2 H2} S => by
          have S3 : SRep X (G.to G.ea G.fa) hs hd2 σ2 (clr ρ2) H2 := S.clear
          exact SRep.put (G := G) S3 rfl trivial
        cases o with
        | nx ρ2 => exact fun hd2 σ2 H2 S x2 => z hd2 _ H2 (back S) (x1.trans x2)
        | ret d =>
          intro v H2 j L2' a2
          rw [leadS_er] at L2'
          exact z v H2 j L2' a2.re
        | brk ρ2 => exact fun hd2 σ2 H2 S x2 => z hd2 _ H2 (back S) (x1.trans x2)
        | ct ρ2 => exact fun hd2 σ2 H2 S x2 => z hd2 _ H2 (back S) (x1.trans x2)
        | rz k2 l2 ρ2 => exact z.elim
      · rw [hb'] at q2
        exact q2 hd1 cls dx σ1 H1 R1 x1 E1
end
end Py
set_option Elab.async false
set_option linter.all false
set_option maxRecDepth 100000
set_option maxHeartbeats 4000000
namespace Py
namespace Er
open PySem PySem.W PySem.Spec PySem.Calls PyProof.Rows
/-- what isinstance asks of the class D of a caught error -/
structure Asked (K : Frag) (D : Addr) : Prop where
  ga : findIn K (.ref D) "__getattribute__" = some (some (.builtin "BaseException.__getattribute__"))
  gg : findIn K (.ref D) "__getattr__" = some none
  sub : subIn K (.ref D) (.type "BaseException") = some true
  dict : hasDictIn K D = true
  kl : findIn K (.ref D) "__class__" = some (some (.builtin "object.__class__"))
  get : specialIn K (.builtin "object.__class__") "__get__" = some (some (.builtin "getset_descriptor.__get__"))
  set : takesIn K (.builtin "object.__class__") = some true
  obj : mroIn K D (.type "object") = some true
section
variable {prog : Program} {w : World} {A : Around} {E : Value → Shared → Prop} {s : Shared} {K : Frag} {x D : Addr} {ox : Obj}
theorem Asked.there (T : Asked K D) : ∃ cd, clsIn K D = some cd := by
  obtain ⟨cd, h, _⟩ := any_some T.dict
  exact ⟨cd, h⟩
theorem class_of {od : Obj} {Q : Option Value → Shared → Prop} (T : Asked K D) (kin : K.In s.heap) (at_ : InstAt s.heap x ox D (some od)) (k : Q (some (.ref D)) { s with toks := s.toks + 1 }) :
    wpAny (model prog w) A (getAttr? (.ref x) "__class__") Q E s := by
  obtain ⟨cd, hc⟩ := T.there
  have fo : findObj K D (some od) "__class__" = some (.bind (.builtin "getset_descriptor.__get__") (.builtin "object.__class__")) := findObj_data (by rw [hc]; rfl) T.kl T.get T.set
  obtain ⟨hp, gs, dr, tk, os⟩ := s
  have l0 := at_.type (M := model prog w)
  have lga := looks_findIn (M := model prog w) kin T.ga
  have lgg := looks_findIn (M := model prog w) kin T.gg
  have lf := looks_find (M := model prog w) kin at_ fo
  have isB : Looks (model prog w) hp (isInstance (.ref x) (.type "BaseException")) true := l0.andThen (looks_subIn kin T.sub)
  have n1 : (Value.builtin "BaseException.__getattribute__" == Value.builtin "object.__getattribute__") = false := by decide +kernel
  have n2 : (onTheHeap (Value.ref D) && Value.builtin "BaseException.__getattribute__" == Value.builtin "object.__getattribute__") = false := by
    rw [n1]
    rfl
  have n3 : (false && onTheHeap (Value.builtin "BaseException.__getattribute__")) = false := rfl
  unfold getAttr? getAttrBy? getAttrBy
  refine wpAny_bind (wpAny_mkText (wpAny_bind (wpAny_attempt (wpAny_holding ?_))))
  refine wpAny_bind (l0.at (wpAny_bind (lga.at ?_)))
  show wpAny _ _ (if (onTheHeap (Value.ref D) && Value.builtin "BaseException.__getattribute__" == Value.builtin "object.__getattribute__") = true then _
    else _) _ _ _
  rw [n2, if_neg Bool.false_ne_true]
  unfold getAttrByItsOwn hookBefore
  refine wpAny_bind ?_
  rw [if_pos (show onTheHeap (Value.ref D) = true by rfl)]
  refine lgg.at (wpAny_bind (wpAny_attempt (wpAny_holding ?_)))
  unfold callGetattribute
  rw [n3, if_neg Bool.false_ne_true]
  unfold boundAndCalled
  have bs := PySem.F.excAttr_ValueError.ga
  rw [bs.bind (.ref x)]
  refine wpAny_bind (wpAny_pure ?_)
  show wpAny _ _ (call (.builtin "BaseException.__getattribute__") [.ref x, .str "__class__" tk])
    _ _ _
  refine wpAny_call (codeAny_call_builtin bs.plain PySem.F.entry_bexc_ga ?_)
  have ar := PySem.F.args_bexc_ga (.ref x) (.str "__class__" tk)
  refine @check_slot (model prog w) _ _ ⟨hp, gs, dr, tk + 1, os⟩ "BaseException.__getattribute__" "BaseException" "__getattribute__" (.ref x)
    [.str "__class__" tk] [] _ (by decide +kernel) (by decide +kernel) isB ar ?_
  unfold Builtin.«object.__getattribute__»
  refine wpAny_bind (wpAny_of_eq (a := ((Value.ref x : Value), [Value.str "__class__" tk])) (by first | rfl | (simp only [slotArgs]; rfl)) ?_)
  refine wpAny_bind (wpAny_pure (wpAny_bind ?_))
  refine l0.at (wpAny_bind (lf.at ?_))
  show wpAny _ _ (holding [Value.builtin "object.__class__"] (call (.builtin "getset_descriptor.__get__") [.builtin "object.__class__", .ref x, .ref D])
    >>= ret) _ _ _
  refine wpAny_bind (wpAny_holding (wpAny_call (class_get (s := ⟨hp, gs, dr, tk + 1, os⟩) (od := some od) kin at_ T.obj ?_)))
  refine wpAny_pure ?_
  show wpAny _ _ (handedOut (.ref D)) _ _ _
  rw [handedOut_of (v := .ref D) rfl]
  first
    | exact wpAny_pure (wpAny_pure k)
    | exact wpAny_pure k
    | exact wpAny_pure (wpAny_bind (wpAny_pure (wpAny_pure k)))
theorem kit (T : Asked K D) {od : Obj} : KitX K (.ref x) (.ref D) (fun h => InstAt h x ox D (some od)) where
  ty := fun _ _ _ at_ => at_.type
  it := fun _ _ kin _ => by
    obtain ⟨cd, hc⟩ := T.there
    unfold clsIn at hc
    split at hc
    · rename_i c' d' cd' sl' ho
      intro A' Q' E' s' kp q
      unfold isType loadHead
      exact wpAny_bind (wpAny_loadPart (kp _ _ (kin _ _ ho)) (wpAny_pure q))
    · cases hc
  ne := fun h tp dd its n sl kin e => by
    obtain ⟨cd, hc⟩ := T.there
    unfold clsIn at hc
    split at hc
    · rename_i c' d' cd' sl' ho
      refine Bool.eq_false_iff.mpr fun q => ?_
      have z : D = tp := Value.ref.inj (beq_iff_eq.mp q)
      subst z
      have z := (kin _ _ ho).symm.trans e
      cases z
    · cases hc
  ca := fun kin at_ k => class_of T kin at_ k
end
end Er
open PySem PySem.Spec L2 PyProof.Rows
section
variable {X : Cx} {G : Gl} {W : WX} {hs : Hid}
/-! ### the error of a suite -/
/-- the error's own field -/
def gXf (i c k : Nat) : Env → T D := fun ρ => match ρ[i]? with
  | some (.err c' l) => if c' = c then opt l[k]? else .bad
  | _ => .bad
theorem err_at {hd : Addr → Prop} {σ : L2.St} {ρ : Env} {H : Hp} {i c : Nat} {l : List D} (R : Rep G hd σ ρ H) (e : ρ[i]? = some (.err c l)) : ∃ a cls dx, σ[i]? = some (some (.ref a)) ∧ G.ea = some (a, cls, dx) ∧ ErrAt G (hide hd H) c l cls dx := by
  have hi : i < σ.length := by
    rw [← R.len]
    exact (List.getElem?_eq_some_iff.mp e).1
  obtain ⟨a, cls, dx, e1, e2, r⟩ := R.at_ i _ _ e (List.getElem?_eq_getElem hi)
  exact ⟨a, cls, dx, by rw [List.getElem?_eq_getElem hi, e1], e2, r⟩
theorem gXf_wp {i c k : Nat} {ρ : Env} {Q : D → Prop} {E : Nat → List D → Prop} (h : (gXf i c k ρ).wp Q E) : ∃ l d, ρ[i]? = some (.err c l) ∧ l[k]? = some d ∧ Q d := by
  unfold gXf at h
  cases e : ρ[i]? with
  | none =>
    rw [e] at h
    exact h.elim
  | some s =>
    rw [e] at h
    cases s with
    | err c' l =>
      obtain ⟨hc, q⟩ := wp_if h
      subst hc
      obtain ⟨d, e1, q⟩ := wp_opt q
      exact ⟨l, d, rfl, e1, q⟩
    | _ => exact h.elim
theorem ee_xf {a : Addr} {oe : Obj} {cls : Value} {d : Option Addr} {y0 : Option (Addr × Up)} {pn : List (Addr × Obj)} {e : Expr} {i c k : Nat} {f : Str} {pos : Pos} (T : XfC X.K (G.cls c)) (hno : PySem.W.findIn X.K (.ref (G.cls c)) f = some none) (hk : nsIx (G.flds c) f = some k)
    (hz : Zc cls d oe) (hf : ∃ vs, oe.data = .fields vs) (he : PE (X.suite a ((a, oe) :: pn)) e (tVar i)) (hb : attributeBase e f X.env (eval e X.env) = eval e X.env := by rfl) :
    EE (X.suite a ((a, oe) :: pn)) (G.to (some (a, cls, d)) y0) W (.Attribute e f pos) (gXf i c k) := by
  refine PE_imp (pe_xf T hno hz hf he hb) fun σ H Q q => ?_
  obtain ⟨ρ, hd, R, q⟩ := q
  obtain ⟨l, y, e1, e2, q⟩ := gXf_wp q
  obtain ⟨a', cls', dx', e3, e4, r⟩ := err_at R e1
  have e4 : some (a, cls, d) = some (a', cls', dx') := e4
  cases e4
  obtain ⟨e5, r⟩ := r
  rcases r with ⟨e6, _⟩ | ⟨dx, fs, e6, e7, e8, r⟩
  · have e6 : G.flds c = [] := e6
    rw [e6] at hk
    cases hk
  · have e8 : fs.map (·.1) = G.flds c := e8
    obtain ⟨v, e9, av⟩ := r.get' e2
    exact ⟨.ref a, e3, rfl, e5, dx, fs, v, e6, hide_sub _ _ e7, by rw [lookup_ix (by rw [e8]; exact hk), e9], q v H (Lead.refl H) av⟩
/-- isinstance(e, C) of it -/
def gXi (i : Nat) (m : Nat → Option Bool) : Env → T D := fun ρ => match ρ[i]? with
  | some (.err c _) => opt ((m c).map D.bl)
  | _ => .bad
theorem gXi_wp {i : Nat} {m : Nat → Option Bool} {ρ : Env} {Q : D → Prop} {E : Nat → List D → Prop} (h : (gXi i m ρ).wp Q E) : ∃ c l b, ρ[i]? = some (.err c l) ∧ m c = some b ∧ Q (.bl b) := by
  unfold gXi at h
  cases e : ρ[i]? with
  | none =>
    rw [e] at h
    exact h.elim
  | some s =>
    rw [e] at h
    cases s with
    | err c' l =>
      obtain ⟨d, e1, q⟩ := wp_opt h
      cases e2 : m c' with
      | none =>
        rw [e2] at e1
        cases e1
      | some b =>
        rw [e2] at e1
        cases e1
        exact ⟨c', l, b, rfl, e2, q⟩
    | _ => exact h.elim
def rXi (K : PySem.W.Frag) (cls : Value) (d : Option Addr) (a : Addr) : List V → Hp → VK → Prop := fun xs H Q => ∃ (D dd : Addr) (fs : List (Str × V)) (c : V) (u : Value) (b : Bool), cls = .ref D ∧ d = some dd ∧ H dd = some (.xd fs) ∧ Er.Asked K D ∧
  xs = [.ref a, c] ∧ ClsV c u ∧ PySem.W.kitOne K (.ref D) u = some b ∧ Q (.bl b) H
theorem call_xi {a : Addr} {oe : Obj} {cls : Value} {d : Option Addr} {pn : List (Addr × Obj)} (hz : Zc cls d oe) (hf : ∃ vs, oe.data = .fields vs) : CallR (X.suite a ((a, oe) :: pn)) (.builtin "isinstance") (rXi X.K cls d a) := by
  intro pins s σ H xs us Q I r h
  obtain ⟨D, dd, fs, c, u, b, rfl, rfl, ed, T, rfl, k, e, q⟩ := h
  obtain ⟨u1, u2, rfl, r1, r2⟩ := vals2 r
  cases (show u1 = Value.ref a from r1)
  have e2 := k.eq r2
  subst e2
  obtain ⟨hget, _⟩ := I.pin (a, oe) (List.mem_append_left _ List.mem_cons_self)
  obtain ⟨vs, hd⟩ := hf
  have hx : ObjOk X.prog X.w H s.heap dd (.xd fs) := I.hok dd _ ed
  obtain ⟨mA, hns, _⟩ := hx
  obtain ⟨od, ho, _⟩ := lookIn_ns hns
  have J : PySem.W.InstAt s.heap a oe D (some od) := ⟨hget, hz.1, by unfold PySem.W.notCls; rw [hd] <;> rfl, by rw [hz.2]; exact ho⟩
  exact PySem.W.kia_one (Er.kit T) I.kIn J e (fun z => nomatch z) fun tk => ⟨.bl b, H, I.kept (t' := tk) fun _ _ z => z, rfl, q⟩
theorem ee_xi {a : Addr} {oe : Obj} {cls : Value} {d : Option Addr} {y0 : Option (Addr × Up)} {pn : List (Addr × Obj)} {e c : Expr} {i : Nat} {p pos : Pos} {cv : V} {u : Value} {m : Nat → Option Bool} (hm : ∀ k b, m k = some b → G.flds k ≠ [] ∧ Er.Asked X.K (G.cls k) ∧ PySem.W.kitOne X.K (.ref (G.cls k)) u = some b)
    (hz : Zc cls d oe) (hf : ∃ vs, oe.data = .fields vs) (hg : L2.Gl X "isinstance") (hm' : X.mg "isinstance" = none) (he' : PE (X.suite a ((a, oe) :: pn)) e (tVar i)) (hc : PE (X.suite a ((a, oe) :: pn)) c (tC cv)) (k : ClsV cv u)
    (he : starEach [e, c] X.env = (false, eval e X.env) :: starEach [c] X.env := by rfl) (hec : starEach [c] X.env = (false, eval c X.env) :: starEach [] X.env := by rfl) (hpl : (backTo pos (starEach [c] X.env)).any (·.1) = false := by rfl) :
    EE (X.suite a ((a, oe) :: pn)) (G.to (some (a, cls, d)) y0) W (.Call (.Name "isinstance" p) [e, c] [] pos) (gXi i m) := by
  have hg' : L2.Gl (X.suite a ((a, oe) :: pn)) "isinstance" := hg
  refine PE_imp (pe_callB (call_xi hz hf) hg' hm' (by decide +kernel) (pa_cons he' (pa_cons hc pa_nil hec) he) (by decide) (by decide) he hpl) fun σ H Q q => ?_
  obtain ⟨ρ, hd, R, q⟩ := q
  obtain ⟨n, l, b, e1, e2, q⟩ := gXi_wp q
  obtain ⟨a', cls', dx', e3, e4, r⟩ := err_at R e1
  have e4 : some (a, cls, d) = some (a', cls', dx') := e4
  cases e4
  obtain ⟨e5, r⟩ := r
  obtain ⟨h1, h2, h3⟩ := hm n b e2
  rcases r with ⟨e6, _⟩ | ⟨dx, fs, e6, e7, e8, r⟩
  · exact absurd e6 h1
  · exact ⟨.ref a, e3, G.cls n, dx, fs, cv, u, b, e5, e6, hide_sub _ _ e7, h2, rfl, k, h3, q (.bl b) H (Lead.refl H) .bl⟩
end
end Py
set_option Elab.async false
set_option linter.all false
set_option maxRecDepth 100000
set_option maxHeartbeats 4000000
namespace Py
open PySem PySem.Spec PyProof.Rows L2 LamX
/-! ### a lambda without parameters, handed to a def with one -/
section
variable {X : Cx} {pins : List (Addr × Obj)} {σ : L2.St} {H : Hp} {s : Shared}
/-- the lambda's name -/
abbrev lq (X : Cx) : Str := X.env.qual ++ "<lambda>"
abbrev lobj (X : Cx) (ps : Arguments) (b : Expr) (sc : Scope) (pm : Value) (c' : Addr) (ct : Value) : Obj := PySem.W.kla_obj "<lambda>" (lq X) ps b sc (cloFrom X.env.cells sc.names []) pm c' ct
/-- the context of the def that got it -/
abbrev gCx (X : Cx) (Ng : List Str) (qg : Str) (sg : Scope) (g : Addr) (cg : Value) (s : Shared) (H : Hp) (Eg : XK) : Cx := cxOf (L2.CX X.prog X.w) X.prog X.w X.K X.mg X.base Ng qg sg g cg X.A X.stack s H Eg
/-- what the lambda's body is read as, wherever it runs -/
def BodyOk (X : Cx) (k : Nat) (sc : Scope) (f c' : Addr) (b : Expr) (tb : XK → TE) : Prop := ∀ (A : Around) (outer : List PySem.Env) (s : Shared) (H : Hp) (E : XK), Room k (A.deeper (lamEnv X sc s.heap.objs.size f c')) → PE (lamCx X A outer s H E sc f c') b (tb E)
/-- a(), in that def -/
theorem act {Eg : XK} {Ng : List Str} {qg a : Str} {sg sc : Scope} {g f c' : Addr} {cg pm ct : Value} {ps : Arguments} {b : Expr} {k i : Nat} {pn : List (Addr × Obj)} {xe : Value → Shared → Prop} {W : WX} {tb : XK → TE} {p1 p2 : Pos}
    (I : Inv X pins σ H s) (L : LamS X.env.scope sc) (ho : s.heap.get? f = some (lobj X ps b sc pm c' ct)) (nf : H f = none) (nfr : f ∉ frs X.stack)
    (bd : bindArgs (PySem.W.kla_fn "<lambda>" (lq X) ps b sc (cloFrom X.env.cells sc.names []) pm (.ref c') ct) ⟨[], []⟩ = pure [])
    (tk : Takes ((gCx X Ng qg sg g cg s H Eg).tr pn xe) W) (rm : Room (k + 1) (X.A.deeper (envOfC qg sg s.heap.objs.size g cg))) (hb : BodyOk X k sc f c' b tb)
    (hN : Ng[i]? = some a) (hv : Vis sg a) (h1 : (a == ("__debug__" : Str)) = false := by decide) (h2 : (a == ("__classdict__" : Str)) = false := by decide) :
    PE ((gCx X Ng qg sg g cg s H Eg).tr pn xe) (.Call (.Name a p1) [] [] p2) (fun σz Hz Q => σz[i]? = some (some (.ref f)) ∧ Hz c' = some (CodeO c' (lq X)) ∧ tb (fun cls d H' => W cls d σz H') σ Hz Q) := by
  refine ⟨fun pz sz σz Hz Q Iz h => ?_⟩
  obtain ⟨e1, e2, e3⟩ := h
  have name := (pe_var (pos := p1) (i := i) hN hv h1 h2).run pz sz σz Hz (fun v H1 => v = .ref f ∧ H1 = Hz) Iz ⟨.ref f, e1, rfl, rfl⟩
  refine wpAny_Call_Name_kw (thn name fun u s1 y => ?_)
  obtain ⟨v, H1, I1, rv, ev, eH⟩ := y
  subst ev
  subst eH
  cases (show u = Value.ref f from rv)
  have ho1 : s1.heap.get? f = some (lobj X ps b sc pm c' ct) := by
    have keep := I1.base.keep f _ ho nf nfr
    exact keep (fun z => nomatch (show f ∈ ([] : List Addr) from z))
  refine PySem.W.callWith_F0 ⟨_, _, _, _, ho1⟩ ?_
  have un : Un (frs X.stack) [] H H1 s.heap s1.heap := I1.base
  obtain ⟨⟨oc, vs, t, hoc, hdc, hvc⟩, _⟩ := I1.hok c' _ e2
  have run : codeAny (model X.prog X.w) (X.A.deeper (envOfC qg sg s.heap.objs.size g cg)) (.call (.ref f) ⟨[], []⟩)
      (CR (L2.CX X.prog X.w) (envOfC qg sg s.heap.objs.size g cg :: X.stack) X.prog X.w H1 s1 Q (fun cls d H' => W cls d σz H')) s1 := by
    refine PySem.W.kla_callFunE rm.depth ho1 rfl L.co L.gen rfl ⟨c', oc, vs, t, rfl, hoc, hdc, hvc⟩ ?_
    rw [bd]
    refine wpAny_pure (wpAny_newFunctionEnv (fun y hy => (L.own y hy).2) (fun y hy => absurd hy (by simp)) (fun h₁ hns hsb => ?_) L.kind)
    refine ⟨I1.nolimit.fresh _ hsb, ?_⟩
    show codeAny _ _ (.expr b (lamEnv X sc s1.heap.objs.size f c')) _ _
    have kp : ∀ x o, s1.heap.get? x = some o → h₁.get? x = some o := fun x o e => by
      have ne := Nat.ne_of_lt (Heap.lt_size e)
      exact hsb.extBut x o ne (Heap.get?_push_of_some _ e)
    have J := lam_start2 (tk := s1.toks + ([] : List (Str × Value)).length) (E := fun cls d H' => W cls d σz H') (f := f) (c' := c') I L I1.env0 rm.hd un hns kp
    have body := (hb (X.A.deeper (envOfC qg sg s.heap.objs.size g cg)) (envOfC qg sg s.heap.objs.size g cg :: X.stack) s1 H1 (fun cls d H' => W cls d σz H') (rm.deeper _)).run [] _ _ H1 Q J e3
    refine PySem.W.kla_codeExpr (wpAny_mono body (fun v s' hq => ?_) fun e s' hq => hq)
    obtain ⟨w', H', J', rv', q⟩ := hq
    exact ⟨w', H', J'.os, J'.bare, J'.base, J'.hok, rv', q⟩
  refine wpAny_call (codeAny_mono run fun r s' hq => ?_)
  cases r with
  | error e => exact passAt tk σz pz H1 s1 e s' I1 hq
  | ok fl =>
    cases fl with
    | ret u => exact I1.after hq
    | next => exact hq.elim
    | brk => exact hq.elim
    | cont => exact hq.elim
end
/-- what a lambda sees of the slots -/
def seen (ρ : Env) : Env := ρ.map fun s => match s with
  | .val d => .val d
  | _ => .none
theorem seen_at {ρ : Env} {k : Nat} {s : Slot} (e : (seen ρ)[k]? = some s) : s = .none ∨ ∃ d, s = .val d ∧ ρ[k]? = some (.val d) := by
  unfold seen at e
  rw [List.getElem?_map] at e
  cases q : ρ[k]? with
  | none =>
    rw [q] at e
    cases e
  | some s' =>
    rw [q] at e
    cases e
    cases s' with
    | val d => exact .inr ⟨d, rfl, rfl⟩
    | _ => exact .inl rfl
/-- x(), x the parameter at i -/
def gThk (i : Nat) (th : T D) : Env → T D := fun ρ => match ρ[i]? with
  | some .thk => th
  | _ => .bad
theorem gThk_wp {i : Nat} {th : T D} {ρ : Env} {Q : D → Prop} {E : Nat → List D → Prop} (h : (gThk i th ρ).wp Q E) : ρ[i]? = some .thk ∧ th.wp Q E := by
  unfold gThk at h
  cases e : ρ[i]? with
  | none =>
    rw [e] at h
    exact h.elim
  | some s =>
    rw [e] at h
    cases s with
    | thk => exact ⟨rfl, h⟩
    | _ => exact h.elim
/-- what the lambda wants: its code object, the values that it sees -/
def wants (G : Gl) (q : Str) (c' : Addr) (σ : L2.St) (ρ : Env) : Up := ⟨fun H => H c' = some (CodeO c' q) ∧ ∀ (i : Nat) (d : D) (v : Option V), ρ[i]? = some (.val d) → σ[i]? = some v → ∃ x, v = some x ∧ At G H d x,
  fun H H' e h => ⟨e _ _ h.1, fun i d v h1 h2 => by
    obtain ⟨x, e1, a⟩ := h.2 i d v h1 h2
    exact ⟨x, e1, a.mono e⟩⟩⟩
section
variable {X : Cx} {G : Gl} {W : WX}
theorem ee_thk {pins : List (Addr × Obj)} {σ : L2.St} {H : Hp} {s : Shared} {Eg : XK} {Ng : List Str} {qg a : Str} {sg sc : Scope} {g f c' : Addr} {cg pm ct : Value} {ps : Arguments} {b : Expr} {k i : Nat} {pn : List (Addr × Obj)} {xe : Value → Shared → Prop} {p1 p2 : Pos} {fb : Env → T D} {ρ : Env} {ea : Option (Addr × Value × Option Addr)}
    (I : Inv X pins σ H s) (L : LamS X.env.scope sc) (ho : s.heap.get? f = some (lobj X ps b sc pm c' ct)) (nf : H f = none) (nfr : f ∉ frs X.stack)
    (bd : bindArgs (PySem.W.kla_fn "<lambda>" (lq X) ps b sc (cloFrom X.env.cells sc.names []) pm (.ref c') ct) ⟨[], []⟩ = pure [])
    (tk : Takes ((gCx X Ng qg sg g cg s H Eg).tr pn xe) W) (rm : Room (k + 1) (X.A.deeper (envOfC qg sg s.heap.objs.size g cg)))
    (hb : BodyOk X k sc f c' b (fun E => tEE G (fun cls dx _ H' => E cls dx H') fb)) (hl : ρ.length = σ.length)
    (hN : Ng[i]? = some a) (hv : Vis sg a) (h1 : (a == ("__debug__" : Str)) = false := by decide) (h2 : (a == ("__classdict__" : Str)) = false := by decide) :
    EE ((gCx X Ng qg sg g cg s H Eg).tr pn xe) (G.to ea (some (f, wants G (lq X) c' σ (seen ρ)))) W (.Call (.Name a p1) [] [] p2) (gThk i (fb (seen ρ))) := by
  refine PE_imp (act I L ho nf nfr bd tk rm hb hN hv h1 h2) fun σz Hz Q q => ?_
  obtain ⟨ρz, hd, R, q⟩ := q
  obtain ⟨e1, q⟩ := gThk_wp q
  have hi : i < σz.length := by
    rw [← R.len]
    exact (List.getElem?_eq_some_iff.mp e1).1
  obtain ⟨f', Q', e2, e3, w⟩ := R.at_ i _ _ e1 (List.getElem?_eq_getElem hi)
  have e3 : some (f, wants G (lq X) c' σ (seen ρ)) = some (f', Q') := e3
  cases e3
  obtain ⟨w1, w2⟩ := w
  refine ⟨by rw [List.getElem?_eq_getElem hi, e2], hide_sub _ _ w1, seen ρ, hd, ⟨R.j, R.m, ?_, ?_, fun j s v h3 h4 => ?_, fun j m l v h3 _ _ _ => ?_⟩, T.wp_mono q (fun d z v H' e a => ?_) fun c l z cls dx H' e a => ?_⟩
  · have := R.live
    rw [live_er] at this
    exact this
  · unfold seen
    rw [List.length_map, hl]
  · rcases seen_at h3 with rfl | ⟨d, rfl, h5⟩
    · trivial
    · obtain ⟨x, e5, a5⟩ := w2 j d v h3 h4
      exact ⟨x, e5, a5⟩
  · rcases seen_at h3 with z | ⟨d, z, _⟩
    · cases z
    · cases z
  · exact z v H' (by rw [lead_er]; exact e) (by rw [at_er]; exact a)
  · exact z cls dx H' (by rw [lead_er]; exact e) (by rw [err_er]; exact a)
/-- the slots at the entry of the def that got it -/
def envT (n : Nat) : Env := Slot.thk :: List.replicate (n - 1) Slot.none
theorem envT_at {n k : Nat} {s : Slot} (e : (envT n)[k]? = some s) : (k = 0 ∧ s = .thk) ∨ s = .none := by
  cases k with
  | zero => exact .inl ⟨rfl, (Option.some.inj e).symm⟩
  | succ k =>
    have e : (List.replicate (n - 1) Slot.none)[k]? = some s := e
    have := List.mem_of_getElem? e
    rw [List.mem_replicate] at this
    exact .inr this.2
/-- THE RULE for x(lambda: body) -/
theorem ee_lamcall {x a : Str} {g c P : Addr} {k : Nat} {pg : Arguments} {bg : List Stmt} {sg : Scope} {dV kV doc pm cdv ct oc : Value} {an od : Option Addr} {osl : Array (Option Value)} {Ng : List Str} {ps : Arguments} {b : Expr} {sc : Scope} {p lpos pos : Pos} {fb : Env → T D} {sT : T D → Sm}
    (hg : L2.Gl X x) (hm : X.mg x = some (.ref g)) (hk : PySem.W.keepIn X.K (.ref g) = true) (lk : X.K.lookup g = some ⟨oc, od, .func (PySem.W.fnOf x x pg bg sg dV kV doc pm an cdv ct), osl⟩) (hcg : PySem.W.codeIn X.K cdv x = true)
    (hbn : L2.Binds X.K (PySem.W.fnOf x x pg bg sg dV kV doc pm an cdv ct) [a] []) (Sg : FnScope Ng [a] sg) (hNg : Ng[0]? = some a) (hva : Vis sg a) (tk : Takes X W)
    (TB : TabB X.base X.mg c P) (hcode : X.env.code = .ref c) (hmT : (P, lq X) ∈ G.tb) (hu : ∀ p ∈ G.tb, p.1 = P → p.2 = lq X) (hr : Room (k + 2) X.A) (L : LamS X.env.scope sc) (hdef : defaultsOf ps X.env = ([], []))
    (bd : ∀ (q : Str) (cl : List (Str × Addr)) (pm cv ctv : Value), bindArgs (PySem.W.kla_fn "<lambda>" q ps b sc cl pm cv ctv) ⟨[], []⟩ = pure [])
    (hb : ∀ (f c' : Addr), BodyOk X k sc f c' b (fun E => tEE G (fun cls dx _ H' => E cls dx H') fb))
    (hgb : ∀ (s : Shared) (H : Hp) (E : XK) (f : Addr) (y : Up) (th : T D) (hs : Hid), Room (k + 1) (X.A.deeper (envOfC x sg s.heap.objs.size g cdv)) →
      (∀ (W : WX) (pn : List (Addr × Obj)) (xe : Value → Shared → Prop) (p1 p2 : Pos), Takes ((gCx X Ng x sg g cdv s H E).tr pn xe) W → EE ((gCx X Ng x sg g cdv s H E).tr pn xe) (G.to G.ea (some (f, y))) W (.Call (.Name a p1) [] [] p2) (gThk 0 th)) →
      SSs (gCx X Ng x sg g cdv s H E) (G.to G.ea (some (f, y))) (fun cls dx _ H' => E cls dx H') hs bg (sT th))
    (hdb : (x == ("__debug__" : Str)) = false := by decide) (h1 : (a == ("__debug__" : Str)) = false := by decide) (h2 : (a == ("__classdict__" : Str)) = false := by decide) :
    EE X G W (.Call (.Name x p) [.Lambda ps b sc lpos] [] pos) (fun ρ => runS (sT (fb (seen ρ)) (envT Ng.length))) := by
  refine ⟨fun pins s σ H Q I h => ?_⟩
  obtain ⟨ρ, hd, R, q⟩ := h
  refine wpAny_Call_Name_kw (ld_glob I hg hm ?_ hdb)
  refine PySem.W.callWith_K (h₀ := X.base) I.ok.mod.kin hk ?_ rfl rfl
  show wpAny _ _ (spliced ((false, eval (.Lambda ps b sc lpos) X.env) :: backTo pos (starEach [] X.env)))
    _ _ s
  refine Calls.spliced_cons (lam_make2 I TB hcode hmT hu (G.tabs H R.j) hdef (L.has I.ok) fun f c' pm' ct' H1 s' I1 eN T1 ho nf nfr hco => ?_)
  refine Calls.spliced_nil ⟨I1.kIn, ?_⟩
  have e1 : Lead G H H1 := ⟨fun b o _ t e => eN b o e t, fun j => G.lam H H1 j eN T1⟩
  have R1 := R.lead e1
  have hl : ρ.length = σ.length := R.len
  have hNl : 0 < Ng.length := (List.getElem?_eq_some_iff.mp hNg).1
  have nh : ¬ hd c' := fun z => by
    by_cases m : G.M c'
    · exact G.code H1 c' _ R1.j hco m
    · have pl := R1.live.nt c' _ z m hco
      exact pl.ne _ _ rfl
  have wn : (wants G (lq X) c' σ (seen ρ)).1 (hide hd H1) := by
    refine ⟨hide_put nh hco codeO_ne, fun i d v h3 h4 => ?_⟩
    rcases seen_at h3 with z | ⟨d', z, h5⟩
    · cases z
    · cases z
      exact R1.at_ i _ v h5 h4
  have st : L2.start Ng [V.ref f] = some (V.ref f) :: List.replicate (Ng.length - 1) none := rfl
  have R0 : Rep (G.to G.ea (some (f, wants G (lq X) c' σ (seen ρ)))) hd (L2.start Ng [V.ref f]) (envT Ng.length) H1 := by
    refine ⟨R1.j, R1.m, by rw [live_er]; exact R1.live, ?_, fun i s v h3 h4 => ?_, fun i m l v h3 _ _ _ => ?_⟩
    · rw [st]
      unfold envT
      rw [List.length_cons, List.length_cons, List.length_replicate, List.length_replicate]
    · rcases envT_at h3 with ⟨rfl, rfl⟩ | rfl
      · rw [st] at h4
        have h4 : some (some (V.ref f)) = some v := h4
        cases h4
        exact ⟨f, _, rfl, rfl, wn⟩
      · trivial
    · rcases envT_at h3 with ⟨_, z⟩ | z
      · cases z
      · cases z
  have run : codeAny (model X.prog X.w) X.A (.call (.ref g) ⟨[.ref f], []⟩) (CR (L2.CX X.prog X.w) X.stack X.prog X.w H1 s' Q (fun cls d H' => W cls d σ H')) s' := by
    refine run_ofS (N := Ng) (ps := [a]) (us := [.ref f]) (vs := [.ref f]) lk hcg Sg hr I1.env0 (hbn s' [.ref f] I1.kIn rfl) (.cons rfl .nil) rfl fun hr' => ?_
    refine ⟨_, hgb s' H1 (fun cls d H' => W cls d σ H') f _ (fb (seen ρ)) ⟨hd, fun _ => False⟩ hr' (fun W' pn xe p1 p2 tk' => ee_thk I1 L ho nf nfr (bd _ _ _ _ _) tk' hr' (hb f c') hl hNg hva h1 h2), envT Ng.length, hd, ⟨R0, LeadS.refl H1, fun _ z => z, ?_, fun _ z => z.elim, fun i l b h3 _ => ?_⟩, ?_⟩
    · have := R1.live.some
      exact this
    · rcases envT_at h3 with ⟨_, z⟩ | z
      · cases z
      · cases z
    · refine T.wp_imp (runS_wp q) fun o z => ?_
      have fin : ∀ {H2 : Hp}, LeadS (G.to G.ea (some (f, wants G (lq X) c' σ (seen ρ)))) (fun _ => False) H1 H2 → Lead G H H2 := fun {H2} e => by
        rw [leadS_er] at e
        exact e1.trans (toLead e)
      cases o with
      | nx ρ' => exact fun hd2 σ2 H2 R2 _ => z _ H2 (fin R2.lead) .non
      | ret d => exact fun v H2 j e a2 => z v H2 (fin e) a2.re
      | brk ρ' => exact z.elim
      | ct ρ' => exact z.elim
      | rz c l ρ' => exact fun hd2 cls dx σ2 H2 R2 _ a2 => z cls dx H2 (fin R2.lead) (by rw [err_er] at a2; exact a2.mono (hide_le R2.sub))
  refine wpAny_call (codeAny_mono run fun r s2 hq => ?_)
  cases r with
  | error e => exact passAt tk σ pins H1 s' e s2 I1 hq
  | ok fl =>
    cases fl with
    | ret u => exact I1.after hq
    | next => exact hq.elim
    | brk => exact hq.elim
    | cont => exact hq.elim
end
end Py
set_option Elab.async false
set_option linter.all false
set_option maxRecDepth 100000
set_option maxHeartbeats 4000000
namespace Py
open PySem PySem.Spec PyProof.Rows L2
section
variable {X : Cx} {G : Gl} {W : WX} {hs : Hid}
/-! ### kinds of values, own classes among them -/
inductive Ty where
  | ty (n : String) | own (c : Nat)
deriving DecidableEq
def tyD : D → Option Ty
  | .obj c _ => some (.own c)
  | d => (kindN d).map .ty
def valT (cls : Nat → Addr) : Ty → Value
  | .ty n => .type n
  | .own c => .ref (cls c)
/-- what isinstance asks of an own class -/
structure OwnC (K : PySem.W.Frag) (C : Addr) : Prop where
  cl : Cls K C
  ha : PySem.W.findIn K (.ref C) "__class__" = some (some (.builtin "object.__class__"))
  hn : PySem.W.specialIn K (.builtin "object.__class__") "__get__" = some (some (.builtin "getset_descriptor.__get__"))
  ht : PySem.W.takesIn K (.builtin "object.__class__") = some true
  hm : PySem.W.mroIn K C (.type "object") = some true
theorem ty_of (hK : G.K = X.K) {H : Hp} {hd : Addr → Prop} {d : D} {x : V} {t : Ty} (own : ∀ c, t = .own c → OwnC X.K (G.cls c)) (a : At G (hide hd H) d x) (e : tyD d = some t) : TyX X.K H x (valT G.cls t) := by
  have gen : (∀ c l, d ≠ .obj c l) → (kindN d).map Ty.ty = some t → TyX X.K H x (valT G.cls t) := fun _ e => by
    cases q : kindN d with
    | none =>
      rw [q] at e
      cases e
    | some n =>
      rw [q] at e
      cases e
      exact kind_ty hK a q
  cases d with
  | obj c l =>
    have e : some (Ty.own c) = some t := e
    cases e
    have o := own c rfl
    cases a with
    | obj h1 h2 h3 => exact .base (.ins (hide_sub _ _ h1) o.cl o.ha o.hn o.ht o.hm)
  | non => exact gen (fun _ _ z => nomatch z) e
  | bl b => exact gen (fun _ _ z => nomatch z) e
  | int i => exact gen (fun _ _ z => nomatch z) e
  | str y => exact gen (fun _ _ z => nomatch z) e
  | tup l => exact gen (fun _ _ z => nomatch z) e
  | lst l => exact gen (fun _ _ z => nomatch z) e
  | dic k v => exact gen (fun _ _ z => nomatch z) e
  | dicN k v => exact gen (fun _ _ z => nomatch z) e
  | deck => exact gen (fun _ _ z => nomatch z) e
/-- isinstance against u, by the value's kind -/
def ansD (tab : Ty → Option Bool) : D → Option Bool := fun d => (tyD d).bind tab
theorem ans_d (hK : G.K = X.K) {u : Value} {tab : Ty → Option Bool} (own : ∀ c, (tab (.own c)).isSome = true → OwnC X.K (G.cls c)) (h : ∀ t b, tab t = some b → PySem.W.kitOne X.K (valT G.cls t) u = some b) : Answers X G u (ansD tab) := fun H hd d x b a e => by
  unfold ansD at e
  cases q : tyD d with
  | none =>
    rw [q] at e
    cases e
  | some t =>
    rw [q] at e
    have e : tab t = some b := e
    refine ⟨_, ty_of hK (fun c z => own c ?_) a q, h t b e⟩
    rw [← z, e]
    rfl

/-! ### own == and len -/
theorem run_any {A : Around} {k : Nat} {f : Addr} {fd : FuncData} {ps : List Str} {sp : Sp} {pins : List (Addr × Obj)} {σ : L2.St} {H : Hp} {s : Shared} {Q : VK} {us : List Value} {vs : List V} (F : FnOk X.prog X.w X.K X.mg X.base (L2.CX X.prog X.w) k f fd ps sp) (hA : A.frames = X.A.frames) (hr : Room k A) (hb : Binds X.K fd ps [])
    (I : Inv X pins σ H s) (r : Vals vs us) (h : sp vs H Q (fun _ _ _ => False)) : wpAny (model X.prog X.w) A (call (.ref f) us) (EP X pins σ Q) X.xe s := by
  have e := I.env0
  have e0 : Env0 X.prog X.w X.K X.mg X.base A X.stack s H := ⟨hA.trans e.frames, e.mod, e.bs, e.bsz, e.funs, e.frf, e.hok, e.bare⟩
  have hl : us.length = ps.length := by
    rw [← r.length]
    exact F.len _ _ _ _ h
  have b := hb s us I.kIn (by rw [List.append_nil]; exact hl)
  rw [List.append_nil] at b
  refine wpAny_call (codeAny_mono (F.run A X.stack s H ⟨us, []⟩ us vs Q _ hr e0 b r h) fun r s' hq => ?_)
  cases r with
  | error e =>
    obtain ⟨_, _, _, _, _, _, _, _, _, _, _, _, z⟩ := hq
    exact z.elim
  | ok fl =>
    cases fl with
    | ret u => exact I.after hq
    | next => exact hq.elim
    | brk => exact hq.elim
    | cont => exact hq.elim
def asI : D → T D
  | .int n => if 0 ≤ n ∧ n < 4611686018427387904 then .ret (.int n) else .bad
  | _ => .bad
/-- len(x), x of an own class -/
def lenO (c : Nat) (m : List D → T D) : D → T D
  | .obj c' l => if c' = c then noexc (m [.obj c' l]) >>= asI else .bad
  | _ => .bad
/-- a one-place call of the built-in id that runs t -/
def Runs1 (X : Cx) (G : Gl) (f : Value) (t : D → T D) : Prop := ∀ (pins : List (Addr × Obj)) (s : Shared) (σ : L2.St) (H : Hp) (hd : Addr → Prop) (a : D) (x : V) (u : Value) (Q : VK), Inv X pins σ H s → Good G hd H → At G (hide hd H) a x → RelV x u →
  (t a).wp (fun d => ∀ v H', Lead G H H' → At G (hide hd H') d v → Q v H') (fun _ _ => False) → wpAny (model X.prog X.w) X.A (call f [u]) (EP X pins σ Q) X.xe s
theorem runs_len {k c : Nat} {f : Addr} {fd : FuncData} {ps : List Str} {m : List D → T D} (F : FnOk X.prog X.w X.K X.mg X.base (L2.CX X.prog X.w) k f fd ps (spD G 1 m)) (hr : Room (k + 1) X.A) (hsl : PySem.W.findIn X.K (.ref (G.cls c)) "__len__" = some (some (.ref f))) (hf : PySem.W.isFn X.K (.ref f) = true) (hb : Binds X.K fd ps []) :
    Runs1 X G (.builtin "len") (lenO c m) := by
  intro pins s σ H hd a x u Q I g h r q
  cases a with
  | obj c' l =>
    obtain ⟨hc, q0⟩ := wp_if q
    subst hc
    have h0 := h
    cases h0 with
    | @obj _ _ b dx fs h1 h2 h3 =>
      cases r
      obtain ⟨mA, J, _⟩ := ins_get I.hok (hide_sub _ _ h1)
      obtain ⟨od, J, _⟩ := J.look
      obtain ⟨mf, hF⟩ := I.fr
      refine PySem.W.len_K hF I.ok.mod.kin J hsl hf ?_
      refine wpAny_mono (run_any (Q := fun v H' => ∃ n : Int, v = .int n ∧ (0 ≤ n ∧ n < 4611686018427387904) ∧ Q v H') F rfl hr.in1 hb I (vs := [V.ref b]) (.cons rfl .nil) ⟨rfl, [.obj c' l], hd, g, .cons h .nil, ?_⟩) (fun z s' y => ?_) fun _ _ z => z
      · refine T.wp_mono (noexc_wp (E' := fun _ _ => False) (wp_then q0)) (fun d q1 v H' j e a => ?_) fun _ _ z => z.elim
        cases d with
        | int n =>
          obtain ⟨hn, q2⟩ := wp_if q1
          cases a
          exact ⟨n, rfl, hn, q2 _ H' e .int⟩
        | _ => exact q1.elim
      · obtain ⟨v, H', I', rv, n, ev, hn, q2⟩ := y
        subst ev
        obtain ⟨t, rz⟩ := (show ∃ t, z = Value.int n t from rv)
        cases rz
        exact ⟨⟨hn.1, by omega⟩, .int n, H', I'.tok _, ⟨_, rfl⟩, q2⟩
  | _ => exact q.elim
/-- f(e), f so -/
theorem ee_run1 {id : String} {x : Str} {e : Expr} {p pos : Pos} {t : D → T D} {g : Env → T D} (R1 : Runs1 X G (.builtin id) t) (hg : L2.Gl X x) (hm : X.mg x = none) (hv : bootBuiltins x = some (.builtin id)) (he' : EE X G W e g) (hn : x ≠ "__name__" := by decide) (hdb : (x == ("__debug__" : Str)) = false := by decide)
    (he : starEach (e :: []) X.env = (false, eval e X.env) :: starEach [] X.env := by rfl) (hpl : (backTo pos (starEach [] X.env)).any (·.1) = false := by rfl) :
    EE X G W (.Call (.Name x p) [e] [] pos) (fun ρ => g ρ >>= fun d => noexc (t d)) := by
  refine PE_imp (pe_callB (r := fun xs H Q => ∃ x hd a, xs = [x] ∧ Good G hd H ∧ At G (hide hd H) a x ∧ (t a).wp (fun d => ∀ v H', Lead G H H' → At G (hide hd H') d v → Q v H') (fun _ _ => False)) ?_ hg hm hv (pa_cons he' pa_nil he) hn hdb he hpl) fun σ H Q q => ?_
  · intro pins s σ H xs us Q I r h
    obtain ⟨x, hd, a, rfl, g, h1, h2⟩ := h
    cases r with
    | cons rx rn =>
      cases rn
      exact R1 pins s σ H hd a x _ Q I g h1 rx h2
  · obtain ⟨ρ, hd, R, q⟩ := q
    refine ⟨ρ, hd, R, T.wp_imp (wp_then q) fun d q1 v H1 e1 h1 => ⟨v, hd, d, rfl, R.good.lead e1, h1, T.wp_mono (noexc_wp q1) (fun d2 z v2 H2 e2 a2 => z v2 H2 (e1.trans e2) a2) fun _ _ z => z⟩⟩
/-- x == y by the own __eq__ of the left one -/
def eqO (c : Nat) (ok : Ty → Bool) (m : List D → T D) (a b : D) : T D := match a, tyD b with
  | .obj c' l, some t => if c' = c ∧ ok t = true then noexc (m [.obj c' l, b]) >>= fun d => match d with
    | .bl r => .ret (.bl r)
    | _ => .bad else .bad
  | _, _ => .bad
def rEqO (X : Cx) (G : Gl) (c : Nat) (ok : Ty → Bool) (m : List D → T D) : R2 := fun x y H Q => ∃ (l : List D) (b : D) (hd : Addr → Prop) (t : Ty), tyD b = some t ∧ ok t = true ∧ Good G hd H ∧ At G (hide hd H) (.obj c l) x ∧ At G (hide hd H) b y ∧
  (m [.obj c l, b]).wp (fun d => ∃ r, d = .bl r ∧ ∀ H', Lead G H H' → Q (.bl r) H') (fun _ _ => False)
theorem op_eqO {k c : Nat} {f : Addr} {fd : FuncData} {ps : List Str} {m : List D → T D} {ok : Ty → Bool} (hK : G.K = X.K) (F : FnOk X.prog X.w X.K X.mg X.base (L2.CX X.prog X.w) k f fd ps (spD G 2 m)) (hr : Room k X.A) (hse : PySem.W.findIn X.K (.ref (G.cls c)) "__eq__" = some (some (.ref f))) (hf : PySem.W.isFn X.K (.ref f) = true) (hb : Binds X.K fd ps [])
    (hok : ∀ t, ok t = true → PySem.W.notFirst X.K (G.cls c) (valT G.cls t) = true ∧ ∀ c', t = .own c' → OwnC X.K (G.cls c')) : OpR X (compareOp .Eq) (rEqO X G c ok m) := by
  intro pins s σ H x y v u Q I rx ry h
  obtain ⟨l, b, hd, t, e1, e2, g, h1, h2, q⟩ := h
  obtain ⟨n1, n2⟩ := hok t e2
  have ty := ty_of hK n2 h2 e1
  obtain ⟨P, Z, pp, _⟩ := kit_of I ry ty
  show wpAny (model X.prog X.w) X.A (richCompare .Eq v u) (EP X pins σ Q) X.xe s
  have h0 := h1
  cases h0 with
  | @obj _ _ a dx fs h3 h4 h5 =>
    cases rx
    obtain ⟨mA, J, _⟩ := ins_get I.hok (hide_sub _ _ h3)
    obtain ⟨od, J, _⟩ := J.look
    obtain ⟨mf, hF⟩ := I.fr
    refine PySem.W.cmp_K (op := .Eq) hr.units0 hF I.ok.mod.kin J (Z.ty _ _ I.kIn pp) n1 hse hf ?_
    refine wpAny_mono (run_any (Q := fun v H' => ∃ r, v = .bl r ∧ Q v H') F rfl hr hb I (vs := [V.ref a, y]) (.cons rfl (.cons ry .nil)) ⟨rfl, [.obj c l, b], hd, g, .cons h1 (.cons h2 .nil), ?_⟩) (fun z s' y => ?_) fun _ _ z => z
    · refine T.wp_mono q (fun d q1 v H' j e a => ?_) fun _ _ z => z.elim
      obtain ⟨r, rfl, q2⟩ := q1
      cases a
      exact ⟨r, rfl, q2 H' e⟩
    · obtain ⟨v, H', I', rv, r, ev, q2⟩ := y
      subst ev
      cases (show z = Value.bool r from rv)
      exact ⟨.bl r, H', I', rfl, q2⟩
theorem ee_eqO {k c : Nat} {f : Addr} {fd : FuncData} {ps : List Str} {m : List D → T D} {ok : Ty → Bool} {a b : Expr} {pos : Pos} {f1 f2 : Env → T D} (hK : G.K = X.K) (F : FnOk X.prog X.w X.K X.mg X.base (L2.CX X.prog X.w) k f fd ps (spD G 2 m)) (hr : Room k X.A) (hse : PySem.W.findIn X.K (.ref (G.cls c)) "__eq__" = some (some (.ref f))) (hf : PySem.W.isFn X.K (.ref f) = true) (hb : Binds X.K fd ps [])
    (hok : ∀ t, ok t = true → PySem.W.notFirst X.K (G.cls c) (valT G.cls t) = true ∧ ∀ c', t = .own c' → OwnC X.K (G.cls c')) (ha : EE X G W a f1) (hb' : EE X G W b f2) (hm : behindInMarks .Eq b = false := by first | exact nomark _ | rfl) :
    EE X G W (.Compare a [.Eq] [b] pos) (fun ρ => f1 ρ >>= fun x => f2 ρ >>= fun y => eqO c ok m x y) := by
  refine PE_imp (pe_cmpR (op_eqO (ok := ok) hK F hr hse hf hb hok) ha hb' hm) fun σ H Q q => ?_
  obtain ⟨ρ, hd, R, q⟩ := q
  refine ⟨ρ, hd, R, T.wp_imp (wp_then q) fun d1 q1 x H1 e1 h1 => ?_⟩
  refine ⟨ρ, hd, R.lead e1, T.wp_mono (wp_then q1) (fun d2 q2 y H2 e2 h2 => ?_) fun c l z => xE.lead z e1⟩
  cases d1 with
  | obj c' l =>
    cases e : tyD d2 with
    | none =>
      unfold eqO at q2
      rw [e] at q2
      exact q2.elim
    | some t =>
      unfold eqO at q2
      rw [e] at q2
      obtain ⟨hc, q3⟩ := wp_if q2
      obtain ⟨rfl, ho⟩ := hc
      refine ⟨l, d2, hd, t, e, ho, R.good.lead (e1.trans e2), h1.mono (e2.hide R.m), h2, T.wp_mono (noexc_wp (wp_then q3)) (fun d q4 => ?_) fun _ _ z => z⟩
      cases d with
      | bl r => exact ⟨r, rfl, fun H' e' => q4 _ H' ((e1.trans e2).trans e') .bl⟩
      | _ => exact q4.elim
  | _ => exact q2.elim
end
end Py
set_option Elab.async false
set_option linter.all false
set_option maxRecDepth 100000
set_option maxHeartbeats 4000000
namespace Py
open PySem PySem.Spec L2
section
variable {X : Cx} {G : Gl} {W : WX} {hs : Hid}
/-! ### new things of the def's own, among values -/
/-- later, perhaps with more hidden -/
structure Wider (G : Gl) (hd : Addr → Prop) (H : Hp) (hd' : Addr → Prop) (H' : Hp) : Prop where
  lead : Lead G H H'
  good : Good G hd' H'
  sub : ∀ a, hd a → hd' a
  ex : Ex (hide hd H) (hide hd' H')
theorem Wider.refl {hd : Addr → Prop} {H : Hp} (g : Good G hd H) : Wider G hd H hd H := ⟨Lead.refl H, g, fun _ h => h, Ex.refl _⟩
theorem Wider.trans {h0 h1 h2 : Addr → Prop} {H0 H1 H2 : Hp} (a : Wider G h0 H0 h1 H1) (b : Wider G h1 H1 h2 H2) : Wider G h0 H0 h2 H2 := ⟨a.lead.trans b.lead, b.good, fun x h => b.sub x (a.sub x h), a.ex.trans b.ex⟩
theorem Wider.of {hd : Addr → Prop} {H H' : Hp} (g : Good G hd H) (e : Lead G H H') : Wider G hd H hd H' := ⟨e, g.lead e, fun _ h => h, e.hide g.m⟩
/-- a new thing p -/
theorem Wider.new {hd : Addr → Prop} {H : Hp} {p : Addr} {o : HO} (g : Good G hd H) (hp : H p = none) (t : Plain o) : Wider G hd H (orIs hd p) (upd H p o) := by
  have e : Lead G H (upd H p o) := Lead.new hp
  refine ⟨e, ⟨e.j g.j, fun a m => .inl (g.m a m), g.live.more hp t⟩, fun a h => .inl h, fun a u z => ?_⟩
  have zn := hide_nt z
  obtain ⟨n, z⟩ := hide_get z
  have np : a ≠ p := ne_of_none z hp
  exact hide_put (fun y => y.elim n np) (by rw [upd_ne np]; exact z) zn
theorem SlotAt.wide {hd hd' : Addr → Prop} {H H' : Hp} {s : Slot} {v : Option V} (w : Wider G hd H hd' H') (h : SlotAt G hd H s v) : SlotAt G hd' H' s v := by
  cases s with
  | none => trivial
  | val d =>
    obtain ⟨x, e, a⟩ := h
    exact ⟨x, e, a.mono w.ex⟩
  | own o =>
    obtain ⟨a, e, h1, nm, u, e2, r⟩ := h
    exact ⟨a, e, w.sub a h1, nm, u, w.lead.ex a _ nm r.nt e2, r.mono w.ex⟩
  | err c l =>
    obtain ⟨a, cls, dx, e1, e2, r⟩ := h
    exact ⟨a, cls, dx, e1, e2, r.mono w.ex⟩
  | thk =>
    obtain ⟨f, Q, e1, e2, r⟩ := h
    exact ⟨f, Q, e1, e2, Q.2 _ _ w.ex r⟩
theorem Rep.wide {hd hd' : Addr → Prop} {σ : L2.St} {ρ : Env} {H H' : Hp} (R : Rep G hd σ ρ H) (w : Wider G hd H hd' H') : Rep G hd' σ ρ H' := ⟨w.good.j, w.good.m, w.good.live, R.len, fun i s v h1 h2 => (R.at_ i s v h1 h2).wide w, R.lone⟩
theorem SRep.wide {hd hd' : Addr → Prop} {σ : L2.St} {ρ : Env} {H H' : Hp} (R : SRep X G hs hd σ ρ H) (w : Wider G hd H hd' H') : SRep X G hs hd' σ ρ H' := ⟨R.rep.wide w, R.lead.trans w.lead, fun a h => w.sub a (R.sub a h), R.old, R.self_to w.lead, R.mine⟩
def NotObj (o : Ow) : Prop := ∀ c ns l, o ≠ .obj c ns l
/-- items of a tuple: values, new things at as -/
inductive Items (G : Gl) (H0 : Hp) (hd : Addr → Prop) (H : Hp) : List Slot → List V → List Addr → Prop
  | nil : Items G H0 hd H [] [] []
  | val {d v ss vs as} : At G (hide hd H) d v → Items G H0 hd H ss vs as → Items G H0 hd H (.val d :: ss) (v :: vs) as
  | own {o a ss vs as} : OwAt G hd H o a → NotObj o → newIn H0 a → a ∉ as → Items G H0 hd H ss vs as → Items G H0 hd H (.own o :: ss) (.ref a :: vs) (a :: as)
theorem Items.wide {H0 : Hp} {hd hd' : Addr → Prop} {H H' : Hp} (w : Wider G hd H hd' H') : ∀ {ss : List Slot} {vs : List V} {as : List Addr}, Items G H0 hd H ss vs as → Items G H0 hd' H' ss vs as
  | _, _, _, .nil => .nil
  | _, _, _, .val a r => .val (a.mono w.ex) (Items.wide w r)
  | _, _, _, .own (o := o) (a := a) h no n ne r => by
    have z : SlotAt G hd H (.own o) (some (.ref a)) := ⟨a, rfl, h⟩
    obtain ⟨a', e, h'⟩ := z.wide w
    cases e
    exact .own h' no n ne (Items.wide w r)
theorem newIn.back {hd : Addr → Prop} {H H' : Hp} {a : Addr} (e : Lead G H H') (nm : ¬ G.M a) (n : newIn H' a) : newIn H a := fun o h t => n o (e.ex a o nm t h) t
theorem Items.back {H0 H1 : Hp} {hd : Addr → Prop} {H : Hp} (e : Lead G H0 H1) : ∀ {ss : List Slot} {vs : List V} {as : List Addr}, Items G H1 hd H ss vs as → Items G H0 hd H ss vs as
  | _, _, _, .nil => .nil
  | _, _, _, .val a r => .val a (Items.back e r)
  | _, _, _, .own h no n ne r => .own h no (newIn.back (hd := hd) e h.2.1 n) ne (Items.back e r)
theorem Items.fresh {H0 : Hp} {hd : Addr → Prop} {H : Hp} : ∀ {ss : List Slot} {vs : List V} {as : List Addr}, Items G H0 hd H ss vs as → ∀ a, a ∈ as → newIn H0 a ∧ ¬ G.M a
  | _, _, _, .nil, a, h => by cases h
  | _, _, _, .val _ r, a, h => Items.fresh r a h
  | _, _, _, .own (a := b) h0 _ n _ r, a, h => by
    rcases List.mem_cons.mp h with rfl | h
    · exact ⟨n, h0.2.1⟩
    · exact Items.fresh r a h
/-- an expression that makes a new thing -/
def tNE (G : Gl) (W : WX) (g : Env → T Ow) : TE := fun σ H Q => ∃ ρ hd, Rep G hd σ ρ H ∧ (g ρ).wp (fun o => ∀ p hd' H', NotObj o → Wider G hd H hd' H' → OwAt G hd' H' o p → newIn H p → Q (.ref p) H') (xE G W hd σ H)
abbrev NE (X : Cx) (G : Gl) (W : WX) (e : Expr) (g : Env → T Ow) : Prop := PE X e (tNE G W g)
def tIt (G : Gl) (W : WX) (g : Env → T (List Slot)) : TA := fun σ H Q => ∃ ρ hd, Rep G hd σ ρ H ∧ (g ρ).wp (fun ss => ∀ vs as hd' H', Wider G hd H hd' H' → Items G H hd' H' ss vs as → Q vs H') (xE G W hd σ H)
abbrev IT (X : Cx) (G : Gl) (W : WX) (es : List Expr) (g : Env → T (List Slot)) : Prop := PA X es (tIt G W g)
def iNil : Env → T (List Slot) := fun _ => .ret []
def iVal (f : Env → T D) (r : Env → T (List Slot)) : Env → T (List Slot) := fun ρ => f ρ >>= fun d => r ρ >>= fun ss => .ret (.val d :: ss)
def iOwn (f : Env → T Ow) (r : Env → T (List Slot)) : Env → T (List Slot) := fun ρ => f ρ >>= fun o => r ρ >>= fun ss => .ret (.own o :: ss)
theorem xE.wide {hd hd' : Addr → Prop} {σ : L2.St} {H H' : Hp} {c : Nat} {l : List D} (w : Wider G hd H hd' H') (h : xE G W hd σ H c l) : xE G W hd' σ H' c l := fun cls dx H2 e a => h cls dx H2 (w.lead.trans e) (a.mono (hide_le w.sub))
theorem it_nil : IT X G W [] iNil := PA_imp pa_nil fun σ H Q ⟨ρ, hd, R, q⟩ => q [] [] hd H (Wider.refl R.good) .nil
theorem it_val {e : Expr} {es : List Expr} {f : Env → T D} {r : Env → T (List Slot)} (h : EE X G W e f) (hr : IT X G W es r) (he : starEach (e :: es) X.env = (false, eval e X.env) :: starEach es X.env := by rfl) : IT X G W (e :: es) (iVal f r) := by
  refine PA_imp (pa_cons h hr he) fun σ H Q q => ?_
  obtain ⟨ρ, hd, R, q⟩ := q
  refine ⟨ρ, hd, R, T.wp_imp (wp_then q) fun d q1 v H1 e1 h1 => ?_⟩
  refine ⟨ρ, hd, R.lead e1, T.wp_mono (wp_then q1) (fun ss q2 vs as hd' H' w it => ?_) fun c l z => xE.lead z e1⟩
  exact q2 (v :: vs) as hd' H' ((Wider.of R.good e1).trans w) (.val (h1.mono w.ex) (it.back e1))
theorem it_own {e : Expr} {es : List Expr} {f : Env → T Ow} {r : Env → T (List Slot)} (h : NE X G W e f) (hr : IT X G W es r) (he : starEach (e :: es) X.env = (false, eval e X.env) :: starEach es X.env := by rfl) : IT X G W (e :: es) (iOwn f r) := by
  refine PA_imp (pa_cons h hr he) fun σ H Q q => ?_
  obtain ⟨ρ, hd, R, q⟩ := q
  refine ⟨ρ, hd, R, T.wp_imp (wp_then q) fun o q1 p hd1 H1 no w1 h1 n1 => ?_⟩
  refine ⟨ρ, hd1, R.wide w1, T.wp_mono (wp_then q1) (fun ss q2 vs as hd' H' w it => ?_) fun c l z => xE.wide w1 z⟩
  have np : p ∉ as := fun z => by
    obtain ⟨_, _, u, e, r⟩ := h1
    exact (it.fresh p z).1 u e r.nt
  have h2 : SlotAt G hd1 H1 (.own o) (some (.ref p)) := ⟨p, rfl, h1⟩
  obtain ⟨a', e, h3⟩ := h2.wide w
  cases e
  exact q2 (.ref p :: vs) (p :: as) hd' H' (w1.trans w) (.own h3 no n1 np (it.back w1.lead))
/-- [..], new -/
def oLst (r : Env → T (List D)) : Env → T Ow := fun ρ => r ρ >>= fun l => if l.length ≤ 1000 then .ret (.lst l) else .bad
theorem ne_lst {es : List Expr} {pos : Pos} {r : Env → T (List D)} (h : EA X G W es r) : NE X G W (.List es pos) (oLst r) := by
  refine PE_imp (pe_lst h) fun σ H Q q => ?_
  obtain ⟨ρ, hd, R, q⟩ := q
  refine ⟨ρ, hd, R, T.wp_imp (wp_then q) fun l q1 xs H1 e1 h1 => ?_⟩
  obtain ⟨hl, q2⟩ := wp_if q1
  refine ⟨line1000 (by rw [← h1.length]; exact hl), fun p hp => ?_⟩
  have g := R.good.lead e1
  have w2 : Wider G hd H1 (orIs hd p) (upd H1 p (.lst xs)) := Wider.new g hp ⟨(fun _ z => nomatch z), (fun _ _ z => nomatch z)⟩
  have nM : ¬ G.M p := fun m => g.fresh hp (g.m p m)
  refine q2 p _ _ (fun _ _ _ z => nomatch z) ((Wider.of R.good e1).trans w2) ⟨.inr rfl, nM, _, upd_same, xs, rfl, h1.mono w2.ex⟩ (newIn.back (hd := hd) e1 nM fun o z _ => ?_)
  rw [hp] at z
  cases z
/-- {}, new -/
def oDic0 : Env → T Ow := fun _ => .ret (.dic [] [])
theorem ne_dic0 {pos : Pos} : NE X G W (.Dict [] [] pos) oDic0 := by
  refine PE_imp pe_dnewK fun σ H Q q p hp => ?_
  obtain ⟨ρ, hd, R, q⟩ := q
  have w : Wider G hd H (orIs hd p) (upd H p (.dK [])) := Wider.new R.good hp ⟨(fun _ z => nomatch z), (fun _ _ z => nomatch z)⟩
  have nM : ¬ G.M p := fun m => R.fresh hp (R.m p m)
  refine q p _ _ (fun _ _ _ z => nomatch z) w ⟨.inr rfl, nM, _, upd_same, [], rfl, .nil, .nil⟩ fun o z _ => ?_
  rw [hp] at z
  cases z
/-! ### slots set in a row -/
def gNm : List Nat → TGs
  | [] => L2.gNil
  | i :: r => L2.gCons (gName i) (gNm r)
def setE (ρ : Env) : List Nat → List Slot → Env
  | i :: is, s :: ss => setE (ρ.set i s) is ss
  | _, _ => ρ
theorem set_all {H0 : Hp} {hd : Addr → Prop} {H : Hp} : ∀ {ss : List Slot} {vs : List V} {as : List Addr} {is : List Nat} {σ : L2.St} {ρ : Env} {Q : L2.St → Hp → Prop}, Items G H0 hd H ss vs as → is.length = ss.length → SRep X G hs hd σ ρ H → (∀ a, a ∈ as → newIn X.H_0 a) →
    (∀ a, a ∈ as → ∀ (k : Nat) (s : Slot) (v : Option V), ρ[k]? = some s → isOwn s = true → σ[k]? = some v → v ≠ some (.ref a)) → (∀ σ', SRep X G hs hd σ' (setE ρ is ss) H → Q σ' H) → gNm is vs σ H Q
  | _, _, _, [], σ, ρ, Q, .nil, hl, R, n, no, k => ⟨rfl, k σ R⟩
  | _, _, _, _ :: _, σ, ρ, Q, .nil, hl, R, n, no, k => by cases hl
  | _, _, _, [], σ, ρ, Q, .val _ _, hl, R, n, no, k => by cases hl
  | _, _, _, [], σ, ρ, Q, .own _ _ _ _ _, hl, R, n, no, k => by cases hl
  | _, _, _, i :: is, σ, ρ, Q, .val (d := d) (v := v) (ss := ss) (vs := vs) a r, hl, R, n, no, k => by
    refine ⟨v, vs, rfl, set_all r (by simpa using hl) (R.set a) n (fun b hb j s u h1 h2 h3 => ?_) k⟩
    by_cases hj : i = j
    · rw [hj] at h1
      by_cases hi : j < ρ.length
      · rw [List.getElem?_set_self hi] at h1
        cases h1
        cases h2
      · rw [List.getElem?_eq_none (by rw [List.length_set]; omega)] at h1
        cases h1
    · rw [List.getElem?_set_ne hj] at h1 h3
      exact no b hb j s u h1 h2 h3
  | _, _, _, i :: is, σ, ρ, Q, .own (o := o) (a := a) (ss := ss) (vs := vs) h nob nn ne r, hl, R, n, no, k => by
    have mo : mineO X hs o a := by
      have z := n a (List.mem_cons_self ..)
      cases o with
      | lst l => exact z
      | dic ks vs => exact z
      | dicN ks vs => exact z
      | obj c ns l => exact absurd rfl (nob c ns l)
    have R1 := R.rep.setOwn (i := i) h (no a (List.mem_cons_self ..))
    have S1 : SRep X G hs hd (σ.set i (some (.ref a))) (ρ.set i (.own o)) H := R.own R1 (Lead.refl H) R.sub mo
    refine ⟨.ref a, vs, rfl, set_all r (by simpa using hl) S1 (fun b hb => n b (List.mem_cons_of_mem _ hb)) (fun b hb j s u h1 h2 h3 => ?_) k⟩
    by_cases hj : i = j
    · rw [hj] at h3
      by_cases hi : j < σ.length
      · rw [List.getElem?_set_self hi] at h3
        cases h3
        exact fun z => by
          cases z
          exact ne hb
      · rw [List.getElem?_eq_none (by rw [List.length_set]; omega)] at h3
        cases h3
    · rw [List.getElem?_set_ne hj] at h1 h3
      exact no b (List.mem_cons_of_mem _ hb) j s u h1 h2 h3
theorem SRep.newIn_of {hd : Addr → Prop} {σ : L2.St} {ρ : Env} {H : Hp} (R : SRep X G hs hd σ ρ H) {p : Addr} (n : newIn H p) (nm : ¬ G.M p) : newIn X.H_0 p := fun o q t => by
  by_cases z : hs.self p
  · obtain ⟨_, o2, h2, t2⟩ := R.selfs p z
    exact n o2 h2 t2
  · exact n o (R.lead.ex p o nm z t q) t
/-- a, b, .. = e, [..], .. -/
def sPar (is : List Nat) (g : Env → T (List Slot)) : Sm := fun ρ => bindS (g ρ) ρ fun ss => if is.length = ss.length ∧ ss.length ≤ 1000 then .ret (.nx (setE ρ is ss)) else .bad
theorem Items.length {H0 : Hp} {hd : Addr → Prop} {H : Hp} : ∀ {ss : List Slot} {vs : List V} {as : List Addr}, Items G H0 hd H ss vs as → ss.length = vs.length
  | _, _, _, .nil => rfl
  | _, _, _, .val _ r => by rw [List.length_cons, List.length_cons, Items.length r]
  | _, _, _, .own _ _ _ _ r => by rw [List.length_cons, List.length_cons, Items.length r]
theorem ss_par {ts es : List Expr} {k k2 n : Nat} {is : List Nat} {g : Env → T (List Slot)} {p1 p2 pos : Pos} (hc : X.calm = true) (hK : G.K = X.K) (he : IT X G W es g) (ht : PGs X ts (gNm is)) (hl : is.length = n) (hn : (assignEach ts X.env).length = n := by rfl) (hst : (assignEach ts X.env).findIdx? (·.1) = none := by rfl)
    (h : swapsWithSole [.Tuple ts k p1] (.Tuple es k2 p2) pos.line X.env = pure false := by rfl) (hw : swappedStores [.Tuple ts k p1] (.Tuple es k2 p2) X.env = pure none := by rfl)
    (h1 : (assignEach [.Tuple ts k p1] X.env).map (·.2) = [assign (.Tuple ts k p1) X.env] := by rfl) : SS X G W hs (.Assign [.Tuple ts k p1] (.Tuple es k2 p2) pos) (sPar is g) := by
  refine PS_imp (ps_asg (pe_tup he) (pg_tup hc ht hn hst) h hw h1) fun Dn σ H q => ?_
  obtain ⟨ρ, hd, R, q⟩ := q
  refine ⟨ρ, hd, R.rep, T.wp_mono (bindS_then q) (fun ss q1 vs as hd1 H1 w it => ?_) fun c l z => rz_of R z⟩
  obtain ⟨hh, q2⟩ := wp_if q1
  obtain ⟨h2, h3⟩ := hh
  refine ⟨line1000 (by rw [← it.length]; exact h3), fun p hp => ?_⟩
  have w2 : Wider G hd1 H1 hd1 (upd H1 p (.tup vs)) := Wider.of w.good (Lead.new hp)
  have w3 := w.trans w2
  have fr := it.fresh
  refine ⟨p, vs, rfl, .inl (.inl upd_same), by rw [← it.length, ← h2, hl], set_all (it.wide w2) h2 (R.wide w3) (fun a ha => R.newIn_of (fr a ha).1 (fr a ha).2) (fun a ha k s v e1 e2 e3 e4 => ?_) fun σ' R' => q2 hd1 σ' _ R' w3.ex⟩
  cases s with
  | own o =>
    obtain ⟨b, e5, e6⟩ := R.rep.at_ k _ v e1 e3
    rw [e4] at e5
    cases e5
    obtain ⟨_, _, u, e7, r⟩ := e6
    exact (fr a ha).1 u e7 r.nt
  | _ => cases e2
/-- x = [..] or {} -/
def sNew1 (i : Nat) (g : Env → T Ow) : Sm := fun ρ => bindS (g ρ) ρ fun o => .ret (.nx (ρ.set i (.own o)))
theorem ss_new1 {i : Nat} {x : Str} {e : Expr} {g : Env → T Ow} {pos pos' : Pos} (hN : X.N.Nodup) (hi : X.N[i]? = some x) (hx : Loc X.env.scope x) (he : NE X G W e g) (h : swapsWith e (some (.Name x pos')) pos.line X.env = pure false := by rfl) (hf : X.fn x = true ∨ X.env.scope.names.lookup x = some .local := by first | exact .inl rfl | exact .inr rfl | assumption) :
    SS X G W hs (.Assign [.Name x pos'] e pos) (sNew1 i g) := by
  refine PS_imp (ps_set (i := i) hN hi hx he h hf) fun Dn σ H q => ?_
  obtain ⟨ρ, hd, R, q⟩ := q
  refine ⟨ρ, hd, R.rep, T.wp_mono (bindS_then q) (fun o q1 p hd1 H1 no w h1 n1 => ?_) fun c l z => rz_of R z⟩
  have nM := h1.2.1
  have it : Items G H hd1 H1 [.own o] [.ref p] [p] := .own h1 no n1 (by simp) .nil
  have fin := set_all (X := X) (hs := hs) (is := [i]) (σ := σ) (ρ := ρ) (Q := Dn.nx) it rfl (R.wide w) (fun a ha => R.newIn_of (it.fresh a ha).1 (it.fresh a ha).2) (fun a ha k s v e1 e2 e3 e4 => ?_) fun σ' R' => q1 hd1 σ' _ R' w.ex
  · obtain ⟨v, r, e1, e2⟩ := fin
    cases e1
    obtain ⟨_, e2⟩ := e2
    exact e2
  · cases s with
    | own o2 =>
      obtain ⟨b, e5, e6⟩ := R.rep.at_ k _ v e1 e3
      rw [e4] at e5
      cases e5
      obtain ⟨_, _, u, e7, r⟩ := e6
      exact (it.fresh a ha).1 u e7 r.nt
    | _ => cases e2
/-- what the names hold behind it -/
theorem par_fin {ρ : Env} {hd hd1 : Addr → Prop} {σ : L2.St} {H H1 : Hp} {ss : List Slot} {vs : List V} {as : List Addr} {is : List Nat} {Q : L2.St → Hp → Prop} (R : SRep X G hs hd σ ρ H) (w : Wider G hd H hd1 H1) (it : Items G H hd1 H1 ss vs as) (hl : is.length = ss.length) (k : ∀ σ', SRep X G hs hd1 σ' (setE ρ is ss) H1 → Q σ' H1) : gNm is vs σ H1 Q := by
  have fr := it.fresh
  refine set_all it hl (R.wide w) (fun a ha => R.newIn_of (fr a ha).1 (fr a ha).2) (fun a ha k s v e1 e2 e3 e4 => ?_) k
  cases s with
  | own o =>
    obtain ⟨b, e5, e6⟩ := R.rep.at_ k _ v e1 e3
    rw [e4] at e5
    cases e5
    obtain ⟨_, _, u, e7, r⟩ := e6
    exact (fr a ha).1 u e7 r.nt
  | _ => cases e2
theorem ss_par2 {i j : Nat} {x y : Str} {a b : Expr} {g : Env → T (List Slot)} {px py pt pos : Pos} {kt k2 : Nat} {pt2 : Pos} (hc : X.calm = true) (hN : X.N.Nodup) (hi : X.N[i]? = some x) (hj : X.N[j]? = some y) (hij : i ≠ j) (hx : X.env.scope.names.lookup x = some .local) (hy : X.env.scope.names.lookup y = some .local) (he : IT X G W [a, b] g)
    (hw : swappedStores [.Tuple [.Name x px, .Name y py] kt pt] (.Tuple [a, b] k2 pt2) X.env = pure (some [x, y]) := by rfl) (h : swapsWithSole [.Tuple [.Name x px, .Name y py] kt pt] (.Tuple [a, b] k2 pt2) pos.line X.env = pure false := by rfl) :
    SS X G W hs (.Assign [.Tuple [.Name x px, .Name y py] kt pt] (.Tuple [a, b] k2 pt2) pos) (sPar [i, j] g) := by
  refine PS_imp (ps_par hc hN hi hj hij hx hy he hw h) fun Dn σ H q => ?_
  obtain ⟨ρ, hd, R, q⟩ := q
  refine ⟨ρ, hd, R.rep, T.wp_mono (bindS_then q) (fun ss q1 vs as hd1 H1 w it => ?_) fun c l z => rz_of R z⟩
  obtain ⟨hh, q2⟩ := wp_if q1
  have fin := par_fin R w it hh.1 (Q := Dn.nx) fun σ' R' => q2 hd1 σ' _ R' w.ex
  obtain ⟨v, r, rfl, v2, r2, rfl, rfl, fin⟩ := fin
  exact ⟨v, v2, rfl, fin⟩
theorem ss_par3 {i j l : Nat} {x y z : Str} {a b c : Expr} {g : Env → T (List Slot)} {px py pz pt pos : Pos} {kt k2 : Nat} {pt2 : Pos} (hc : X.calm = true) (hN : X.N.Nodup) (hi : X.N[i]? = some x) (hj : X.N[j]? = some y) (hl : X.N[l]? = some z) (hij : i ≠ j) (hil : i ≠ l) (hjl : j ≠ l) (hx : X.env.scope.names.lookup x = some .local) (hy : X.env.scope.names.lookup y = some .local) (hz : X.env.scope.names.lookup z = some .local) (he : IT X G W [a, b, c] g)
    (hw : swappedStores [.Tuple [.Name x px, .Name y py, .Name z pz] kt pt] (.Tuple [a, b, c] k2 pt2) X.env = pure (some [x, y, z]) := by rfl) (h : swapsWithSole [.Tuple [.Name x px, .Name y py, .Name z pz] kt pt] (.Tuple [a, b, c] k2 pt2) pos.line X.env = pure false := by rfl) :
    SS X G W hs (.Assign [.Tuple [.Name x px, .Name y py, .Name z pz] kt pt] (.Tuple [a, b, c] k2 pt2) pos) (sPar [i, j, l] g) := by
  refine PS_imp (ps_par3 hc hN hi hj hl hij hil hjl hx hy hz he hw h) fun Dn σ H q => ?_
  obtain ⟨ρ, hd, R, q⟩ := q
  refine ⟨ρ, hd, R.rep, T.wp_mono (bindS_then q) (fun ss q1 vs as hd1 H1 w it => ?_) fun c l z => rz_of R z⟩
  obtain ⟨hh, q2⟩ := wp_if q1
  have fin := par_fin R w it hh.1 (Q := Dn.nx) fun σ' R' => q2 hd1 σ' _ R' w.ex
  obtain ⟨v, r, rfl, v2, r2, rfl, v3, r3, rfl, rfl, fin⟩ := fin
  exact ⟨v, v2, v3, rfl, fin⟩
end
end Py
set_option Elab.async false
set_option linter.all false
set_option maxRecDepth 100000
set_option maxHeartbeats 4000000
namespace Py
open PySem PySem.Spec PyProof.Rows L2
/-- a def of the top: its text, its object -/
structure Dn (K : PySem.W.Frag) (mg : Str → Option Value) (x : Str) (st : Stmt) (ps : List Str) (f : Addr) (fd : FuncData) : Prop where
  F : Fun K x x st f fd
  b : L2.Binds K fd ps []
  g : mg x = some (.ref f)
  k : PySem.W.keepIn K (.ref f) = true
/-- the own classes whose instances are asked for their kind -/
def ownOk : Nat → Bool := fun _ => false
/-- a kind against the built-in class n -/
def tabB (n : String) : Ty → Option Bool
  | .ty k => kitB k n
  | .own _ => none
theorem ans_b {X : Cx} {G : Gl} (hK : G.K = X.K) (own : ∀ c, ownOk c = true → OwnC X.K (G.cls c)) (n : String) : Answers X G (.type n) (ansD (tabB n)) := ans_d hK (fun c h => by cases h) fun t b e => by
  cases t with
  | ty k => exact kit_ty e
  | own c => cases e
theorem tk0 {X : Cx} : Takes X W0 := fun _ _ x => by
  obtain ⟨_, _, _, _, _, _, _, _, _, _, _, _, _, _, _, _, z⟩ := x
  exact z.elim
theorem room64 {k : Nat} {A : Around} (r : Room k A) : A.units + 64 < cLine := by
  have := r.un
  omega
theorem ee_int_glob {X : Cx} {G : Gl} {W : WX} {x : Str} {n : Int} {pos : Pos} (hg : L2.Gl X x) (h : ∃ t, X.mg x = some (.int n t)) (hd : (x == ("__debug__" : Str)) = false := by decide) : EE X G W (.Name x pos) (gC (.int n)) := by
  obtain ⟨t, h⟩ := h
  exact ee_const (v := .int n) (pe_glob hg h ⟨t, rfl⟩ hd) fun _ => .int
/-- a method: its text, its object, its place in the class -/
structure Mn (K : PySem.W.Frag) (x q : Str) (st : Stmt) (ps : List Str) (C : Addr) (f : Addr) (fd : FuncData) : Prop where
  F : Fun K x q st f fd
  b : L2.Binds K fd ps []
  at_ : PySem.W.findIn K (.ref C) x = some (some (.ref f))
  fn : PySem.W.isFn K (.ref f) = true
theorem Mn.methC {K : PySem.W.Frag} {x q : Str} {st : Stmt} {ps : List Str} {C f : Addr} {fd : FuncData} (m : Mn K x q st ps C f fd) : Meth K C x f := ⟨m.at_, m.fn, m.F.kp⟩
/-- a class whose instances are made -/
structure Cn (K : PySem.W.Frag) (mg : Str → Option Value) (C : Addr) (fl0 : List Str) (x : Str) (fs : List Str) : Prop where
  own : OwnC K C
  fl : fl0 = fs
  no : ∀ f, f ∈ fs → NoAttr K C f
  g : mg x = some (.ref C)
  makes : PySem.W.makesIn K C = true
  kp : PySem.W.keepIn K (.ref C) = true
/-- an error class with one parameter -/
structure En (K : PySem.W.Frag) (mg : Str → Option Value) (C : Addr) (fl0 : List Str) (x f : Str) : Prop where
  fl : fl0 = [f]
  txt : ∃ fI, Er.Txt1 K mg x f C fI
theorem ix_of {ns ns' : List Str} {f : Str} {i : Nat} (e : ns = ns') (h : nsIx ns' f = some i) : nsIx ns f = some i := by
  rw [e]
  exact h
theorem Mn.mkC {K : PySem.W.Frag} {mg : Str → Option Value} {C : Addr} {x y q : Str} {fl0 fs : List Str} {st : Stmt} {ps : List Str} {f : Addr} {fd : FuncData} (c : Cn K mg C fl0 y fs) (m : Mn K "__init__" q st ps C f fd) : Mk K C f := ⟨c.makes, m.at_, m.fn, c.kp⟩
/-- the kinds that an own class n may be compared with, asked about -/
def tabO (n : Nat) (os : List Nat) : Ty → Option Bool
  | .ty k => if k = "NoneType" ∨ k = "bool" ∨ k = "int" ∨ k = "str" ∨ k = "tuple" ∨ k = "list" ∨ k = "dict" then some false else none
  | .own m => if m = n then some true else if m ∈ os then some false else none
def okO (n : Nat) (os : List Nat) (t : Ty) : Bool := (tabO n os t).isSome
/-- what is known of isinstance(.., C), of == with C's instances at the left -/
structure Kn (K : PySem.W.Frag) (cls : Nat → Addr) (n : Nat) (os : List Nat) : Prop where
  own : ∀ m, (tabO n os (.own m)).isSome = true → OwnC K (cls m)
  kit : ∀ t b, tabO n os t = some b → PySem.W.kitOne K (valT cls t) (.ref (cls n)) = some b
  nf : ∀ t, okO n os t = true → PySem.W.notFirst K (cls n) (valT cls t) = true
theorem Kn.ans {X : Cx} {G : Gl} {n : Nat} {os : List Nat} (hK : G.K = X.K) (k : Kn X.K G.cls n os) : Answers X G (.ref (G.cls n)) (ansD (tabO n os)) := ans_d hK k.own k.kit
theorem Kn.ok {K : PySem.W.Frag} {cls : Nat → Addr} {n : Nat} {os : List Nat} (k : Kn K cls n os) : ∀ t, okO n os t = true → PySem.W.notFirst K (cls n) (valT cls t) = true ∧ ∀ c', t = .own c' → OwnC K (cls c') := fun t h => ⟨k.nf t h, fun c' e => k.own c' (by rw [← e]; exact h)⟩
theorem ini_fl {P : Program} {w : World} {K : PySem.W.Frag} {mg : Str → Option Value} {base : Heap} {G : Gl} {CX : CXT} {k a n m : Nat} {f : Addr} {fd : FuncData} {ps fs : List Str} {s : Sm} (e : G.flds n = fs)
    (h : FnOk P w K mg base CX k f fd ps (spI G a n (ini m n (G.flds n) s))) : FnOk P w K mg base CX k f fd ps (spI G a n (ini m n fs s)) := by
  rw [e] at h
  exact h
end Py
set_option Elab.async false
set_option linter.all false
set_option maxRecDepth 100000
set_option maxHeartbeats 4000000
namespace Py
open PySem PySem.Spec PyProof.Rows L2
/-! ### the deck of numbers, its places counted: {"cells": .., "at": ..} -/
abbrev kC : Key := .inr "cells"
abbrev kA : Key := .inr "at"
abbrev dkO (cl : Addr) (a : Int) : HO := .dK [(kC, V.ref cl), (kA, V.int a)]
theorem val_at {cl : Addr} {a : Int} : valV [(kC, V.ref cl), (kA, V.int a)] kA = some (.int a) := by
  rw [valV_neg (show ¬ kC = kA by decide), valV_pos rfl]
theorem val_cells {cl : Addr} {a : Int} : valV [(kC, V.ref cl), (kA, V.int a)] kC = some (.ref cl) := valV_pos rfl
theorem put_at {cl : Addr} {a b : Int} : putK [(kC, V.ref cl), (kA, V.int a)] kA (.int b) = [(kC, V.ref cl), (kA, V.int b)] := by
  unfold putK
  have e : ([(kC, V.ref cl), (kA, V.int a)].any fun kv => decide (kv.1 = kA)) = true := by
    simp
  rw [if_pos e]
  have n : ¬ kC = kA := by decide
  show List.map _ _ = _
  rw [List.map_cons, List.map_cons, List.map_nil, if_neg n, if_pos rfl]
theorem get_at {H : Hp} {p cl : Addr} {a : Int} (h : H p = some (dkO cl a)) : DGet H p (.str "at") (some (.int a)) := by
  rw [← val_at (cl := cl)]
  exact DGet.k (k := kA) h
theorem get_cells {H : Hp} {p cl : Addr} {a : Int} (h : H p = some (dkO cl a)) : DGet H p (.str "cells") (some (.ref cl)) := by
  rw [← val_cells (a := a)]
  exact DGet.k (k := kC) h
/-- what is known of the deck's two objects -/
structure Deck1 (p cl : Addr) (H : Hp) : Prop where
  ne : cl ≠ p
  at_ : ∃ (a : Nat) (ns : List Int), H p = some (dkO cl a) ∧ H cl = some (.lst (ns.map V.int)) ∧ ns.length ≤ 100
def drawD : List D → T D
  | [.deck, .int b] => if 0 < b then .draw b.toNat fun i => .ret (.int i) else .bad
  | _ => .bad
def CDivS (i j : Int) : Prop := j ≠ 0 ∧ (j.natAbs < 1073741824 ∨ i.natAbs < 1073741824)
theorem nopy {x y : Int} (h : x.natAbs < 1073741824) : Builtin.divisionGoesByPylong x y = false := by
  unfold Builtin.divisionGoesByPylong
  have e : (fun n : Int => if (n == 0) = true then 0 else n.natAbs.log2 / 30 + 1) x ≤ 1 := by
    show (if (x == 0) = true then 0 else x.natAbs.log2 / 30 + 1) ≤ 1
    split
    · omega
    · rename_i n
      have n0 : x.natAbs ≠ 0 := fun z => n (by simpa using z)
      have l : x.natAbs.log2 < 30 := (Nat.log2_lt n0).mpr h
      omega
  show (decide _ && decide _) = false
  rw [Bool.and_eq_false_iff]
  right
  rw [decide_eq_false_iff_not]
  omega
theorem op_fdiv0 {X : Cx} : OpR X (binaryOp .FloorDiv) (rI CDivS fun i j => .int (i.fdiv j)) := opI fun _ _ _ _ _ _ _ hc q => by
  obtain ⟨h1, h2⟩ := hc
  refine floordiv_int (hp := .inl ?_) h1 q
  rcases h2 with h2 | h2
  · exact PyProof.noPylong_small h2
  · exact nopy h2
theorem fmod_in {x b : Int} (h : 0 < b) : 0 ≤ x.fmod b ∧ x.fmod b < b := by
  rw [Int.fmod_eq_emod_of_nonneg _ (Int.le_of_lt h)]
  exact ⟨Int.emod_nonneg _ (by omega), Int.emod_lt_of_pos _ h⟩
/-- what the def's text is read as -/
def tDraw (K : PySem.W.Frag) : TS :=
  tSeq (tPar 2 3 (tCons (tDGet (tVar 0) (tC (.str "at"))) (tCons (tDGet (tVar 0) (tC (.str "cells"))) tNil)))
  (tSeq (sDPut (tVar 0) (tC (.str "at")) (tOp (rI0 fun i j => .int (i + j)) (tVar 2) (tC (.int 1))))
  (tSeq (tIfS (tTest (tOp (rI0 fun i j => .bl (decide (i < j))) (tVar 2) (tCB (fun xs H Q => ∃ p ys, xs = [.ref p] ∧ (SqL K H p ys ∨ SqT K H p ys) ∧ Q (.int ys.length) H) (tCons (tVar 3) tNil))))
    (tRet (tOp (rI (fun _ j => j ≠ 0) fun i j => .int (i.fmod j)) (tOp (rIxL K) (tVar 3) (tVar 2)) (tVar 1))) tNext)
  (tSeq (tIfS (tTest (tOp (rEqD K) (tVar 3) (tLst tNil)))
    (tRet (tOp (rI (fun _ j => j ≠ 0) fun i j => .int (i.fmod j)) (tOp (rI0 fun i j => .int (i + j)) (tOp (rI CMul fun i j => .int (i * j)) (tVar 2) (tC (.int 5))) (tOp (rI CDivS fun i j => .int (i.fdiv j)) (tVar 2) (tC (.int 3)))) (tVar 1))) tNext)
    (tRet (tOp (rI (fun _ j => j ≠ 0) fun i j => .int (i.fmod j))
      (tOp (rI0 fun i j => .int (i + j)) (tOp (rI0 fun i j => .int (i + j))
        (tOp (rI CDivS fun i j => .int (i.fdiv j)) (tOp (rIxL K) (tVar 3) (tOp (rI (fun _ j => j ≠ 0) fun i j => .int (i.fmod j)) (tVar 2) (tCB (fun xs H Q => ∃ p ys, xs = [.ref p] ∧ (SqL K H p ys ∨ SqT K H p ys) ∧ Q (.int ys.length) H) (tCons (tVar 3) tNil)))) (tOp (rI0 fun i j => .int (i + j)) (tVar 2) (tC (.int 1))))
        (tOp (rI CMul fun i j => .int (i * j)) (tVar 2) (tC (.int 13))))
        (tOp (rI CDivS fun i j => .int (i.fdiv j)) (tVar 2) (tC (.int 2)))) (tVar 1))))))
theorem dp_ints {K : PySem.W.Frag} {H : Hp} : ∀ ns : List Int, DpAll K H (ns.map V.int) (ns.map PyData.int)
  | [] => .nil
  | n :: r => .cons (.int n) (dp_ints r)
theorem at_ints {ns : List Int} {i : Int} (h0 : 0 ≤ i) (h1 : i < ns.length) : ∃ n, n ∈ ns ∧ atI (ns.map V.int) i = some (.int n) := by
  have hj : i.toNat < ns.length := by omega
  refine ⟨ns[i.toNat], List.getElem_mem hj, ?_⟩
  unfold atI ixN
  rw [if_pos h0, List.length_map, if_pos h1]
  show (ns.map V.int)[i.toNat]? = _
  rw [List.getElem?_map, List.getElem?_eq_getElem hj]
  rfl
theorem pure_draw {K : PySem.W.Frag} {N : List Str} {p cl : Addr} {H : Hp} {b : Int} {a : Nat} {ns : List Int} {Q : VK} (hb : 0 < b) (ne : cl ≠ p) (h1 : H p = some (dkO cl a)) (h2 : H cl = some (.lst (ns.map V.int))) (h3 : ns.length ≤ 100) (h4 : ∀ n ∈ ns, 0 ≤ n ∧ n < 1000000007)
    (k : ∀ (r : Int) (H' : Hp), 0 ≤ r → r < b → (∀ x o, x ≠ p → H x = some o → H' x = some o) → H' p = some (dkO cl (a + 1)) → Q (.int r) H') :
    tDraw K { nx := fun _ H' => Q .non H', rt := Q } [some (.ref p), some (.int b), none, none] H := by
  refine ⟨.ref p, rfl, p, .int a, rfl, get_at h1, .ref p, rfl, p, .ref cl, rfl, get_cells h1, _, _, rfl, ?_⟩
  refine ⟨.int a, rfl, a, 1, rfl, rfl, .ref p, rfl, p, _, rfl, DPut.k (k := kA) (v := .int (a + 1)) h1 (by show 2 < sizeLine; rw [sizeLine_eq]; decide), ?_⟩
  rw [put_at]
  generalize hH2 : upd H p (.dK [(kC, V.ref cl), (kA, V.int (a + 1))]) = H2
  have f1 : H2 p = some (dkO cl (a + 1)) := by rw [← hH2, upd_same]
  have f2 : H2 cl = some (.lst (ns.map V.int)) := by rw [← hH2, upd_ne ne]; exact h2
  have f3 : ∀ x o, x ≠ p → H x = some o → H2 x = some o := fun x o nx e => by rw [← hH2, upd_ne nx]; exact e
  have s2 : SqL K H2 cl (ns.map V.int) := .inl (.inl f2)
  refine ⟨.int a, rfl, .ref cl, rfl, cl, _, rfl, .inl s2, a, _, rfl, rfl, _, rfl, ?_⟩
  rw [List.length_map]
  by_cases hlt : (a : Int) < (ns.length : Int)
  · rw [decide_eq_true hlt]
    refine L2.iteT ?_
    obtain ⟨n, _, en⟩ := at_ints (Int.natCast_nonneg a) hlt
    refine ⟨.ref cl, rfl, .int a, rfl, cl, _, a, _, rfl, rfl, s2, en, .int b, rfl, n, b, rfl, rfl, by omega, ?_⟩
    exact k _ _ (fmod_in hb).1 (fmod_in hb).2 f3 f1
  · rw [decide_eq_false hlt]
    refine L2.iteF ?_
    refine ⟨.ref cl, rfl, (show ([] : List V).length ≤ sizeLine from Nat.zero_le _), fun q3 hq3 => ?_⟩
    have n1 : cl ≠ q3 := ne_of_none f2 hq3
    have n2 : p ≠ q3 := ne_of_none f1 hq3
    generalize hH3 : upd H2 q3 (.lst []) = H3
    have e1 : H3 p = some (dkO cl (a + 1)) := by rw [← hH3, upd_ne n2]; exact f1
    have e2 : H3 cl = some (.lst (ns.map V.int)) := by rw [← hH3, upd_ne n1]; exact f2
    have e3 : ∀ x o, x ≠ p → H x = some o → H3 x = some o := fun x o nx e => by
      have z := f3 x o nx e
      rw [← hH3, upd_ne (ne_of_none z hq3)]
      exact z
    have s3 : SqL K H3 cl (ns.map V.int) := .inl (.inl e2)
    refine ⟨.list (ns.map PyData.int), .list [], .lst s3 (dp_ints ns), .lst (.inl (.inl (by rw [← hH3, upd_same]))) .nil, PySem.W.ke_shaped_ints ns, by decide, _, rfl, ?_⟩
    cases ns with
    | nil =>
      rw [show PyData.eqv (.list (List.map PyData.int [])) (.list []) = true from rfl]
      refine L2.iteT ?_
      refine ⟨.int a, rfl, a, 5, rfl, rfl, .inr ⟨by decide, by decide⟩, .int a, rfl, a, 3, rfl, rfl, ⟨by decide, .inl (by decide)⟩, _, _, rfl, rfl, .int b, rfl, _, b, rfl, rfl, by omega, ?_⟩
      exact k _ _ (fmod_in hb).1 (fmod_in hb).2 e3 e1
    | cons n0 r =>
      rw [show PyData.eqv (.list (List.map PyData.int (n0 :: r))) (.list []) = false from rfl]
      refine L2.iteF ?_
      have len : (0 : Int) < ((n0 :: r).length : Int) := by rw [List.length_cons]; omega
      have md := fmod_in (x := (a : Int)) len
      obtain ⟨n, hn, en⟩ := at_ints md.1 md.2
      have hn4 := h4 n hn
      refine ⟨.ref cl, rfl, .int a, rfl, .ref cl, rfl, cl, _, rfl, .inl s3, a, _, rfl, rfl, by rw [List.length_map]; omega, cl, _, _, _, rfl, rfl, s3, by rw [List.length_map]; exact en, ?_⟩
      refine ⟨.int a, rfl, a, 1, rfl, rfl, n, _, rfl, rfl, ⟨by omega, .inr (by omega)⟩, .int a, rfl, a, 13, rfl, rfl, .inr ⟨by decide, by decide⟩, _, _, rfl, rfl, .int a, rfl, a, 2, rfl, rfl, ⟨by decide, .inl (by decide)⟩, _, _, rfl, rfl, .int b, rfl, _, b, rfl, rfl, by omega, ?_⟩
      exact k _ _ (fmod_in hb).1 (fmod_in hb).2 e3 e1
/-- the deck's objects, the tables of code objects -/
def dkM (p cl : Addr) (tb : List (Addr × Str)) (a : Addr) : Prop := a = p ∨ a = cl ∨ ∃ q ∈ tb, a = q.1
structure DkJ (p cl : Addr) (tb : List (Addr × Str)) (H : Hp) : Prop where
  ne : cl ≠ p
  at_ : ∃ (a : Nat) (ns : List Int), H p = some (dkO cl a) ∧ H cl = some (.lst (ns.map V.int)) ∧ ns.length ≤ 100 ∧ ∀ n ∈ ns, 0 ≤ n ∧ n < 1000000007
  tb : LamX.Tabs tb H
theorem tabs_keep {tb : List (Addr × Str)} {H H' : Hp} (t : LamX.Tabs tb H) (h1 : ∀ q ∈ tb, H' q.1 = H q.1) (h2 : ∀ a c q, H a = some (LamX.CodeO c q) → H' a = some (LamX.CodeO c q)) : LamX.Tabs tb H' := fun q hq => by
  obtain ⟨ps, e1, e2, e3⟩ := t q hq
  refine ⟨ps, by rw [h1 q hq]; exact e1, e2, fun pos cv hc => ?_⟩
  obtain ⟨c, e4, e5⟩ := e3 pos cv hc
  exact ⟨c, e4, h2 c _ _ e5⟩
/-- what is fixed through a law with such a deck at p, its cells at cl -/
def mkG (P : Program) (w : World) (K : PySem.W.Frag) (cls : Nat → Addr) (flds : Nat → List Str) (p cl : Addr) (tb : List (Addr × Str)) : Gl where
  P := P
  w := w
  K := K
  cls := cls
  flds := flds
  dk := p
  M := dkM p cl tb
  J := DkJ p cl tb
  tb := tb
  ea := none
  fa := none
  has := fun H a j m => by
    obtain ⟨n, ns, h1, h2, _⟩ := j.at_
    rcases m with rfl | rfl | ⟨q, hq, rfl⟩
    · rw [h1]
      exact (fun z => nomatch z)
    · rw [h2]
      exact (fun z => nomatch z)
    · obtain ⟨ps, e, _⟩ := j.tb q hq
      rw [e]
      exact (fun z => nomatch z)
  stays := fun H H' j h1 h2 => by
    obtain ⟨n, ns, e1, e2, e3⟩ := j.at_
    exact ⟨j.ne, ⟨n, ns, by rw [h1 p (.inl rfl)]; exact e1, by rw [h1 cl (.inr (.inl rfl))]; exact e2, e3⟩, tabs_keep j.tb (fun q hq => h1 q.1 (.inr (.inr ⟨q, hq, rfl⟩))) h2⟩
  tabs := fun H j => j.tb
  lam := fun H H' j e t => by
    obtain ⟨n, ns, e1, e2, e3⟩ := j.at_
    exact ⟨j.ne, ⟨n, ns, e _ _ e1 (fun _ z => nomatch z), e _ _ e2 (fun _ z => nomatch z), e3⟩, t⟩
  code := fun H c q j e m => by
    obtain ⟨n, ns, e1, e2, _⟩ := j.at_
    unfold LamX.CodeO at e
    rcases m with rfl | rfl | ⟨q, hq, rfl⟩
    · rw [e1] at e
      cases e
    · rw [e2] at e
      cases e
    · obtain ⟨ps, e3, _⟩ := j.tb q hq
      rw [e3] at e
      cases e
section
variable {P : Program} {w : World} {K : PySem.W.Frag} {mg : Str → Option Value} {base : Heap} {cls : Nat → Addr} {flds : Nat → List Str} {p cl : Addr} {tb : List (Addr × Str)}
/-- THE RULE for such a _law_draw -/
theorem draw_ok {x : Str} {st : Stmt} {f : Addr} {fd : FuncData} {y1 y2 y3 y4 : Str} {k : Nat} (F : Fun K x x st f fd) (S : FnScope [y1, y2, y3, y4] [y1, y2] (defScope st))
    (hb : ∀ (cdv : Value) (A : Around) (outer : List PySem.Env) (s0 : Shared) (H : Hp) (E : XK), Room k (A.deeper (PyProof.Rows.envOfC x (defScope st) s0.heap.objs.size f cdv)) → PSs (cxOf (L2.CX P w) P w K mg base [y1, y2, y3, y4] x (defScope st) f cdv A outer s0 H E) (defBody st) (tDraw K)) :
    FnOk P w K mg base (L2.CX P w) (k + 1) f fd [y1, y2] (spD (mkG P w K cls flds p cl tb) 2 drawD) := by
  refine F.okX S (fun vs H Q E h => h.1) fun cdv A outer s0 H vs Q E hr h => ⟨tDraw K, hb cdv A outer s0 H E hr, ?_⟩
  obtain ⟨hl, l, hs, g, hv, q⟩ := h
  cases hv with
  | nil => cases hl
  | @cons d1 v1 l1 r1 a1 hr1 =>
    cases hr1 with
    | nil => cases hl
    | @cons d2 v2 l2 r2 a2 hr2 =>
      cases hr2 with
      | @cons d3 v3 l3 r3 a3 hr3 =>
        simp at hl
      | nil =>
        cases d1 with
        | deck =>
          cases d2 with
          | int b =>
            obtain ⟨hb0, q⟩ := wp_if (show (if 0 < b then (T.draw b.toNat fun i => .ret (D.int i)) else .bad : T D).wp _ _ from q)
            cases a1
            cases a2
            have j : DkJ p cl tb H := g.j
            obtain ⟨n, ns, e1, e2, e3, e4⟩ := j.at_
            refine pure_draw (N := [y1, y2, y3, y4]) (p := p) (cl := cl) hb0 j.ne e1 e2 e3 e4 fun r H' r0 r1 hx hp => ?_
            have q1 := q r.toNat (by omega)
            have er : ((r.toNat : Nat) : Int) = r := Int.toNat_of_nonneg r0
            have j' : DkJ p cl tb H' := ⟨j.ne, ⟨n + 1, ns, by simpa using hp, hx _ _ j.ne e2, e3, e4⟩, fun q hq => by
              obtain ⟨ps, t1, t2, t3⟩ := j.tb q hq
              refine ⟨ps, hx _ _ (fun z => by rw [z, e1] at t1; cases t1) t1, t2, fun pos cv hc => ?_⟩
              obtain ⟨c, t4, t5⟩ := t3 pos cv hc
              refine ⟨c, t4, hx _ _ (fun z => ?_) t5⟩
              unfold LamX.CodeO at t5
              rw [z, e1] at t5
              cases t5⟩
            have L : Lead (mkG P w K cls flds p cl tb) H H' := ⟨fun a o m _ e => hx a o (fun z => m (.inl z)) e, fun _ => j'⟩
            have q2 : ∀ v H', (mkG P w K cls flds p cl tb).J H' → Lead (mkG P w K cls flds p cl tb) H H' → At (mkG P w K cls flds p cl tb) (hide hs H') (.int (r.toNat : Nat)) v → Q v H' := q1
            rw [er] at q2
            exact q2 _ H' j' L .int
          | _ => exact q.elim
        | _ => exact q.elim
end
end Py
set_option Elab.async false
set_option linter.all false
set_option maxRecDepth 100000
set_option maxHeartbeats 4000000
namespace Py
open PySem PySem.Spec PyProof.Rows L2
section
variable {X : Cx} {G : Gl} {W : WX} {hs : Hid}
/-! ### while, at most n turns told -/
def whileL (t : Env → T Bool) (body : Sm) : Nat → Sm
  | 0 => fun _ => .bad
  | n + 1 => fun ρ => bindS (t ρ) ρ fun b => if b = true then body ρ >>= fun o => match o with
    | .nx ρ' => whileL t body n ρ'
    | .ct ρ' => whileL t body n ρ'
    | .brk ρ' => .ret (.nx ρ')
    | o => .ret o
    else .ret (.nx ρ)
theorem ss_while {c : Expr} {body : List Stmt} {t : Env → T Bool} {s : Sm} {pos : Pos} (n : Nat) (hp : PassesOwn (model X.prog X.w) X.A X.env X.xe) (hc : ET X G W c t) (hb : SSs X G W hs body s) : SS X G W hs (.While c body [] pos) (whileL t s n) := by
  refine PS_imp (ps_while hp hc hb) fun Dn σ H q => ?_
  obtain ⟨ρ, hd, R, q⟩ := q
  refine ⟨fun m σ' H' => ∃ ρ' hd', SRep X G hs hd' σ' ρ' H' ∧ Ex (hide hd H) (hide hd' H') ∧ (whileL t s m ρ').wp (oQ X G W hs Dn hd H) (fun _ _ => False), ⟨n, ρ, hd, R, Ex.refl _, q⟩, fun m σ1 H1 w => ?_⟩
  obtain ⟨ρ1, hd1, R1, x1, q1⟩ := w
  cases m with
  | zero => exact q1.elim
  | succ m =>
    refine ⟨ρ1, hd1, R1.rep, T.wp_mono (bindS_then q1) (fun b q2 H2 e2 => ?_) fun c l z => rz_of R1 (oQ.to x1 z)⟩
    have x2 : Ex (hide hd H) (hide hd1 H2) := x1.trans (e2.hide R1.rep.m)
    cases b with
    | false =>
      refine L2.iteF ?_
      exact q2 hd1 σ1 H2 (R1.to e2) x2
    | true =>
      refine L2.iteT ?_
      refine ⟨fun σ' H' => ∃ ρ' hd', SRep X G hs hd' σ' ρ' H' ∧ Ex (hide hd H) (hide hd' H') ∧ (whileL t s m ρ').wp (oQ X G W hs Dn hd H) (fun _ _ => False), fun σ' H' z => ⟨m, Nat.lt_succ_self m, z⟩, ρ1, hd1, R1.to e2, T.wp_imp (wp_then q2) fun o z => ?_⟩
      cases o with
      | nx ρ' => exact fun hd2 σ2 H3 R3 x3 => ⟨ρ', hd2, R3, x2.trans x3, z⟩
      | ct ρ' => exact fun hd2 σ2 H3 R3 x3 => ⟨ρ', hd2, R3, x2.trans x3, z⟩
      | brk ρ' => exact fun hd2 σ2 H3 R3 x3 => z hd2 σ2 H3 R3 (x2.trans x3)
      | ret d => exact z
      | rz k l ρ' => exact oQ.to (G := G) (W := W) (o := .rz k l ρ') x2 z
/-! ### max, min of two ints, int of an int -/
def max2 : List D → Option D
  | [.int i, .int j] => some (.int (if j > i then j else i))
  | _ => none
def min2 : List D → Option D
  | [.int i, .int j] => some (.int (if j < i then j else i))
  | _ => none
def int1 : List D → Option D
  | [.int i] => some (.int i)
  | [.bl k] => some (.int (if k then 1 else 0))
  | _ => none
theorem d_max2 : DoesN G (fun xs H Q => ∃ i j, xs = [.int i, .int j] ∧ Q (.int (if j > i then j else i)) H) max2 := fun hd H xs l d Q R h e k => by
  unfold max2 at e
  split at e
  · cases e
    cases h with
    | cons h1 h2 =>
      cases h2 with
      | cons h2 h3 =>
        cases h3
        cases h1
        cases h2
        exact ⟨_, _, rfl, k _ H (Lead.refl H) .int⟩
  · cases e
theorem d_min2 : DoesN G (fun xs H Q => ∃ i j, xs = [.int i, .int j] ∧ Q (.int (if j < i then j else i)) H) min2 := fun hd H xs l d Q R h e k => by
  unfold min2 at e
  split at e
  · cases e
    cases h with
    | cons h1 h2 =>
      cases h2 with
      | cons h2 h3 =>
        cases h3
        cases h1
        cases h2
        exact ⟨_, _, rfl, k _ H (Lead.refl H) .int⟩
  · cases e
theorem d_int1 : DoesN G (fun xs H Q => (∃ i, xs = [.int i] ∧ Q (.int i) H) ∨ ∃ k, xs = [.bl k] ∧ Q (.int (if k then 1 else 0)) H) int1 := fun hd H xs l d Q R h e k => by
  unfold int1 at e
  split at e
  · cases e
    cases h with
    | cons h1 h2 =>
      cases h2
      cases h1
      exact .inl ⟨_, rfl, k _ H (Lead.refl H) .int⟩
  · cases e
    cases h with
    | cons h1 h2 =>
      cases h2
      cases h1
      exact .inr ⟨_, rfl, k _ H (Lead.refl H) .int⟩
  · cases e
end
/-- the read fields of a caught error -/
theorem Er.Asked.xf {K : PySem.W.Frag} {C : Addr} (a : Er.Asked K C) : XfC K C := ⟨a.ga, a.gg, a.sub, a.dict⟩
/-- which error classes (by number) an except clause of the class n takes: itself, all if n is the base -/
def exM (base : Nat) (es : List Nat) (n : Nat) : Nat → Option Bool := fun k => if k ∈ es ∧ (n ∈ es ∨ n = base) then some (k == n || n == base) else none
/-- what is known of the error classes es over the class base -/
structure Xn (K : PySem.W.Frag) (mg : Str → Option Value) (cls : Nat → Addr) (flds : Nat → List Str) (base : Nat) (bx : Str) (es : List Nat) : Prop where
  g : mg bx = some (.ref (cls base))
  asked : ∀ k, k ∈ es → Er.Asked K (cls k)
  has : ∀ k, k ∈ es → flds k ≠ []
  exm : ∀ n k b, exM base es n k = some b → PySem.W.exmOne K (.ref (cls k)) (.ref (cls n)) = some b
  kit : ∀ n k b, exM base es n k = some b → PySem.W.kitOne K (.ref (cls k)) (.ref (cls n)) = some b
theorem exM_in {base : Nat} {es : List Nat} {n k : Nat} {b : Bool} (h : exM base es n k = some b) : k ∈ es := by
  unfold exM at h
  split at h
  · rename_i z
    exact z.1
  · cases h
theorem exM_ok {base : Nat} {es : List Nat} {n k : Nat} {b : Bool} (h : exM base es n k = some b) : k ∈ es ∧ n ∈ base :: es ∧ b = (k == n || n == base) := by
  unfold exM at h
  split at h
  · rename_i z
    refine ⟨z.1, ?_, (Option.some.inj h).symm⟩
    rcases z.2 with q | q
    · exact List.mem_cons_of_mem _ q
    · rw [q]
      exact List.mem_cons_self ..
  · cases h
theorem Xn.xi {K : PySem.W.Frag} {mg : Str → Option Value} {cls : Nat → Addr} {flds : Nat → List Str} {base n : Nat} {bx : Str} {es : List Nat} (x : Xn K mg cls flds base bx es) : ∀ k b, exM base es n k = some b → flds k ≠ [] ∧ Er.Asked K (cls k) ∧ PySem.W.kitOne K (.ref (cls k)) (.ref (cls n)) = some b := fun k b h => ⟨x.has k (exM_in h), x.asked k (exM_in h), x.kit n k b h⟩
/-- what a def knows of the lambda that it got -/
def Act (X : Cx) (G : Gl) (Ng : List Str) (x : Str) (sg : Scope) (g : Addr) (cg : Value) (s : Shared) (H : Hp) (E : XK) (f : Addr) (y : Up) (a : Str) (th : T D) : Prop :=
  ∀ (W : WX) (pn : List (Addr × Obj)) (xe : Value → Shared → Prop) (p1 p2 : Pos), Takes ((gCx X Ng x sg g cg s H E).tr pn xe) W → EE ((gCx X Ng x sg g cg s H E).tr pn xe) (G.to G.ea (some (f, y))) W (.Call (.Name a p1) [] [] p2) (gThk 0 th)
end Py
namespace Py
open PySem PySem.Spec PyProof.Rows L2
theorem no_of {ns ns' : List Str} {f : Str} (e : ns = ns') (h : nsIx ns' f = none) : nsIx ns f = none := by
  rw [e]
  exact h
/-! ### range as a tuple, a list -/
theorem rgV_ats {G : Gl} {H : Hp} (lo hi : Int) : Ats G H (rngD lo hi) (rgV lo hi) := by
  unfold rngD rgV
  have key : ∀ l : List Nat, Ats G H (l.map fun i : Nat => D.int (lo + (i : Int))) (l.map fun i : Nat => V.int (lo + (i : Int))) := by
    intro l
    induction l with
    | nil => exact .nil
    | cons a r ih => exact .cons .int ih
  exact key _
def rgT (w : List D → D) (i j : Int) : T D := if -100000 ≤ i ∧ i ≤ 100000 ∧ -100000 ≤ j ∧ j ≤ 100000 then .ret (w (rngD i j)) else .bad
def gRg1 (w : List D → D) (f : Env → T D) : Env → T D := fun ρ => f ρ >>= fun d => match d with
  | .int j => rgT w 0 j
  | _ => .bad
def gRg2 (w : List D → D) (f g : Env → T D) : Env → T D := fun ρ => f ρ >>= fun d => g ρ >>= fun e => match d, e with
  | .int i, .int j => rgT w i j
  | _, _ => .bad
theorem rg_ok {i j : Int} (h : -100000 ≤ i ∧ i ≤ 100000 ∧ -100000 ≤ j ∧ j ≤ 100000) : RgOk i j := ⟨by omega, by omega, by omega, by omega, by omega⟩
section
variable {X : Cx} {G : Gl} {W : WX}
theorem ee_tupRg1 {e : Expr} {f : Env → T D} {p p2 pos pos2 : Pos} (hc : X.calm = true) (hg : L2.Gl X "tuple") (hm : X.mg "tuple" = none) (hg2 : L2.Gl X "range") (hm2 : X.mg "range" = none) (he : EE X G W e f)
    (na : starEach [e] X.env = (false, eval e X.env) :: starEach [] X.env := by rfl) (na2 : starEach [.Call (.Name "range" p2) [e] [] pos2] X.env = (false, eval (.Call (.Name "range" p2) [e] [] pos2) X.env) :: starEach [] X.env := by rfl) :
    EE X G W (.Call (.Name "tuple" p) [.Call (.Name "range" p2) [e] [] pos2] [] pos) (gRg1 .tup f) := by
  refine PE_imp (pe_tupRg hc hg hm (prg_1 hg2 hm2 he na) na2) fun σ H Q q => ?_
  obtain ⟨ρ, hd, R, q⟩ := q
  refine ⟨ρ, hd, R, T.wp_imp (wp_then q) fun d q1 x H1 e1 h1 => ?_⟩
  cases d with
  | int j =>
    cases h1
    obtain ⟨hh, q2⟩ := wp_if (show (if (-100000 : Int) ≤ 0 ∧ (0 : Int) ≤ 100000 ∧ -100000 ≤ j ∧ j ≤ 100000 then T.ret (D.tup (rngD 0 j)) else .bad).wp _ _ from q1)
    refine ⟨j, rfl, rg_ok hh, fun q3 hq => q2 _ _ (e1.trans (Lead.new hq)) (.tup (.inl (.inl ((R.good.lead e1).seen hq))) (rgV_ats 0 j))⟩
  | _ => exact q1.elim
theorem ee_lstRg1 {e : Expr} {f : Env → T D} {p p2 pos pos2 : Pos} (hc : X.calm = true) (hg : L2.Gl X "list") (hm : X.mg "list" = none) (hg2 : L2.Gl X "range") (hm2 : X.mg "range" = none) (he : EE X G W e f)
    (na : starEach [e] X.env = (false, eval e X.env) :: starEach [] X.env := by rfl) (na2 : starEach [.Call (.Name "range" p2) [e] [] pos2] X.env = (false, eval (.Call (.Name "range" p2) [e] [] pos2) X.env) :: starEach [] X.env := by rfl) :
    EE X G W (.Call (.Name "list" p) [.Call (.Name "range" p2) [e] [] pos2] [] pos) (gRg1 .lst f) := by
  refine PE_imp (pe_listRg hc hg hm (prg_1 hg2 hm2 he na) na2) fun σ H Q q => ?_
  obtain ⟨ρ, hd, R, q⟩ := q
  refine ⟨ρ, hd, R, T.wp_imp (wp_then q) fun d q1 x H1 e1 h1 => ?_⟩
  cases d with
  | int j =>
    cases h1
    obtain ⟨hh, q2⟩ := wp_if (show (if (-100000 : Int) ≤ 0 ∧ (0 : Int) ≤ 100000 ∧ -100000 ≤ j ∧ j ≤ 100000 then T.ret (D.lst (rngD 0 j)) else .bad).wp _ _ from q1)
    refine ⟨j, rfl, rg_ok hh, fun q3 hq => q2 _ _ (e1.trans (Lead.new hq)) (.lst ((R.good.lead e1).seen hq) (rgV_ats 0 j))⟩
  | _ => exact q1.elim
end
end Py
set_option Elab.async false
set_option linter.all false
set_option maxRecDepth 100000
set_option maxHeartbeats 4000000
namespace Py
open PySem PySem.Spec PyProof.Rows L2
section
variable {X : Cx} {G : Gl} {W : WX} {hs : Hid}
/-! ### an error without parameters -/
/-- C() -/
theorem pmk0 {x : Str} {C : Addr} {p pos : Pos} (q : PySem.W.excIn X.K C [.type "Exception", .type "BaseException", .type "object"] "Exception.__new__" = true) (gC : X.mg x = some (.ref C)) (kC : PySem.W.keepIn X.K (.ref C) = true) (r : Raises X (.ref C)) (hg : L2.Gl X x)
    (hdb : (x == ("__debug__" : Str)) = false := by decide) : PMk X (.Call (.Name x p) [] [] pos) (fun _ H Q => Q (.ref C) none H) := by
  intro pins s σ H Q I h
  refine wpAny_Call_Name_kw (ld_glob I hg gC ?_ hdb)
  refine PySem.W.callWith_K0 I.kIn kC ?_
  show wpAny _ _ (call (.ref C) []) _ _ _
  obtain ⟨bm, N, nm, qn, bs, hdct, sn, sub, ab, col, dd, k0, k1, k2, k3, k5, mN, hC, hN, hni, tl⟩ := exc_obj I.kIn q
  refine wpAny_call_exc_subT PySem.F.excBase_Exception tl hC hN hni (fun h' e hm => ?_) (by show 0 ≤ sizeLine; exact Nat.zero_le _)
  exact mk_of I hm r h (I.hok.gone hm.new)
/-- an error class without parameters -/
structure En0 (K : PySem.W.Frag) (mg : Str → Option Value) (C : Addr) (fl0 : List Str) (x : Str) : Prop where
  fl : fl0 = []
  exc : PySem.W.excIn K C [.type "Exception", .type "BaseException", .type "object"] "Exception.__new__" = true
  g : mg x = some (.ref C)
  kp : PySem.W.keepIn K (.ref C) = true
  exC : PySem.W.subIn K (.ref C) (.type "BaseException") = some true
  tyC : PySem.W.typeIn K (.ref C) = some (.type "type")
def sRaise0 (c : Nat) : Sm := fun ρ => .ret (.rz c [] ρ)
theorem ss_raise0 {x : Str} {c : Nat} {p pos pos2 : Pos} (hc : X.calm = true) (e : En0 X.K X.mg (G.cls c) (G.flds c) x) (tk : Takes X W) (hg : L2.Gl X x) (hdb : (x == ("__debug__" : Str)) = false := by decide) :
    SS X G W hs (.Raise (some (.Call (.Name x p) [] [] pos)) none pos2) (sRaise0 c) := by
  refine PS_imp (ps_raise hc tk (pmk0 e.exc e.g e.kp (raises_own e.exC e.tyC) hg hdb)) fun Dn σ H q => ?_
  obtain ⟨ρ, hd, R, q⟩ := q
  exact q hd _ _ σ H R (Ex.refl _) ⟨rfl, .inl ⟨e.fl, rfl⟩⟩
end
namespace Er
open PySem PySem.W PySem.Calls PyProof.Rows PySem.HandSPX
/-! ### an __init__ that keeps its two parameters -/
def iA2 (f g : Str) (p1 p2 p3 : Pos) : Arguments := { posonlyargs := [], args := [{ arg := "self", annotation := none, pos := p1 }, { arg := f, annotation := none, pos := p2 }, { arg := g, annotation := none, pos := p3 }], vararg := none, kwonlyargs := [], kw_defaults := [], kwarg := none, defaults := [] }
def iB2 (f g : Str) (q1 q2 q3 q4 r1 r2 r3 r4 : Pos) : List Stmt := [.Assign [.Attribute (.Name "self" q1) f q2] (.Name f q3) q4, .Assign [.Attribute (.Name "self" r1) g r2] (.Name g r3) r4]
def iS2 (f g : Str) : Scope := { kind := .function, names := [(PySem.Str.ofString "self", .local), (f, .local), (g, .local)], isGenerator := false, isCoroutine := false, more := [] }
structure Txt2 (K : Frag) (mg : Str → Option Value) (x f g : Str) (C fI : Addr) : Prop where
  gC : mg x = some (.ref C)
  cls : ∃ nm q N bs D sn sub ab col dd k0 k1 k2 k3 k5, K.lookup C = some (excClassObj nm q C N bs (up D) true sn sub ab col dd k0 k1 k2 k3 k5 "Exception.__new__")
  sa : findIn K (.ref C) "__setattr__" = some (some (.builtin "object.__setattr__"))
  noN : findIn K (.ref C) f = some none
  noG : findIn K (.ref C) g = some none
  iC : findIn K (.ref C) "__init__" = some (some (.ref fI))
  tC : typeIn K (.ref fI) = some (.type "function")
  kC : keepIn K (.ref C) = true
  exC : subIn K (.ref C) (.type "BaseException") = some true
  tyC : typeIn K (.ref C) = some (.type "type")
  nf : (f == ("__debug__" : Str)) = false ∧ f ≠ "self"
  ng : (g == ("__debug__" : Str)) = false ∧ g ≠ "self"
  fg : f ≠ g
  bd : ∀ (qn : Str) (p1 p2 p3 q1 q2 q3 q4 r1 r2 r3 r4 : Pos) (doc pm cdv ct : Value) (an : Option Addr) (a b c : Value), bindArgs (fnOf "__init__" qn (iA2 f g p1 p2 p3) (iB2 f g q1 q2 q3 q4 r1 r2 r3 r4) (iS2 f g) .none .none doc pm an cdv ct) ⟨[a, b, c], []⟩ = pure [(PySem.Str.ofString "self", a), (f, b), (g, c)]
  fn : ∃ (qn : Str) (oc : Value) (od : Option Addr) (doc pm : Value) (an : Option Addr) (cdv ct : Value) (osl : Array (Option Value)) (p1 p2 p3 q1 q2 q3 q4 r1 r2 r3 r4 : Pos),
    K.lookup fI = some ⟨oc, od, .func (fnOf "__init__" qn (iA2 f g p1 p2 p3) (iB2 f g q1 q2 q3 q4 r1 r2 r3 r4) (iS2 f g) .none .none doc pm an cdv ct), osl⟩ ∧ codeIn K cdv qn = true
theorem line2 (v u : Value) : [v, u].length ≤ sizeLine := by
  rw [sizeLine_eq]
  exact (by decide : 2 ≤ 16777216)
/-- both attributes -/
def two (f g : Str) (v u : Value) : Str → Option Value := fun y => if y = g then some u else if y = f then some v else none
section
variable {prog : Program} {w : World} {A : Around} {R : Result → Shared → Prop} {s : Shared} {K : Frag} {mg : Str → Option Value} {x0 f g : Str} {C fI : Addr}
structure Left2 (f g : Str) (h h' : Heap) (x C dx t1 : Addr) (v u : Value) : Prop where
  old : ∀ b o, b ≠ x → h.get? b = some o → h'.get? b = some o
  obj : h'.get? x = some { cls := .ref C, dict := some dx, data := .fields #[.ref t1, .none, .none, .none, .bool false, .none] }
  big : h.objs.size ≤ dx
  ne : dx ≠ x
  ns : h'.Ns1 dx (two f g v u)
theorem kinds2 (nm : Str) (L a : Addr) (cd : Value) (hf : f ≠ "self") (hg : g ≠ "self") (fg : f ≠ g) : (envOfC nm (iS2 f g) L a cd).kindOf "self" = some .local ∧ (envOfC nm (iS2 f g) L a cd).kindOf f = some .local ∧ (envOfC nm (iS2 f g) L a cd).kindOf g = some .local := by
  have e1 : (f == PySem.Str.ofString "self") = false := by simpa using hf
  have e2 : (g == PySem.Str.ofString "self") = false := by simpa using hg
  have e3 : (g == f) = false := by simpa using Ne.symm fg
  refine ⟨rfl, ?_, ?_⟩
  · show (List.lookup f [(PySem.Str.ofString "self", .local), (f, NameKind.local), (g, NameKind.local)]) = some .local
    simp [List.lookup, e1]
  · show (List.lookup g [(PySem.Str.ofString "self", .local), (f, NameKind.local), (g, NameKind.local)]) = some .local
    simp [List.lookup, e2, e3]
theorem init2 (T : Txt2 K mg x0 f g C fI) {x t0 : Addr} {v u : Value} (kin : K.In s.heap) (lim : s.heap.NoLimit) (hx : s.heap.get? x = some (excO C t0)) (nk : K.lookup x = none) (room : A.depth < recursionLimit)
    (k : ∀ h' tk dx, Left2 f g s.heap h' x C dx t0 v u → R (.ok (.ret .none)) { s with heap := h', toks := tk }) :
    codeAny (model prog w) A (.call (.ref fI) ⟨[.ref x, v, u], []⟩) R s := by
  obtain ⟨qn, oc, od, doc, pm, an, cdv, ct, osl, p1, p2, p3, q1, q2, q3, q4, r1, r2, r3, r4, ho, hcd⟩ := T.fn
  obtain ⟨nm, q, N, bs, D, sn, sub, ab, col, dd, k0, k1, k2, k3, k5, hC⟩ := T.cls
  obtain ⟨nd, ns⟩ := T.nf
  obtain ⟨ngd, ngs⟩ := T.ng
  have fg := T.fg
  have hcl : clsIn K C = some { name := nm, bases := bs, mro := .ref C :: up D, ns := N, qualname := q, hasDict := true, slotNames := sn, subclasses := sub, abstract := ab, collection := col, hasDel := false } := by
    unfold clsIn
    rw [hC] <;> rfl
  have ef : (f == ("self" : Str)) = false := by simpa using ns
  have eg : (g == ("self" : Str)) = false := by simpa using ngs
  have egf : (g == f) = false := by simpa using Ne.symm fg
  refine Att.call_fn (binds := [("self", .ref x), (f, v), (g, u)]) kin lim ho hcd room (BindsTo.of_eq (T.bd _ _ _ _ _ _ _ _ _ _ _ _ _ _ _ _ _ _ _ _)) (by simp [iS2, List.lookup, ef, eg, egf]) (fun s₁ IC => ?_) rfl rfl rfl
  obtain ⟨h₁, tk₁, rfl⟩ := IC.toInCall.same
  have kp : ∀ b o, s.heap.get? b = some o → h₁.get? b = some o := IC.toInCall.keep
  have hn := IC.toInCall.ns
  have kin₁ : K.In h₁ := kin.keeps kp
  have hx₁ := kp _ _ hx
  obtain ⟨ks, kf, kg⟩ := kinds2 (f := f) (g := g) qn s.heap.objs.size fI cdv ns ngs fg
  show wpAny _ _ (execs _ _) _ _ _
  refine wpAny_execs_cons (plainObj_wpAny_Assign_Attribute ?_)
  refine ldL (v := v) hn (by simp [PySem.bindL, ks, kf, kg, fg]) (ldL (v := .ref x) hn (by simp [PySem.bindL, ks, kf, kg, Ne.symm ns, Ne.symm ngs]) ?_ ks (by decide)) kf nd
  refine set_plain kin₁ (ox := excO C t0) (od := none) ⟨hx₁, rfl, rfl, trivial⟩ T.sa ?_
  refine first kin₁ hx₁ hcl rfl rfl T.noN (fun h₃ tk₃ dx k₃ dn dne hx₃ hn₃ => ?_)
  have xL : s.heap.objs.size ≠ x := Nat.ne_of_gt (Heap.lt_size hx)
  have z : s.heap.objs.size < h₁.objs.size := hn.lt
  have hn' : h₃.Ns s.heap.objs.size _ := hn.at (fun o q => k₃ _ o xL q)
  have kin₃ : K.In h₃ := fun b o e => k₃ b o (fun y => by rw [y, nk] at e; cases e) (kin₁ b o e)
  show wpAny _ _ (execs _ _) _ _ _
  refine wpAny_execs_cons (plainObj_wpAny_Assign_Attribute ?_)
  refine ldL (v := u) hn' (by simp [PySem.bindL, ks, kf, kg]) (ldL (v := .ref x) hn' (by simp [PySem.bindL, ks, kf, kg, Ne.symm ns, Ne.symm ngs]) ?_ ks (by decide)) kg ngd
  obtain ⟨od3, _, _, hod3, _⟩ := id hn₃
  refine set_plain kin₃ (ox := { cls := .ref C, dict := some dx, data := .fields #[.ref t0, .none, .none, .none, .bool false, .none] }) (od := some od3) ⟨hx₃, rfl, rfl, hod3⟩ T.sa ?_
  refine further kin₃ hx₃ hn₃ (nl := [f]) (fun y hy => by
    by_cases e : y = f
    · rw [e]; exact List.mem_cons_self ..
    · exact absurd (if_neg e) hy) (show 1 ≤ 1000 by decide) hcl rfl rfl T.noG (fun h₄ tk₄ k₄ hn₄ => ?_)
  show wpAny _ _ (execs _ _) _ _ _
  refine wpAny_execs_nil (k h₄ tk₄ dx ⟨fun b o hb e => ?_, k₄ x _ (Ne.symm dne) hx₃, Nat.le_of_lt (Nat.lt_of_lt_of_le z dn), dne, hn₄⟩)
  have e1 := kp b o e
  exact k₄ b o (fun y => by rw [y] at e1; exact absurd (Heap.lt_size e1) (Nat.not_lt.mpr dn)) (k₃ b o hb e1)
structure Made2 (f g : Str) (h h' : Heap) (e C d : Addr) (v u : Value) : Prop where
  old : ∀ b o, h.get? b = some o → h'.get? b = some o
  new : h.objs.size ≤ e
  obj : ∃ oe vs, h'.get? e = some oe ∧ oe.cls = .ref C ∧ oe.dict = some d ∧ oe.data = .fields vs ∧ vs[1]? = some .none
  big : h.objs.size ≤ d
  ne : d ≠ e
  ns : h'.Ns1 d (two f g v u)
theorem made2 (T : Txt2 K mg x0 f g C fI) {v u : Value} (kin : K.In s.heap) (lim : s.heap.NoLimit) (room : A.depth + 1 < recursionLimit)
    (k : ∀ h' tk e d, Made2 f g s.heap h' e C d v u → R (.ok (.ret (.ref e))) { s with heap := h', toks := tk }) :
    codeAny (model prog w) A (.call (.ref C) ⟨[v, u], []⟩) R s := by
  obtain ⟨nm, q, N, bs, D, sn, sub, ab, col, dd, k0, k1, k2, k3, k5, hC⟩ := T.cls
  obtain ⟨hp, gs, dr, tk, os⟩ := s
  have kp : ∀ b o, hp.get? b = some o → ((hp.push (kdv_tup [v, u])).push (excO C hp.objs.size)).get? b = some o := fun b o e => Heap.get?_push_of_some _ (Heap.get?_push_of_some _ e)
  have at_ : ((hp.push (kdv_tup [v, u])).push (excO C hp.objs.size)).get? (hp.objs.size + 1) = some (excO C hp.objs.size) := by heap_get
  have nk : K.lookup (hp.objs.size + 1) = none := by
    cases e : K.lookup (hp.objs.size + 1) with
    | none => rfl
    | some o => exact absurd (Nat.lt_of_succ_lt (Heap.lt_size (kin _ _ e))) (Nat.lt_irrefl _)
  have tails : ∀ n : String, (up D).contains (.type n) = PySem.ESX.exTail.contains (.type n) := up_type D
  refine call_own F.excBase_Exception tails (kin _ _ hC) (looks_findIn kin T.iC) (fun self => bind_fn kin self T.tC) (line2 v u) ?_
  refine init2 (s := ⟨(hp.push (kdv_tup [v, u])).push (excO C hp.objs.size), gs, dr, tk, os⟩) T (kin.keeps kp) (lim.keeps kp) at_ nk room fun h' tk' dx ⟨k', hx, dn, dne, hns⟩ => ?_
  have old : ∀ b o, hp.get? b = some o → h'.get? b = some o := fun b o e => k' b o (Nat.ne_of_lt (Nat.lt_succ_of_lt (Heap.lt_size e))) (kp b o e)
  have z : hp.objs.size + 1 + 1 ≤ dx := by
    have q := dn
    rw [Heap.size_push, Heap.size_push] at q
    exact q
  exact ⟨rfl, k h' tk' (hp.objs.size + 1) dx ⟨old, Nat.le_succ _, ⟨_, _, hx, rfl, rfl, rfl, rfl⟩, Nat.le_trans (Nat.le_trans (Nat.le_succ _) (Nat.le_succ _)) z, dne, hns⟩⟩
end
end Er
theorem relO_two {v u : V} {v' u' : Value} (r : RelV v v') (r' : RelV u u') {f g : Str} (fg : f ≠ g) (y : Str) : RelO (List.lookup y [(f, v), (g, u)]) (Er.two f g v' u' y) := by
  unfold Er.two
  by_cases h : y = g
  · rw [if_pos h, h]
    have e : (g == f) = false := by simpa using Ne.symm fg
    have q : List.lookup g [(f, v), (g, u)] = some u := by simp [List.lookup, e]
    rw [q]
    exact r'
  · rw [if_neg h]
    by_cases h2 : y = f
    · rw [if_pos h2, h2]
      have q : List.lookup f [(f, v), (g, u)] = some v := by simp [List.lookup]
      rw [q]
      exact r
    · rw [if_neg h2]
      have e1 : (y == g) = false := by simpa using h
      have e2 : (y == f) = false := by simpa using h2
      have q : List.lookup y [(f, v), (g, u)] = none := by simp [List.lookup, e1, e2]
      rw [q]
      trivial
section
variable {X : Cx} {G : Gl} {W : WX} {hs : Hid}
def tMk2 (C : Addr) (f g : Str) (ta : TA) : L2.St → Hp → XK → Prop := fun σ H Q => ta σ H fun vs H1 => ∃ v u, vs = [v, u] ∧ ∀ d, H1 d = none → Q (.ref C) (some d) (upd H1 d (.xd [(f, v), (g, u)]))
theorem pmk2 {x f g : Str} {C fI : Addr} {a b : Expr} {ta : TA} {p pos : Pos} {k : Nat} (T : Er.Txt2 X.K X.mg x f g C fI) (hr : Room k X.A) (ha : PA X [a, b] ta) (hg : L2.Gl X x) (hdb : (x == ("__debug__" : Str)) = false := by decide)
    (he : starEach (a :: [b]) X.env = (false, eval a X.env) :: starEach [b] X.env := by rfl) (hpl : (backTo pos (starEach [b] X.env)).any (·.1) = false := by rfl) :
    PMk X (.Call (.Name x p) [a, b] [] pos) (tMk2 C f g ta) := by
  intro pins s σ H Q I h
  refine wpAny_Call_Name_kw (ld_glob I hg T.gC ?_ hdb)
  refine PySem.W.callWith_K (h₀ := X.base) I.ok.mod.kin T.kC (thn (ha.run pos pins s σ H _ I h) fun us s1 hh => ?_) he hpl
  obtain ⟨vs, H1, I1, r1, v, u, ev, q1⟩ := hh
  subst ev
  refine ⟨I1.kIn, ?_⟩
  obtain ⟨v', u', rfl, rv, ru⟩ := vals2 r1
  show wpAny _ _ (call (.ref C) [v', u']) _ _ _
  have lim := I1.nolimit
  obtain ⟨hp, gs, dr, tk, os⟩ := s1
  refine wpAny_call (Er.made2 T I1.kIn lim (by have := hr.dp; omega) fun h' tk' e d M => ?_)
  show MkP X pins σ Q (.ref e) ⟨h', gs, dr, tk', os⟩
  obtain ⟨oe, fv, hoe, hc, hd, hdat, h1⟩ := M.obj
  have ns := M.ns
  obtain ⟨G', g1, g2⟩ := restrict h' fun b => decide (b ≠ e)
  have gk : ∀ b, b ≠ e → G'.get? b = h'.get? b := fun b hb => g1 b (decide_eq_true hb)
  have ge : G'.get? e = none := g2 e (by simp)
  have below : ∀ b o, hp.get? b = some o → b ≠ e := fun b o q => Nat.ne_of_lt (Nat.lt_of_lt_of_le (Heap.lt_size q) M.new)
  have old : ∀ b o, hp.get? b = some o → G'.get? b = some o := fun b o q => (gk b (below b o q)).trans (M.old b o q)
  have ob : ObjOk X.prog X.w (upd H1 d (.xd [(f, v), (g, u)])) G' d (.xd [(f, v), (g, u)]) := ⟨_, ns.at (fun o q => (gk d M.ne).trans q), relO_two rv ru T.fg⟩
  have J : Inv X pins σ (upd H1 d (.xd [(f, v), (g, u)])) ⟨G', gs, dr, tk', os⟩ := I1.laid (t' := tk') old M.big ob
  have fe : H1 e = none := I1.hok.fresh M.new
  refine ⟨e, oe, fv, ⟨G', gs, dr, tk', os⟩, _, .ref C, some d, rfl, J, fun b o q => ?_, ge, hoe, ⟨hc, hd⟩, hdat, h1, by rw [upd_ne (Ne.symm M.ne)]; exact fe, rfl, I1.bare, raises_own T.exC T.tyC, q1 d (I1.hok.fresh M.big)⟩
  have ne : b ≠ e := fun z => by
    have q' : G'.get? b = some o := q
    rw [z, ge] at q'
    cases q'
  exact (gk b ne).symm.trans q
/-- raise C(e, e') -/
def sRaise2 (c : Nat) (f g : Env → T D) : Sm := fun ρ => bindS (f ρ) ρ fun d => bindS (g ρ) ρ fun e => .ret (.rz c [d, e] ρ)
theorem ss_raise2 {x f g : Str} {c : Nat} {fI : Addr} {a b : Expr} {fa fb : Env → T D} {p pos pos2 : Pos} {k : Nat} (hc : X.calm = true) (T2 : Er.Txt2 X.K X.mg x f g (G.cls c) fI) (hf : G.flds c = [f, g]) (hr : Room k X.A) (tk : Takes X W) (ha : EE X G W a fa) (hb : EE X G W b fb) (hg : L2.Gl X x) (hdb : (x == ("__debug__" : Str)) = false := by decide)
    (he : starEach (a :: [b]) X.env = (false, eval a X.env) :: starEach [b] X.env := by rfl) (he2 : starEach (b :: []) X.env = (false, eval b X.env) :: starEach [] X.env := by rfl) (hpl : (backTo pos (starEach [b] X.env)).any (·.1) = false := by rfl) :
    SS X G W hs (.Raise (some (.Call (.Name x p) [a, b] [] pos)) none pos2) (sRaise2 c fa fb) := by
  refine PS_imp (ps_raise hc tk (pmk2 T2 hr (pa_cons ha (pa_cons hb pa_nil he2) he) hg hdb he hpl)) fun Dn σ H q => ?_
  obtain ⟨ρ, hd, R, q⟩ := q
  refine ⟨ρ, hd, R.rep, T.wp_mono (bindS_then q) (fun d q1 v H1 e1 h1 => ?_) fun c l z => rz_of R z⟩
  refine ⟨ρ, hd, R.rep.lead e1, T.wp_mono (bindS_then q1) (fun d2 q2 u H2 e2 h2 => ⟨v, u, rfl, fun dx nd => ?_⟩) fun c l z => xE.lead (rz_of R z) e1⟩
  have R2 := (R.to e1).to e2
  have L : Lead G H2 (upd H2 dx (.xd [(f, v), (g, u)])) := Lead.new nd
  have x1 := L.hide R2.rep.m
  refine q2 hd _ _ σ _ (R2.to L) (((e1.hide R.rep.m).trans (e2.hide R.rep.m)).trans x1) ⟨rfl, .inr ⟨dx, _, rfl, R2.rep.good.seen nd, by rw [hf]; rfl, .cons ((h1.mono (e2.hide R.rep.m)).mono x1) (.cons (h2.mono x1) .nil)⟩⟩
end
/-- an error class with two parameters -/
structure En2 (K : PySem.W.Frag) (mg : Str → Option Value) (C : Addr) (fl0 : List Str) (x f g : Str) : Prop where
  fl : fl0 = [f, g]
  txt : ∃ fI, Er.Txt2 K mg x f g C fI
end Py
set_option Elab.async false
set_option linter.all false
set_option maxRecDepth 100000
set_option maxHeartbeats 4000000
namespace Py
open PySem PySem.Spec PyProof.Rows L2
/-! ### the deck of numbers that are used up: {"cells": .., "mixed": ..} -/
abbrev kM : Key := .inr "mixed"
abbrev mxO (cl : Addr) (m : Int) : HO := .dK [(kC, V.ref cl), (kM, V.int m)]
theorem val_mx {cl : Addr} {m : Int} : valV [(kC, V.ref cl), (kM, V.int m)] kM = some (.int m) := by
  rw [valV_neg (show ¬ kC = kM by decide), valV_pos rfl]
theorem val_mc {cl : Addr} {m : Int} : valV [(kC, V.ref cl), (kM, V.int m)] kC = some (.ref cl) := valV_pos rfl
theorem put_mx {cl : Addr} {a b : Int} : putK [(kC, V.ref cl), (kM, V.int a)] kM (.int b) = [(kC, V.ref cl), (kM, V.int b)] := by
  unfold putK
  have e : ([(kC, V.ref cl), (kM, V.int a)].any fun kv => decide (kv.1 = kM)) = true := by
    simp
  rw [if_pos e]
  have n : ¬ kC = kM := by decide
  show List.map _ _ = _
  rw [List.map_cons, List.map_cons, List.map_nil, if_neg n, if_pos rfl]
theorem get_mx {H : Hp} {p cl : Addr} {m : Int} (h : H p = some (mxO cl m)) : DGet H p (.str "mixed") (some (.int m)) := by
  rw [← val_mx (cl := cl)]
  exact DGet.k (k := kM) h
theorem get_mc {H : Hp} {p cl : Addr} {m : Int} (h : H p = some (mxO cl m)) : DGet H p (.str "cells") (some (.ref cl)) := by
  rw [← val_mc (m := m)]
  exact DGet.k (k := kC) h
abbrev rMod : R2 := rI (fun _ j => j ≠ 0) fun i j => .int (i.fmod j)
abbrev rPl : R2 := rI0 fun i j => .int (i + j)
abbrev tCell : TE := tDGet (tVar 0) (tC (.str "cells"))
abbrev tMx : TE := tDGet (tVar 0) (tC (.str "mixed"))
/-- what the def's text is read as -/
def tDraw3 (K : PySem.W.Frag) : TS :=
  tSeq (tIfS (tTest (tOp (rNeD K) tCell (tLst tNil)))
    (tSeq (tAsg (tBM0 K "list" rPop tCell) (gName 2))
    (tSeq (tIfS (tTest (tOp (rI0 fun i j => .bl (decide (j ≤ i))) (tVar 2) (tOp (rI CPow fun i j => .int (i ^ j.toNat)) (tC (.int 10)) (tC (.int 18)))))
      (tSeq (tDrop (tBM K "list" rAppend tCell (tCons (tOp (rI CDivS fun i j => .int (i.fdiv j)) (tVar 2) (tCB (fun xs H Q => ∃ i j, xs = [.int i, .int j] ∧ Q (.int (if j > i then j else i)) H) (tCons (tC (.int 2)) (tCons (tVar 1) tNil)))) tNil)))
        (tRet (tOp rMod (tVar 2) (tVar 1)))) tNext)
      (sDPut (tVar 0) (tC (.str "mixed")) (tOp rMod (tOp rPl tMx (tVar 2)) (tC (.int 2147483647)))))) tNext)
  (tSeq (sDPut (tVar 0) (tC (.str "mixed")) (tOp rMod (tOp rPl (tOp (rI CMul fun i j => .int (i * j)) tMx (tC (.int 48271))) (tC (.int 1087219))) (tC (.int 2147483647))))
    (tRet (tOp rMod (tOp (rI CDivS fun i j => .int (i.fdiv j)) tMx (tC (.int 128))) (tVar 1))))
/-- what is known of the two objects -/
structure Mx (p cl : Addr) (H : Hp) (m : Int) (ns : List Int) : Prop where
  ne : cl ≠ p
  h1 : H p = some (mxO cl m)
  h2 : H cl = some (.lst (ns.map V.int))
  few : ns.length ≤ 100
  lo : 0 ≤ m
  hi : m < 2147483647
/-- all else stays -/
def Els (p cl : Addr) (H H' : Hp) : Prop := ∀ x o, x ≠ p → x ≠ cl → H x = some o → H' x = some o
theorem Els.trans {p cl : Addr} {H H1 H2 : Hp} (a : Els p cl H H1) (b : Els p cl H1 H2) : Els p cl H H2 := fun x o n1 n2 e => b x o n1 n2 (a x o n1 n2 e)
theorem Els.new {p cl : Addr} {H : Hp} {q : Addr} {o : HO} (h : H q = none) : Els p cl H (upd H q o) := fun x u _ _ e => by
  rw [upd_ne (ne_of_none e h)]
  exact e
theorem Mx.new {p cl : Addr} {H : Hp} {m : Int} {ns : List Int} {q : Addr} {o : HO} (x : Mx p cl H m ns) (h : H q = none) : Mx p cl (upd H q o) m ns := ⟨x.ne, by rw [upd_ne (ne_of_none x.h1 h)]; exact x.h1, by rw [upd_ne (ne_of_none x.h2 h)]; exact x.h2, x.few, x.lo, x.hi⟩
theorem Mx.mix {p cl : Addr} {H : Hp} {m : Int} {ns : List Int} (x : Mx p cl H m ns) {y : Int} : Mx p cl (upd H p (mxO cl (y.fmod 2147483647))) (y.fmod 2147483647) ns :=
  ⟨x.ne, upd_same, by rw [upd_ne x.ne]; exact x.h2, x.few, (fmod_in (by decide)).1, (fmod_in (by decide)).2⟩
theorem Mx.cells {p cl : Addr} {H : Hp} {m : Int} {ns ms : List Int} (x : Mx p cl H m ns) (l : ms.length ≤ 100) : Mx p cl (upd H cl (.lst (ms.map V.int))) m ms :=
  ⟨x.ne, by rw [upd_ne (Ne.symm x.ne)]; exact x.h1, upd_same, l, x.lo, x.hi⟩
theorem Els.p {p cl : Addr} {H : Hp} {o : HO} : Els p cl H (upd H p o) := fun x u n _ e => by
  rw [upd_ne n]
  exact e
theorem Els.c {p cl : Addr} {H : Hp} {o : HO} : Els p cl H (upd H cl o) := fun x u _ n e => by
  rw [upd_ne n]
  exact e
theorem Mx.put {p cl : Addr} {H : Hp} {m : Int} {ns : List Int} (x : Mx p cl H m ns) (y : Int) : DPut H p (.str "mixed") (.int y) (upd H p (mxO cl y)) := by
  have z := DPut.k (k := kM) (v := .int y) x.h1 (by show 2 < sizeLine; rw [sizeLine_eq]; decide)
  rw [put_mx] at z
  exact z
theorem fin3 {p cl : Addr} {b m : Int} {ns : List Int} {H0 H : Hp} {Q : VK} {v : Option V} (hb : 0 < b) (x : Mx p cl H m ns) (e0 : Els p cl H0 H)
    (k : ∀ (r : Int) (H' : Hp) (m' : Int) (ms : List Int), 0 ≤ r → r < b → Els p cl H0 H' → Mx p cl H' m' ms → Q (.int r) H') :
    tSeq (sDPut (tVar 0) (tC (.str "mixed")) (tOp rMod (tOp rPl (tOp (rI CMul fun i j => .int (i * j)) tMx (tC (.int 48271))) (tC (.int 1087219))) (tC (.int 2147483647))))
      (tRet (tOp rMod (tOp (rI CDivS fun i j => .int (i.fdiv j)) tMx (tC (.int 128))) (tVar 1))) { nx := fun _ H' => Q .non H', rt := Q } [some (.ref p), some (.int b), v] H := by
  refine ⟨.ref p, rfl, p, .int m, rfl, get_mx x.h1, m, 48271, rfl, rfl, .inr ⟨by decide, by decide⟩, _, _, rfl, rfl, _, _, rfl, rfl, (show (2147483647 : Int) ≠ 0 by decide), .ref p, rfl, p, _, rfl, x.put _, ?_⟩
  have x2 := x.mix (y := m * 48271 + 1087219)
  refine ⟨.ref p, rfl, p, _, rfl, get_mx x2.h1, _, 128, rfl, rfl, ⟨by decide, .inl (by decide)⟩, .int b, rfl, _, b, rfl, rfl, by omega, ?_⟩
  exact k _ _ _ _ (fmod_in hb).1 (fmod_in hb).2 (e0.trans Els.p) x2
theorem pure_draw3 {K : PySem.W.Frag} {p cl : Addr} {H : Hp} {b m : Int} {ns : List Int} {Q : VK} (hb : 0 < b) (hb2 : b < 1000000) (x : Mx p cl H m ns)
    (k : ∀ (r : Int) (H' : Hp) (m' : Int) (ms : List Int), 0 ≤ r → r < b → Els p cl H H' → Mx p cl H' m' ms → Q (.int r) H') :
    tDraw3 K { nx := fun _ H' => Q .non H', rt := Q } [some (.ref p), some (.int b), none] H := by
  refine ⟨.ref p, rfl, p, .ref cl, rfl, get_mc x.h1, (show ([] : List V).length ≤ sizeLine from Nat.zero_le _), fun q hq => ?_⟩
  have x1 : Mx p cl (upd H q (.lst [])) m ns := x.new hq
  have e1 : Els p cl H (upd H q (.lst [])) := Els.new hq
  have s1 : SqL K (upd H q (.lst [])) cl (ns.map V.int) := .inl (.inl x1.h2)
  refine ⟨.list (ns.map PyData.int), .list [], .lst s1 (dp_ints ns), .lst (.inl (.inl upd_same)) .nil, PySem.W.ke_shaped_ints ns, by decide, _, rfl, ?_⟩
  rcases List.eq_nil_or_concat ns with rfl | ⟨r, c, rfl⟩
  · rw [show (!PyData.eqv (.list (List.map PyData.int [])) (.list [])) = false from rfl]
    refine L2.iteF ?_
    exact fin3 hb x1 e1 k
  · have nn : (!PyData.eqv (.list (List.map PyData.int (r.concat c))) (.list [])) = true := by
      rw [List.concat_eq_append]
      cases r <;> rfl
    rw [nn]
    refine L2.iteT ?_
    have hl : (r.concat c).map V.int = r.map V.int ++ [V.int c] := by rw [List.concat_eq_append, List.map_append]; rfl
    have hc : upd H q (.lst []) cl = some (.lst (r.map V.int ++ [V.int c])) := by rw [← hl]; exact x1.h2
    have few : r.length + 1 ≤ 100 := by
      have := x.few
      rw [List.concat_eq_append, List.length_append] at this
      exact this
    refine ⟨.ref p, rfl, p, .ref cl, rfl, get_mc x1.h1, .inl ⟨rfl, _, .inl (.inl hc)⟩, cl, _, .int c, rfl, rfl, hc, by simp, ?_⟩
    rw [List.dropLast_concat]
    have x2 : Mx p cl (upd (upd H q (.lst [])) cl (.lst (r.map V.int))) m r := x1.cells (by omega)
    have e2 := e1.trans (Els.c (o := .lst (r.map V.int)))
    refine ⟨.int c, rfl, 10, 18, rfl, rfl, ⟨by decide, by decide, by decide⟩, c, _, rfl, rfl, _, rfl, ?_⟩
    by_cases big : (10 : Int) ^ (18 : Int).toNat ≤ c
    · rw [decide_eq_true big]
      refine L2.iteT ?_
      have hc2 : (upd (upd H q (.lst [])) cl (.lst (r.map V.int))) cl = some (.lst (r.map V.int)) := upd_same
      refine ⟨.ref p, rfl, p, .ref cl, rfl, get_mc x2.h1, .inl ⟨rfl, _, .inl (.inl hc2)⟩, .int c, rfl, .int b, rfl, 2, b, rfl, c, _, rfl, rfl, ?_, cl, _, _, rfl, rfl, hc2, ?_, ?_⟩
      · by_cases h2 : b > 2
        · rw [if_pos h2]
          exact ⟨by omega, .inl (by omega)⟩
        · rw [if_neg h2]
          exact ⟨by decide, .inl (by decide)⟩
      · rw [List.length_map, sizeLine_eq]
        omega
      · have ey : (r.map V.int ++ [(fun i j : Int => V.int (i.fdiv j)) c (if b > 2 then b else 2)]) = (r ++ [c.fdiv (if b > 2 then b else 2)]).map V.int := by
          rw [List.map_append]
          rfl
        rw [ey]
        have x3 : Mx p cl (upd (upd (upd H q (.lst [])) cl (.lst (r.map V.int))) cl (.lst ((r ++ [c.fdiv (if b > 2 then b else 2)]).map V.int))) m (r ++ [c.fdiv (if b > 2 then b else 2)]) := x2.cells (by rw [List.length_append]; exact few)
        refine ⟨.int c, rfl, .int b, rfl, c, b, rfl, rfl, by omega, ?_⟩
        exact k _ _ _ _ (fmod_in hb).1 (fmod_in hb).2 (e2.trans Els.c) x3
    · rw [decide_eq_false big]
      refine L2.iteF ?_
      refine ⟨.ref p, rfl, p, .int m, rfl, get_mx x2.h1, .int c, rfl, m, c, rfl, rfl, _, _, rfl, rfl, (show (2147483647 : Int) ≠ 0 by decide), .ref p, rfl, p, _, rfl, x2.put _, ?_⟩
      exact fin3 hb (x2.mix (y := m + c)) (e2.trans Els.p) k
structure MxJ (p cl : Addr) (tb : List (Addr × Str)) (H : Hp) : Prop where
  at_ : ∃ (m : Int) (ns : List Int), Mx p cl H m ns
  tb : LamX.Tabs tb H
/-- what is fixed through a law with such a deck at p, its cells at cl -/
def mkG3 (P : Program) (w : World) (K : PySem.W.Frag) (cls : Nat → Addr) (flds : Nat → List Str) (p cl : Addr) (tb : List (Addr × Str)) : Gl where
  P := P
  w := w
  K := K
  cls := cls
  flds := flds
  dk := p
  M := dkM p cl tb
  J := MxJ p cl tb
  tb := tb
  ea := none
  fa := none
  has := fun H a j m => by
    obtain ⟨n, ns, x⟩ := j.at_
    rcases m with rfl | rfl | ⟨q, hq, rfl⟩
    · rw [x.h1]
      exact (fun z => nomatch z)
    · rw [x.h2]
      exact (fun z => nomatch z)
    · obtain ⟨ps, e, _⟩ := j.tb q hq
      rw [e]
      exact (fun z => nomatch z)
  stays := fun H H' j h1 h2 => by
    obtain ⟨n, ns, x⟩ := j.at_
    exact ⟨⟨n, ns, ⟨x.ne, by rw [h1 p (.inl rfl)]; exact x.h1, by rw [h1 cl (.inr (.inl rfl))]; exact x.h2, x.few, x.lo, x.hi⟩⟩, tabs_keep j.tb (fun q hq => h1 q.1 (.inr (.inr ⟨q, hq, rfl⟩))) h2⟩
  tabs := fun H j => j.tb
  lam := fun H H' j e t => by
    obtain ⟨n, ns, x⟩ := j.at_
    exact ⟨⟨n, ns, ⟨x.ne, e _ _ x.h1 (fun _ z => nomatch z), e _ _ x.h2 (fun _ z => nomatch z), x.few, x.lo, x.hi⟩⟩, t⟩
  code := fun H c q j e m => by
    obtain ⟨n, ns, x⟩ := j.at_
    unfold LamX.CodeO at e
    rcases m with rfl | rfl | ⟨q, hq, rfl⟩
    · rw [x.h1] at e
      cases e
    · rw [x.h2] at e
      cases e
    · obtain ⟨ps, e3, _⟩ := j.tb q hq
      rw [e3] at e
      cases e
def drawD3 : List D → T D
  | [.deck, .int b] => if 0 < b ∧ b < 1000000 then .draw b.toNat fun i => .ret (.int i) else .bad
  | _ => .bad
section
variable {P : Program} {w : World} {K : PySem.W.Frag} {mg : Str → Option Value} {base : Heap} {cls : Nat → Addr} {flds : Nat → List Str} {p cl : Addr} {tb : List (Addr × Str)}
/-- THE RULE for such a _law_draw -/
theorem draw3_ok {x : Str} {st : Stmt} {f : Addr} {fd : FuncData} {y1 y2 y3 : Str} {k : Nat} (F : Fun K x x st f fd) (S : FnScope [y1, y2, y3] [y1, y2] (defScope st))
    (hb : ∀ (cdv : Value) (A : Around) (outer : List PySem.Env) (s0 : Shared) (H : Hp) (E : XK), Room k (A.deeper (PyProof.Rows.envOfC x (defScope st) s0.heap.objs.size f cdv)) → PSs (cxOf (L2.CX P w) P w K mg base [y1, y2, y3] x (defScope st) f cdv A outer s0 H E) (defBody st) (tDraw3 K)) :
    FnOk P w K mg base (L2.CX P w) (k + 1) f fd [y1, y2] (spD (mkG3 P w K cls flds p cl tb) 2 drawD3) := by
  refine F.okX S (fun vs H Q E h => h.1) fun cdv A outer s0 H vs Q E hr h => ⟨tDraw3 K, hb cdv A outer s0 H E hr, ?_⟩
  obtain ⟨hl, l, hs, g, hv, q⟩ := h
  cases hv with
  | nil => cases hl
  | @cons d1 v1 l1 r1 a1 hr1 =>
    cases hr1 with
    | nil => cases hl
    | @cons d2 v2 l2 r2 a2 hr2 =>
      cases hr2 with
      | @cons d3 v3 l3 r3 a3 hr3 =>
        simp at hl
      | nil =>
        cases d1 with
        | deck =>
          cases d2 with
          | int b =>
            obtain ⟨⟨hb0, hb1⟩, q⟩ := wp_if (show (if 0 < b ∧ b < 1000000 then (T.draw b.toNat fun i => .ret (D.int i)) else .bad : T D).wp _ _ from q)
            cases a1
            cases a2
            have j : MxJ p cl tb H := g.j
            obtain ⟨m, ns, mx⟩ := j.at_
            refine pure_draw3 (p := p) (cl := cl) hb0 hb1 mx fun r H' m' ms r0 r1 el mx' => ?_
            have q1 := q r.toNat (by omega)
            have er : ((r.toNat : Nat) : Int) = r := Int.toNat_of_nonneg r0
            have j' : MxJ p cl tb H' := ⟨⟨m', ms, mx'⟩, fun q hq => by
              obtain ⟨ps, t1, t2, t3⟩ := j.tb q hq
              refine ⟨ps, el _ _ (fun z => by rw [z, mx.h1] at t1; cases t1) (fun z => by rw [z, mx.h2] at t1; cases t1) t1, t2, fun pos cv hc => ?_⟩
              obtain ⟨c, t4, t5⟩ := t3 pos cv hc
              refine ⟨c, t4, el _ _ (fun z => ?_) (fun z => ?_) t5⟩
              · unfold LamX.CodeO at t5
                rw [z, mx.h1] at t5
                cases t5
              · unfold LamX.CodeO at t5
                rw [z, mx.h2] at t5
                cases t5⟩
            have L : Lead (mkG3 P w K cls flds p cl tb) H H' := ⟨fun a o m _ e => el a o (fun z => m (.inl z)) (fun z => m (.inr (.inl z))) e, fun _ => j'⟩
            have q2 : ∀ v H', (mkG3 P w K cls flds p cl tb).J H' → Lead (mkG3 P w K cls flds p cl tb) H H' → At (mkG3 P w K cls flds p cl tb) (hide hs H') (.int (r.toNat : Nat)) v → Q v H' := q1
            rw [er] at q2
            exact q2 _ H' j' L .int
          | _ => exact q.elim
        | _ => exact q.elim
end
end Py
set_option Elab.async false
set_option linter.all false
set_option maxRecDepth 100000
set_option maxHeartbeats 4000000
namespace Py
open PySem PySem.Spec PyProof.Rows L2
/-- a def with its code object -/
structure FunC (K : PySem.W.Frag) (x qual : Str) (st : Stmt) (f : Addr) (fd : FuncData) (cdv : Value) : Prop where
  ex : ∃ (oc : Value) (od : Option Addr) (kV doc pm : Value) (an : Option Addr) (ct : Value) (osl : Array (Option Value)),
    fd = PySem.W.fnOf x qual (defArgs st) (defBody st) (defScope st) .none kV doc pm an cdv ct ∧ K.lookup f = some ⟨oc, od, .func fd, osl⟩ ∧ PySem.W.codeIn K cdv qual = true
  kp : PySem.W.keepIn K (.ref f) = true
theorem FunC.plain {K : PySem.W.Frag} {x qual : Str} {st : Stmt} {f : Addr} {fd : FuncData} {cdv : Value} (F : FunC K x qual st f fd cdv) : Fun K x qual st f fd := by
  obtain ⟨oc, od, kV, doc, pm, an, ct, osl, e1, e2, e3⟩ := F.ex
  exact ⟨⟨oc, od, kV, doc, pm, an, cdv, ct, osl, e1, e2, e3⟩, F.kp⟩
section
variable {P : Program} {w : World} {K : PySem.W.Frag} {mg : Str → Option Value} {base : Heap} {G : Gl}
/-- THE RULE for a def whose code object is asked for (a lambda is made in it) -/
theorem fn_okC {x qual : Str} {st : Stmt} {f : Addr} {fd : FuncData} {cdv : Value} {N ps : List Str} {k : Nat} {s : Sm} (F : FunC K x qual st f fd cdv) (S : FnScope N ps (defScope st)) (hN : ps.length ≤ N.length)
    (hbody : ∀ (A : Around) (outer : List PySem.Env) (s0 : Shared) (H : Hp) (hs : Hid) (E : XK), Room k (A.deeper (PyProof.Rows.envOfC qual (defScope st) s0.heap.objs.size f cdv)) →
      SSs (cxOf (L2.CX P w) P w K mg base N qual (defScope st) f cdv A outer s0 H E) G (fun cls dx _ H' => E cls dx H') hs (defBody st) s) : FnOk P w K mg base (L2.CX P w) (k + 1) f fd ps (spD G ps.length (fn N.length s)) := by
  obtain ⟨oc, od, kV, doc, pm, an, ct, osl, e1, lk, hcd⟩ := F.ex
  subst e1
  refine fn_of lk hcd S (fun vs H Q E h => h.1) fun A outer s0 H vs Q E hr h => ?_
  obtain ⟨hl, l, hs, g, hv, q⟩ := h
  refine ⟨_, hbody A outer s0 H ⟨hs, fun _ => False⟩ E hr, env0 N.length l, hs, ⟨rep_start g hv (by rw [hl]; exact hN), LeadS.refl H, fun _ z => z, g.live.some, fun _ z => z.elim, fun k l' a h1 _ => absurd (no_own h1) (fun z => nomatch z)⟩, T.wp_imp (runS_wp q) fun o q1 => ?_⟩
  cases o with
  | nx ρ => exact fun hd σ H' R _ => q1 _ H' R.rep.j (toLead R.lead) .non
  | ret d => exact fun v H' j e a => q1 v H' j (toLead e) a
  | brk ρ => exact q1.elim
  | ct ρ => exact q1.elim
  | rz c l ρ => exact fun hd cls dx σ H' R _ a => q1 cls dx H' (toLead R.lead) (a.mono (hide_le R.sub))
end
section
variable {X : Cx} {G : Gl} {W : WX}
/-- x(lambda: body), x told by its Dn -/
theorem ee_lam {x a : Str} {st : Stmt} {g c P : Addr} {fd : FuncData} {k : Nat} {Ng : List Str} {ps : Arguments} {b : Expr} {sc : Scope} {p lpos pos : Pos} {fb : Env → T D} {sT : T D → Sm}
    (d : Dn X.K X.mg x st [a] g fd) (hg : L2.Gl X x) (Sg : FnScope Ng [a] (defScope st)) (hNg : Ng[0]? = some a) (hva : Vis (defScope st) a) (tk : Takes X W)
    (TB : LamX.TabB X.base X.mg c P) (hcode : X.env.code = .ref c) (hmT : (P, lq X) ∈ G.tb) (hu : ∀ p ∈ G.tb, p.1 = P → p.2 = lq X) (hr : Room (k + 2) X.A) (L : LamX.LamS X.env.scope sc) (hdef : defaultsOf ps X.env = ([], []))
    (bd : ∀ (q : Str) (cl : List (Str × Addr)) (pm cv ctv : Value), bindArgs (PySem.W.kla_fn "<lambda>" q ps b sc cl pm cv ctv) ⟨[], []⟩ = pure [])
    (hb : ∀ (f c' : Addr), BodyOk X k sc f c' b (fun E => tEE G (fun cls dx _ H' => E cls dx H') fb))
    (hgb : ∀ (cg : Value) (s : Shared) (H : Hp) (E : XK) (f : Addr) (y : Up) (th : T D) (hs : Hid), Room (k + 1) (X.A.deeper (envOfC x (defScope st) s.heap.objs.size g cg)) → Act X G Ng x (defScope st) g cg s H E f y a th →
      SSs (gCx X Ng x (defScope st) g cg s H E) (G.to G.ea (some (f, y))) (fun cls dx _ H' => E cls dx H') hs (defBody st) (sT th))
    (hdb : (x == ("__debug__" : Str)) = false := by decide) (h1 : (a == ("__debug__" : Str)) = false := by decide) (h2 : (a == ("__classdict__" : Str)) = false := by decide) :
    EE X G W (.Call (.Name x p) [.Lambda ps b sc lpos] [] pos) (fun ρ => runS (sT (fb (seen ρ)) (envT Ng.length))) := by
  obtain ⟨oc, od, kV, doc, pm, an, cdv, ct, osl, e1, lk, hcd⟩ := d.F.ex
  have hbn := d.b
  subst e1
  exact ee_lamcall hg d.g d.k lk hcd hbn Sg hNg hva tk TB hcode hmT hu hr L hdef bd hb (fun s H E f y th hs hr' act => hgb cdv s H E f y th hs hr' act) hdb h1 h2
end
end Py
set_option Elab.async false
set_option linter.all false
set_option maxRecDepth 100000
set_option maxHeartbeats 4000000
namespace Py
open PySem PySem.Spec PyProof.Rows L2
/-! ### sorted, of ints -/
theorem sorted_one : ∀ {l m : List Int}, l.Perm m → l.Pairwise (· ≤ ·) → m.Pairwise (· ≤ ·) → l = m
  | [], m, p, _, _ => by
    rw [List.nil_perm.mp p]
  | a :: l, [], p, _, _ => by
    have := p.length_eq
    cases this
  | a :: l, b :: m, p, s, t => by
    rw [List.pairwise_cons] at s t
    have ha : a ∈ b :: m := p.subset (List.mem_cons_self ..)
    have hb : b ∈ a :: l := p.symm.subset (List.mem_cons_self ..)
    have e : a = b := by
      rcases List.mem_cons.mp ha with e | h1
      · exact e
      · rcases List.mem_cons.mp hb with e | h2
        · exact e.symm
        · have := t.1 a h1
          have := s.1 b h2
          omega
    subst e
    rw [sorted_one (List.Perm.cons_inv p) s.2 t.2]
def intsD : List D → Option (List Int)
  | [] => some []
  | .int i :: r => (intsD r).map (i :: ·)
  | _ => none
theorem intsD_ats {G : Gl} {H : Hp} : ∀ {l : List D} {ns : List Int} {xs : List V}, intsD l = some ns → Ats G H l xs → xs = ns.map V.int
  | [], ns, _, e, .nil => by
    cases e
    rfl
  | d :: r, ns, _, e, .cons (x := x) (xs := xs) a h => by
    cases d with
    | int i =>
      have e1 : (intsD r).map (i :: ·) = some ns := e
      cases q : intsD r with
      | none =>
        rw [q] at e1
        cases e1
      | some ms =>
        rw [q] at e1
        cases e1
        cases a
        rw [intsD_ats q h]
        rfl
    | _ => cases e
theorem ats_ints {G : Gl} {H : Hp} : ∀ ns : List Int, Ats G H (ns.map D.int) (ns.map V.int)
  | [] => .nil
  | n :: r => .cons .int (ats_ints r)
def insI (x : Int) : List Int → List Int
  | [] => [x]
  | y :: r => if x ≤ y then x :: y :: r else y :: insI x r
def sortI : List Int → List Int
  | [] => []
  | x :: r => insI x (sortI r)
theorem insI_perm (x : Int) : ∀ l : List Int, (insI x l).Perm (x :: l)
  | [] => .refl _
  | y :: r => by
    unfold insI
    by_cases h : x ≤ y
    · rw [if_pos h]
    · rw [if_neg h]
      exact ((insI_perm x r).cons y).trans (List.Perm.swap x y r)
theorem sortI_perm : ∀ l : List Int, (sortI l).Perm l
  | [] => .refl _
  | x :: r => (insI_perm x (sortI r)).trans ((sortI_perm r).cons x)
theorem insI_sorted (x : Int) : ∀ {l : List Int}, l.Pairwise (· ≤ ·) → (insI x l).Pairwise (· ≤ ·)
  | [], _ => by
    unfold insI
    exact List.pairwise_singleton _ _
  | y :: r, s => by
    have s' := List.pairwise_cons.mp s
    unfold insI
    by_cases h : x ≤ y
    · rw [if_pos h]
      refine List.pairwise_cons.mpr ⟨fun z hz => ?_, s⟩
      rcases List.mem_cons.mp hz with rfl | hz
      · exact h
      · exact Int.le_trans h (s'.1 z hz)
    · rw [if_neg h]
      refine List.pairwise_cons.mpr ⟨fun z hz => ?_, insI_sorted x s'.2⟩
      have := (insI_perm x r).subset hz
      rcases List.mem_cons.mp this with rfl | hz
      · omega
      · exact s'.1 z hz
theorem sortI_sorted : ∀ l : List Int, (sortI l).Pairwise (· ≤ ·)
  | [] => List.Pairwise.nil
  | x :: r => insI_sorted x (sortI_sorted r)
def sortedD : List D → Option D
  | [.lst l] => (intsD l).map fun ns => .lst ((sortI ns).map .int)
  | _ => none
theorem d_sortedI {X : Cx} {G : Gl} : DoesN G (rSortedI X.K) sortedD := fun hd H xs l d Q R h e k => by
  unfold sortedD at e
  split at e
  · rename_i l
    cases q : intsD l with
    | none =>
      rw [q] at e
      cases e
    | some ns =>
      rw [q] at e
      cases e
      cases h with
      | cons h1 h2 =>
        cases h2
        cases h1 with
        | lst h1 h2 =>
          have ex := intsD_ats q h2
          subst ex
          refine ⟨_, ns, rfl, .inl (.inl (hide_sub _ _ h1)), fun ms p pm so hp => ?_⟩
          have em : ms = sortI ns := sorted_one (pm.trans (sortI_perm ns).symm) so (sortI_sorted ns)
          rw [em]
          exact k _ _ (Lead.new hp) (.lst (R.seen hp) (ats_ints _))
  · cases e
section
variable {X : Cx} {G : Gl} {W : WX} {hs : Hid}
/-- name = [.. for ..] on one line, the name a plain local -/
theorem ss_setLc {i : Nat} {y : Str} {py : Pos} {elt tg iter : Expr} {ifs : List Expr} {scope : Scope} {own : List (Str × Nat)} {pos spos : Pos} {it : Env → T (List D)} {g : TG} {b : Tg} {c : Env → T Bool} {e : Env → T D} (hc : X.calm = true) (hN : X.N.Nodup) (hy : X.N[i]? = some y) (hyl : X.env.scope.names.lookup y = some .local)
    (hi : EI X G W tg iter it) (ok : BlkOk X.N X.env.scope scope own) (ht : Tgt G g b (own.map (·.2)))
    (hg : ∀ (s : Shared) (H : Hp) (C : Addr) (cl : List (Str × Addr)) (fp : List Addr), PG (X.blk s H scope (compEnvC scope cl C X.env) fp) tg g)
    (hifs : ∀ (s : Shared) (H : Hp) (C : Addr) (cl : List (Str × Addr)) (fp : List Addr), PTs0 (X.blk s H scope (compEnvC scope cl C X.env) fp) G ifs c)
    (he : ∀ (s : Shared) (H : Hp) (C : Addr) (cl : List (Str × Addr)) (fp : List Addr), EE (X.blk s H scope (compEnvC scope cl C X.env) fp) G W0 elt e)
    (hsw : swapsWith (.ListComp elt [⟨tg, iter, ifs, 0⟩] scope pos) (some (.Name y py)) spos.line X.env = pure true := by rfl) (hs' : ∀ x, foldedSetIterable iter X.env x = pure x := by intro _; rfl) :
    SS X G W hs (.Assign [.Name y py] (.ListComp elt [⟨tg, iter, ifs, 0⟩] scope pos) spos) (sSet i (gComp it b c e (own.map (·.2)))) := by
  refine PS_imp (ps_setLc hc hN hy hyl hsw hi ok hg hifs he hs') fun Dn σ H q => ?_
  obtain ⟨ρ, hd, R, q⟩ := q
  exact lc_imp ht ⟨ρ, hd, R.rep, T.wp_mono (bindS_then q) (fun d q1 v H' e h => q1 hd _ H' ((R.to e).set h) (e.hide R.rep.m)) fun c l z => rz_of R z⟩
end
end Py
set_option Elab.async false
set_option linter.all false
set_option maxRecDepth 100000
set_option maxHeartbeats 4000000
namespace Py
open PySem PySem.Spec PyProof.Rows L2

/-! ### keys -/
mutual
/-- the value v is the key k -/
inductive NKat (K : PySem.W.Frag) (H : Hp) : NestedKey → V → Prop
  | non : NKat K H .none .non
  | bl {b : Bool} : NKat K H (.num (if b then 1 else 0)) (.bl b)
  | int {i} : NKat K H (.num i) (.int i)
  | str {x} : NKat K H (.text x) (.str x)
  | tup {a ks xs} : SqT K H a xs → NKats K H ks xs → NKat K H (.tup ks) (.ref a)
inductive NKats (K : PySem.W.Frag) (H : Hp) : List NestedKey → List V → Prop
  | nil : NKats K H [] []
  | cons {k x ks xs} : NKat K H k x → NKats K H ks xs → NKats K H (k :: ks) (x :: xs)
end
mutual
theorem nkat_of {G : Gl} {K : PySem.W.Frag} (hK : G.K = K) {H : Hp} {hd : Addr → Prop} : ∀ {d : D} {v : V} {k : NestedKey}, At G (hide hd H) d v → nk d = some k → NKat K H k v
  | _, _, _, .non, e => by
    cases e
    exact .non
  | _, _, _, .bl, e => by
    cases e
    exact .bl
  | _, _, _, .int, e => by
    cases e
    exact .int
  | _, _, _, .str, e => by
    cases e
    exact .str
  | .tup l, _, k, .tup h1 h2, e => by
    have e1 : (nks l).map NestedKey.tup = some k := e
    cases q : nks l with
    | none =>
      rw [q] at e1
      cases e1
    | some r =>
      rw [q] at e1
      cases e1
      exact .tup (by rw [← hK]; exact hide_sub.sqT h1) (nkats_of hK h2 q)
  | _, _, _, .lst _ _, e => by cases e
  | _, _, _, .dic _ _ _, e => by cases e
  | _, _, _, .dicN _ _ _ _, e => by cases e
  | _, _, _, .obj _ _ _, e => by cases e
  | _, _, _, .deck, e => by cases e
theorem nkats_of {G : Gl} {K : PySem.W.Frag} (hK : G.K = K) {H : Hp} {hd : Addr → Prop} : ∀ {l : List D} {xs : List V} {ks : List NestedKey}, Ats G (hide hd H) l xs → nks l = some ks → NKats K H ks xs
  | _, _, _, .nil, e => by
    cases e
    exact .nil
  | d :: l, _, ks, .cons h r, e => by
    have e1 : ((nk d).bind fun k => (nks l).map (k :: ·)) = some ks := e
    cases q : nk d with
    | none =>
      rw [q] at e1
      cases e1
    | some k =>
      rw [q] at e1
      cases q2 : nks l with
      | none =>
        rw [q2] at e1
        cases e1
      | some r2 =>
        rw [q2] at e1
        cases e1
        exact .cons (nkat_of hK h q) (nkats_of hK r q2)
end
section
variable {X : Cx} {pins : List (Addr × Obj)} {σ : L2.St} {H : Hp} {s : Shared}
mutual
theorem NKat.is (I : Inv X pins σ H s) : ∀ {k : NestedKey} {v : V} {u : Value}, NKat X.K H k v → RelV v u → NestedIs s.heap k u
  | _, _, _, .non, r => by
    cases r
    exact .none
  | _, _, _, .bl, r => by
    cases r
    exact .bool rfl
  | _, _, _, .int, r => by
    obtain ⟨t, rfl⟩ := r
    exact .int _ _
  | _, _, _, .str, r => by
    obtain ⟨t, rfl⟩ := r
    exact .text _ _
  | _, _, _, .tup h1 h2, r => by
    cases r
    obtain ⟨its, rv, ⟨o, e, c, n, d⟩, _⟩ := I.tuple h1
    exact .tup e c d (by
      simpa using NKats.is I h2 rv)
theorem NKats.is (I : Inv X pins σ H s) : ∀ {ks : List NestedKey} {xs : List V} {us : List Value}, NKats X.K H ks xs → Vals xs us → NestedAll s.heap ks us
  | _, _, _, .nil, r => by
    cases r
    exact .nil
  | _, _, _, .cons h t, r => by
    cases r with
    | cons r1 r2 => exact .cons (NKat.is I h r1) (NKats.is I t r2)
end
end
/-! ### the dict -/
def PRel : List (NestedKey × Addr × V) → List (NestedKey × Addr × Value) → Prop := Paired (fun (p : NestedKey × Addr × V) (q : NestedKey × Addr × Value) => p.1 = q.1 ∧ p.2.1 = q.2.1 ∧ RelV p.2.2 q.2.2)
def KeysOk (K : PySem.W.Frag) (H : Hp) (ps : List (NestedKey × Addr × V)) : Prop := ∀ p ∈ ps, NKat K H p.1 (.ref p.2.1) ∧ p.1.depth ≤ 8
/-- a dict with nested keys; the bare one is of any kind -/
def IsDN (P : Program) (w : World) (H : Hp) (a : Addr) (ps : List (NestedKey × Addr × V)) : Prop := H a = some (DN P w a ps) ∨ (ps = [] ∧ H a = some (.dK []))
def lookA (ps : List (NestedKey × Addr × V)) (k : NestedKey) : Option V := (ps.find? fun x => decide (x.1 = k)).map (·.2.2)
def putA (k : NestedKey) (v : V) (x : NestedKey × Addr × V) : NestedKey × Addr × V := if x.1 = k then (x.1, x.2.1, v) else x
def storeA (ps : List (NestedKey × Addr × V)) (k : NestedKey) (b : Addr) (v : V) : List (NestedKey × Addr × V) := if (lookA ps k).isSome then ps.map (putA k v) else ps ++ [(k, b, v)]
theorem PRel.look : ∀ {ps : List (NestedKey × Addr × V)} {xs : List (NestedKey × Addr × Value)}, PRel ps xs → ∀ k, RelO (lookA ps k) ((atKey xs k).map (·.2))
  | _, _, .nil, _ => True.intro
  | p :: ps, q :: xs, .cons h r, k => by
    obtain ⟨e1, e2, e3⟩ := h
    by_cases hk : p.1 = k
    · have hq : q.1 = k := by rw [← e1]; exact hk
      have a1 : lookA (p :: ps) k = some p.2.2 := by simp [lookA, List.find?_cons, hk]
      have a2 : (atKey (q :: xs) k).map (·.2) = some q.2.2 := by simp [atKey, List.find?_cons, hq]
      rw [a1, a2]
      exact e3
    · have hq : ¬ q.1 = k := by rw [← e1]; exact hk
      have a1 : lookA (p :: ps) k = lookA ps k := by simp [lookA, List.find?_cons, hk]
      have a2 : atKey (q :: xs) k = atKey xs k := by simp [atKey, List.find?_cons, hq]
      rw [a1, a2]
      exact PRel.look r k
theorem PRel.append : ∀ {ps qs : List (NestedKey × Addr × V)} {xs ys : List (NestedKey × Addr × Value)}, PRel ps xs → PRel qs ys → PRel (ps ++ qs) (xs ++ ys)
  | _, _, _, _, .nil, h => h
  | _, _, _, _, .cons h r, h' => .cons h (PRel.append r h')
theorem PRel.put {k : NestedKey} {v : V} {r : Value} (rv : RelV v r) : ∀ {ps : List (NestedKey × Addr × V)} {xs : List (NestedKey × Addr × Value)}, PRel ps xs → PRel (ps.map (putA k v)) (xs.map (putAt k r))
  | _, _, .nil => .nil
  | p :: ps, q :: xs, .cons h t => .cons (by
      obtain ⟨e1, e2, e3⟩ := h
      unfold putA putAt
      by_cases hk : p.1 = k
      · rw [if_pos hk, if_pos (by rw [← e1]; exact hk)]
        exact ⟨e1, e2, rv⟩
      · rw [if_neg hk, if_neg (by rw [← e1]; exact hk)]
        exact ⟨e1, e2, e3⟩) (PRel.put rv t)
theorem RelO.some_eq {o : Option V} {o' : Option Value} (h : RelO o o') : o.isSome = o'.isSome := by
  cases o <;> cases o' <;> first | rfl | exact h.elim
theorem PRel.store {k : NestedKey} {b : Addr} {v : V} {r : Value} (rv : RelV v r) {ps : List (NestedKey × Addr × V)} {xs : List (NestedKey × Addr × Value)} (h : PRel ps xs) : PRel (storeA ps k b v) (storedH xs k b r) := by
  have e := RelO.some_eq (h.look k)
  rw [Option.isSome_map] at e
  unfold storeA storedH
  rw [e]
  by_cases q : (atKey xs k).isSome = true
  · rw [if_pos q, if_pos q]
    exact h.put rv
  · rw [if_neg q, if_neg q]
    exact h.append (.cons ⟨rfl, rfl, rv⟩ .nil)
theorem storeA_len (ps : List (NestedKey × Addr × V)) (k : NestedKey) (b : Addr) (v : V) : (storeA ps k b v).length ≤ ps.length + 1 := by
  unfold storeA
  split
  · rw [List.length_map]
    omega
  · rw [List.length_append]
    exact Nat.le_refl _
section
variable {X : Cx} {pins : List (Addr × Obj)} {σ : L2.St} {H : Hp} {s : Shared} {a b : Addr} {ps : List (NestedKey × Addr × V)} {k : NestedKey} {A : Around} {E : Value → Shared → Prop}
theorem dn_of (I : Inv X pins σ H s) (e : IsDN X.prog X.w H a ps) (ok : KeysOk X.K H ps) : ps.length ≤ sizeLine ∧ (a == sysModules) = false ∧ ∃ xs, PRel ps xs ∧ s.heap.DictOfH (nestedKind X.prog X.w) a xs := by
  rcases e with e | ⟨rfl, e⟩
  · obtain ⟨⟨z, hd, xs, r, o, es, ep, h1, h2, h3, h4, h5⟩, _, _⟩ := (show ObjOk X.prog X.w H s.heap a (DN X.prog X.w a ps) from I.hok a _ e)
    refine ⟨z, hd, xs, r, o, es, ep, h1, h2, h3, h4, fun x hx => ?_, h5⟩
    have key : ∀ {ps : List (NestedKey × Addr × V)} {xs : List (NestedKey × Addr × Value)}, PRel ps xs → KeysOk X.K H ps → ∀ x ∈ xs, (nestedKind X.prog X.w).is s.heap x.1 x.2.1 := by
      intro ps xs r
      induction r with
      | nil =>
        intro _ x hx
        cases hx
      | @cons p q ps xs h t ih =>
        intro ok x hx
        rcases List.mem_cons.mp hx with rfl | hx
        · obtain ⟨k1, k2⟩ := ok p (List.mem_cons_self ..)
          obtain ⟨e1, e2, _⟩ := h
          rw [e1, e2] at k1
          rw [e1] at k2
          exact ⟨k1.is I rfl, k2⟩
        · exact ih (fun p' h' => ok p' (List.mem_cons_of_mem _ h')) x hx
    exact key r ok x hx
  · obtain ⟨z, hd, vs, rel, o, es, ep, h1, h2, h3, h4, h5, h6⟩ := dk_of I.hok e
    cases rel
    refine ⟨Nat.zero_le _, hd, [], .nil, o, es, ep, h1, h2, h3, ?_, (fun _ hx => nomatch hx), List.nodup_nil⟩
    generalize es.toList = l at h5
    cases l with
    | nil => rfl
    | cons x l => cases h5
theorem nroom (hu : A.units + 64 < cLine) : (nestedKind X.prog X.w).room A.in1 := by
  show A.in1.units + 8 < cLine
  rw [Around.in1_units]
  omega
theorem n_in {u : Value} {Q : Value → Shared → Prop} (hu : A.units + 64 < cLine) (I : Inv X pins σ H s) (e : IsDN X.prog X.w H a ps) (ok : KeysOk X.K H ps) (hk : NKat X.K H k (.ref b)) (h8 : k.depth ≤ 8) (h : ∀ s', Inv X pins σ H s' → Q (.bool (lookA ps k).isSome) s') :
    wpAny (model X.prog X.w) A (compareOp .In (.ref b) (.ref a)) Q E s := by
  obtain ⟨z, hd, xs, rel, dd⟩ := dn_of I e ok
  refine wpAny_in_heap (nroom hu) ⟨hk.is I rfl, h8⟩ hd dd ?_
  have q := RelO.some_eq (rel.look k)
  rw [Option.isSome_map] at q
  rw [← q]
  exact h _ (I.tok _)
theorem n_notIn {Q : Value → Shared → Prop} (hu : A.units + 64 < cLine) (I : Inv X pins σ H s) (e : IsDN X.prog X.w H a ps) (ok : KeysOk X.K H ps) (hk : NKat X.K H k (.ref b)) (h8 : k.depth ≤ 8) (h : ∀ s', Inv X pins σ H s' → Q (.bool (!(lookA ps k).isSome)) s') :
    wpAny (model X.prog X.w) A (compareOp .NotIn (.ref b) (.ref a)) Q E s := by
  obtain ⟨z, hd, xs, rel, dd⟩ := dn_of I e ok
  refine wpAny_notIn_heap (nroom hu) ⟨hk.is I rfl, h8⟩ hd dd ?_
  have q := RelO.some_eq (rel.look k)
  rw [Option.isSome_map] at q
  rw [← q]
  exact h _ (I.tok _)
theorem n_getItem {v : V} {Q : Value → Shared → Prop} (hu : A.units + 64 < cLine) (I : Inv X pins σ H s) (e : IsDN X.prog X.w H a ps) (ok : KeysOk X.K H ps) (hk : NKat X.K H k (.ref b)) (h8 : k.depth ≤ 8) (l : lookA ps k = some v) (h : ∀ w' s', Inv X pins σ H s' → RelV v w' → Q w' s') :
    wpAny (model X.prog X.w) A (getItem (.ref a) (.ref b)) Q E s := by
  obtain ⟨z, hd, xs, rel, dd⟩ := dn_of I e ok
  have q := rel.look k
  rw [l] at q
  cases e1 : atKey xs k with
  | none =>
    rw [e1] at q
    exact q.elim
  | some p =>
    rw [e1] at q
    exact wpAny_getItem_heap (nroom hu) ⟨hk.is I rfl, h8⟩ dd e1 (h _ _ (I.tok _) q)
theorem n_setItem {v : V} {r : Value} {Q : Unit → Shared → Prop} (hu : A.units + 64 < cLine) (I : Inv X pins σ H s) (e : IsDN X.prog X.w H a ps) (ok : KeysOk X.K H ps) (hk : NKat X.K H k (.ref b)) (h8 : k.depth ≤ 8) (rv : RelV v r) (hl : ps.length < sizeLine)
    (h : ∀ s', Inv X pins σ (upd H a (DN X.prog X.w a (storeA ps k b v))) s' → Q () s') : wpAny (model X.prog X.w) A (setItem (.ref a) (.ref b) r) Q E s := by
  obtain ⟨z, hd, xs, rel, dd⟩ := dn_of I e ok
  have hz : xs.length ≤ sizeLine := by rw [← Paired.length rel]; exact z
  refine wpAny_setItem_heap (hsz := hz) (nroom hu) ⟨hk.is I rfl, h8⟩ dd fun h' dd' hs => h _ ?_
  obtain ⟨q, es, ep, hq, h2, h3, h4, _, h5⟩ := dd'
  have hl2 := storeA_len ps k b v
  refine d_write I (by rcases e with e | ⟨_, e⟩ <;> (rw [e]; exact True.intro)) hs ⟨q, hq⟩ ⟨⟨by omega, hd, _, rel.store rv, q, es, ep, hq, h2, h3, h4, h5⟩, ⟨q, hq⟩, fun h1 h2' ⟨z1, z2, xs', z3, o', es', ep', z4, z5⟩ kk => ⟨z1, z2, xs', z3, o', es', ep', kk _ z4, z5⟩⟩
theorem n_len {Q : Value → Shared → Prop} (I : Inv X pins σ H s) (e : IsDN X.prog X.w H a ps) (ok : KeysOk X.K H ps) (h : ∀ t s', Inv X pins σ H s' → Q (.int ps.length t) s') : wpAny (model X.prog X.w) A (call (.builtin "len") [.ref a]) Q E s := by
  obtain ⟨z, hd, xs, rel, dd⟩ := dn_of I e ok
  have hl := Paired.length rel
  refine call_len_dictH hd dd (by rw [← hl]; rw [sizeLine_eq] at z; omega) ?_
  rw [← hl]
  exact h _ _ (I.tok _)
end
end Py
set_option Elab.async false
set_option linter.all false
set_option maxRecDepth 100000
set_option maxHeartbeats 4000000
namespace Py
open PySem PySem.Spec PyProof.Rows L2

/-! ### dicts: data -/
def lookN : List D → List D → NestedKey → Option D
  | d :: ks, v :: vs, k => if nk d = some k then some v else lookN ks vs k
  | _, _, _ => none
def setN : List D → List D → NestedKey → D → List D
  | d :: ks, v :: vs, k, x => (if nk d = some k then x else v) :: setN ks vs k x
  | _, vs, _, _ => vs
def keyF : D → Option Key
  | .int i => some (.inl i)
  | .str x => some (.inr x)
  | _ => none
def keyT : D → Option NestedKey
  | .tup l => (nk (.tup l)).bind fun k => if k.depth ≤ 8 then some k else none
  | _ => none
def fk : Key → NestedKey
  | .inl i => .num i
  | .inr x => .text x
theorem fk_inj {a b : Key} (e : fk a = fk b) : a = b := by
  cases a <;> cases b <;> (unfold fk at e; first | (injection e with e; rw [e]) | cases e)
theorem keyF_nk {d : D} {k : Key} (e : keyF d = some k) : nk d = some (fk k) := by
  cases d <;> first | (cases e; done) | (cases e; rfl) | cases e
/-- the flat dict of the entries -/
def DcF (G : Gl) (H0 H : Hp) (a : Addr) (ks vs : List D) : Prop := ∃ kvs, H0 a = some (.dK kvs) ∧ Ats G H ks (kvs.map fun q => kV q.1) ∧ Ats G H vs (kvs.map (·.2))
def DcN (G : Gl) (H0 H : Hp) (a : Addr) (ks vs : List D) : Prop := ∃ ps, H0 a = some (DN G.P G.w a ps) ∧ KN ks ps ∧ Ats G H ks (ps.map fun q => V.ref q.2.1) ∧ Ats G H vs (ps.map fun q => q.2.2)
/-- what stands at a key -/
def getDic (d k : D) : Option (Option D) := match d with
  | .dicN ks vs => (keyT k).map fun z => lookN ks vs z
  | .dic ks vs => match keyF k with
    | some z => some (lookN ks vs (fk z))
    | none => if ks.isEmpty then (keyT k).map fun _ => none else none
  | _ => none
theorem look_flat {G : Gl} {H : Hp} {k : Key} : ∀ {kvs : List (Key × V)} {ks vs : List D}, Ats G H ks (kvs.map fun q => kV q.1) → Ats G H vs (kvs.map (·.2)) →
    (∀ d, lookN ks vs (fk k) = some d → ∃ v, valV kvs k = some v ∧ At G H d v) ∧ (lookN ks vs (fk k) = none → valV kvs k = none)
  | [], _, _, h, h' => by
    cases h
    cases h'
    exact ⟨(fun d e => nomatch e), fun _ => rfl⟩
  | (k0, v0) :: kvs, _, _, h, h' => by
    cases h with
    | @cons d x l xs a r =>
      cases h' with
      | @cons d' x' l' xs' a' r' =>
        have e0 : nk d = some (fk k0) := by
          cases k0 with
          | inl i =>
            have a : At G H d (.int i) := a
            cases a
            rfl
          | inr y =>
            have a : At G H d (.str y) := a
            cases a
            rfl
        obtain ⟨i1, i2⟩ := look_flat (k := k) r r'
        by_cases q : k0 = k
        · have e1 : lookN (d :: l) (d' :: l') (fk k) = some d' := by
            rw [lookN, if_pos (by rw [e0, q])]
          have e2 : valV ((k0, v0) :: kvs) k = some v0 := by
            unfold valV
            simp [List.find?_cons, q]
          rw [e1, e2]
          exact ⟨fun d2 e => by
            cases e
            exact ⟨v0, rfl, a'⟩, fun e => by cases e⟩
        · have e1 : lookN (d :: l) (d' :: l') (fk k) = lookN l l' (fk k) := by
            rw [lookN, if_neg (fun z => q (fk_inj (by rw [e0] at z; exact Option.some.inj z)))]
          have e2 : valV ((k0, v0) :: kvs) k = valV kvs k := by
            unfold valV
            simp [List.find?_cons, q]
          rw [e1, e2]
          exact ⟨i1, i2⟩
theorem look_nest {G : Gl} {H : Hp} {k : NestedKey} : ∀ {ps : List (NestedKey × Addr × V)} {ks vs : List D}, nks ks = some (ps.map (·.1)) → Ats G H vs (ps.map fun q => q.2.2) →
    (∀ d, lookN ks vs k = some d → ∃ v, lookA ps k = some v ∧ At G H d v) ∧ (lookN ks vs k = none → lookA ps k = none)
  | [], ks, _, h, h' => by
    cases h'
    refine ⟨fun d e => ?_, fun _ => rfl⟩
    cases ks <;> cases e
  | p :: ps, ks, _, h, h' => by
    cases ks with
    | nil => cases h
    | cons d l =>
      have h1 : ((nk d).bind fun k => (nks l).map (k :: ·)) = some (p.1 :: ps.map (·.1)) := h
      cases q1 : nk d with
      | none =>
        rw [q1] at h1
        cases h1
      | some k1 =>
        rw [q1] at h1
        cases q2 : nks l with
        | none =>
          rw [q2] at h1
          cases h1
        | some r1 =>
          rw [q2] at h1
          have h2 := Option.some.inj h1
          have e1 : k1 = p.1 := (List.cons.inj h2).1
          have e2 : r1 = ps.map (·.1) := (List.cons.inj h2).2
          cases h' with
          | @cons d' x' l' xs' a' r' =>
            obtain ⟨i1, i2⟩ := look_nest (k := k) (by rw [q2, e2]) r'
            by_cases q : p.1 = k
            · have e3 : lookN (d :: l) (d' :: l') k = some d' := by
                rw [lookN, if_pos (by rw [q1, e1, q])]
              have e4 : lookA (p :: ps) k = some p.2.2 := by simp [lookA, List.find?_cons, q]
              rw [e3, e4]
              exact ⟨fun d2 e => by
                cases e
                exact ⟨_, rfl, a'⟩, fun e => by cases e⟩
            · have e3 : lookN (d :: l) (d' :: l') k = lookN l l' k := by
                rw [lookN, if_neg (fun z => q (by rw [q1] at z; rw [← e1]; exact Option.some.inj z))]
              have e4 : lookA (p :: ps) k = lookA ps k := by simp [lookA, List.find?_cons, q]
              rw [e3, e4]
              exact ⟨i1, i2⟩
theorem nks_mem : ∀ {l : List D} {ks : List NestedKey}, nks l = some ks → ∀ (i : Nat) (d : D), l[i]? = some d → ∃ k, ks[i]? = some k ∧ nk d = some k
  | [], _, _, i, d, e => by simp at e
  | d0 :: l, ks, h, i, d, e => by
    have h1 : ((nk d0).bind fun k => (nks l).map (k :: ·)) = some ks := h
    cases q1 : nk d0 with
    | none =>
      rw [q1] at h1
      cases h1
    | some k1 =>
      rw [q1] at h1
      cases q2 : nks l with
      | none =>
        rw [q2] at h1
        cases h1
      | some r1 =>
        rw [q2] at h1
        cases h1
        cases i with
        | zero =>
          have e1 : d0 = d := by simpa using e
          rw [← e1]
          exact ⟨k1, rfl, q1⟩
        | succ i => exact nks_mem q2 i d (by simpa using e)
theorem keys_ok {G : Gl} {K : PySem.W.Frag} (hK : G.K = K) {H : Hp} {hd : Addr → Prop} {ps : List (NestedKey × Addr × V)} {ks : List D} (n : KN ks ps) (h : Ats G (hide hd H) ks (ps.map fun q => V.ref q.2.1)) : KeysOk K H ps := fun p hp => by
  obtain ⟨i, hi⟩ := List.mem_iff_getElem?.mp hp
  have e1 : (ps.map fun q => V.ref q.2.1)[i]? = some (.ref p.2.1) := by rw [List.getElem?_map, hi]; rfl
  obtain ⟨d, e2, a⟩ := h.get e1
  obtain ⟨k, e3, e4⟩ := nks_mem n.1 i d e2
  have e5 : (ps.map (·.1))[i]? = some p.1 := by rw [List.getElem?_map, hi]; rfl
  rw [e5] at e3
  cases e3
  exact ⟨nkat_of hK a e4, n.2 p hp⟩
theorem keyT_some {k : D} {z : NestedKey} (e : keyT k = some z) : nk k = some z ∧ z.depth ≤ 8 ∧ ∃ l, k = .tup l := by
  cases k with
  | tup l =>
    have e1 : ((nk (.tup l)).bind fun k => if k.depth ≤ 8 then some k else none) = some z := e
    cases q : nk (.tup l) with
    | none =>
      rw [q] at e1
      cases e1
    | some k1 =>
      rw [q] at e1
      have e2 : (if k1.depth ≤ 8 then some k1 else none) = some z := e1
      by_cases h : k1.depth ≤ 8
      · rw [if_pos h] at e2
        cases e2
        exact ⟨rfl, h, l, rfl⟩
      · rw [if_neg h] at e2
        cases e2
  | _ => cases e

/-- what is read of a dict at a at the key y -/
def GetAt (X : Cx) (H : Hp) (a : Addr) (y : V) (o : Option V) : Prop :=
  (∃ b ps k, y = .ref b ∧ IsDN X.prog X.w H a ps ∧ KeysOk X.K H ps ∧ NKat X.K H k (.ref b) ∧ k.depth ≤ 8 ∧ lookA ps k = o) ∨ DGet H a y o
section
variable {X : Cx} {G : Gl} {W : WX}
/-- a dict's entry by the entry of its data -/
theorem get_core (hK : G.K = X.K) (hP : G.P = X.prog) (hw : G.w = X.w) {H : Hp} {hd : Addr → Prop} {a : Addr} {dc k : D} {y : V} {o : Option D}
    (h : (∃ ks vs, dc = .dic ks vs ∧ DcF G H (hide hd H) a ks vs) ∨ (∃ ks vs, dc = .dicN ks vs ∧ DcN G H (hide hd H) a ks vs)) (hy : At G (hide hd H) k y) (e : getDic dc k = some o) :
    (∀ d, o = some d → ∃ v, GetAt X H a y (some v) ∧ At G (hide hd H) d v) ∧ (o = none → GetAt X H a y none) := by
  rcases h with ⟨ks, vs, rfl, kvs, h1, h2, h3⟩ | ⟨ks, vs, rfl, ps, h1, h2, h3, h4⟩
  · have e1 : (match keyF k with
      | some z => some (lookN ks vs (fk z))
      | none => if ks.isEmpty then (keyT k).map fun _ => none else none) = some o := e
    cases q : keyF k with
    | some z =>
      rw [q] at e1
      have e2 : lookN ks vs (fk z) = o := Option.some.inj e1
      have ey : y = kV z := by
        cases k <;> first | (cases q; done) | (cases q; cases hy; rfl) | cases q
      obtain ⟨i1, i2⟩ := look_flat (k := z) h2 h3
      refine ⟨fun d ed => ?_, fun ed => ?_⟩
      · obtain ⟨v, ev, av⟩ := i1 d (by rw [e2, ed])
        exact ⟨v, .inr (.inl ⟨kvs, z, .inl h1, ey, ev.symm⟩), av⟩
      · exact .inr (.inl ⟨kvs, z, .inl h1, ey, (i2 (by rw [e2, ed])).symm⟩)
    | none =>
      rw [q] at e1
      have e1 : (if ks.isEmpty then (keyT k).map fun _ => (none : Option D) else none) = some o := e1
      by_cases q2 : ks.isEmpty = true
      · rw [if_pos q2] at e1
        cases q3 : keyT k with
        | none =>
          rw [q3] at e1
          cases e1
        | some z =>
          rw [q3] at e1
          have e2 : none = o := Option.some.inj e1
          rw [← e2]
          refine ⟨(fun d ed => nomatch ed), fun _ => ?_⟩
          obtain ⟨z1, z2, l, rfl⟩ := keyT_some q3
          have ek : kvs = [] := by
            have hl := h2.length
            have : ks = [] := by
              cases ks with
              | nil => rfl
              | cons _ _ => cases q2
            rw [this] at hl
            cases kvs with
            | nil => rfl
            | cons _ _ => simp at hl
          cases hy with
          | @tup l' b xs s1 s2 => exact .inl ⟨b, [], z, rfl, .inr ⟨rfl, by rw [h1, ek]⟩, (fun _ z => nomatch z), nkat_of hK (.tup s1 s2) z1, z2, rfl⟩
      · rw [if_neg q2] at e1
        cases e1
  · have e1 : ((keyT k).map fun z => lookN ks vs z) = some o := e
    cases q3 : keyT k with
    | none =>
      rw [q3] at e1
      cases e1
    | some z =>
      rw [q3] at e1
      have e2 : lookN ks vs z = o := Option.some.inj e1
      obtain ⟨z1, z2, l, rfl⟩ := keyT_some q3
      obtain ⟨i1, i2⟩ := look_nest (k := z) h2.1 h4
      rw [hP, hw] at h1
      have ok := keys_ok hK h2 h3
      cases hy with
      | @tup l' b xs s1 s2 =>
        have na := nkat_of hK (At.tup s1 s2) z1
        refine ⟨fun d ed => ?_, fun ed => ?_⟩
        · obtain ⟨v, ev, av⟩ := i1 d (by rw [e2, ed])
          exact ⟨v, .inl ⟨b, ps, z, rfl, .inl h1, ok, na, z2, ev⟩, av⟩
        · exact .inl ⟨b, ps, z, rfl, .inl h1, ok, na, z2, i2 (by rw [e2, ed])⟩
/-! ### in, not in -/
def rInO (X : Cx) (neg : Bool) : R2 := fun x y H Q => ∃ a o, y = .ref a ∧ GetAt X H a x o ∧ Q (.bl (if neg then !o.isSome else o.isSome)) H
theorem op_inO (hu : X.A.units + 64 < cLine) : OpR X (compareOp .In) (rInO X false) := by
  intro pins s σ H x y v u Q I rx ry h
  obtain ⟨a, o, rfl, g, q⟩ := h
  cases ry
  rcases g with ⟨b, ps, k, rfl, h1, h2, h3, h4, rfl⟩ | g
  · cases rx
    exact n_in (u := .ref b) hu I h1 h2 h3 h4 fun s' I' => ⟨.bl _, H, I', rfl, q⟩
  · exact L2.d_in (by omega) I g rx fun s' I' => ⟨.bl _, H, I', rfl, q⟩
theorem op_notInO (hu : X.A.units + 64 < cLine) : OpR X (compareOp .NotIn) (rInO X true) := by
  intro pins s σ H x y v u Q I rx ry h
  obtain ⟨a, o, rfl, g, q⟩ := h
  cases ry
  rcases g with ⟨b, ps, k, rfl, h1, h2, h3, h4, rfl⟩ | g
  · cases rx
    exact n_notIn hu I h1 h2 h3 h4 fun s' I' => ⟨.bl _, H, I', rfl, q⟩
  · exact L2.d_notIn (by omega) I g rx fun s' I' => ⟨.bl _, H, I', rfl, q⟩
def inDic (neg : Bool) (k dc : D) : Option D := (getDic dc k).map fun o => .bl (if neg then !o.isSome else o.isSome)
theorem dc_at {H : Hp} {hd : Addr → Prop} {dc : D} {x : V} {k : D} {o : Option D} (h : At G (hide hd H) dc x) (e : getDic dc k = some o) : ∃ a, x = .ref a ∧ ((∃ ks vs, dc = .dic ks vs ∧ DcF G H (hide hd H) a ks vs) ∨ (∃ ks vs, dc = .dicN ks vs ∧ DcN G H (hide hd H) a ks vs)) := by
  cases h with
  | dic h1 h2 h3 => exact ⟨_, rfl, .inl ⟨_, _, rfl, _, hide_sub _ _ h1, h2, h3⟩⟩
  | dicN h1 h2 h3 h4 => exact ⟨_, rfl, .inr ⟨_, _, rfl, _, hide_sub _ _ h1, h2, h3, h4⟩⟩
  | _ => cases e
theorem d_inDic (hK : G.K = X.K) (hP : G.P = X.prog) (hw : G.w = X.w) (neg : Bool) : Does2 G (rInO X neg) (inDic neg) := fun hd H x y a b d Q R h1 h2 e k => by
  have e0 : (getDic b a).map (fun o => D.bl (if neg then !o.isSome else o.isSome)) = some d := e
  cases q : getDic b a with
  | none =>
    rw [q] at e0
    cases e0
  | some o =>
    rw [q] at e0
    have e1 : D.bl (if neg then !o.isSome else o.isSome) = d := Option.some.inj e0
    obtain ⟨p, rfl, dc⟩ := dc_at h2 q
    obtain ⟨g1, g2⟩ := get_core hK hP hw dc h1 q
    cases o with
    | none => exact ⟨p, none, rfl, g2 rfl, k _ H (Lead.refl H) (by rw [← e1]; exact .bl)⟩
    | some z =>
      obtain ⟨v, g3, _⟩ := g1 z rfl
      exact ⟨p, some v, rfl, g3, k _ H (Lead.refl H) (by rw [← e1]; exact .bl)⟩
/-! ### the item at a key -/
def rGetO (X : Cx) : R2 := fun x y H Q => ∃ a v, x = .ref a ∧ GetAt X H a y (some v) ∧ Q v H
theorem isdn_type {pins : List (Addr × Obj)} {σ : L2.St} {H : Hp} {s : Shared} {a : Addr} {ps : List (NestedKey × Addr × V)} (I : Inv X pins σ H s) (e : IsDN X.prog X.w H a ps) (ok : KeysOk X.K H ps) : s.TypeIs (.ref a) "dict" := by
  obtain ⟨_, _, xs, _, dd⟩ := dn_of I e ok
  exact dd.typeIs
theorem ix_dict (hu : X.A.units + 64 < cLine) : IxR X (rGetO X) := by
  intro value slice pins s σ H x y v u Q I rx ry h hs
  obtain ⟨a, w0, rfl, g, q⟩ := h
  cases rx
  have hT : s.TypeIs (.ref a) "dict" := by
    rcases g with ⟨b, ps, k, _, h1, h2, _⟩ | g
    · exact isdn_type I h1 h2
    · exact dict_typeIs I g
  have h2 : wpAny (model X.prog X.w) X.A (getItem (.ref a) u) (EP X pins σ Q) X.xe s := by
    rcases g with ⟨b, ps, k, rfl, h1, h2, h3, h4, h5⟩ | g
    · cases ry
      exact n_getItem hu I h1 h2 h3 h4 h5 fun w' s3 I3 rw' => ⟨w0, H, I3, rw', q⟩
    · exact d_getItem (by omega) I g ry fun w' s3 I3 rw' => ⟨w0, H, I3, rw', q⟩
  unfold subscriptTail
  refine wpAny_bind ?_
  rw [getitemInPython_of_ne hT.not_modules]
  refine wpAny_bind (wpAny_specialOf hT PySem.F.slot_dict_getitem.lookup ?_)
  have fin : wpAny (model X.prog X.w) X.A (subscripted slice false (.ref a) u) (fun r s₃ => wpAny (model X.prog X.w) X.A (letTemporaryGo value (.ref a) r >>= fun _ => pure r) (EP X pins σ Q) X.xe s₃) X.xe s := by
    rw [hs]
    exact wpAny_operating (wpAny_mono h2 (fun r s₃ h₃ => wpAny_bind (wpAny_letTemporaryGo (wpAny_pure h₃))) fun _ _ x => x)
  first
    | exact wpAny_pure (wpAny_bind fin)
    | exact wpAny_bind (wpAny_pure (wpAny_bind fin))
    | exact wpAny_bind fin
def ixDic (dc k : D) : Option D := (getDic dc k).bind id
theorem d_ixDic (hK : G.K = X.K) (hP : G.P = X.prog) (hw : G.w = X.w) : Does2 G (rGetO X) ixDic := fun hd H x y a b d Q R h1 h2 e k => by
  have e0 : (getDic a b).bind id = some d := e
  cases q : getDic a b with
  | none =>
    rw [q] at e0
    cases e0
  | some o =>
    rw [q] at e0
    have e1 : o = some d := e0
    obtain ⟨p, rfl, dc⟩ := dc_at h1 q
    obtain ⟨g1, _⟩ := get_core hK hP hw dc h2 q
    obtain ⟨v, g3, a3⟩ := g1 d e1
    exact ⟨p, v, rfl, g3, k v H (Lead.refl H) a3⟩
/-- a[b] of a list, a tuple, a dict -/
def ixA (a b : D) : Option D := (ixD a b).or (ixDic a b)
theorem ee_ixA (hK : G.K = X.K) (hP : G.P = X.prog) (hw : G.w = X.w) (hu : X.A.units + 64 < cLine) {a b : Expr} {pos : Pos} {f g : Env → T D} (ha : EE X G W a f) (hb : EE X G W b g) (hs : PlainIx b := by intro _ _; rfl) : EE X G W (.Subscript a b pos) (gOp ixA f g) :=
  PE_imp (pe_ix (IxR.or (IxR.or ix_list ix_tup) (ix_dict hu)) ha hb hs) fun σ H Q q => two (Does2.or (d_ix hK) (d_ixDic hK hP hw)) q
/-! ### own dicts -/
/-- own things as data, where they are asked alone -/
def ownD : Option Slot → Option D
  | some (.own (.dic ks vs)) => some (.dic ks vs)
  | some (.own (.dicN ks vs)) => some (.dicN ks vs)
  | _ => none
theorem own_dc {hd : Addr → Prop} {σ : L2.St} {ρ : Env} {H : Hp} (R : Rep G hd σ ρ H) {i : Nat} {dc : D} (e : ownD ρ[i]? = some dc) :
    ∃ p, σ[i]? = some (some (.ref p)) ∧ hd p ∧ ¬ G.M p ∧ ((∃ ks vs, dc = .dic ks vs ∧ DcF G H (hide hd H) p ks vs) ∨ (∃ ks vs, dc = .dicN ks vs ∧ DcN G H (hide hd H) p ks vs)) := by
  cases q : ρ[i]? with
  | none =>
    rw [q] at e
    cases e
  | some s =>
    rw [q] at e
    cases s with
    | own o =>
      obtain ⟨p, u, e1, h1, nm, e2, r⟩ := own_of R q
      cases o with
      | dic ks vs =>
        cases e
        obtain ⟨kvs, rfl, r1, r2⟩ := r
        exact ⟨p, e1, h1, nm, .inl ⟨ks, vs, rfl, kvs, e2, r1, r2⟩⟩
      | dicN ks vs =>
        cases e
        obtain ⟨ps, rfl, n, r1, r2⟩ := r
        exact ⟨p, e1, h1, nm, .inr ⟨ks, vs, rfl, ps, e2, n, r1, r2⟩⟩
      | _ => cases e
    | _ => cases e
theorem dc_lead {hd : Addr → Prop} {H H' : Hp} {p : Addr} {dc : D} (m : ∀ a, G.M a → hd a) (e : Lead G H H') (nm : ¬ G.M p) (h : (∃ ks vs, dc = .dic ks vs ∧ DcF G H (hide hd H) p ks vs) ∨ (∃ ks vs, dc = .dicN ks vs ∧ DcN G H (hide hd H) p ks vs)) :
    (∃ ks vs, dc = .dic ks vs ∧ DcF G H' (hide hd H') p ks vs) ∨ (∃ ks vs, dc = .dicN ks vs ∧ DcN G H' (hide hd H') p ks vs) := by
  have x := e.hide m
  rcases h with ⟨ks, vs, rfl, kvs, h1, h2, h3⟩ | ⟨ks, vs, rfl, ps, h1, h2, h3, h4⟩
  · exact .inl ⟨ks, vs, rfl, kvs, e.ex p _ nm (fun _ z => nomatch z) h1, h2.mono x, h3.mono x⟩
  · exact .inr ⟨ks, vs, rfl, ps, e.ex p _ nm (fun _ z => nomatch z) h1, h2, h3.mono x, h4.mono x⟩
/-- k in x, x an own dict -/
def gInO (neg : Bool) (f : Env → T D) (i : Nat) : Env → T D := fun ρ => f ρ >>= fun d => opt ((ownD ρ[i]?).bind (inDic neg d))
theorem ee_inO (hK : G.K = X.K) (hP : G.P = X.prog) (hw : G.w = X.w) (hu : X.A.units + 64 < cLine) (neg : Bool) {a b : Expr} {pos : Pos} {f : Env → T D} {i : Nat} (ha : EE X G W a f) (hb : PE X b (tVar i)) {op : CmpOp} (ho : OpR X (compareOp op) (rInO X neg)) (hm : behindInMarks op b = false := by first | exact nomark _ | rfl) : EE X G W (.Compare a [op] [b] pos) (gInO neg f i) := by
  refine PE_imp (pe_cmpR ho ha hb hm) fun σ H Q q => ?_
  obtain ⟨ρ, hd, R, q⟩ := q
  refine ⟨ρ, hd, R, T.wp_imp (wp_then q) fun d q1 v H' e h => ?_⟩
  obtain ⟨z, e1, q2⟩ := wp_opt q1
  obtain ⟨dc, e2, e3⟩ := Option.bind_eq_some_iff.mp e1
  obtain ⟨p, s1, h1, nm, dcs⟩ := own_dc R e2
  refine ⟨.ref p, s1, ?_⟩
  have dcs' := dc_lead R.m e nm dcs
  have e4 : (getDic dc d).map (fun o => D.bl (if neg then !o.isSome else o.isSome)) = some z := e3
  cases q3 : getDic dc d with
  | none =>
    rw [q3] at e4
    cases e4
  | some o =>
    rw [q3] at e4
    have e5 : D.bl (if neg then !o.isSome else o.isSome) = z := Option.some.inj e4
    obtain ⟨g1, g2⟩ := get_core hK hP hw dcs' h q3
    cases o with
    | none => exact ⟨p, none, rfl, g2 rfl, q2 _ H' e (by rw [← e5]; exact .bl)⟩
    | some z' =>
      obtain ⟨v', g3, _⟩ := g1 z' rfl
      exact ⟨p, some v', rfl, g3, q2 _ H' e (by rw [← e5]; exact .bl)⟩
/-- x[k], x an own dict -/
def gIxO (i : Nat) (f : Env → T D) : Env → T D := fun ρ => opt (ownD ρ[i]?) >>= fun dc => f ρ >>= fun d => opt (ixDic dc d)
theorem ee_ixO (hK : G.K = X.K) (hP : G.P = X.prog) (hw : G.w = X.w) (hu : X.A.units + 64 < cLine) {a b : Expr} {pos : Pos} {f : Env → T D} {i : Nat} (ha : PE X a (tVar i)) (hb : EE X G W b f) (hs : PlainIx b := by intro _ _; rfl) : EE X G W (.Subscript a b pos) (gIxO i f) := by
  refine PE_imp (pe_ix (ix_dict hu) ha hb hs) fun σ H Q q => ?_
  obtain ⟨ρ, hd, R, q⟩ := q
  obtain ⟨dc, e2, q⟩ := wp_opt (wp_then q)
  obtain ⟨p, s1, h1, nm, dcs⟩ := own_dc R e2
  refine ⟨.ref p, s1, ρ, hd, R, T.wp_imp (wp_then q) fun d q1 v H' e h => ?_⟩
  obtain ⟨z, e1, q2⟩ := wp_opt q1
  have e3 : (getDic dc d).bind id = some z := e1
  have dcs' := dc_lead R.m e nm dcs
  cases q3 : getDic dc d with
  | none =>
    rw [q3] at e3
    cases e3
  | some o =>
    rw [q3] at e3
    have e5 : o = some z := e3
    obtain ⟨g1, _⟩ := get_core hK hP hw dcs' h q3
    obtain ⟨v', g3, a3⟩ := g1 z e5
    exact ⟨p, v', rfl, g3, q2 _ H' e a3⟩
/-! ### x[k] = v -/
def putDic (dc k v : D) : Option Ow := match dc with
  | .dicN ks vs => (keyT k).bind fun z => if ks.length ≤ 50000 then (if (lookN ks vs z).isSome then some (.dicN ks (setN ks vs z v)) else some (.dicN (ks ++ [k]) (vs ++ [v]))) else none
  | .dic ks vs => match keyF k with
    | some z => if ks.length ≤ 50000 then (if (lookN ks vs (fk z)).isSome then some (.dic ks (setN ks vs (fk z) v)) else some (.dic (ks ++ [k]) (vs ++ [v]))) else none
    | none => if ks.isEmpty then (keyT k).map fun _ => .dicN [k] [v] else none
  | _ => none
theorem nks_app : ∀ {l : List D} {ks : List NestedKey} {d : D} {k : NestedKey}, nks l = some ks → nk d = some k → nks (l ++ [d]) = some (ks ++ [k])
  | [], ks, d, k, h, e => by
    cases h
    show (nk d).bind (fun k => (nks []).map (k :: ·)) = some [k]
    rw [e]
    rfl
  | d0 :: l, ks, d, k, h, e => by
    have h1 : ((nk d0).bind fun k => (nks l).map (k :: ·)) = some ks := h
    cases q1 : nk d0 with
    | none =>
      rw [q1] at h1
      cases h1
    | some k1 =>
      rw [q1] at h1
      cases q2 : nks l with
      | none =>
        rw [q2] at h1
        cases h1
      | some r1 =>
        rw [q2] at h1
        cases h1
        show (nk d0).bind (fun k => (nks (l ++ [d])).map (k :: ·)) = some (k1 :: r1 ++ [k])
        rw [q1, nks_app q2 e]
        rfl
theorem setN_len : ∀ (ks vs : List D) (k : NestedKey) (x : D), (setN ks vs k x).length = vs.length
  | d :: ks, v :: vs, k, x => by
    rw [setN, List.length_cons, List.length_cons, setN_len ks vs k x]
  | [], vs, _, _ => by rw [setN]; intro a b c d e; cases e
  | _ :: _, [], _, _ => by rw [setN]; intro a b c d _ e; cases e
theorem set_nest {H : Hp} {k : NestedKey} {x : D} {v : V} (ax : At G H x v) : ∀ {ps : List (NestedKey × Addr × V)} {ks vs : List D}, nks ks = some (ps.map (·.1)) → Ats G H vs (ps.map fun q => q.2.2) →
    Ats G H (setN ks vs k x) ((ps.map (putA k v)).map fun q => q.2.2)
  | [], ks, _, h, h' => by
    cases h'
    cases ks with
    | nil => exact .nil
    | cons d l => exact .nil
  | p :: ps, ks, _, h, h' => by
    cases ks with
    | nil => cases h
    | cons d l =>
      have h1 : ((nk d).bind fun k => (nks l).map (k :: ·)) = some (p.1 :: ps.map (·.1)) := h
      cases q1 : nk d with
      | none =>
        rw [q1] at h1
        cases h1
      | some k1 =>
        rw [q1] at h1
        cases q2 : nks l with
        | none =>
          rw [q2] at h1
          cases h1
        | some r1 =>
          rw [q2] at h1
          have h2 := Option.some.inj h1
          have e1 : k1 = p.1 := (List.cons.inj h2).1
          have e2 : r1 = ps.map (·.1) := (List.cons.inj h2).2
          cases h' with
          | @cons d' x' l' xs' a' r' =>
            have r2 := set_nest (k := k) ax (by rw [q2, e2]) r'
            rw [setN, List.map_cons, List.map_cons]
            by_cases q : p.1 = k
            · rw [if_pos (by rw [q1, e1, q])]
              have e3 : (putA k v p).2.2 = v := by unfold putA; rw [if_pos q]
              rw [e3]
              exact .cons ax r2
            · rw [if_neg (fun z => q (by rw [q1] at z; rw [← e1]; exact Option.some.inj z))]
              have e3 : putA k v p = p := by unfold putA; rw [if_neg q]
              rw [e3]
              exact .cons a' r2
theorem putA_fst (k : NestedKey) (v : V) (ps : List (NestedKey × Addr × V)) : (ps.map (putA k v)).map (·.1) = ps.map (·.1) ∧ (ps.map (putA k v)).map (fun q => V.ref q.2.1) = ps.map (fun q => V.ref q.2.1) := by
  rw [List.map_map, List.map_map]
  constructor <;> refine List.map_congr_left fun p _ => ?_ <;> (show _ = _; unfold Function.comp putA; by_cases q : p.1 = k <;> simp [q])
/-- the entry is put: the data -/
theorem put_nest {H : Hp} {ps : List (NestedKey × Addr × V)} {ks vs : List D} {kd x : D} {k : NestedKey} {b : Addr} {v : V} (n : KN ks ps) (h2 : Ats G H ks (ps.map fun q => V.ref q.2.1)) (h3 : Ats G H vs (ps.map fun q => q.2.2)) (e : nk kd = some k) (h8 : k.depth ≤ 8) (ak : At G H kd (.ref b)) (ax : At G H x v) :
    let r := if (lookN ks vs k).isSome then (ks, setN ks vs k x) else (ks ++ [kd], vs ++ [x])
    KN r.1 (storeA ps k b v) ∧ Ats G H r.1 ((storeA ps k b v).map fun q => V.ref q.2.1) ∧ Ats G H r.2 ((storeA ps k b v).map fun q => q.2.2) := by
  obtain ⟨l1, l2⟩ := look_nest (k := k) n.1 h3
  cases q : lookN ks vs k with
  | none =>
    have e1 := l2 q
    have e2 : storeA ps k b v = ps ++ [(k, b, v)] := by unfold storeA; rw [e1]; rfl
    rw [e2]
    refine ⟨⟨by rw [List.map_append]; exact nks_app n.1 e, fun p hp => ?_⟩, by rw [List.map_append]; exact h2.append (.cons ak .nil), by rw [List.map_append]; exact h3.append (.cons ax .nil)⟩
    rcases List.mem_append.mp hp with hp | hp
    · exact n.2 p hp
    · rw [List.mem_singleton.mp hp]
      exact h8
  | some d0 =>
    obtain ⟨v0, e1, _⟩ := l1 d0 q
    have e2 : storeA ps k b v = ps.map (putA k v) := by unfold storeA; rw [e1]; rfl
    rw [e2]
    obtain ⟨p1, p2⟩ := putA_fst k v ps
    refine ⟨⟨by rw [p1]; exact n.1, fun p hp => ?_⟩, by rw [p2]; exact h2, set_nest ax n.1 h3⟩
    obtain ⟨p0, hp0, rfl⟩ := List.mem_map.mp hp
    have := n.2 p0 hp0
    unfold putA
    by_cases c : p0.1 = k
    · rw [if_pos c]
      exact this
    · rw [if_neg c]
      exact this
theorem put_flat {H : Hp} {k : Key} {x kd : D} {v : V} (ax : At G H x v) (ak : At G H kd (kV k)) {kvs : List (Key × V)} {ks vs : List D} (h : Ats G H ks (kvs.map fun q => kV q.1)) (h' : Ats G H vs (kvs.map (·.2))) :
    let r := if (lookN ks vs (fk k)).isSome then (ks, setN ks vs (fk k) x) else (ks ++ [kd], vs ++ [x])
    Ats G H r.1 ((putK kvs k v).map fun q => kV q.1) ∧ Ats G H r.2 ((putK kvs k v).map (·.2)) := by
  obtain ⟨l1, l2⟩ := look_flat (k := k) h h'
  have e0 : (kvs.any fun kv => decide (kv.1 = k)) = (valV kvs k).isSome := by
    clear l1 l2 h h'
    induction kvs with
    | nil => rfl
    | cons p l ih =>
      by_cases c : p.1 = k
      · rw [valV_pos c]
        simp [c]
      · rw [valV_neg c, ← ih]
        simp [c]
  cases q : lookN ks vs (fk k) with
  | none =>
    have e1 : putK kvs k v = kvs ++ [(k, v)] := by
      unfold putK
      rw [e0, l2 q]
      rfl
    rw [e1]
    exact ⟨by rw [List.map_append]; exact h.append (.cons ak .nil), by rw [List.map_append]; exact h'.append (.cons ax .nil)⟩
  | some d0 =>
    obtain ⟨v0, e2, _⟩ := l1 d0 q
    have e1 : putK kvs k v = kvs.map (fun kv => if kv.1 = k then (kv.1, v) else kv) := by
      unfold putK
      rw [e0, e2]
      rfl
    rw [e1]
    refine ⟨?_, ?_⟩
    · have e3 : (kvs.map (fun kv => if kv.1 = k then (kv.1, v) else kv)).map (fun q => kV q.1) = kvs.map fun q => kV q.1 := by
        rw [List.map_map]
        refine List.map_congr_left fun p _ => ?_
        show kV (if p.1 = k then (p.1, v) else p).1 = kV p.1
        by_cases c : p.1 = k <;> simp [c]
      rw [e3]
      exact h
    · have key : ∀ {kvs : List (Key × V)} {ks vs : List D}, Ats G H ks (kvs.map fun q => kV q.1) → Ats G H vs (kvs.map (·.2)) → Ats G H (setN ks vs (fk k) x) ((kvs.map (fun kv => if kv.1 = k then (kv.1, v) else kv)).map (·.2)) := by
        intro kvs
        induction kvs with
        | nil =>
          intro ks vs h h'
          cases h
          cases h'
          exact .nil
        | cons p kvs ih =>
          intro ks vs h h'
          cases h with
          | @cons d y l xs a r =>
            cases h' with
            | @cons d' y' l' xs' a' r' =>
              have e0 : nk d = some (fk p.1) := by
                have a : At G H d (kV p.1) := a
                generalize p.1 = k0 at a
                cases k0 with
                | inl i =>
                  have a : At G H d (.int i) := a
                  cases a
                  rfl
                | inr y =>
                  have a : At G H d (.str y) := a
                  cases a
                  rfl
              rw [setN, List.map_cons, List.map_cons]
              by_cases c : p.1 = k
              · rw [if_pos (by rw [e0, c]), if_pos c]
                exact .cons ax (ih r r')
              · rw [if_neg (fun z => c (fk_inj (by rw [e0] at z; exact Option.some.inj z))), if_neg c]
                exact .cons a' (ih r r')
      exact key h h'
/-- x[k] = v, x an own dict -/
def nxO (i : Nat) (ρ : Env) : Option Ow → T Out
  | some o => .ret (.nx (ρ.set i (.own o)))
  | none => .bad
def sPutO (i : Nat) (fk fv : Env → T D) : Sm := fun ρ => match ownD ρ[i]? with
  | none => .bad
  | some dc => bindS (fv ρ) ρ fun v => bindS (fk ρ) ρ fun k => nxO i ρ (putDic dc k v)
theorem own_is {s : Option Slot} {dc : D} (e : ownD s = some dc) : (∃ ks vs, dc = .dic ks vs ∧ s = some (.own (.dic ks vs))) ∨ (∃ ks vs, dc = .dicN ks vs ∧ s = some (.own (.dicN ks vs))) := by
  cases s with
  | none => cases e
  | some s =>
    cases s with
    | own o =>
      cases o with
      | dic ks vs =>
        cases e
        exact .inl ⟨_, _, rfl, rfl⟩
      | dicN ks vs =>
        cases e
        exact .inr ⟨_, _, rfl, rfl⟩
      | _ => cases e
    | _ => cases e
/-- x[k] = v of any dict -/
theorem ps_dputA {o i value : Expr} {pos pos' : Pos} {td ty tv : TE} (hu : X.A.units + 64 < cLine) (ho : PE X o td) (hi : PE X i ty) (hv : PE X value tv) (hs : swapsWith value (some (.Subscript o i pos')) pos.line X.env = pure false) :
    PS X (.Assign [.Subscript o i pos'] value pos) (fun D σ H => tv σ H fun v H1 => td σ H1 fun x H2 => ty σ H2 fun y H3 => ∃ a, x = .ref a ∧
      ((∃ b ps k, y = .ref b ∧ IsDN X.prog X.w H3 a ps ∧ KeysOk X.K H3 ps ∧ NKat X.K H3 k (.ref b) ∧ k.depth ≤ 8 ∧ ps.length < sizeLine ∧ D.nx σ (upd H3 a (DN X.prog X.w a (storeA ps k b v)))) ∨ ∃ H4, DPut H3 a y v H4 ∧ D.nx σ H4)) := by
  refine ⟨fun pins s σ H D I h => ?_⟩
  refine wpAny_Assign_Subscript (thn (hv.run pins s σ H _ I h) fun r s1 ⟨v, H1, I1, rv, q1⟩ => thn (ho.run pins s1 σ H1 _ I1 q1) fun u s2 ⟨x, H2, I2, rx, q2⟩ => thn (hi.run pins s2 σ H2 _ I2 q2) fun iv s3 ⟨y, H3, I3, ry, a, ex, g⟩ => ?_) hs
  subst ex
  obtain rfl : u = Value.ref a := rx
  rcases g with ⟨b, ps, k, rfl, h1, h2, h3, h4, h5, q3⟩ | ⟨H4, g, q3⟩
  · cases ry
    exact n_setItem hu I3 h1 h2 h3 h4 rv h5 fun s4 I4 => ⟨σ, _, I4, q3⟩
  · exact d_setItem (by omega) I3 g ry rv fun s4 I4 => ⟨σ, H4, I4, q3⟩
theorem ss_putO {hs : Hid} (hK : G.K = X.K) (hP : G.P = X.prog) (hw : G.w = X.w) (hu : X.A.units + 64 < cLine) {o ix value : Expr} {pos pos' : Pos} {fy fv : Env → T D} {i : Nat} (ho : PE X o (tVar i)) (hi : EE X G W ix fy) (hv : EE X G W value fv) (h : swapsWith value (some (.Subscript o ix pos')) pos.line X.env = pure false := by rfl) :
    SS X G W hs (.Assign [.Subscript o ix pos'] value pos) (sPutO i fy fv) := by
  refine PS_imp (ps_dputA hu ho hi hv h) fun Dn σ H q => ?_
  obtain ⟨ρ, hd, R, q⟩ := q
  unfold sPutO at q
  cases q0 : ownD ρ[i]? with
  | none =>
    rw [q0] at q
    exact q.elim
  | some dc =>
    rw [q0] at q
    refine ⟨ρ, hd, R.rep, T.wp_mono (bindS_then q) (fun d q1 v H1 e1 h1 => ?_) fun c l z => rz_of R z⟩
    have R1 := R.to e1
    obtain ⟨p, s1, hp, nm, dcs⟩ := own_dc R1.rep q0
    refine ⟨.ref p, s1, ρ, hd, R1.rep, T.wp_mono (bindS_then q1) (fun k q2 y H2 e2 h2 => ?_) fun c l z => rz_of R1 (oQ.to (e1.hide R.rep.m) z)⟩
    have R2 := R1.to e2
    have dcs2 := dc_lead R1.rep.m e2 nm dcs
    have h1' := h1.mono (e2.hide R1.rep.m)
    have x02 : Ex (hide hd H) (hide hd H2) := (e1.hide R.rep.m).trans (e2.hide R1.rep.m)
    refine ⟨p, rfl, ?_⟩
    cases q3 : putDic dc k d with
    | none =>
      rw [q3] at q2
      exact q2.elim
    | some ow =>
      rw [q3] at q2
      have q5 : oQ X G W hs Dn hd H (.nx (ρ.set i (.own ow))) := q2
      have fin : ∀ (l : Ow) (u : HO), ρ[i]? = some (.own l) → OwH G (hide hd H2) p ow u → (∀ a, mineO X hs l a → mineO X hs ow a) → Dn.nx σ (upd H2 p u) := fun l u e0 r same => by
        obtain ⟨R3, x3⟩ := R2.change (l' := ow) (u' := u) e0 s1 hp nm r same
        exact q5 hd σ _ R3 (x02.trans x3)
      rcases own_is q0 with ⟨ks, vs, rfl, e0⟩ | ⟨ks, vs, rfl, e0⟩
      · rcases dcs2 with ⟨ks', vs', ed, kvs, g1, g2, g3⟩ | ⟨ks', vs', ed, _⟩
        · cases ed
          have q6 : (match keyF k with
            | some z => if ks.length ≤ 50000 then (if (lookN ks vs (fk z)).isSome then some (Ow.dic ks (setN ks vs (fk z) d)) else some (.dic (ks ++ [k]) (vs ++ [d]))) else none
            | none => if ks.isEmpty then (keyT k).map fun _ => .dicN [k] [d] else none) = some ow := q3
          cases q7 : keyF k with
          | some z =>
            rw [q7] at q6
            have q6 : (if ks.length ≤ 50000 then (if (lookN ks vs (fk z)).isSome then some (Ow.dic ks (setN ks vs (fk z) d)) else some (.dic (ks ++ [k]) (vs ++ [d]))) else none) = some ow := q6
            by_cases c : ks.length ≤ 50000
            · rw [if_pos c] at q6
              have ey : y = kV z := by
                cases k <;> first | (cases q7; done) | (cases q7; cases h2; rfl) | cases q7
              have pf := put_flat (k := z) (kd := k) h1' (by rw [← ey]; exact h2) g2 g3
              have hl : kvs.length < sizeLine := by
                have := g2.length
                rw [List.length_map] at this
                rw [← this]
                exact Nat.lt_of_le_of_lt c (by decide)
              refine .inr ⟨_, .inl ⟨kvs, z, g1, ey, hl, rfl⟩, ?_⟩
              by_cases c2 : (lookN ks vs (fk z)).isSome = true
              · rw [if_pos c2] at q6 pf
                cases q6
                exact fin _ _ e0 ⟨_, rfl, pf.1, pf.2⟩ (fun _ z => z)
              · rw [if_neg c2] at q6 pf
                cases q6
                exact fin _ _ e0 ⟨_, rfl, pf.1, pf.2⟩ (fun _ z => z)
            · rw [if_neg c] at q6
              cases q6
          | none =>
            rw [q7] at q6
            have q6 : (if ks.isEmpty then (keyT k).map fun _ => Ow.dicN [k] [d] else none) = some ow := q6
            by_cases c : ks.isEmpty = true
            · rw [if_pos c] at q6
              cases q8 : keyT k with
              | none =>
                rw [q8] at q6
                cases q6
              | some z =>
                rw [q8] at q6
                have q9 : Ow.dicN [k] [d] = ow := Option.some.inj q6
                obtain ⟨z1, z2, l, rfl⟩ := keyT_some q8
                have ek : kvs = [] := by
                  have hl := g2.length
                  have : ks = [] := by
                    cases ks with
                    | nil => rfl
                    | cons _ _ => cases c
                  rw [this] at hl
                  cases kvs with
                  | nil => rfl
                  | cons _ _ => simp at hl
                rw [ek] at g1
                cases h2 with
                | @tup l' b xs s1' s2' =>
                  refine .inl ⟨b, [], z, rfl, .inr ⟨rfl, g1⟩, (fun _ z => nomatch z), nkat_of hK (At.tup s1' s2') z1, z2, by decide, fin _ _ e0 ?_ ?_⟩
                  · rw [← q9, ← hP, ← hw]
                    refine ⟨[(z, b, v)], rfl, ⟨?_, fun p hp => ?_⟩, .cons (At.tup s1' s2') .nil, .cons h1' .nil⟩
                    · show (nk (.tup l)).bind (fun k => (nks []).map (k :: ·)) = some [z]
                      rw [z1]
                      rfl
                    · rw [List.mem_singleton.mp hp]
                      exact z2
                  · rw [← q9]
                    exact fun _ z => z
            · rw [if_neg c] at q6
              cases q6
        · cases ed
      · rcases dcs2 with ⟨ks', vs', ed, _⟩ | ⟨ks', vs', ed, ps, g1, g2, g3, g4⟩
        · cases ed
        · cases ed
          have q6 : ((keyT k).bind fun z => if ks.length ≤ 50000 then (if (lookN ks vs z).isSome then some (Ow.dicN ks (setN ks vs z d)) else some (.dicN (ks ++ [k]) (vs ++ [d]))) else none) = some ow := q3
          cases q8 : keyT k with
          | none =>
            rw [q8] at q6
            cases q6
          | some z =>
            rw [q8] at q6
            have q6 : (if ks.length ≤ 50000 then (if (lookN ks vs z).isSome then some (Ow.dicN ks (setN ks vs z d)) else some (.dicN (ks ++ [k]) (vs ++ [d]))) else none) = some ow := q6
            by_cases c : ks.length ≤ 50000
            · rw [if_pos c] at q6
              obtain ⟨z1, z2, l, rfl⟩ := keyT_some q8
              have hl : ps.length < sizeLine := by
                have := g3.length
                rw [List.length_map] at this
                rw [← this]
                exact Nat.lt_of_le_of_lt c (by decide)
              cases h2 with
              | @tup l' b xs s1' s2' =>
                have ak := At.tup (G := G) s1' s2'
                have pn := put_nest (k := z) g2 g3 g4 z1 z2 ak h1'
                rw [hP, hw] at g1
                refine .inl ⟨b, ps, z, rfl, .inl g1, keys_ok hK g2 g3, nkat_of hK ak z1, z2, hl, ?_⟩
                by_cases c2 : (lookN ks vs z).isSome = true
                · rw [if_pos c2] at q6 pn
                  cases q6
                  refine fin _ _ e0 ?_ (fun _ z => z)
                  rw [← hP, ← hw]
                  exact ⟨_, rfl, pn.1, pn.2.1, pn.2.2⟩
                · rw [if_neg c2] at q6 pn
                  cases q6
                  refine fin _ _ e0 ?_ (fun _ z => z)
                  rw [← hP, ← hw]
                  exact ⟨_, rfl, pn.1, pn.2.1, pn.2.2⟩
            · rw [if_neg c] at q6
              cases q6
end
end Py
set_option Elab.async false
set_option linter.all false
set_option maxRecDepth 100000
set_option maxHeartbeats 4000000
/-! ### tuples sorted, some of them bare -/
namespace Py.So
open PySem PySem.W PySem.SeqAt PySem.Calls PyProof.Rows
theorem call_tuple_lt {A : Around} {s : Shared} {prog : Program} {w : World} {E : Value → Shared → Prop} {Q : Value → Shared → Prop} {l b : Addr} {items items2 : Array Value} {e r : Nat → Bool} (hl : s.heap.IsTuple l items) (hb : s.heap.IsTuple b items2)
    (he : ∀ j (h1 : j < items.size) (h2 : j < items2.size), EqAt A.in1 s items[j] items2[j] (e j)) (hr : ∀ j (h1 : j < items.size) (h2 : j < items2.size), e j = false → RcLt A.in1 s items[j] items2[j] (r j))
    (h : Q (.bool (firstLt e r (decide (items.size < items2.size)) (List.range (min items.size items2.size)))) s) : wpAny (model prog w) A (call (.builtin "tuple.__lt__") [.ref l, .ref b]) Q E s := by
  obtain ⟨⟨cls, dd, data, sl⟩, ho, hc, n, hd⟩ := id hl
  obtain ⟨⟨cls2, dd2, data2, sl2⟩, ho2, hc2, n2, hd2⟩ := id hb
  simp only at hc hd hc2 hd2
  subst hc hd hc2 hd2
  exact call_meets F.slot_tuple_lt ⟨_, ho, rfl⟩ F.entry_tuple_lt (F.args_tuple_lt_2 _ _) (tuple_ltAt l b items items2 n n2 dd dd2 sl sl2 e r) ⟨ho, ho2, he, hr, h⟩
variable {prog : Program} {w : World} {A : Around} {E : Value → Shared → Prop} {s : Shared}
theorem oneLt_any {f : Bool} {da db : PyData} {a b : Value} {as bs : List Addr} {Q : Bool → Shared → Prop} (ra : Reads s.heap a da as) (rb : Reads s.heap b db bs) (h : alike da db = true) (hn : da ≠ .none)
    (hu : A.units + min da.depth db.depth < cLine) (hq : Q (dataLt da db) s) : wpAny (model prog w) A (oneLt' f a b) Q E s := by
  by_cases ht : f = true ∧ ∃ xs, da = .tuple xs
  · obtain ⟨rfl, xs, rfl⟩ := ht
    cases db with
    | tuple ys =>
      have hal : alikeAll xs ys = true := by simpa [alike] using h
      cases ra with
      | @tuple l o vs n _ as₁ h1 h2 h3 h4 =>
        cases rb with
        | @tuple l' o' vs' n' _ bs₁ k1 k2 k3 k4 =>
          have n1 : vs.size = xs.length := by simpa using ReadsAll.length _ _ _ h4
          have n2 : vs'.size = ys.length := by simpa using ReadsAll.length _ _ _ k4
          rw [dataLt_tuple, ← firstLt_toks xs ys hal, ← n1, ← n2] at hq
          rw [oneLt'_eq]
          simp only [if_true]
          refine wpAny_bind (wpAny_cRoomFor (room_here hu) ?_)
          refine wpAny_bind (wpAny_callSpecialIfBound?_slot (T := "tuple") ⟨_, h1, h2⟩ F.slot_tuple_lt (call_tuple_lt (e := pairEq xs ys) (r := fun j => dataLt (xs.getD j .none) (ys.getD j .none)) ⟨_, h1, h2, _, h3⟩ ⟨_, k1, k2, _, k3⟩ (fun j j1 j2 => ?_) (fun j j1 j2 hj => ?_) ?_))
          · have := eqAt_alikeAll xs ys A.in1 s vs.toList vs'.toList _ _ h4 k4 hal (room_in hu) j (by simpa using j1) (by simpa using j2)
            simpa using this
          · have := rcLt_alikeAll xs ys A.in1 s vs.toList vs'.toList _ _ h4 k4 hal (room_in hu) j (by simpa using j1) (by simpa using j2) hj
            simpa using this
          · exact wpAny_truthy_bool hq
    | _ => exact absurd h (by simp [alike])
  · exact oneLt_alike (fun e xs e2 => ht ⟨e, xs, e2⟩) ra rb h hn hu hq
theorem keyLt'_general (x y : Value) : keyLt' general' x y = oneLt' false x y := rfl
section
variable {M : Model}
/-- the first items, where there are such -/
theorem mapM_any {α β : Type} {f : α → Sem β} {g : α → β} : ∀ (l : List α) {Q : List β → Shared → Prop}, (∀ v ∈ l, ∀ (Q' : β → Shared → Prop), Q' (g v) s → wpAny M A (f v) Q' E s) → Q (l.map g) s → wpAny M A (l.mapM f) Q E s
  | [], _, _, h => by rw [List.mapM_nil]; exact wpAny_pure h
  | x :: l, Q, hf, h => by
    rw [List.mapM_cons]
    exact wpAny_bind (hf x (.head _) _ (wpAny_bind (mapM_any l (Q := fun bs s' => wpAny M A (pure (g x :: bs)) Q E s') (fun v hv => hf v (.tail _ hv)) (wpAny_pure h))))
open Classical in
/-- the first item of the tuple v -/
noncomputable def fst0 (h : Heap) (v : Value) : Option Value := if q : ∃ a o xs n, v = .ref a ∧ h.get? a = some o ∧ o.cls = .type "tuple" ∧ o.data = .seq xs n then (q.choose_spec.choose_spec.choose)[0]? else none
def IsT (h : Heap) (v : Value) : Prop := ∃ a o xs n, v = .ref a ∧ h.get? a = some o ∧ o.cls = .type "tuple" ∧ o.data = .seq xs n
theorem fst0_at {h : Heap} {a : Addr} {o : Obj} {xs : Array Value} {n : Nat} (ho : h.get? a = some o) (hc : o.cls = .type "tuple") (hd : o.data = .seq xs n) : fst0 h (.ref a) = xs[0]? := by
  have q : ∃ a' o xs n, Value.ref a = .ref a' ∧ h.get? a' = some o ∧ o.cls = .type "tuple" ∧ o.data = .seq xs n := ⟨a, o, xs, n, rfl, ho, hc, hd⟩
  unfold fst0
  rw [dif_pos q]
  obtain ⟨m, e1, e2, e3, e4⟩ := q.choose_spec.choose_spec.choose_spec
  have e1' : a = q.choose := by injection e1
  have e2' : h.get? a = some q.choose_spec.choose := (congrArg h.get? e1').trans e2
  rw [ho] at e2'
  have e5 := Option.some.inj e2'
  have e7 := hd.symm.trans ((congrArg Obj.data e5).trans e4)
  injection e7 with e6 _
  rw [← e6]
theorem fst_eq {v : Value} (t : IsT s.heap v) {Q' : Option Value → Shared → Prop} (h : Q' (fst0 s.heap v) s) : wpAny M A (firstOfTuple' v) Q' E s := by
  obtain ⟨a, o, xs, n, rfl, ho, hc, hd⟩ := t
  rw [fst0_at ho hc hd] at h
  rw [kas_first_eq]
  refine wpAny_bind (Looks.here (show Looks M s.heap (typeOf (.ref a)) o.cls from (Looks.ld ho).andThen .now) ?_)
  rw [hc, if_neg (by first | decide | simp)]
  exact wpAny_bind (listItems_at ho hd (wpAny_pure h))
/-- the kind of tuples of which some are bare -/
theorem mix_kind {v₁ v₂ : Value} {rest : List Value} {Q : SortKind → Shared → Prop} (t : ∀ v ∈ v₁ :: v₂ :: rest, IsT s.heap v) (hb : ∃ v ∈ v₁ :: v₂ :: rest, fst0 s.heap v = none) (h : Q (if (fst0 s.heap v₁).isSome then general' else oneType') s) :
    wpAny M A (keyKind' (v₁ :: v₂ :: rest).toArray) Q E s := by
  have hT : ∀ v ∈ v₁ :: v₂ :: rest, Looks M s.heap (typeOf v) (.type "tuple") := fun v hv => by
    obtain ⟨a, o, xs, n, rfl, ho, hc, hd⟩ := t v hv
    exact hc ▸ (show Looks M s.heap (typeOf (.ref a)) o.cls from (Looks.ld ho).andThen .now)
  rw [keyKind'_eq, List.mapM_toArray, map_eq_pure_bind]
  refine wpAny_bind (wpAny_bind (mapM_any (g := fst0 s.heap) _ (fun v hv Q' hq => fst_eq (t v hv) hq) (wpAny_pure ?_)))
  have hall : ¬ (((v₁ :: v₂ :: rest).map (fst0 s.heap)).toArray.all fun x => x.isSome) = true := fun z => by
    simp only [List.all_toArray, List.all_map, List.all_eq_true] at z
    obtain ⟨v, hv, e⟩ := hb
    have := z v hv
    simp [e] at this
  rw [if_neg hall]
  have h0 : (((v₁ :: v₂ :: rest).map (fst0 s.heap)).toArray[0]?.bind id).isSome = (fst0 s.heap v₁).isSome := by simp
  rw [h0]
  by_cases q : (fst0 s.heap v₁).isSome = true
  · rw [if_pos q] at h ⊢
    exact wpAny_pure h
  · rw [if_neg q] at h ⊢
    rw [oneTypeOnly'_eq, List.mapM_toArray, map_eq_pure_bind]
    refine wpAny_bind (wpAny_bind (wpAny_bind (kas_mapM (r := Value.type "tuple") _ (fun v hv Q' hq => (hT v hv).here hq) (wpAny_pure ?_))))
    have hall : ((List.map (fun _ => Value.type "tuple") (v₁ :: v₂ :: rest)).toArray.all fun x => x == Value.type "tuple") = true := by
      simp only [List.all_toArray, List.all_map, List.all_eq_true]
      intro _ _
      exact (by decide : (Value.type "tuple" == Value.type "tuple") = true)
    have h0 : (List.map (fun _ => Value.type "tuple") (v₁ :: v₂ :: rest)).toArray[0]? = some (Value.type "tuple") := by simp
    rw [h0]
    simp only [hall, if_true]
    exact wpAny_pure (wpAny_pure h)
end
/-- all are tuples, or none is a tuple or None -/
def SortB (ds : List PyData) : Prop := (∀ d, d ∈ ds → ∃ xs, d = .tuple xs) ∨ ∀ d, d ∈ ds → d ≠ .none ∧ ∀ xs, d ≠ .tuple xs
theorem each_left {α β : Type} {R : α → β → Prop} : ∀ {as : List α} {bs : List β}, EachIs R as bs → ∀ a ∈ as, ∃ b ∈ bs, R a b
  | _, _, .nil, _, h => by cases h
  | _, _, .cons r t, a, h => by
    rcases List.mem_cons.mp h with rfl | h
    · exact ⟨_, List.mem_cons_self .., r⟩
    · obtain ⟨b, hb, q⟩ := each_left t a h
      exact ⟨b, List.mem_cons_of_mem _ hb, q⟩
theorem each_right {α β : Type} {R : α → β → Prop} : ∀ {as : List α} {bs : List β}, EachIs R as bs → ∀ b ∈ bs, ∃ a ∈ as, R a b
  | _, _, .nil, _, h => by cases h
  | _, _, .cons r t, b, h => by
    rcases List.mem_cons.mp h with rfl | h
    · exact ⟨_, List.mem_cons_self .., r⟩
    · obtain ⟨a, ha, q⟩ := each_right t b h
      exact ⟨a, List.mem_cons_of_mem _ ha, q⟩
theorem sortsAt {vs : List Value} {ds : List PyData} (e : EachIs (fun v d => ∃ as, Reads s.heap v d as) vs ds) (hal : AllAlike ds) (hk : SortB ds) (hu : ∀ d, d ∈ ds → A.units + d.depth < cLine) : SortsAt prog w A s (dataKind s.heap ds) vs := by
  rcases hk with ht | hn
  · by_cases hb : ∃ d, d ∈ ds ∧ d = .tuple []
    · have room : ∀ {d d' : PyData}, d ∈ ds → A.units + min d.depth d'.depth < cLine := fun {d d'} hd => Nat.lt_of_le_of_lt (Nat.add_le_add_left (Nat.min_le_left _ _) _) (hu d hd)
      have cmp : ∀ (f : Bool) (E : Value → Shared → Prop) (x y : Value) (a b : List (Int ⊕ List Nat)) (Q : Bool → Shared → Prop), (dataKind s.heap ds).keyOf x = some a → (dataKind s.heap ds).keyOf y = some b → Q (PyProof.Rows.lexLt itemOrd a b) s → wpAny (model prog w) A (oneLt' f x y) Q E s := by
        intro f E x y a b Q ha hb' hq
        obtain ⟨d, as, hd, ra, rfl⟩ := dataKind_inv ha
        obtain ⟨d', as', hd', rb, rfl⟩ := dataKind_inv hb'
        exact oneLt_any ra rb (hal d hd d' hd') (fun z => by
          obtain ⟨xs, e2⟩ := ht d hd
          rw [z] at e2
          cases e2) (room hd) hq
      refine ⟨fun v hv => ?_, ?_⟩
      · obtain ⟨d, hd, as, r⟩ := e.left v hv
        exact ⟨_, dataKind_some hal hd r⟩
      · cases vs with
        | nil =>
          exact ⟨general', fun E x y a b Q ha hb hq => by
            rw [keyLt'_general]
            exact cmp false E x y a b Q ha hb hq, fun h2 => absurd h2 (by simp)⟩
        | cons v₁ vs =>
          refine ⟨if (fst0 s.heap v₁).isSome then general' else oneType', fun E x y a b Q ha hb hq => ?_, fun h2 E Q hq => ?_⟩
          · by_cases c : (fst0 s.heap v₁).isSome = true
            · rw [if_pos c, keyLt'_general]
              exact cmp false E x y a b Q ha hb hq
            · rw [if_neg c, keyLt'_oneType]
              exact cmp true E x y a b Q ha hb hq
          · cases vs with
            | nil => exact absurd h2 (by simp)
            | cons v₂ rest =>
              refine mix_kind (fun v hv => ?_) ?_ hq
              · obtain ⟨d, hd, as, r⟩ := each_left e v hv
                obtain ⟨xs, rfl⟩ := ht d hd
                cases r with
                | tuple h1 h2 h3 h4 => exact ⟨_, _, _, _, rfl, h1, h2, h3⟩
              · obtain ⟨d, hd, rfl⟩ := hb
                obtain ⟨v, hv, as, r⟩ := each_right e _ hd
                refine ⟨v, hv, ?_⟩
                cases r with
                | @tuple a o xs n _ _ h1 h2 h3 h4 =>
                  rw [fst0_at h1 h2 h3]
                  have : xs.toList = [] := by
                    generalize xs.toList = l at h4
                    cases h4
                    rfl
                  rw [← Array.getElem?_toList, this]
                  rfl
    · refine SortsAt.data e hal (.inl fun d hd => ?_) hu
      obtain ⟨xs, rfl⟩ := ht d hd
      cases xs with
      | nil => exact absurd ⟨_, hd, rfl⟩ hb
      | cons x r => exact ⟨x, r, rfl⟩
  · exact SortsAt.data e hal (.inr hn) hu
end Py.So
set_option Elab.async false
set_option linter.all false
set_option maxRecDepth 100000
set_option maxHeartbeats 4000000
namespace Py
open PySem PySem.Spec PyProof.Rows L2

/-! ### sorted -/
def pd (d : D) : PyData := (pyD d).getD .none
def leD (a b : D) : Bool := !PySem.W.dataLt (pd b) (pd a)
def insD (x : D) : List D → List D
  | [] => [x]
  | y :: l => if leD x y then x :: y :: l else y :: insD x l
def isortD : List D → List D
  | [] => []
  | x :: l => insD x (isortD l)
theorem leD_eq : leD = PySem.W.dataLe false pd := rfl
theorem leD_total : PySem.W.TotalLe leD := PySem.W.sortLe_total (PyProof.Rows.listOrd PyProof.Rows.itemOrd) false fun b => PySem.W.keyToks (pd b)
theorem insD_perm (x : D) : ∀ l : List D, (insD x l).Perm (x :: l)
  | [] => List.Perm.refl _
  | y :: l => by
    unfold insD
    by_cases h : leD x y = true
    · rw [if_pos h]
    · rw [if_neg h]
      exact ((insD_perm x l).cons y).trans (List.Perm.swap x y l)
theorem isortD_perm : ∀ l : List D, (isortD l).Perm l
  | [] => List.Perm.refl _
  | x :: l => (insD_perm x _).trans ((isortD_perm l).cons x)
theorem insD_sorted (x : D) : ∀ {l : List D}, l.Pairwise (fun a b => leD a b = true) → (insD x l).Pairwise (fun a b => leD a b = true)
  | [], _ => List.pairwise_singleton ..
  | y :: l, h => by
    have h' := List.pairwise_cons.mp h
    unfold insD
    by_cases c : leD x y = true
    · rw [if_pos c]
      refine List.pairwise_cons.mpr ⟨fun z hz => ?_, h⟩
      rcases List.mem_cons.mp hz with rfl | hz
      · exact c
      · exact leD_total.trans x y z c (h'.1 z hz)
    · rw [if_neg c]
      refine List.pairwise_cons.mpr ⟨fun z hz => ?_, insD_sorted x h'.2⟩
      rcases List.mem_cons.mp ((insD_perm x l).mem_iff.mp hz) with rfl | hz
      · exact (leD_total.total z y).resolve_left c
      · exact h'.1 z hz
theorem isortD_sorted : ∀ l : List D, (isortD l).Pairwise (fun a b => leD a b = true)
  | [] => List.Pairwise.nil
  | x :: l => insD_sorted x (isortD_sorted l)
theorem insD_filter (c x : D) : ∀ l : List D, l.Pairwise (fun a b => leD a b = true) → (insD x l).filter (PySem.W.sameRank leD c) = (x :: l).filter (PySem.W.sameRank leD c)
  | [], _ => rfl
  | y :: l, h => by
    have h' := List.pairwise_cons.mp h
    unfold insD
    by_cases q : leD x y = true
    · rw [if_pos q]
    · rw [if_neg q]
      have ih := insD_filter c x l h'.2
      by_cases hx : PySem.W.sameRank leD c x = true
      · -- y is less than x: not of x's rank
        have hy : ¬ PySem.W.sameRank leD c y = true := fun z => by
          unfold PySem.W.sameRank at z hx
          rw [Bool.and_eq_true] at z hx
          exact q (leD_total.trans x c y hx.2 z.1)
        rw [List.filter_cons_of_neg hy, ih, List.filter_cons_of_pos hx, List.filter_cons_of_pos hx, List.filter_cons_of_neg hy]
      · rw [List.filter_cons_of_neg hx] at ih ⊢
        by_cases hy : PySem.W.sameRank leD c y = true
        · rw [List.filter_cons_of_pos hy, List.filter_cons_of_pos hy, ih]
        · rw [List.filter_cons_of_neg hy, List.filter_cons_of_neg hy, ih]
theorem isortD_filter (c : D) : ∀ l : List D, (isortD l).filter (PySem.W.sameRank leD c) = l.filter (PySem.W.sameRank leD c)
  | [] => rfl
  | x :: l => by
    show (insD x (isortD l)).filter _ = _
    rw [insD_filter c x _ (isortD_sorted l)]
    by_cases hx : PySem.W.sameRank leD c x = true
    · rw [List.filter_cons_of_pos hx, List.filter_cons_of_pos hx, isortD_filter c l]
    · rw [List.filter_cons_of_neg hx, List.filter_cons_of_neg hx, isortD_filter c l]
theorem isortD_eq (l : List D) : isortD l = l.mergeSort (PySem.W.dataLe false pd) := PySem.W.sort_unique leD_total (isortD_sorted l) fun c => isortD_filter c l
/-- what can be sorted -/
def isTupP : PyData → Bool
  | .tuple _ => true
  | _ => false
def isNonP : PyData → Bool
  | .none => true
  | _ => false
def sortOk (l : List D) : Bool :=
  decide (l.length ≤ 10000) && (pyDs l).isSome && (l.all fun a => decide ((pd a).depth ≤ 60) && l.all fun b => PySem.W.alike (pd a) (pd b)) && ((l.all fun a => isTupP (pd a)) || l.all fun a => !isTupP (pd a) && !isNonP (pd a))
structure SortOk (l : List D) : Prop where
  len : l.length ≤ 10000
  py : ∃ ps, pyDs l = some ps
  deep : ∀ d ∈ l, (pd d).depth ≤ 60
  alike : PySem.W.AllAlike (l.map pd)
  kind : So.SortB (l.map pd)
theorem sortOk_of {l : List D} (h : sortOk l = true) : SortOk l := by
  unfold sortOk at h
  simp only [Bool.and_eq_true, Bool.or_eq_true, decide_eq_true_eq, List.all_eq_true] at h
  obtain ⟨⟨⟨h1, h2⟩, h3⟩, h4⟩ := h
  refine ⟨h1, Option.isSome_iff_exists.mp h2, fun d hd => (h3 d hd).1, fun x hx y hy => ?_, ?_⟩
  · obtain ⟨a, ha, rfl⟩ := List.mem_map.mp hx
    obtain ⟨b, hb, rfl⟩ := List.mem_map.mp hy
    exact (h3 a ha).2 b hb
  · rcases h4 with h4 | h4
    · refine .inl fun d hd => ?_
      obtain ⟨a, ha, rfl⟩ := List.mem_map.mp hd
      have := h4 a ha
      cases e : pd a with
      | tuple xs => exact ⟨xs, rfl⟩
      | _ =>
        rw [e] at this
        cases this
    · refine .inr fun d hd => ?_
      obtain ⟨a, ha, rfl⟩ := List.mem_map.mp hd
      have := h4 a ha
      rw [Bool.not_eq_true', Bool.not_eq_true'] at this
      refine ⟨fun z => ?_, fun xs z => ?_⟩
      · rw [z] at this
        cases this.2
      · rw [z] at this
        cases this.1
section
variable {X : Cx} {G : Gl}
theorem pyDs_each : ∀ {l : List D} {ps : List PyData}, pyDs l = some ps → ∀ d ∈ l, pyD d = some (pd d)
  | [], _, _, d, h => by cases h
  | x :: l, ps, e, d, h => by
    have e1 : (match pyD x, pyDs l with
      | some a, some r => some (a :: r)
      | _, _ => none) = some ps := e
    cases q : pyD x with
    | none =>
      rw [q] at e1
      cases e1
    | some p =>
      rw [q] at e1
      cases q2 : pyDs l with
      | none =>
        rw [q2] at e1
        cases e1
      | some r =>
        rcases List.mem_cons.mp h with rfl | h
        · unfold pd
          rw [q]
          rfl
        · exact pyDs_each q2 d h
/-- a value of the data -/
def RD (G : Gl) (H : Hp) (u : Value) (d : D) : Prop := ∃ v, RelV v u ∧ At G H d v
theorem each_in {H : Hp} : ∀ {l : List D} {xs : List V} {us : List Value}, Ats G H l xs → Vals xs us → PySem.W.EachIs (RD G H) us l
  | _, _, _, .nil, r => by
    cases r
    exact .nil
  | _, _, _, .cons h t, r => by
    cases r with
    | cons r1 r2 => exact .cons ⟨_, r1, h⟩ (each_in t r2)
theorem each_out {H : Hp} : ∀ {l : List D} {us : List Value}, PySem.W.EachIs (RD G H) us l → ∃ xs, Vals xs us ∧ Ats G H l xs
  | _, _, .nil => ⟨[], .nil, .nil⟩
  | _, _, .cons ⟨v, r, h⟩ t => by
    obtain ⟨xs, r2, h2⟩ := each_out t
    exact ⟨v :: xs, .cons r r2, .cons h h2⟩
theorem each_imp {α β : Type} {R R' : α → β → Prop} : ∀ {as : List α} {bs : List β}, PySem.W.EachIs R as bs → (∀ a b, b ∈ bs → R a b → R' a b) → PySem.W.EachIs R' as bs
  | _, _, .nil, _ => .nil
  | _, _, .cons h t, k => .cons (k _ _ (List.mem_cons_self ..) h) (each_imp t fun a b m => k a b (List.mem_cons_of_mem _ m))
/-- sorted(x) of a list -/
def rSortD (X : Cx) (G : Gl) : List V → Hp → VK → Prop := fun xs H Q => ∃ (a : Addr) (ys : List V) (l : List D) (hd : Addr → Prop), xs = [.ref a] ∧ SqL X.K H a ys ∧ Ats G (hide hd H) l ys ∧ SortOk l ∧
  ∀ zs p, Ats G (hide hd H) (isortD l) zs → H p = none → Q (.ref p) (upd H p (.lst zs))
theorem cr_sortD (hK : G.K = X.K) (hu : X.A.units + 64 < cLine) : CallR X (.builtin "sorted") (rSortD X G) := by
  intro pins s σ H xs us Q I r h
  obtain ⟨a, ys, l, hd, rfl, hs, hy, ok, q⟩ := h
  obtain ⟨its, rv, hl, hz⟩ := I.list hs
  obtain ⟨u, rfl, ru⟩ := vals1 r
  obtain rfl : u = Value.ref a := ru
  obtain ⟨ps, hps⟩ := ok.py
  have e : PySem.W.EachIs (RD G (hide hd H)) its l := each_in hy rv
  have er : PySem.W.EachIs (fun v b => ∃ as, Reads s.heap v (pd b) as) its l := each_imp e fun u d hm ⟨v, r1, h1⟩ => Dp.reads I _ v u (dp_of hK h1 (pyDs_each hps d hm)) r1
  have hll : its.length = l.length := by rw [← rv.length, hy.length]
  have er' : PySem.W.EachIs (fun v b => ∃ as, Reads (PySem.W.sortingHeap (PySem.W.copyHeap s.heap its) (s.heap.objs.size + 1) its) v (pd b) as) its l := er.mono fun _ _ ⟨as, r⟩ => ⟨as, PyProof.Rows.Reads.keeps (fun _ _ => PySem.W.sorting_copy_old) r⟩
  have hL : its.length ≤ sizeLine := by
    rw [hll]
    exact Nat.le_trans ok.len (by decide)
  refine PySem.W.sorted_vals hl.isList (So.sortsAt (s := { s with heap := PySem.W.sortingHeap (PySem.W.copyHeap s.heap its) (s.heap.objs.size + 1) its }) (PySem.W.each_map pd er') ok.alike ok.kind fun d hd' => ?_) hL ?_
  · obtain ⟨b, hb, rfl⟩ := List.mem_map.mp hd'
    have := ok.deep b hb
    rw [Around.in1_units, Around.in1_units]
    omega
  · have eo := PySem.W.sortVals_data (R := RD G (hide hd H)) (h' := PySem.W.sortingHeap (PySem.W.copyHeap s.heap its) (s.heap.objs.size + 1) its) false e er' ok.alike
    rw [← isortD_eq] at eo
    obtain ⟨zs, z1, z2⟩ := each_out eo
    obtain ⟨c, hc⟩ := PyProof.Rows.sortedAll_at s.heap its (PySem.W.sortVals (PySem.W.dataKind (PySem.W.sortingHeap (PySem.W.copyHeap s.heap its) (s.heap.objs.size + 1) its) (l.map pd)) false its its).toArray
    have hzl : zs.length ≤ sizeLine := by
      rw [← z2.length, (isortD_perm l).length_eq, ← hll]
      exact hL
    exact ⟨.ref _, upd H (s.heap.objs.size + 1) (.lst zs), I.laid (t' := s.toks) (fun _ _ x => PyProof.Rows.sortedAll_old x) (Nat.le_succ _) ⟨hzl, _, c, z1, hc⟩, rfl, q zs _ z2 (I.hok.fresh (Nat.le_succ _))⟩
def sortedA : List D → Option D
  | [.lst l] => if sortOk l = true then some (.lst (isortD l)) else none
  | _ => none
theorem d_sortD (hK : G.K = X.K) : DoesN G (rSortD X G) sortedA := fun hd H xs l d Q R h e k => by
  cases h with
  | nil => cases e
  | @cons d1 x1 l1 r1 a1 t1 =>
    cases t1 with
    | cons _ _ => cases a1 <;> cases e
    | nil =>
      cases a1 with
      | @lst m a ys h1 h2 =>
        have e0 : (if sortOk m = true then some (D.lst (isortD m)) else none) = some d := e
        by_cases c : sortOk m = true
        · rw [if_pos c] at e0
          cases e0
          refine ⟨a, ys, m, hd, rfl, .inl (.inl (hide_sub _ _ h1)), h2, sortOk_of c, fun zs p hz hp => k _ _ (Lead.new hp) ?_⟩
          exact .lst (R.seen hp) (hz.mono (R.old hp))
        · rw [if_neg c] at e0
          cases e0
      | _ => cases e
end
end Py
set_option Elab.async false
set_option linter.all false
set_option maxRecDepth 100000
set_option maxHeartbeats 4000000
namespace Py
open PySem PySem.Spec PyProof.Rows L2
section
variable {X : Cx} {G : Gl}
/-- the keys of a dict, in order -/
def KeysAt (X : Cx) (H : Hp) (a : Addr) (ys : List V) : Prop := (∃ kvs, H a = some (.dK kvs) ∧ ys = kvs.map fun q => kV q.1) ∨ ∃ ps, H a = some (DN X.prog X.w a ps) ∧ KeysOk X.K H ps ∧ ys = ps.map fun q => V.ref q.2.1
theorem key_rel {k : Key} {u : Value} (h : keyIs k u = true) : RelV (kV k) u := by
  rcases keyIs_shape h with ⟨i, t, rfl, rfl⟩ | ⟨x, t, rfl, rfl⟩
  · exact ⟨t, rfl⟩
  · exact ⟨t, rfl⟩
theorem keys_raw {pins : List (Addr × Obj)} {σ : L2.St} {H : Hp} {s : Shared} {a : Addr} {ys : List V} (I : Inv X pins σ H s) (h : KeysAt X H a ys) :
    (a == sysModules) = false ∧ ys.length ≤ sizeLine ∧ ∃ es ep, s.heap.DictRaw a es ep ∧ es.size = ys.length ∧ ∀ i (hi : i < es.size), ∃ y, ys[i]? = some y ∧ RelV y es[i].key := by
  rcases h with ⟨kvs, e, rfl⟩ | ⟨ps, e, ok, rfl⟩
  · obtain ⟨z, hd, vs, rel, dd⟩ := dk_of I.hok e
    obtain ⟨es, ep, hr, hs, he⟩ := dd.raw
    have hl := Paired.length rel
    refine ⟨hd, by rw [List.length_map]; exact z, es, ep, hr, by rw [List.length_map, hs, hl], fun i hi => ?_⟩
    have hv : i < vs.length := by rw [← hs]; exact hi
    have h1 : vs[i]? = some (vs[i].1, vs[i].2) := List.getElem?_eq_getElem hv
    obtain ⟨h2, _⟩ := he i hi _ _ h1
    generalize vs[i].1 = k at h1 h2
    have e1 : (kvs.map (·.1))[i]? = some k := by
      rw [rel.keys, List.getElem?_map, h1]
      rfl
    rw [List.getElem?_map] at e1
    cases q : kvs[i]? with
    | none =>
      rw [q] at e1
      cases e1
    | some p =>
      rw [q] at e1
      have e2 : p.1 = k := Option.some.inj e1
      exact ⟨kV p.1, by rw [List.getElem?_map, q]; rfl, by rw [e2]; exact key_rel h2⟩
  · obtain ⟨z, hd, xs, rel, dd⟩ := dn_of I (.inl e) ok
    obtain ⟨es, ep, hr, hs, he⟩ := dd.raw
    have hl := Paired.length rel
    refine ⟨hd, by rw [List.length_map]; exact z, es, ep, hr, by rw [List.length_map, hs, hl], fun i hi => ?_⟩
    obtain ⟨y, h1, h2, _⟩ := he i hi
    have key : ∀ {ps : List (NestedKey × Addr × V)} {xs : List (NestedKey × Addr × Value)}, PRel ps xs → ∀ (i : Nat) (y : NestedKey × Addr × Value), xs[i]? = some y → ∃ p : NestedKey × Addr × V, ps[i]? = some p ∧ p.2.1 = y.2.1 := by
      intro ps xs r
      induction r with
      | nil =>
        intro i y h
        simp at h
      | @cons p0 x0 _ _ h t ih =>
        intro i y h'
        cases i with
        | zero =>
          have e : x0 = y := by simpa using h'
          subst e
          exact ⟨_, rfl, h.2.1⟩
        | succ i => exact ih i y (by simpa using h')
    obtain ⟨p, p1, p2⟩ := key rel i y h1
    exact ⟨.ref p.2.1, by rw [List.getElem?_map, p1]; rfl, by rw [h2, p2]; rfl⟩
theorem vals_at : ∀ {ys : List V} {us : List Value}, us.length = ys.length → (∀ (i : Nat) (u : Value), us[i]? = some u → ∃ y, ys[i]? = some y ∧ RelV y u) → Vals ys us
  | [], [], _, _ => .nil
  | [], _ :: _, h, _ => by simp at h
  | _ :: _, [], h, _ => by simp at h
  | y :: ys, u :: us, h, k => by
    refine .cons ?_ (vals_at (by simpa using h) fun i v e => k (i + 1) v (by simpa using e))
    obtain ⟨y', e1, e2⟩ := k 0 u rfl
    have e3 : y = y' := by simpa using e1
    rw [e3]
    exact e2
/-- sorted(d) of a dict -/
def rSortK (X : Cx) (G : Gl) : List V → Hp → VK → Prop := fun xs H Q => ∃ (a : Addr) (ys : List V) (l : List D) (hd : Addr → Prop), xs = [.ref a] ∧ KeysAt X H a ys ∧ Ats G (hide hd H) l ys ∧ SortOk l ∧
  ∀ zs p, Ats G (hide hd H) (isortD l) zs → H p = none → Q (.ref p) (upd H p (.lst zs))
theorem cr_sortK (hc : X.calm = true) (hK : G.K = X.K) (hu : X.A.units + 64 < cLine) : CallR X (.builtin "sorted") (rSortK X G) := by
  intro pins s σ H xs us Q I r h
  obtain ⟨a, ys, l, hd, rfl, hs, hy, ok, q⟩ := h
  obtain ⟨lo, hz, es, ep, hr, hes, hk⟩ := keys_raw I hs
  obtain ⟨u, rfl, ru⟩ := vals1 r
  obtain rfl : u = Value.ref a := ru
  obtain ⟨ps, hps⟩ := ok.py
  refine Calls.call_function_entry PyProof.Rows.kind_sorted PyProof.Rows.plain_sorted PyProof.Rows.entry_sorted (PyProof.Rows.args_sorted1 _) ?_
  unfold Builtin.«sorted»
  refine wpAny_bind (m := checkCount "sorted" 1 1 _) (wpAny_pure ?_)
  refine wpAny_bind (PySem.W.kdu_collect (A := X.A.in1) (KdlSrc.rawDict (d := a) (es := es) (ep := ep) lo) (I.ok.hd hc) hr (by rw [hes]; exact hz) fun h' tk acc hkk hacc => ?_)
  have I1 : Inv X pins σ H { s with heap := h', toks := tk } := I.kept hkk
  have rv : Vals ys acc.toList := vals_at (by rw [Array.length_toList, hacc.1, hes]) fun i v e => by
    obtain ⟨hi, e2⟩ := hacc.2 i v (by rw [← Array.getElem?_toList]; exact e)
    obtain ⟨y, y1, y2⟩ := hk i hi
    exact ⟨y, y1, by rw [e2]; exact y2⟩
  have e : PySem.W.EachIs (RD G (hide hd H)) acc.toList l := each_in hy rv
  have er : PySem.W.EachIs (fun v b => ∃ as, Reads h' v (pd b) as) acc.toList l := each_imp e fun u d hm ⟨v, r1, h1⟩ => Dp.reads I1 _ v u (dp_of hK h1 (pyDs_each hps d hm)) r1
  have hll : acc.toList.length = l.length := by rw [← rv.length, hy.length]
  have hL : acc.toList.length ≤ sizeLine := by
    rw [hll]
    exact Nat.le_trans ok.len (by decide)
  refine wpAny_bind (wpAny_newList ?_ hL)
  have hoL : (h'.push (seqObj "list" acc.toList.toArray 0)).get? h'.objs.size = some (seqObj "list" acc.toList.toArray 0) := Heap.get?_push_size _ rfl
  show wpAny _ _ _ _ _ { s with heap := h'.push (seqObj "list" acc.toList.toArray 0), toks := tk }
  have old : ∀ b o, h'.get? b = some o → (PySem.W.sortingHeap (h'.push (seqObj "list" acc.toList.toArray 0)) h'.objs.size acc.toList).get? b = some o := fun b o x =>
    PySem.W.sortingHeap_old (Nat.ne_of_lt (Heap.lt_size x)) (Heap.get?_push_of_some _ x)
  have er' : PySem.W.EachIs (fun v b => ∃ as, Reads (PySem.W.sortingHeap (h'.push (seqObj "list" acc.toList.toArray 0)) h'.objs.size acc.toList) v (pd b) as) acc.toList l := er.mono fun _ _ ⟨as, r⟩ => ⟨as, PyProof.Rows.Reads.keeps old r⟩
  refine wpAny_bind (wpAny_holding (wpAny_call_entry PyProof.Rows.slot_list_sort ⟨_, hoL, rfl⟩ PyProof.Rows.entry_list_sort
    (PySem.W.list_sort_vals (κ := PySem.W.dataKind (PySem.W.sortingHeap (h'.push (seqObj "list" acc.toList.toArray 0)) h'.objs.size acc.toList) (l.map pd)) (s := { s with heap := h'.push (seqObj "list" acc.toList.toArray 0), toks := tk }) hoL
      (So.sortsAt (s := { s with heap := PySem.W.sortingHeap (h'.push (seqObj "list" acc.toList.toArray 0)) h'.objs.size acc.toList, toks := tk }) (PySem.W.each_map pd er') ok.alike ok.kind fun d hd' => ?_) hL ⟨_, rfl, ?_⟩)
    (PyProof.Rows.args_list_sort _)))
  · obtain ⟨b, hb, rfl⟩ := List.mem_map.mp hd'
    have := ok.deep b hb
    rw [Around.in1_units, Around.in1_units]
    omega
  · have eo := PySem.W.sortVals_data (R := RD G (hide hd H)) (h' := PySem.W.sortingHeap (h'.push (seqObj "list" acc.toList.toArray 0)) h'.objs.size acc.toList) false e er' ok.alike
    rw [← isortD_eq] at eo
    obtain ⟨zs, z1, z2⟩ := each_out eo
    obtain ⟨c, hcc⟩ := PyProof.Rows.sortedHeap_at (vs := acc.toList) (out := (PySem.W.sortVals (PySem.W.dataKind (PySem.W.sortingHeap (h'.push (seqObj "list" acc.toList.toArray 0)) h'.objs.size acc.toList) (l.map pd)) false acc.toList acc.toList).toArray) hoL
    have hzl : zs.length ≤ sizeLine := by
      rw [← z2.length, (isortD_perm l).length_eq, ← hll]
      exact hL
    refine wpAny_pure ⟨_, rfl, .ref h'.objs.size, upd H h'.objs.size (.lst zs), I1.laid (t' := tk) (fun b u e => ?_) (Nat.le_refl _) ⟨hzl, _, c, z1, hcc⟩, rfl, q zs _ z2 (I1.hok.fresh (Nat.le_refl _))⟩
    have hb : b < h'.objs.size := Heap.lt_size e
    rw [PyProof.Rows.sortedHeap_old (Nat.ne_of_lt hb) (by rw [size_push']; exact Nat.lt_succ_of_lt hb)]
    exact Heap.get?_push_of_some _ e
def keysD : D → Option (List D)
  | .dic ks _ => some ks
  | .dicN ks _ => some ks
  | _ => none
def sortedK : List D → Option D
  | [d] => (keysD d).bind fun l => if sortOk l = true then some (.lst (isortD l)) else none
  | _ => none
theorem d_sortK (hK : G.K = X.K) (hP : G.P = X.prog) (hw : G.w = X.w) : DoesN G (rSortK X G) sortedK := fun hd H xs l d Q R h e k => by
  cases h with
  | nil => cases e
  | @cons d1 x1 l1 r1 a1 t1 =>
    cases t1 with
    | cons _ _ => cases e
    | nil =>
      have e0 : (keysD d1).bind (fun l => if sortOk l = true then some (D.lst (isortD l)) else none) = some d := e
      have fin : ∀ (a : Addr) (ys : List V) (m : List D), x1 = .ref a → KeysAt X H a ys → Ats G (hide hd H) m ys → (if sortOk m = true then some (D.lst (isortD m)) else none) = some d → rSortK X G [x1] H Q := by
        intro a ys m ex hk hm e1
        by_cases c : sortOk m = true
        · rw [if_pos c] at e1
          cases e1
          exact ⟨a, ys, m, hd, by rw [ex], hk, hm, sortOk_of c, fun zs p hz hp => k _ _ (Lead.new hp) (.lst (R.seen hp) (hz.mono (R.old hp)))⟩
        · rw [if_neg c] at e1
          cases e1
      cases a1 with
      | dic h1 h2 h3 => exact fin _ _ _ rfl (.inl ⟨_, hide_sub _ _ h1, rfl⟩) h2 e0
      | dicN h1 h2 h3 h4 => exact fin _ _ _ rfl (.inr ⟨_, by rw [← hP, ← hw]; exact hide_sub _ _ h1, keys_ok hK h2 h3, rfl⟩) h3 e0
      | _ => cases e0
/-- sorted of lists, dicts -/
def sortedX (l : List D) : Option D := (sortedA l).or (sortedK l)
end
end Py
set_option Elab.async false
set_option linter.all false
set_option maxRecDepth 100000
set_option maxHeartbeats 4000000
/-! ### max(l, default=d) of a list of ints -/
namespace Py.Mx
open PySem PySem.Spec PyProof.Rows L2
section
variable {prog : Program} {w : World} {A : Around} {K : Result → Shared → Prop} {it : Addr} {fp wr : List Addr} {n : Nat} {P : Nat → Value → Prop} {St : Nat → Heap → Prop} {df : Value}
abbrev kwd (df : Value) : List (Str × Value) := [(Str.ofString "default", df)]
theorem nm : (toString "max" ++ toString ".loop" : String) = "max.loop" := by decide
theorem loop (V : Walks prog w A.in1 it fp wr n P St) (gt : Nat → Nat → Bool) (cm : CmpOf prog w A.in1 .Gt P gt) (best : Addr) (nf : best ∉ fp) :
    ∀ (k j : Nat) (s : Shared) (cur : Value) (c : Nat), n - (j + 1) = k → j + 1 ≤ n → St (j + 1) s.heap → P (argBest gt j) cur → s.heap.get? best = some { cls := .type "list", dict := none, data := .seq #[cur, cur] c, slots := #[] } →
    (∀ v h' tk, P (argBest gt (n - 1)) v → (∀ b o, b ∉ wr → b ≠ best → s.heap.get? b = some o → h'.get? b = some o) → K (.ok (.ret v)) { s with heap := h', toks := tk }) →
    codeAny (model prog w) A (.builtin "max.loop" ⟨[.ref it, .none, .ref best], kwd df⟩) K s := by
  have nw : best ∉ wr := fun z => nf (V.sub _ z)
  intro k
  induction k with
  | zero =>
    intro j s cur c hk hj st pb hb fin
    have last : j + 1 = n := by omega
    refine codeAny_builtin PySem.F.entry_max_loop ?_
    rw [Around.under_plainId PySem.F.plain_max_loop _]
    show wpAny _ A.in1 (seqItems? (.ref best) >>= _) _ _ s
    refine wpAny_bind (wpAny_seqItems hb rfl ?_)
    show wpAny _ A.in1 (tryCatch (pyNext (.ref it)) _ >>= _) _ _ s
    refine wpAny_bind (wpAny_tryCatch (V.done s _ _ (last ▸ st) fun h1 t1 keep => ?_))
    have hb1 := keep best _ nw hb
    show wpAny _ A.in1 (updateSeq best (fun _ => #[]) >>= _) _ _ _
    refine wpAny_bind (wpAny_updateSeq hb1 rfl (wpAny_bind (wpAny_letGo (wpAny_pure ?_))))
    exact fin cur _ t1 (by rw [← last]; exact pb) fun b o x y e => (Heap.get?_update_other _ _ (Ne.symm y)).trans (keep b o x e)
  | succ k ih =>
    intro j s cur c hk hj st pb hb fin
    have more : j + 1 < n := by omega
    refine codeAny_builtin PySem.F.entry_max_loop ?_
    rw [Around.under_plainId PySem.F.plain_max_loop _]
    show wpAny _ A.in1 (seqItems? (.ref best) >>= _) _ _ s
    refine wpAny_bind (wpAny_seqItems hb rfl ?_)
    show wpAny _ A.in1 (tryCatch (pyNext (.ref it)) _ >>= _) _ _ s
    refine wpAny_bind (wpAny_tryCatch (V.item (j + 1) s _ _ more st fun v h1 t1 pv st1 keep => ?_))
    have hb1 := keep best _ nw hb
    show wpAny _ A.in1 (tryCatch (holding [v, v] (richCompare .Gt v cur >>= _)) _ >>= _) _ _ _
    refine wpAny_bind (wpAny_tryCatch (wpAny_holding (wpAny_bind (cm (j + 1) (argBest gt j) v cur _ _ _ pv pb (wpAny_bind (wpAny_holding (wpAny_truthy_bool (wpAny_bind (wpAny_letGo (wpAny_pure ?_)))))))))) 
    cases q : gt (j + 1) (argBest gt j) with
    | true =>
      simp only [if_true]
      refine wpAny_bind (wpAny_updateSeq hb1 rfl (wpAny_bind (wpAny_letGo ?_)))
      rw [nm]
      refine wpAny_pure ⟨plainId_quiet PySem.F.plain_max_loop _, ih (j + 1) _ v _ (by omega) more (V.frame _ _ _ st1 fun b hm o e => ?_) (by simp only [argBest, q, if_true]; exact pv) (Heap.get?_update_self _ hb1 rfl) fun v2 h2 t2 p2 k2 => ?_⟩
      · exact (Heap.get?_update_other _ _ (fun z : best = b => nf (by rw [z]; exact hm))).trans e
      · exact fin v2 h2 t2 p2 fun b o x y e => k2 b o x y ((Heap.get?_update_other _ _ (Ne.symm y)).trans (keep b o x e))
    | false =>
      simp only [Bool.false_eq_true, if_false]
      refine wpAny_bind (wpAny_letGo ?_)
      rw [nm]
      exact wpAny_pure ⟨plainId_quiet PySem.F.plain_max_loop _, ih (j + 1) _ cur c (by omega) more st1 (by simp only [argBest, q, Bool.false_eq_true, if_false]; exact pb) hb1 fun v2 h2 t2 p2 k2 => fin v2 h2 t2 p2 fun b o x y e => k2 b o x y (keep b o x e)⟩
theorem loop0 (V : Walks prog w A.in1 it fp wr n P St) (gt : Nat → Nat → Bool) (cm : CmpOf prog w A.in1 .Gt P gt) (best : Addr) (nf : best ∉ fp) {s : Shared} {c : Nat} (st : St 0 s.heap)
    (hb : s.heap.get? best = some { cls := .type "list", dict := none, data := .seq #[] c, slots := #[] })
    (fin : ∀ v h' tk, (if n = 0 then v = df else P (argBest gt (n - 1)) v) → (∀ b o, b ∉ wr → b ≠ best → s.heap.get? b = some o → h'.get? b = some o) → K (.ok (.ret v)) { s with heap := h', toks := tk }) :
    codeAny (model prog w) A (.builtin "max.loop" ⟨[.ref it, .none, .ref best], kwd df⟩) K s := by
  have nw : best ∉ wr := fun z => nf (V.sub _ z)
  refine codeAny_builtin PySem.F.entry_max_loop ?_
  rw [Around.under_plainId PySem.F.plain_max_loop _]
  show wpAny _ A.in1 (seqItems? (.ref best) >>= _) _ _ s
  refine wpAny_bind (wpAny_seqItems hb rfl ?_)
  show wpAny _ A.in1 (tryCatch (pyNext (.ref it)) _ >>= _) _ _ s
  by_cases hn : n = 0
  · refine wpAny_bind (wpAny_tryCatch (V.done s _ _ (hn ▸ st) fun h1 t1 keep => ?_))
    show wpAny _ A.in1 (rule _ >>= _) _ _ _
    refine wpAny_bind (wpAny_rule (wpAny_pure ?_))
    exact fin df _ t1 (by rw [if_pos hn]) fun b o x y e => keep b o x e
  · simp only [hn, if_false] at fin
    refine wpAny_bind (wpAny_tryCatch (V.item 0 s _ _ (by omega) st fun v h1 t1 pv st1 keep => ?_))
    have hb1 := keep best _ nw hb
    show wpAny _ A.in1 (updateSeq best (fun _ => #[v, v]) >>= _) _ _ _
    refine wpAny_bind (wpAny_updateSeq hb1 rfl ?_)
    rw [nm]
    refine wpAny_pure ⟨plainId_quiet PySem.F.plain_max_loop _, loop V gt cm best nf _ 0 _ v _ rfl (by omega) (V.frame _ _ _ st1 fun b hm o e => ?_) pv (Heap.get?_update_self _ hb1 rfl) fun v2 h2 t2 p2 k2 => ?_⟩
    · exact (Heap.get?_update_other _ _ (fun z : best = b => nf (by rw [z]; exact hm))).trans e
    · exact fin v2 h2 t2 p2 fun b o x y e => k2 b o x y ((Heap.get?_update_other _ _ (Ne.symm y)).trans (keep b o x e))
end
theorem args (a d : Value) : argsOk "max" ⟨[a], kwd d⟩ := by unfold argsOk; kernel_rfl
section
variable {prog : Program} {w : World} {A : Around} {E : Value → Shared → Prop} {s : Shared} {l : Addr} {its : List Value} {ns : List Int} {Q : Value → Shared → Prop} {df : Value}
theorem max_dflt (hh : A.handled = none) (hl : s.heap.IsList l its.toArray) (hi : IntsAre its ns)
    (h : ∀ h' tk v, (∀ b o, s.heap.get? b = some o → h'.get? b = some o) → (ns = [] ∧ v = df ∨ ∃ M t, v = .int M t ∧ M ∈ ns ∧ ∀ a, a ∈ ns → a ≤ M) → Q v { s with heap := h', toks := tk }) : wpAny (model prog w) A (call (.builtin "max") [.ref l] (kwd df)) Q E s := by
  obtain ⟨xs, e⟩ := hi.allInts.items
  have hn : numsOf (intItems xs).toList = ns := by rw [← e]; exact hi.numsOf
  rw [nums_intItems] at hn
  rw [e] at hl
  refine wpAny_call (codeAny_call_builtin PySem.F.plain_max PySem.F.entry_max ?_)
  have body : wpAny (model prog w) A.in1 (Builtin.«max» ⟨[.ref l], kwd df⟩) (fun fin s' => match fin with
      | .done f => (match (Except.ok f : Result) with | .ok (.ret v) => Q v s' | .ok _ => False | .error e => E e s')
      | .again c' => c'.quiet = true ∧ codeAny (model prog w) A c' (fun r s' => match r with | .ok (.ret v) => Q v s' | .ok _ => False | .error e => E e s') s') E s := by
    show wpAny _ A.in1 (Builtin.Builtins.bindParams "max" ["key", "default"] 0 ⟨[], kwd df⟩ >>= _) _ _ s
    refine wpAny_bind (wpAny_of_eq (show Builtin.Builtins.bindParams "max" ["key", "default"] 0 ⟨[], kwd df⟩ = pure [none, some df] from rfl) ?_)
    refine wpAny_bind (wpAny_pure (wpAny_bind (iter_intList hl fun s₂ e2 st hfp hlI => ?_)))
    subst e2
    refine wpAny_bind (wpAny_newObj_type ?_)
    rw [nm]
    have nf : (s.heap.push { cls := .type "list_iterator", data := .fields #[.ref l, .int 0 0] }).objs.size ∉ [s.heap.objs.size, l] := fun z => Nat.lt_irrefl _ (hfp _ z)
    have V := Walks.list (prog := prog) (w := w) (A := A.in1) hh s.heap.objs.size l hlI (intItems xs)
    refine wpAny_pure ⟨plainId_quiet PySem.F.plain_max_loop _, loop0 V (fun i j => decide (numAt xs i > numAt xs j)) (CmpOf.ints_gt (numAt xs) (fun _ _ => intItems_at)) _ nf (V.frame _ _ _ st fun b _ o e => Heap.get?_push_of_some _ e) (Heap.get?_push_size _ rfl) fun v h' tk hP hk => ?_⟩
    refine h h' tk v (old_kept fun b o hb e => hk b o hb (Nat.ne_of_lt (Heap.lt_size e)) (Heap.get?_push_of_some _ e)) ?_
    by_cases q : (intItems xs).size = 0
    · rw [if_pos q] at hP
      have : xs.size = 0 := by simpa [intItems] using q
      refine .inl ⟨?_, hP⟩
      rw [← hn]
      simp [Array.eq_empty_of_size_eq_zero this]
    · rw [if_neg q] at hP
      obtain ⟨t, rfl⟩ := intItems_at hP
      have hsz : (intItems xs).size = xs.size := by simp [intItems]
      rw [hsz] at q hP ⊢
      obtain ⟨h1, h2⟩ := argBest_gt (numAt xs) (xs.size - 1)
      subst hn
      refine .inr ⟨_, t, rfl, ?_, fun a ha => ?_⟩
      · rw [numAt_eq]
        exact PySem.getD_mem (by rw [List.length_map, Array.length_toList]; omega)
      · obtain ⟨j, hj, rfl⟩ := mem_getD ha
        rw [List.length_map, Array.length_toList] at hj
        rw [← numAt_eq]
        exact h2 j (by omega)
  simp only [checkBuiltinCall, PySem.F.kind_max]
  cases hsig : Manifest.signature? "max" with
  | none => exact wpAny_pure body
  | some sig =>
    have ha' : Bind.checkArgs "max" sig ⟨[.ref l], kwd df⟩ = pure () := by simpa only [argsOk, hsig] using args (.ref l) df
    simp only [ha']
    exact wpAny_pure body
end
end Py.Mx
set_option Elab.async false
set_option linter.all false
set_option maxRecDepth 100000
set_option maxHeartbeats 4000000
namespace Py
open PySem PySem.Spec PyProof.Rows L2
section
variable {X : Cx} {G : Gl} {W : WX}
/-! ### greatest, least of a list of ints -/
def maxI : List Int → Option Int
  | [] => none
  | x :: l => match maxI l with
    | some m => some (if x < m then m else x)
    | none => some x
def minI : List Int → Option Int
  | [] => none
  | x :: l => match minI l with
    | some m => some (if m < x then m else x)
    | none => some x
theorem maxI_one : ∀ {l : List Int} {m : Int}, m ∈ l → (∀ y ∈ l, y ≤ m) → maxI l = some m
  | [], _, h, _ => by cases h
  | x :: l, m, h, k => by
    unfold maxI
    cases l with
    | nil =>
      have : m = x := by simpa using h
      rw [this]
      rfl
    | cons y l =>
      have hx := k x (List.mem_cons_self ..)
      by_cases hm : m ∈ y :: l
      · rw [maxI_one hm fun z hz => k z (List.mem_cons_of_mem _ hz)]
        show some (if x < m then m else x) = some m
        by_cases c : x < m
        · rw [if_pos c]
        · rw [if_neg c]
          congr 1
          omega
      · have e : m = x := (List.mem_cons.mp h).resolve_right hm
        have : ∃ m', m' ∈ y :: l ∧ ∀ z ∈ y :: l, z ≤ m' := by
          clear hm h hx e k
          induction l generalizing y with
          | nil => exact ⟨y, List.mem_cons_self .., fun z hz => by rw [List.mem_singleton.mp hz]; exact Int.le_refl _⟩
          | cons u l ih =>
            obtain ⟨m', h1, h2⟩ := ih u
            by_cases c : y ≤ m'
            · exact ⟨m', List.mem_cons_of_mem _ h1, fun z hz => by
                rcases List.mem_cons.mp hz with rfl | hz
                · exact c
                · exact h2 z hz⟩
            · exact ⟨y, List.mem_cons_self .., fun z hz => by
                rcases List.mem_cons.mp hz with rfl | hz
                · exact Int.le_refl _
                · have := h2 z hz
                  omega⟩
        obtain ⟨m', h1, h2⟩ := this
        rw [maxI_one h1 h2]
        show some (if x < m' then m' else x) = some m
        have := k m' (List.mem_cons_of_mem _ h1)
        rw [if_neg (by omega), e]
theorem minI_one : ∀ {l : List Int} {m : Int}, m ∈ l → (∀ y ∈ l, m ≤ y) → minI l = some m
  | [], _, h, _ => by cases h
  | x :: l, m, h, k => by
    unfold minI
    cases l with
    | nil =>
      have : m = x := by simpa using h
      rw [this]
      rfl
    | cons y l =>
      have hx := k x (List.mem_cons_self ..)
      by_cases hm : m ∈ y :: l
      · rw [minI_one hm fun z hz => k z (List.mem_cons_of_mem _ hz)]
        show some (if m < x then m else x) = some m
        by_cases c : m < x
        · rw [if_pos c]
        · rw [if_neg c]
          congr 1
          omega
      · have e : m = x := (List.mem_cons.mp h).resolve_right hm
        have : ∃ m', m' ∈ y :: l ∧ ∀ z ∈ y :: l, m' ≤ z := by
          clear hm h hx e k
          induction l generalizing y with
          | nil => exact ⟨y, List.mem_cons_self .., fun z hz => by rw [List.mem_singleton.mp hz]; exact Int.le_refl _⟩
          | cons u l ih =>
            obtain ⟨m', h1, h2⟩ := ih u
            by_cases c : m' ≤ y
            · exact ⟨m', List.mem_cons_of_mem _ h1, fun z hz => by
                rcases List.mem_cons.mp hz with rfl | hz
                · exact c
                · exact h2 z hz⟩
            · exact ⟨y, List.mem_cons_self .., fun z hz => by
                rcases List.mem_cons.mp hz with rfl | hz
                · exact Int.le_refl _
                · have := h2 z hz
                  omega⟩
        obtain ⟨m', h1, h2⟩ := this
        rw [minI_one h1 h2]
        show some (if m' < x then m' else x) = some m
        have := k m' (List.mem_cons_of_mem _ h1)
        rw [if_neg (by omega), e]
def intsOf : D → Option (List Int)
  | .lst l => intsD l
  | _ => none
def maxL : List D → Option D
  | [d] => (intsOf d).bind fun ns => (maxI ns).map D.int
  | _ => none
def minL : List D → Option D
  | [d] => (intsOf d).bind fun ns => (minI ns).map D.int
  | _ => none
theorem ints_lst {H : Hp} {hd : Addr → Prop} {d : D} {v : V} {ns : List Int} (h : At G (hide hd H) d v) (e : intsOf d = some ns) : ∃ a, v = .ref a ∧ SqL X.K H a (ns.map V.int) := by
  cases h with
  | @lst l a xs h1 h2 =>
    have e1 : intsD l = some ns := e
    exact ⟨a, rfl, .inl (.inl (by rw [← intsD_ats e1 h2]; exact hide_sub _ _ h1))⟩
  | _ => cases e
theorem d_maxL : DoesN G (rMax X.K) maxL := fun hd H xs l d Q R h e k => by
  cases h with
  | nil => cases e
  | @cons d1 x1 l1 r1 a1 t1 =>
    cases t1 with
    | cons _ _ => cases e
    | nil =>
      obtain ⟨ns, e1, e2⟩ := Option.bind_eq_some_iff.mp (show (intsOf d1).bind (fun ns => (maxI ns).map D.int) = some d from e)
      obtain ⟨m0, e3, rfl⟩ := Option.map_eq_some_iff.mp e2
      obtain ⟨a, rfl, hs⟩ := ints_lst (X := X) a1 e1
      refine ⟨a, ns, rfl, hs, ?_, fun m hm hk => ?_⟩
      · cases ns with
        | nil => cases e3
        | cons _ _ => exact Nat.succ_pos _
      · rw [maxI_one hm hk] at e3
        cases e3
        exact k _ H (Lead.refl H) .int
theorem d_minL : DoesN G (rMin X.K) minL := fun hd H xs l d Q R h e k => by
  cases h with
  | nil => cases e
  | @cons d1 x1 l1 r1 a1 t1 =>
    cases t1 with
    | cons _ _ => cases e
    | nil =>
      obtain ⟨ns, e1, e2⟩ := Option.bind_eq_some_iff.mp (show (intsOf d1).bind (fun ns => (minI ns).map D.int) = some d from e)
      obtain ⟨m0, e3, rfl⟩ := Option.map_eq_some_iff.mp e2
      obtain ⟨a, rfl, hs⟩ := ints_lst (X := X) a1 e1
      refine ⟨a, ns, rfl, hs, ?_, fun m hm hk => ?_⟩
      · cases ns with
        | nil => cases e3
        | cons _ _ => exact Nat.succ_pos _
      · rw [minI_one hm hk] at e3
        cases e3
        exact k _ H (Lead.refl H) .int
/-- max(l, default=d) -/
def rMaxD (K : PySem.W.Frag) : List V → List V → Hp → VK → Prop := fun vs zs H Q => ∃ (a : Addr) (ns : List Int) (z : V), vs = [V.ref a] ∧ zs = [z] ∧ SqL K H a (ns.map V.int) ∧ (ns = [] → Q z H) ∧ ∀ m, maxI ns = some m → Q (.int m) H
theorem cr_maxD (hc : X.calm = true) : CallRK X (.builtin "max") ["default"] (rMaxD X.K) := by
  intro pins s σ H xs zs us ws Q I r rz h
  obtain ⟨a, ns, z, rfl, rfl, hs, q0, q1⟩ := h
  obtain ⟨its, rv, hl, _⟩ := I.list hs
  rw [Vals.ref1 r]
  obtain ⟨u, rfl, ru⟩ := vals1 rz
  refine Mx.max_dflt (df := u) (I.ok.hd hc) hl.isList rv.ints fun h' tk v hk hv => ?_
  rcases hv with ⟨e, rfl⟩ | ⟨M, t, rfl, h1, h2⟩
  · exact ⟨z, H, I.kept hk, ru, q0 e⟩
  · exact ⟨.int M, H, I.kept hk, ⟨_, rfl⟩, q1 M (maxI_one h1 h2)⟩
def maxDf (l z : D) : Option D := (intsOf l).map fun ns => match maxI ns with
  | some m => .int m
  | none => z
def gMaxD (f g : Env → T D) : Env → T D := gOp maxDf f g
theorem ee_maxD {p pos kp : Pos} {e z : Expr} {f g : Env → T D} (hc : X.calm = true) (hg : L2.Gl X "max") (hm : X.mg "max" = none) (he : EE X G W e f) (hk : PK X [⟨some "default", z, kp⟩] (tCons (tEE G W g) (tEA G W gNil)))
    (he' : backTo pos (starEach [e] X.env) = (false, eval e X.env) :: backTo pos (starEach [] X.env) := by rfl) (hpl : (backTo pos (starEach [e] X.env)).any (·.1) = false := by rfl) (hs : starEach [e] X.env = (false, eval e X.env) :: starEach [] X.env := by rfl)
    (hall : (backToKw pos (keywordEach [⟨some "default", z, kp⟩] X.env)).all (·.1.isSome) = true := by rfl) (hnone : (backToKw pos (keywordEach [⟨some "default", z, kp⟩] X.env)).any (·.1.isNone) = false := by rfl) (hks : (backToKw pos (keywordEach [⟨some "default", z, kp⟩] X.env)).filterMap (·.1) = (["default"] : List Str) := by rfl) :
    EE X G W (.Call (.Name "max" p) [e] [⟨some "default", z, kp⟩] pos) (gMaxD f g) := by
  refine PE_imp (pe_callBK (cr_maxD hc) hg hm (by decide +kernel) (pa_cons he pa_nil hs) hk (by decide) (by decide) he' hpl hall hnone hks) fun σ H Q q => ?_
  obtain ⟨ρ, hd, R, q⟩ := q
  refine ⟨ρ, hd, R, T.wp_imp (wp_then q) fun a q1 x H1 e1 h1 => ?_⟩
  refine ⟨ρ, hd, R.lead e1, T.wp_mono (wp_then q1) (fun b q2 y H2 e2 h2 => ?_) fun c l z => xE.lead z e1⟩
  refine ⟨ρ, hd, R.lead (e1.trans e2), fun l H3 e3 h3 => ?_⟩
  cases h3
  obtain ⟨d, e4, q3⟩ := wp_opt q2
  obtain ⟨ns, e5, rfl⟩ := Option.map_eq_some_iff.mp (show (intsOf a).map (fun ns => match maxI ns with
    | some m => D.int m
    | none => b) = some d from e4)
  have l3 : Lead G H H3 := (e1.trans e2).trans e3
  obtain ⟨p, rfl, hs'⟩ := ints_lst (X := X) (h1.mono ((e2.trans e3).hide R.m)) e5
  refine ⟨p, ns, y, rfl, rfl, hs', fun en => ?_, fun m em => ?_⟩
  · rw [en] at q3
    exact q3 y H3 l3 (h2.mono (e3.hide R.m))
  · rw [em] at q3
    exact q3 _ H3 l3 .int
end
end Py
set_option Elab.async false
set_option linter.all false
set_option maxRecDepth 100000
set_option maxHeartbeats 4000000
namespace Py
open PySem PySem.Spec PyProof.Rows L2
section
variable {X : Cx} {G : Gl} {W : WX} {tg : Expr}
/-! ### reversed(range(n)) -/
def revD (n : Nat) : List D := (List.range n).map fun i : Nat => D.int ((n : Int) - 1 - (i : Int))
theorem itc_rep {hd : Addr → Prop} {H : Hp} (n : Nat) : ItRep G hd (Itc (0 + (n : Int) - 1) (-1) n) (revD n) H := fun i hd' H1 e g => by
  have hl : (revD n).length = n := by unfold revD; rw [List.length_map, List.length_range]
  refine ⟨fun hi => ?_, fun hi => by rw [hl] at hi; exact hi⟩
  rw [hl] at hi
  refine ⟨hi, fun x H' q => ?_⟩
  obtain ⟨e2, e3⟩ := q
  rw [e2, e3]
  refine ⟨Lead.refl _, .int ((n : Int) - 1 - (i : Int)), ?_, ?_⟩
  · unfold revD
    rw [List.getElem?_map, List.getElem?_range hi]
    rfl
  · have : (0 : Int) + (n : Int) - 1 + ((i : Nat) : Int) * (-1) = (n : Int) - 1 - (i : Int) := by omega
    rw [this]
    exact .int
def rev1 : List D → T (List D)
  | [.int j] => if -100000 ≤ j ∧ j ≤ 100000 then .ret (revD j.toNat) else .bad
  | _ => .bad
theorem ei_revR1 {a : Expr} {p p2 pos pos2 : Pos} {f : Env → T D} (hg : L2.Gl X "reversed") (hm : X.mg "reversed" = none) (hg2 : L2.Gl X "range") (hm2 : X.mg "range" = none) (ha : EE X G W a f) (hs : starEach [.Call (.Name "range" p2) [a] [] pos2] X.env = (false, eval (.Call (.Name "range" p2) [a] [] pos2) X.env) :: starEach [] X.env := by rfl) (na : starEach [a] X.env = (false, eval a X.env) :: starEach [] X.env := by rfl) :
    EI X G W tg (.Call (.Name "reversed" p) [.Call (.Name "range" p2) [a] [] pos2] [] pos) (fun ρ => f ρ >>= fun d => rev1 [d]) := by
  refine PI_imp (pi_revR hg hm (prg_1 hg2 hm2 ha na) hs) fun σ H R q => ?_
  obtain ⟨ρ, hd, Rp, q⟩ := q
  refine ⟨ρ, hd, Rp, T.wp_imp (wp_then q) fun d q1 v H1 e h => ?_⟩
  cases d with
  | int j =>
    have q1 : (if -100000 ≤ j ∧ j ≤ 100000 then (T.ret (revD j.toNat) : T (List D)) else .bad).wp _ _ := q1
    obtain ⟨b, q2⟩ := wp_if q1
    cases h
    refine ⟨j, rfl, by omega, by omega, by omega, by omega, q2 _ _ e ?_⟩
    rw [Int.sub_zero]
    exact itc_rep j.toNat
  | _ => exact q1.elim
/-! ### {k: v}, new, k a tuple -/
theorem pe_disp1N {ke ve : Expr} {pos : Pos} {tk tv : TE} (hu : X.A.units + 64 < cLine) (hk : PE X ke tk) (hv : PE X ve tv) :
    PE X (.Dict [some ke] [ve] pos) (fun σ H Q => ∀ p, H p = none → tk σ (upd H p (.dK [])) fun x H1 => tv σ H1 fun y H2 => H2 p = some (.dK []) ∧ ∃ b k, x = .ref b ∧ NKat X.K H2 k (.ref b) ∧ k.depth ≤ 8 ∧ Q (.ref p) (upd H2 p (DN X.prog X.w p [(k, b, y)]))) := by
  refine ⟨fun pins s σ H Q I q => ?_⟩
  have hn := I.hok.fresh (Nat.le_refl s.heap.objs.size)
  have I1 := I.laid (a := s.heap.objs.size) (o := .dK []) (h' := s.heap.push { cls := .type "dict", data := .dict #[] }) (t' := s.toks) (fun _ _ q => Heap.get?_push_of_some _ q) (Nat.le_refl _) (dk_empty s.heap I.big)
  have rm : (nestedKind X.prog X.w).room X.A := by
    show X.A.units + 8 < cLine
    omega
  have nz : pairTrees [some ke] [ve] X.env pos ≠ [] := fun z => nomatch z
  rw [arm_eval_Dict, zip_pairTrees [some ke] [ve] X.env pos (by rfl) (by rfl), dictDisplay_pairs (pairTrees [some ke] [ve] X.env pos) nz (by show (1 : Nat) < 17; omega)]
  refine wpAny_bind (wpAny_standAt (wpAny_bind (wpAny_subDictH (knd := nestedKind X.prog X.w) (Q := fun dd s' => wpAny (model X.prog X.w) X.A (pure (Value.ref dd)) _ X.xe s') rm (by show (1 : Nat) ≤ 15; omega) ?_)))
  refine pairTrees_cons_walk (thn (hk.run pins _ σ _ _ I1 (q _ hn)) fun u s1 ⟨x, H1, I1', rx, q1⟩ => thn (hv.run pins s1 σ H1 _ I1' q1) fun u2 s2 ⟨y, H2, I2, ry, e, b, k, ex, na, h8, q2⟩ => pairTrees_nil_walk ?_)
  subst ex
  obtain rfl : u = Value.ref b := rx
  obtain ⟨z, hd, xs, rel, dd⟩ := dn_of (ps := []) I2 (.inr ⟨rfl, e⟩) (fun _ z => nomatch z)
  cases rel
  refine ⟨[(k, b, u2)], ⟨rfl, rfl, ⟨na.is I2 rfl, h8⟩, trivial⟩, dd, fun h' tk dk sb => wpAny_pure ?_⟩
  have dk' : h'.DictOfH (nestedKind X.prog X.w) s.heap.objs.size [(k, b, u2)] := dk
  obtain ⟨o, es, ep, d1, d2, d3, d4, _, d6⟩ := dk'
  refine ⟨.ref s.heap.objs.size, _, d_write (t' := tk) I2 (by rw [e]; exact True.intro) sb ⟨o, d1⟩ (ob := DN X.prog X.w s.heap.objs.size [(k, b, y)]) ⟨⟨(by show (1 : Nat) ≤ sizeLine; decide), hd, [(k, b, u2)], .cons ⟨rfl, rfl, ry⟩ .nil, o, es, ep, d1, d2, d3, d4, d6⟩, ⟨o, d1⟩, fun h1 h2' ⟨z1, z2, xs', z3, o', es', ep', z4, z5⟩ kk => ⟨z1, z2, xs', z3, o', es', ep', kk _ z4, z5⟩⟩, rfl, q2⟩
def oDic1 (f g : Env → T D) : Env → T Ow := fun ρ => f ρ >>= fun k => g ρ >>= fun v => match keyT k with
  | some _ => .ret (.dicN [k] [v])
  | none => .bad
theorem ne_dic1 (hK : G.K = X.K) (hP : G.P = X.prog) (hw : G.w = X.w) (hu : X.A.units + 64 < cLine) {ke ve : Expr} {pos : Pos} {f g : Env → T D} (hk : EE X G W ke f) (hv : EE X G W ve g) : NE X G W (.Dict [some ke] [ve] pos) (oDic1 f g) := by
  refine PE_imp (pe_disp1N hu hk hv) fun σ H Q q p hp => ?_
  obtain ⟨ρ, hd, R, q⟩ := q
  have w0 : Wider G hd H (orIs hd p) (upd H p (.dK [])) := Wider.new R.good hp ⟨(fun _ z => nomatch z), (fun _ _ z => nomatch z)⟩
  have nM : ¬ G.M p := fun m => R.fresh hp (R.m p m)
  refine ⟨ρ, orIs hd p, R.wide w0, T.wp_mono (wp_then q) (fun k q1 x H1 e1 h1 => ?_) fun c l z => xE.wide w0 z⟩
  have R1 := (R.wide w0).lead e1
  refine ⟨ρ, orIs hd p, R1, T.wp_mono (wp_then q1) (fun d q2 y H2 e2 h2 => ?_) fun c l z => xE.lead (xE.wide w0 z) e1⟩
  have e12 := e1.trans e2
  refine ⟨e12.ex p _ nM (fun _ z => nomatch z) upd_same, ?_⟩
  cases q3 : keyT k with
  | none =>
    rw [q3] at q2
    exact q2.elim
  | some z =>
    rw [q3] at q2
    obtain ⟨z1, z2, l, rfl⟩ := keyT_some q3
    have h1' := h1.mono (e2.hide R1.m)
    cases h1' with
    | @tup l' b xs s1 s2 =>
      refine ⟨b, z, rfl, nkat_of hK (At.tup s1 s2) z1, z2, ?_⟩
      have u2 : H2 p = some (.dK []) := e12.ex p _ nM (fun _ z => nomatch z) upd_same
      have R2 := R1.lead e2
      have x3 : Ex (hide (orIs hd p) H2) (hide (orIs hd p) (upd H2 p (DN X.prog X.w p [(z, b, y)]))) := fun a u zz => by
        have zn := hide_nt zz
        obtain ⟨n, zz⟩ := hide_get zz
        exact hide_put n (by rw [upd_ne (fun yy => n (.inr yy))]; exact zz) zn
      have pl : Plain (DN X.prog X.w p [(z, b, y)]) := ⟨(fun _ z => nomatch z), fun _ _ z => DN_ne z⟩
      have j3 : G.J (upd H2 p (DN X.prog X.w p [(z, b, y)])) := G.stays H2 _ R2.j (fun a m => upd_ne fun z => nM (by rw [← z]; exact m)) fun a c q e => by
        rw [upd_ne fun z => by rw [z, u2] at e; cases e]
        exact e
      have w3 : Wider G hd H (orIs hd p) (upd H2 p (DN X.prog X.w p [(z, b, y)])) := by
        refine ⟨⟨fun a o m t e => ?_, fun _ => j3⟩, ⟨j3, R2.m, R2.live.poke pl⟩, fun a h => .inl h, (w0.ex.trans (e12.hide (R.wide w0).m)).trans x3⟩
        have np : a ≠ p := ne_of_none e hp
        rw [upd_ne np]
        exact e12.ex a o m t (by rw [upd_ne np]; exact e)
      have q4 := q2 p (orIs hd p) (upd H2 p (DN X.prog X.w p [(z, b, y)])) (fun _ _ _ z => nomatch z) w3 ⟨.inr rfl, nM, _, upd_same, [(z, b, y)], by rw [hP, hw], ⟨?_, fun p hp => ?_⟩, .cons ((At.tup s1 s2).mono x3) .nil, .cons (h2.mono x3) .nil⟩ (fun o z _ => by rw [hp] at z; cases z)
      · exact q4
      · show (nk (.tup l)).bind (fun k => (nks []).map (k :: ·)) = some [z]
        rw [z1]
        rfl
      · rw [List.mem_singleton.mp hp]
        exact z2
/-! ### len of a dict -/
def rLenK (X : Cx) : List V → Hp → VK → Prop := fun xs H Q => ∃ (a : Addr) (ys : List V), xs = [.ref a] ∧ KeysAt X H a ys ∧ Q (.int (ys.length : Int)) H
theorem cr_lenK : CallR X (.builtin "len") (rLenK X) := by
  intro pins s σ H xs us Q I r h
  obtain ⟨a, ys, rfl, hk, q⟩ := h
  obtain ⟨u, rfl, ru⟩ := vals1 r
  obtain rfl : u = Value.ref a := ru
  rcases hk with ⟨kvs, e, rfl⟩ | ⟨ps, e, ok, rfl⟩
  · rw [List.length_map] at q
    exact d_len I (.inl e) fun t s' I' => ⟨.int _, H, I', ⟨t, rfl⟩, q⟩
  · rw [List.length_map] at q
    exact n_len I (.inl e) ok fun t s' I' => ⟨.int _, H, I', ⟨t, rfl⟩, q⟩
def lenK : List D → Option D
  | [d] => (keysD d).map fun l => .int (l.length : Int)
  | _ => none
theorem d_lenK (hK : G.K = X.K) (hP : G.P = X.prog) (hw : G.w = X.w) : DoesN G (rLenK X) lenK := fun hd H xs l d Q R h e k => by
  cases h with
  | nil => cases e
  | @cons d1 x1 l1 r1 a1 t1 =>
    cases t1 with
    | cons _ _ => cases e
    | nil =>
      cases a1 with
      | dic h1 h2 h3 =>
        cases e
        exact ⟨_, _, rfl, .inl ⟨_, hide_sub _ _ h1, rfl⟩, k _ H (Lead.refl H) (by rw [← h2.length]; exact .int)⟩
      | dicN h1 h2 h3 h4 =>
        cases e
        exact ⟨_, _, rfl, .inr ⟨_, by rw [← hP, ← hw]; exact hide_sub _ _ h1, keys_ok hK h2 h3, rfl⟩, k _ H (Lead.refl H) (by rw [← h3.length]; exact .int)⟩
      | _ => cases e
def lenX (l : List D) : Option D := (lenS l).or (lenK l)
end
end Py
set_option Elab.async false
set_option linter.all false
set_option maxRecDepth 100000
set_option maxHeartbeats 4000000
namespace Py
open PySem PySem.Spec PyProof.Rows L2
/-! ### calls in which keyword-only parameters lack: their defaults' values ms -/
def KBf (K : PySem.W.Frag) (fd : FuncData) (ps : List Str) (n : Nat) (ks : List Str) (js : List Nat) (ms : List V) : Prop :=
  ∃ mv : List Value, Vals ms mv ∧ ∀ (s : Shared) (us ws : List Value), K.In s.heap → us.length = n → ws.length = ks.length → BindsTo s fd ⟨us, ks.zip ws⟩ (ps.zip (permL js (us ++ ws ++ mv)))
/-- the data of the defaults -/
def DfV (K : PySem.W.Frag) : List D → List V → Prop
  | [], [] => True
  | d :: l, v :: r => ((∃ i, d = .int i ∧ v = .int i) ∨ (d = .non ∧ v = .non) ∨ (d = .tup [] ∧ ∃ a, v = .ref a ∧ ∀ H, SqT K H a [])) ∧ DfV K l r
  | _, _ => False
theorem DfV.ats {G : Gl} {K : PySem.W.Frag} (hK : G.K = K) {H : Hp} : ∀ {l : List D} {r : List V}, DfV K l r → Ats G H l r
  | [], [], _ => .nil
  | d :: l, v :: r, ⟨h, t⟩ => by
    refine .cons ?_ (DfV.ats hK t)
    rcases h with ⟨i, rfl, rfl⟩ | ⟨rfl, rfl⟩ | ⟨rfl, a, rfl, q⟩
    · exact .int
    · exact .non
    · exact .tup (by rw [hK]; exact q H) .nil
  | [], _ :: _, h => h.elim
  | _ :: _, [], h => h.elim
section
variable {X : Cx} {G : Gl} {W : WX}
theorem run_fnKF {CX : CXT} {k n : Nat} {f : Addr} {fd : FuncData} {ps ks : List Str} {js : List Nat} {ms : List V} {sp : Sp} {E : L2.St → XK} {pins : List (Addr × Obj)} {σ : L2.St} {H : Hp} {s : Shared} {Q : VK} {us ws : List Value} {vs zs : List V} (F : FnOk X.prog X.w X.K X.mg X.base CX k f fd ps sp) (hr : Room k X.A) (hb : KBf X.K fd ps n ks js ms) (hx : PassesAt CX X σ (E σ))
    (I : Inv X pins σ H s) (r : Vals vs us) (rz : Vals zs ws) (l1 : vs.length = n) (l2 : zs.length = ks.length) (h : sp (permL js (vs ++ zs ++ ms)) H Q (E σ)) : wpAny (model X.prog X.w) X.A (call (.ref f) us (ks.zip ws)) (EP X pins σ Q) X.xe s := by
  obtain ⟨mv, rm, hb⟩ := hb
  have r2 := perm_vals js ((r.append rz).append rm)
  refine wpAny_call (codeAny_mono (F.run X.A X.stack s H ⟨us, ks.zip ws⟩ (permL js (us ++ ws ++ mv)) (permL js (vs ++ zs ++ ms)) Q (E σ) hr I.env0 (hb s us ws I.kIn (by rw [← r.length]; exact l1) (by rw [← rz.length]; exact l2)) r2 h) fun r s' hq => ?_)
  cases r with
  | error e => exact hx pins H s e s' I hq
  | ok fl =>
    cases fl with
    | ret u => exact I.after hq
    | next => exact False.elim hq
    | brk => exact False.elim hq
    | cont => exact False.elim hq
def gFnF (a b n : Nat) (js : List Nat) (dm : List D) (m : List D → T D) (r s : Env → T (List D)) : Env → T D := fun ρ => r ρ >>= fun l => s ρ >>= fun z => if l.length = a ∧ z.length = b ∧ (permL js (l ++ z ++ dm)).length = n then m (permL js (l ++ z ++ dm)) else .bad
/-- f(k = v, ..) -/
theorem ee_callF0 {k n : Nat} {f : Addr} {fd : FuncData} {ps ks : List Str} {js : List Nat} {ms : List V} {dm : List D} {x : Str} {p pos : Pos} {kws : List Keyword} {m : List D → T D} {fk : Env → T (List D)} (hK : G.K = X.K) (F : FnOk X.prog X.w X.K X.mg X.base (L2.CX X.prog X.w) k f fd ps (spD G n m)) (hr : Room k X.A) (hg : L2.Gl X x) (hm : X.mg x = some (.ref f)) (hk : PySem.W.keepIn X.K (.ref f) = true)
    (hb : KBf X.K fd ps 0 ks js ms) (hdm : DfV X.K dm ms) (tk : Takes X W) (hkw : EK X G W kws fk)
    (hall : (backToKw pos (keywordEach kws X.env)).all (·.1.isSome) = true := by rfl) (hks : (backToKw pos (keywordEach kws X.env)).filterMap (·.1) = ks := by rfl) (hdb : (x == ("__debug__" : Str)) = false := by decide)
    (hpl : ((backTo pos (starEach [] X.env)).any (·.1) || (backToKw pos (keywordEach kws X.env)).any (·.1.isNone)) = false := by rfl) :
    EE X G W (.Call (.Name x p) [] kws pos) (gFnF 0 ks.length n js dm m gNil fk) := by
  have pe : PE X (.Call (.Name x p) [] kws pos) (fun σ H Q => (tEA G W fk) σ H fun zs H1 => zs.length = ks.length ∧ spD G n m (permL js (zs ++ ms)) H1 Q (fun cls d H' => W cls d σ H')) := by
    refine ⟨fun pins s σ H Q I h => ?_⟩
    refine wpAny_Call_Name_kw (ld_glob I hg hm ?_ hdb)
    refine PySem.W.callWith_KW0 (h₀ := X.base) I.ok.mod.kin hk hall ?_ hpl
    refine thn (hkw.run pos pins s σ H _ I h) fun ws s2 ⟨zs, H2, I2, rz, l2, q2⟩ => ⟨I2.kIn, ?_⟩
    rw [hks]
    exact run_fnKF (us := []) (vs := []) (E := fun σ cls d H' => W cls d σ H') F hr hb (passAt tk σ) I2 .nil rz rfl l2 q2
  refine PE_imp pe fun σ H Q q => ?_
  obtain ⟨ρ, hd, R, q⟩ := q
  have q0 : (fk ρ >>= fun z => if ([] : List D).length = 0 ∧ z.length = ks.length ∧ (permL js ([] ++ z ++ dm)).length = n then m (permL js ([] ++ z ++ dm)) else .bad).wp (fun d => ∀ v H', Lead G H H' → At G (hide hd H') d v → Q v H') (xE G W hd σ H) := q
  refine ⟨ρ, hd, R, T.wp_imp (wp_then q0) fun l q1 vs H1 e1 h1 => ?_⟩
  obtain ⟨⟨_, c2, c3⟩, q2⟩ := wp_if q1
  rw [List.nil_append] at c3 q2
  have h2 := perm_ats js (h1.append (DfV.ats hK hdm))
  exact ⟨by rw [← h1.length]; exact c2, by rw [← h2.length]; exact c3, _, hd, R.good.lead e1, h2, T.wp_mono q2 (fun d q2 v H' j e2 a => q2 v H' (e1.trans e2) a) fun c es z cls dx H' e2 a => z cls dx H' (e1.trans e2) a⟩
/-- f(e, .., k = v, ..) -/
theorem ee_callF1 {k n a : Nat} {f : Addr} {fd : FuncData} {ps ks : List Str} {js : List Nat} {ms : List V} {dm : List D} {x : Str} {p pos : Pos} {e : Expr} {es : List Expr} {kws : List Keyword} {m : List D → T D} {fa fk : Env → T (List D)} (hK : G.K = X.K) (F : FnOk X.prog X.w X.K X.mg X.base (L2.CX X.prog X.w) k f fd ps (spD G n m)) (hr : Room k X.A) (hg : L2.Gl X x) (hm : X.mg x = some (.ref f)) (hk : PySem.W.keepIn X.K (.ref f) = true)
    (hb : KBf X.K fd ps a ks js ms) (hdm : DfV X.K dm ms) (tk : Takes X W) (ha : EA X G W (e :: es) fa) (hkw : EK X G W kws fk)
    (hall : (backToKw pos (keywordEach kws X.env)).all (·.1.isSome) = true := by rfl) (hks : (backToKw pos (keywordEach kws X.env)).filterMap (·.1) = ks := by rfl) (hdb : (x == ("__debug__" : Str)) = false := by decide)
    (he : starEach (e :: es) X.env = (false, eval e X.env) :: starEach es X.env := by rfl) (hpl : ((backTo pos (starEach (e :: es) X.env)).any (·.1) || (backToKw pos (keywordEach kws X.env)).any (·.1.isNone)) = false := by rfl) :
    EE X G W (.Call (.Name x p) (e :: es) kws pos) (gFnF a ks.length n js dm m fa fk) := by
  have pe : PE X (.Call (.Name x p) (e :: es) kws pos) (fun σ H Q => (tEA G W fa) σ H fun vs H1 => (tEA G W fk) σ H1 fun zs H2 => vs.length = a ∧ zs.length = ks.length ∧ spD G n m (permL js (vs ++ zs ++ ms)) H2 Q (fun cls d H' => W cls d σ H')) := by
    refine ⟨fun pins s σ H Q I h => ?_⟩
    refine wpAny_Call_Name_kw (ld_glob I hg hm ?_ hdb)
    refine PySem.W.callWith_KW (h₀ := X.base) I.ok.mod.kin hk hall (thn (ha.run pos pins s σ H _ I h) fun us s1 ⟨vs, H1, I1, r, q⟩ => ?_) hpl he
    refine thn (hkw.run pos pins s1 σ H1 _ I1 q) fun ws s2 ⟨zs, H2, I2, rz, l1, l2, q2⟩ => ⟨I2.kIn, ?_⟩
    rw [hks]
    exact run_fnKF (E := fun σ cls d H' => W cls d σ H') F hr hb (passAt tk σ) I2 r rz l1 l2 q2
  refine PE_imp pe fun σ H Q q => ?_
  obtain ⟨ρ, hd, R, q⟩ := q
  refine ⟨ρ, hd, R, T.wp_imp (wp_then q) fun l q1 vs H1 e1 h1 => ?_⟩
  refine ⟨ρ, hd, R.lead e1, T.wp_mono (wp_then q1) (fun z q2 zs H2 e2 h2 => ?_) fun c l z => xE.lead z e1⟩
  obtain ⟨⟨c1, c2, c3⟩, q3⟩ := wp_if q2
  have h3 := perm_ats js (((h1.mono (e2.hide R.m)).append h2).append (DfV.ats hK hdm))
  have e3 := e1.trans e2
  exact ⟨by rw [← h1.length]; exact c1, by rw [← h2.length]; exact c2, by rw [← h3.length]; exact c3, _, hd, R.good.lead e3, h3, T.wp_mono q3 (fun d q2 v H' j e2 a => q2 v H' (e3.trans e2) a) fun c es z cls dx H' e2 a => z cls dx H' (e3.trans e2) a⟩
end
end Py
set_option Elab.async false
set_option linter.all false
set_option maxRecDepth 100000
set_option maxHeartbeats 4000000
namespace Py
open PySem PySem.Spec PyProof.Rows L2
section
variable {X : Cx} {G : Gl} {W : WX}
/-- an own list, where it is asked alone -/
def ownL : Option Slot → Option (List D)
  | some (.own (.lst l)) => some l
  | _ => none
theorem own_ls {hd : Addr → Prop} {σ : L2.St} {ρ : Env} {H : Hp} (R : Rep G hd σ ρ H) {i : Nat} {l : List D} (e : ownL ρ[i]? = some l) :
    ∃ p xs, σ[i]? = some (some (.ref p)) ∧ hd p ∧ ¬ G.M p ∧ H p = some (HO.lst xs) ∧ Ats G (hide hd H) l xs := by
  cases q : ρ[i]? with
  | none =>
    rw [q] at e
    cases e
  | some s =>
    rw [q] at e
    cases s with
    | own o =>
      obtain ⟨p, u, e1, h1, nm, e2, r⟩ := own_of R q
      cases o with
      | lst l0 =>
        cases e
        obtain ⟨xs, rfl, r1⟩ := r
        exact ⟨p, xs, e1, h1, nm, e2, r1⟩
      | _ => cases e
    | _ => cases e
/-- x[k], x an own list -/
def gIxL (i : Nat) (f : Env → T D) : Env → T D := fun ρ => opt (ownL ρ[i]?) >>= fun l => f ρ >>= fun d => opt (ixD (.lst l) d)
theorem ee_ixL {a b : Expr} {pos : Pos} {f : Env → T D} {i : Nat} (ha : PE X a (tVar i)) (hb : EE X G W b f) (hs : PlainIx b := by intro _ _; rfl) : EE X G W (.Subscript a b pos) (gIxL i f) := by
  refine PE_imp (pe_ix ix_list ha hb hs) fun σ H Q q => ?_
  obtain ⟨ρ, hd, R, q⟩ := q
  obtain ⟨l, e2, q⟩ := wp_opt (wp_then q)
  obtain ⟨p, xs, s1, h1, nm, e3, as⟩ := own_ls R e2
  refine ⟨.ref p, s1, ρ, hd, R, T.wp_imp (wp_then q) fun d q1 v H' e h => ?_⟩
  obtain ⟨z, e1, q2⟩ := wp_opt q1
  cases d with
  | int j =>
    have e4 : atI l j = some z := e1
    obtain ⟨v', e5, a5⟩ := atI_ats as e4
    cases h
    exact ⟨p, xs, j, v', rfl, rfl, .inl (.inl (e.ex p _ nm (fun _ z => nomatch z) e3)), e5, q2 _ H' e (a5.mono (e.hide R.m))⟩
  | _ => exact nomatch e1
theorem inO_core (hK : G.K = X.K) (hP : G.P = X.prog) (hw : G.w = X.w) {neg : Bool} {f : Env → T D} {i : Nat} {σ : L2.St} {H : Hp} {Q : VK} (q : tEE G W (gInO neg f i) σ H Q) : tOp (rInO X neg) (tEE G W f) (tVar i) σ H Q := by
  obtain ⟨ρ, hd, R, q⟩ := q
  refine ⟨ρ, hd, R, T.wp_imp (wp_then q) fun d q1 v H' e h => ?_⟩
  obtain ⟨z, e1, q2⟩ := wp_opt q1
  obtain ⟨dc, e2, e3⟩ := Option.bind_eq_some_iff.mp e1
  obtain ⟨p, s1, h1, nm, dcs⟩ := own_dc R e2
  refine ⟨.ref p, s1, ?_⟩
  have dcs' := dc_lead R.m e nm dcs
  have e4 : (getDic dc d).map (fun o => D.bl (if neg then !o.isSome else o.isSome)) = some z := e3
  cases q3 : getDic dc d with
  | none =>
    rw [q3] at e4
    cases e4
  | some o =>
    rw [q3] at e4
    have e5 : D.bl (if neg then !o.isSome else o.isSome) = z := Option.some.inj e4
    obtain ⟨g1, g2⟩ := get_core hK hP hw dcs' h q3
    cases o with
    | none => exact ⟨p, none, rfl, g2 rfl, q2 _ H' e (by rw [← e5]; exact .bl)⟩
    | some z' =>
      obtain ⟨v', g3, _⟩ := g1 z' rfl
      exact ⟨p, some v', rfl, g3, q2 _ H' e (by rw [← e5]; exact .bl)⟩
theorem et_inO (hK : G.K = X.K) (hP : G.P = X.prog) (hw : G.w = X.w) (neg : Bool) {a b : Expr} {pos : Pos} {f : Env → T D} {i : Nat} (ha : EE X G W a f) (hb : PE X b (tVar i)) {op : CmpOp} (ho : OpR X (compareOp op) (rInO X neg)) (hm : behindInMarks op b = false := by first | exact nomark _ | rfl) : ET X G W (.Compare a [op] [b] pos) (fun ρ => gInO neg f i ρ >>= asB) := by
  refine PT_imp (pt_cmpR ho ha hb hm) fun σ H Q q => inO_core hK hP hw ?_
  obtain ⟨ρ, hd, R, q⟩ := q
  refine ⟨ρ, hd, R, T.wp_imp (wp_then q) fun d q1 v H' e h => ?_⟩
  cases d with
  | bl b =>
    cases h
    exact ⟨b, rfl, q1 H' e⟩
  | _ => exact q1.elim
end
end Py
namespace Py
open PySem PySem.Spec PyProof.Rows L2
/-- a def with keyword-only parameters: its text, its object -/
structure Dnk (K : PySem.W.Frag) (mg : Str → Option Value) (x : Str) (st : Stmt) (ps : List Str) (f : Addr) (fd : FuncData) : Prop where
  F : Fun K x x st f fd
  g : mg x = some (.ref f)
  k : PySem.W.keepIn K (.ref f) = true
end Py
set_option Elab.async false
set_option linter.all false
set_option maxRecDepth 100000
set_option maxHeartbeats 4000000
namespace Py
open PySem PySem.Spec PyProof.Rows L2
/-! ### {"a": x, ..}, new, its keys written as texts -/
/-- the pairs of a display with these texts as keys -/
def ED (X : Cx) (G : Gl) (W : WX) (pos : Pos) (keys : List (Option Expr)) (values : List Expr) (ks : List Str) (r : Env → T (List D)) : Prop :=
  ∃ trs, PPs X pos keys values trs ∧ keys.length = ks.length ∧ keys.all (·.isSome) = true ∧ keys.length = values.length ∧ ∀ σ H (Q : List (V × V) → Hp → Prop),
    (∃ ρ hd, Rep G hd σ ρ H ∧ (r ρ).wp (fun ds => ∀ vs H', Lead G H H' → Ats G (hide hd H') ds vs → ds.length = ks.length → Q ((ks.map V.str).zip vs) H') (xE G W hd σ H)) → tPairs trs σ H Q
section
variable {X : Cx} {G : Gl} {W : WX}
theorem ed_nil {pos : Pos} : ED X G W pos [] [] [] gNil := ⟨[], pps_nil, rfl, rfl, rfl, fun σ H Q ⟨ρ, hd, R, q⟩ => q [] H (Lead.refl H) .nil rfl⟩
theorem ed_cons {pos kp : Pos} {kj : Nat} {k : Str} {v : Expr} {keys : List (Option Expr)} {values : List Expr} {ks : List Str} {f : Env → T D} {r : Env → T (List D)} (hv : EE X G W v f) (hr : ED X G W pos keys values ks r) : ED X G W pos (some (.Constant (.str k) kj kp) :: keys) (v :: values) (k :: ks) (gCons f r) := by
  obtain ⟨trs, h1, h2, h3, h4, h5⟩ := hr
  refine ⟨_, pps_cons pe_str hv h1, by simp [h2], by simpa using h3, by simp [h4], fun σ H Q q => ?_⟩
  obtain ⟨ρ, hd, R, q⟩ := q
  refine ⟨ρ, hd, R, T.wp_imp (wp_then q) fun d q1 x H1 e1 a1 => ?_⟩
  refine h5 _ _ _ ⟨ρ, hd, R.lead e1, T.wp_mono (wp_then q1) (fun l q2 xs H2 e2 a2 hl => ?_) fun c l z => xE.lead z e1⟩
  exact q2 (x :: xs) H2 (e1.trans e2) (.cons (a1.mono (e2.hide R.m)) a2) (by simp [hl])
theorem merge_new : ∀ (more kvs : List (Key × V)), (kvs.map (·.1) ++ more.map (·.1)).Nodup → mergeK kvs more = kvs ++ more
  | [], kvs, _ => (List.append_nil kvs).symm
  | p :: r, kvs, h => by
    have e : putK kvs p.1 p.2 = kvs ++ [p] := by
      unfold putK
      have no : ¬ (kvs.any fun kv => decide (kv.1 = p.1)) = true := fun z => by
        obtain ⟨q, hq, hp⟩ := List.any_eq_true.mp z
        have d := (List.nodup_append.mp h).2.2
        exact d q.1 (List.mem_map.mpr ⟨q, hq, rfl⟩) p.1 (by simp) (of_decide_eq_true hp)
      rw [if_neg no]
    show mergeK (putK kvs p.1 p.2) r = _
    rw [e, merge_new r _ (by simpa using h), List.append_assoc]
    rfl
theorem zip_keys : ∀ (ks : List Str) (vs : List V), ks.length = vs.length → ((ks.map V.str).zip vs) = ((ks.map (Sum.inr (α := Int))).zip vs).map (fun kv : Key × V => (kV kv.1, kv.2))
  | [], _, _ => rfl
  | k :: ks, v :: vs, h => by
    have e := zip_keys ks vs (by simpa using h)
    show (V.str k, v) :: (ks.map V.str).zip vs = _
    rw [e]
    rfl
def gDicS (ks : List Str) (r : Env → T (List D)) : Env → T D := fun ρ => r ρ >>= fun ds => .ret (.dic (ks.map D.str) ds)
theorem strs_at {H : Hp} : ∀ (ks : List Str) (vs : List V), ks.length = vs.length → Ats G H (ks.map D.str) ((((ks.map (Sum.inr (α := Int))).zip vs) : List (Key × V)).map fun q => kV q.1)
  | [], [], _ => .nil
  | k :: ks, v :: vs, h => .cons .str (strs_at ks vs (by simpa using h))
theorem zip_snd : ∀ (ks : List Str) (vs : List V), ks.length = vs.length → ((((ks.map (Sum.inr (α := Int))).zip vs) : List (Key × V)).map (·.2)) = vs
  | [], [], _ => rfl
  | k :: ks, v :: vs, h => by
    show v :: _ = v :: vs
    exact congrArg _ (zip_snd ks vs (by simpa using h))
theorem zip_fst : ∀ (ks : List Str) (vs : List V), ks.length = vs.length → ((((ks.map (Sum.inr (α := Int))).zip vs) : List (Key × V)).map (·.1)) = ks.map Sum.inr
  | [], [], _ => rfl
  | k :: ks, v :: vs, h => by
    show Sum.inr k :: _ = Sum.inr k :: ks.map Sum.inr
    exact congrArg _ (zip_fst ks vs (by simpa using h))
theorem nodup_inr : ∀ {ks : List Str}, ks.Nodup → (ks.map (Sum.inr (α := Int))).Nodup
  | [], _ => List.nodup_nil
  | k :: ks, h => by
    obtain ⟨h1, h2⟩ := List.nodup_cons.mp h
    refine List.nodup_cons.mpr ⟨fun z => ?_, nodup_inr h2⟩
    obtain ⟨q, hq, e⟩ := List.mem_map.mp z
    cases e
    exact h1 hq
theorem ee_dicS {pos : Pos} {keys : List (Option Expr)} {values : List Expr} {ks : List Str} {r : Env → T (List D)} (h : ED X G W pos keys values ks r) (h0 : keys ≠ [] := by exact (fun z => nomatch z)) (h15 : ks.length ≤ 15 := by decide) (hn : ks.Nodup := by decide +kernel) : EE X G W (.Dict keys values pos) (gDicS ks r) := by
  obtain ⟨trs, h1, h2, h3, h4, h5⟩ := h
  refine PE_imp (pe_disp h1 h3 h4 h0 (by omega)) fun σ H Q q p hp => ?_
  obtain ⟨ρ, hd, R, q⟩ := q
  have w0 : Wider G hd H (orIs hd p) (upd H p (.dK [])) := Wider.new R.good hp ⟨(fun _ z => nomatch z), (fun _ _ z => nomatch z)⟩
  have nM : ¬ G.M p := fun m => R.fresh hp (R.m p m)
  have nd : ¬ hd p := R.fresh hp
  refine h5 _ _ _ ⟨ρ, orIs hd p, R.wide w0, T.wp_mono (wp_then q) (fun ds q1 vs H2 e2 a2 hl => ?_) fun c l z => xE.wide w0 z⟩
  have hv : ks.length = vs.length := by rw [← a2.length, hl]
  have u2 : H2 p = some (.dK []) := e2.ex p _ nM (fun _ z => nomatch z) upd_same
  refine ⟨u2, (ks.map (Sum.inr (α := Int))).zip vs, zip_keys ks vs hv, by rw [List.length_zip, List.length_map]; omega, ?_⟩
  have em : mergeK [] ((ks.map (Sum.inr (α := Int))).zip vs) = (ks.map (Sum.inr (α := Int))).zip vs := merge_new _ [] (by
    rw [List.map_nil, List.nil_append, zip_fst ks vs hv]
    exact nodup_inr hn)
  rw [em]
  have R2 := (R.wide w0).lead e2
  have L : Lead G H (upd H2 p (.dK ((ks.map (Sum.inr (α := Int))).zip vs))) := by
    refine ⟨fun a o m n z => ?_, fun _ => ?_⟩
    · have np : a ≠ p := ne_of_none z hp
      rw [upd_ne np]
      exact e2.ex a o m n (by rw [upd_ne np]; exact z)
    · exact G.stays H2 _ R2.j (fun a m => upd_ne fun z => nM (by rw [← z]; exact m)) fun a c q e => by
        rw [upd_ne fun z => by rw [z, u2] at e; unfold LamX.CodeO at e; cases e]
        exact e
  have x3 : Ex (hide (orIs hd p) H2) (hide hd (upd H2 p (.dK ((ks.map (Sum.inr (α := Int))).zip vs)))) := fun a u zz => by
    have zn := hide_nt zz
    obtain ⟨n, zz⟩ := hide_get zz
    exact hide_put (fun yy => n (.inl yy)) (by rw [upd_ne (fun yy => n (.inr yy))]; exact zz) zn
  exact q1 _ _ L (.dic (hide_put nd upd_same fun _ z => nomatch z) (strs_at ks vs hv) (by rw [zip_snd ks vs hv]; exact a2.mono x3))
end
end Py
set_option Elab.async false
set_option linter.all false
set_option maxRecDepth 100000
set_option maxHeartbeats 4000000
namespace Py
open PySem PySem.Spec PyProof.Rows L2
/-! ### the making of a deck -/
/-- what holds while the deck is made: the script's list at a stays, the tables -/
structure ScJ (o0 : Option HO) (a : Addr) (tb : List (Addr × Str)) (H : Hp) : Prop where
  at_ : o0.isSome = true → H a = o0
  tb : LamX.Tabs tb H
def scM (o0 : Option HO) (a : Addr) (tb : List (Addr × Str)) (b : Addr) : Prop := (o0.isSome = true ∧ b = a) ∨ ∃ q ∈ tb, b = q.1
/-- what is fixed while the deck is made: the script's list at a; nothing of it is a table, a code object -/
def mk0 (P : Program) (w : World) (K : PySem.W.Frag) (cls : Nat → Addr) (flds : Nat → List Str) (o0 : Option HO) (pl : ∀ o, o0 = some o → Plain o) (a : Addr) (tb : List (Addr × Str)) : Gl where
  P := P
  w := w
  K := K
  cls := cls
  flds := flds
  dk := a
  M := scM o0 a tb
  J := ScJ o0 a tb
  tb := tb
  ea := none
  fa := none
  has := fun H b j m => by
    rcases m with ⟨s, rfl⟩ | ⟨q, hq, rfl⟩
    · rw [j.at_ s]
      exact fun z => by
        rw [z] at s
        cases s
    · obtain ⟨ps, e, _⟩ := j.tb q hq
      rw [e]
      exact (fun z => nomatch z)
  stays := fun H H' j h1 h2 => ⟨fun s => (h1 a (.inl ⟨s, rfl⟩)).trans (j.at_ s), tabs_keep j.tb (fun q hq => h1 q.1 (.inr ⟨q, hq, rfl⟩)) h2⟩
  tabs := fun H j => j.tb
  lam := fun H H' j e t => ⟨fun s => by
    have e1 := j.at_ s
    cases q : o0 with
    | none =>
      rw [q] at s
      cases s
    | some o =>
      rw [q] at e1
      exact e _ _ e1 fun ps z => (pl o q).nt ps z, t⟩
  code := fun H c q j e m => by
    rcases m with ⟨s, rfl⟩ | ⟨q, hq, rfl⟩
    · have e1 := j.at_ s
      rw [e] at e1
      exact (pl _ e1.symm).ne c _ rfl
    · obtain ⟨ps, e3, _⟩ := j.tb q hq
      unfold LamX.CodeO at e
      rw [e3] at e
      cases e
section
variable {P : Program} {w : World} {K : PySem.W.Frag} {cls : Nat → Addr} {flds : Nat → List Str} {o0 : Option HO} {pl : ∀ o, o0 = some o → Plain o} {as : Addr} {tb : List (Addr × Str)}
variable {X : Cx} {W : WX}
/-- the script's part [lo:hi] -/
def gScr (ns : List Int) (i : Nat) (fl fh : Env → T (Option Int)) : Env → T D := fun ρ => match ρ[i]? with
  | some (.val .deck) => fl ρ >>= fun l => fh ρ >>= fun u => .ret (.lst (cutD (ns.map D.int) l u))
  | _ => .bad
theorem ints_ats {G : Gl} {H : Hp} : ∀ ns : List Int, Ats G H (ns.map D.int) (ns.map V.int)
  | [] => .nil
  | _ :: ns => .cons .int (ints_ats ns)
theorem ee_scr {ns : List Int} (hK : K = X.K) (hsq : ∀ H, ScJ o0 as tb H → SqL K H as (ns.map V.int)) {e : Expr} {lo hi : Option Expr} {p2 pos : Pos} {i : Nat} {fl fh : Env → T (Option Int)} (he : PE X e (tVar i)) (hl : PO X lo (tEO (mk0 P w K cls flds o0 pl as tb) W fl)) (hh : PO X hi (tEO (mk0 P w K cls flds o0 pl as tb) W fh)) :
    EE X (mk0 P w K cls flds o0 pl as tb) W (.Subscript e (.Slice lo hi none p2) pos) (gScr ns i fl fh) := by
  refine PE_imp (pe_slice sl_list he hl hh) fun σ H Q q => ?_
  obtain ⟨ρ, hd, R, q⟩ := q
  unfold gScr at q
  cases e1 : ρ[i]? with
  | none =>
    rw [e1] at q
    exact q.elim
  | some s =>
    rw [e1] at q
    cases s with
    | val d =>
      cases d with
      | deck =>
        have hi' : i < σ.length := by
          rw [← R.len]
          exact (List.getElem?_eq_some_iff.mp e1).1
        obtain ⟨x, e2, a2⟩ := R.at_ i _ _ e1 (List.getElem?_eq_getElem hi')
        cases a2
        refine ⟨.ref as, (List.getElem?_eq_getElem hi').trans (congrArg some e2), ?_⟩
        have q : (fl ρ >>= fun l => fh ρ >>= fun u => (T.ret (D.lst (cutD (ns.map D.int) l u)) : T D)).wp _ _ := q
        refine ⟨ρ, hd, R, T.wp_mono (wp_then q) (fun l q2 H2 e2 => ?_) fun c l z => z⟩
        refine ⟨ρ, hd, R.lead e2, T.wp_mono (wp_then q2) (fun u q3 H3 e3 => ?_) fun c l z => xE.lead z e2⟩
        have E3 := e2.trans e3
        have g := R.good.lead E3
        refine ⟨as, ns.map V.int, rfl, by rw [← hK]; exact hsq H3 g.j, fun p hp => ?_⟩
        exact q3 _ _ (E3.trans (Lead.new hp)) (.lst (g.seen hp) (cut_ats (ints_ats ns)))
      | _ => exact q.elim
    | _ => exact q.elim
end
end Py
set_option Elab.async false
set_option linter.all false
set_option maxRecDepth 100000
set_option maxHeartbeats 4000000
namespace Py
open PySem PySem.Spec PyProof.Rows L2
theorem compL_map {b : Tg} {c : Env → T Bool} {e : Env → T D} {ρ0 : Env} {f : D → D} : ∀ ds : List D, (∀ d ∈ ds, ∃ ρ1, b d ρ0 = some ρ1 ∧ c ρ1 = .ret true ∧ e ρ1 = .ret (f d)) → compL b c e ρ0 ds = .ret (ds.map f)
  | [], _ => rfl
  | d :: ds, h => by
    obtain ⟨ρ1, h1, h2, h3⟩ := h d (by simp)
    have ih := compL_map (b := b) (c := c) (e := e) (ρ0 := ρ0) (f := f) ds fun x hx => h x (List.mem_cons_of_mem _ hx)
    show (opt (b d ρ0) >>= fun ρ1 => noexc (c ρ1) >>= fun k => if k = true then noexc (e ρ1) >>= fun x => compL b c e ρ0 ds >>= fun r => .ret (x :: r) else compL b c e ρ0 ds) = _
    rw [h1]
    show (noexc (c ρ1) >>= fun k => if k = true then noexc (e ρ1) >>= fun x => compL b c e ρ0 ds >>= fun r => .ret (x :: r) else compL b c e ρ0 ds) = _
    rw [h2]
    show (noexc (e ρ1) >>= fun x => compL b c e ρ0 ds >>= fun r => T.ret (x :: r)) = _
    rw [h3, ih]
    rfl
def deckR (ns : List Int) : Env → T D := gDicS ["cells", "at"] (gCons (gComp (fun ρ => gScr ns 0 (optI none) (optI (some (gC (.int 60)))) ρ >>= seqD) (bName 1) gYes (gOp iMod (gCall int1 (gCons (gVar 1) gNil)) (gC (.int 1000000007))) [1]) (gCons (gC (.int 0)) gNil))
def deckM (ns : List Int) : List D → T D := fn 2 (sRet (deckR ns))
def modP : D → D
  | .int n => .int (n.fmod 1000000007)
  | d => d
theorem deckM_eq (ns : List Int) (h : ns.length ≤ 63) : deckM ns [.deck] = .ret (.dic [.str "cells", .str "at"] [.lst ((cutD (ns.map D.int) none (some 60)).map modP), .int 0]) := by
  have hm : ∀ d ∈ cutD (ns.map D.int) none (some 60), ∃ n, d = D.int n := fun d hd => by
    unfold cutD at hd
    obtain ⟨n, _, e⟩ := List.mem_map.mp (List.mem_of_mem_drop (List.mem_of_mem_take hd))
    exact ⟨n, e.symm⟩
  have hl : (cutD (ns.map D.int) none (some 60)).length ≤ 100000 := by
    unfold cutD
    rw [List.length_take, List.length_drop, List.length_map]
    omega
  have key : compL (bName 1) gYes (gOp iMod (gCall int1 (gCons (gVar 1) gNil)) (gC (.int 1000000007))) (wipeE (env0 2 [.deck]) [1]) (cutD (ns.map D.int) none (some 60)) = .ret ((cutD (ns.map D.int) none (some 60)).map modP) := by
    refine compL_map _ fun d hd => ?_
    obtain ⟨n, rfl⟩ := hm d hd
    exact ⟨_, rfl, rfl, rfl⟩
  have e2 : gComp (fun ρ => gScr ns 0 (optI none) (optI (some (gC (.int 60)))) ρ >>= seqD) (bName 1) gYes (gOp iMod (gCall int1 (gCons (gVar 1) gNil)) (gC (.int 1000000007))) [1] (env0 2 [.deck]) = .ret (.lst ((cutD (ns.map D.int) none (some 60)).map modP)) := by
    show few (cutD (ns.map D.int) none (some 60)) (compL (bName 1) gYes (gOp iMod (gCall int1 (gCons (gVar 1) gNil)) (gC (.int 1000000007))) (wipeE (env0 2 [.deck]) [1]) (cutD (ns.map D.int) none (some 60)) >>= fun l => T.ret (D.lst l)) = _
    rw [key]
    unfold few
    rw [if_pos hl]
    rfl
  show runS (bindS (deckR ns (env0 2 [.deck])) (env0 2 [.deck]) fun d => .ret (.ret d)) = _
  have e3 : deckR ns (env0 2 [.deck]) = .ret (.dic [.str "cells", .str "at"] [.lst ((cutD (ns.map D.int) none (some 60)).map modP), .int 0]) := by
    show ((gComp (fun ρ => gScr ns 0 (optI none) (optI (some (gC (.int 60)))) ρ >>= seqD) (bName 1) gYes (gOp iMod (gCall int1 (gCons (gVar 1) gNil)) (gC (.int 1000000007))) [1] (env0 2 [.deck]) >>= fun d => gCons (gC (.int 0)) gNil (env0 2 [.deck]) >>= fun l => T.ret (d :: l)) >>= fun ds => T.ret (D.dic [.str "cells", .str "at"] ds)) = _
    rw [e2]
    rfl
  rw [e3]
  rfl
end Py
set_option Elab.async false
set_option linter.all false
set_option maxRecDepth 100000
set_option maxHeartbeats 4000000
namespace Py
open PySem PySem.Spec PyProof.Rows L2
/-- what the making of a deck does -/
def spDeck (K : PySem.W.Frag) (tb : List (Addr × Str)) : Sp := fun vs H Q _ => ∃ (a : Addr) (ns : List Int), vs = [.ref a] ∧ SqL K H a (ns.map V.int) ∧ ns.length ≤ 63 ∧ LamX.Tabs tb H ∧
  ∀ p cl H', DkJ p cl tb H' → (∀ b o, notT o → H b = some o → H' b = some o) → Q (.ref p) H'
theorem mod_ints {G : Gl} {H : Hp} : ∀ {l : List D} {xs : List V}, (∀ d ∈ l, ∃ n, d = D.int n) → Ats G H (l.map modP) xs → ∃ ns : List Int, xs = ns.map V.int ∧ ns.length = l.length ∧ ∀ n ∈ ns, 0 ≤ n ∧ n < 1000000007
  | [], _, _, h => by
    cases h
    exact ⟨[], rfl, rfl, fun _ z => nomatch z⟩
  | d :: l, _, hm, h => by
    obtain ⟨n, rfl⟩ := hm d (by simp)
    cases h with
    | cons h1 h2 =>
      have h1' : At G H (.int (n.fmod 1000000007)) _ := h1
      cases h1'
      obtain ⟨ns, rfl, e2, e3⟩ := mod_ints (fun x hx => hm x (List.mem_cons_of_mem _ hx)) h2
      refine ⟨n.fmod 1000000007 :: ns, rfl, by simp [e2], fun z hz => ?_⟩
      rcases List.mem_cons.mp hz with rfl | hz
      · exact fmod_in (by decide)
      · exact e3 z hz
theorem plain_sq {o : HO} {xs : List V} (h : o = .lst xs ∨ ∃ o', o = .frz o' (.lst xs)) : Plain o := by
  rcases h with rfl | ⟨o', rfl⟩
  · exact ⟨(fun _ z => nomatch z), fun _ _ z => nomatch z⟩
  · exact ⟨(fun _ z => nomatch z), fun _ _ z => by unfold LamX.CodeO at z; cases z⟩
section
variable {P : Program} {w : World} {K : PySem.W.Frag} {mg : Str → Option Value} {base : Heap} {cls : Nat → Addr} {flds : Nat → List Str} {tb : List (Addr × Str)}
theorem deck_sp {k : Nat} {f : Addr} {fd : FuncData} {x : Str}
    (F : ∀ (o0 : Option HO) (pl : ∀ o, o0 = some o → Plain o) (as : Addr) (ns : List Int), (∀ H, ScJ o0 as tb H → SqL K H as (ns.map V.int)) → FnOk P w K mg base (L2.CX P w) k f fd [x] (spD (mk0 P w K cls flds o0 pl as tb) 1 (deckM ns))) :
    FnOk P w K mg base (L2.CX P w) k f fd [x] (spDeck K tb) := by
  refine ⟨fun vs H Q E h => ?_, fun A outer s H args us vs Q E hr e0 hb hv h => ?_⟩
  · obtain ⟨a, ns, rfl, _⟩ := h
    rfl
  · obtain ⟨a, ns, rfl, sq, hl, tbs, q⟩ := h
    have go : ∀ (o0 : Option HO) (pl : ∀ o, o0 = some o → Plain o), (o0.isSome = true → H a = o0) → (o0 = none ∨ o0 = H a) → (∀ H, ScJ o0 a tb H → SqL K H a (ns.map V.int)) → codeAny (model P w) A (.call (.ref f) args) (CR (L2.CX P w) outer P w H s Q E) s := by
      intro o0 pl he ho hsq
      have j : (mk0 P w K cls flds o0 pl a tb).J H := (⟨he, tbs⟩ : ScJ o0 a tb H)
      refine (F o0 pl a ns hsq).run A outer s H args us [.ref a] Q E hr e0 hb hv ⟨rfl, [.deck], (mk0 P w K cls flds o0 pl a tb).M, ⟨j, fun _ m => m, ⟨fun b m => (mk0 P w K cls flds o0 pl a tb).has H b j m, fun b o m n => absurd m n⟩⟩, .cons .deck .nil, ?_⟩
      rw [deckM_eq ns hl]
      refine fun v H' j' e at_ => ?_
      have at1 : At (mk0 P w K cls flds o0 pl a tb) (hide (mk0 P w K cls flds o0 pl a tb).M H') (.dic [.str "cells", .str "at"] [.lst ((cutD (ns.map D.int) none (some 60)).map modP), .int 0]) v := at_
      cases at1 with
      | @dic _ _ p kvs h1 h2 h3 =>
        match kvs, h2, h3 with
        | [(.inr k1, v1), (.inr k2, v2)], .cons h4 (.cons h5 .nil), .cons h6 (.cons h7 .nil) =>
          have h4' : At (mk0 P w K cls flds o0 pl a tb) (hide (mk0 P w K cls flds o0 pl a tb).M H') (.str "cells") (.str k1) := h4
          have h5' : At (mk0 P w K cls flds o0 pl a tb) (hide (mk0 P w K cls flds o0 pl a tb).M H') (.str "at") (.str k2) := h5
          cases h4'
          cases h5'
          have h7' : At (mk0 P w K cls flds o0 pl a tb) (hide (mk0 P w K cls flds o0 pl a tb).M H') (.int 0) v2 := h7
          have h6' : At (mk0 P w K cls flds o0 pl a tb) (hide (mk0 P w K cls flds o0 pl a tb).M H') (.lst ((cutD (ns.map D.int) none (some 60)).map modP)) v1 := h6
          cases h7'
          cases h6' with
          | @lst _ cl xs g1 g2 =>
            have hm : ∀ d ∈ cutD (ns.map D.int) none (some 60), ∃ n, d = D.int n := fun d hd => by
              unfold cutD at hd
              obtain ⟨n, _, e⟩ := List.mem_map.mp (List.mem_of_mem_drop (List.mem_of_mem_take hd))
              exact ⟨n, e.symm⟩
            obtain ⟨ns', rfl, e2, e3⟩ := mod_ints hm g2
            have u1 : H' p = some (dkO cl ((0 : Nat) : Int)) := (hide_get h1).2
            have u2 : H' cl = some (.lst (ns'.map V.int)) := (hide_get g1).2
            have hlen : ns'.length ≤ 100 := by
              rw [e2]
              unfold cutD
              rw [List.length_take, List.length_drop, List.length_map]
              omega
            have j1 : ScJ o0 a tb H' := j'
            refine q p cl H' ⟨fun z => ?_, ⟨0, ns', u1, u2, hlen, e3⟩, j1.tb⟩ fun b o nt hb' => ?_
            · rw [z, u1] at u2
              cases u2
            · by_cases m : (mk0 P w K cls flds o0 pl a tb).M b
              · rcases m with ⟨s1, rfl⟩ | ⟨t, ht, rfl⟩
                · rw [j1.at_ s1, ← he s1]
                  exact hb'
                · obtain ⟨ps, t1, _⟩ := tbs t ht
                  rw [t1] at hb'
                  cases hb'
                  exact absurd rfl (nt ps)
              · exact e.ex b o m nt hb'
        | [], h2, _ => exact nomatch h2
        | (.inl _, _) :: _, .cons h4 _, _ => exact nomatch h4
        | [_], .cons _ h5, _ => exact nomatch h5
        | (.inr _, _) :: (.inl _, _) :: _, .cons _ (.cons h5 _), _ => exact nomatch h5
        | _ :: _ :: _ :: _, .cons _ (.cons _ h5), _ => exact nomatch h5
    rcases sq with rd | st
    · refine go (H a) (fun o ho => plain_sq (xs := ns.map V.int) ?_) (fun _ => rfl) (.inr rfl) fun H' j => ?_
      · rcases rd with rd | ⟨o', rd⟩
        · rw [rd] at ho
          exact .inl (Option.some.inj ho).symm
        · rw [rd] at ho
          exact .inr ⟨o', (Option.some.inj ho).symm⟩
      · have s1 : (H a).isSome = true := by
          rcases rd with rd | ⟨o', rd⟩ <;> rw [rd] <;> rfl
        have e1 := j.at_ s1
        rcases rd with rd | ⟨o', rd⟩
        · exact .inl (.inl (by rw [e1]; exact rd))
        · exact .inl (.inr ⟨o', by rw [e1]; exact rd⟩)
    · exact go none (fun _ z => nomatch z) (fun z => nomatch z) (.inl rfl) fun H' _ => .inr st
end
end Py
set_option Elab.async false
set_option linter.all false
set_option maxRecDepth 100000
set_option maxHeartbeats 4000000
namespace Py
open PySem PySem.Spec PyProof.Rows L2
/-- what a law is to do -/
def spLaw (K : PySem.W.Frag) (tb : List (Addr × Str)) : Sp := fun vs H Q _ => ∃ (a : Addr) (ns : List Int), vs = [.ref a] ∧ SqL K H a (ns.map V.int) ∧ ns.length ≤ 63 ∧ LamX.Tabs tb H ∧ ∀ H', Q (.bl true) H'
/-- the slots of a law behind the deck's making -/
def envL (n : Nat) : Env := Slot.none :: Slot.val .deck :: List.replicate (n - 2) Slot.none
theorem envL_at {n k : Nat} {s : Slot} (e : (envL n)[k]? = some s) : (k = 1 ∧ s = .val .deck) ∨ s = .none := by
  match k, e with
  | 0, e => exact .inr (Option.some.inj e).symm
  | 1, e => exact .inl ⟨rfl, (Option.some.inj e).symm⟩
  | k + 2, e =>
    have e : (List.replicate (n - 2) Slot.none)[k]? = some s := e
    exact .inr (List.eq_of_mem_replicate (List.mem_of_getElem? e))
section
variable {P : Program} {w : World} {K : PySem.W.Frag} {mg : Str → Option Value} {base : Heap} {cls : Nat → Addr} {flds : Nat → List Str} {tb : List (Addr × Str)}
/-- THE RULE for a law whose first statement makes the deck -/
theorem law_ok {x qual : Str} {st st1 : Stmt} {rest : List Stmt} {f : Addr} {fd : FuncData} {cdv : Value} {N : List Str} {p0 : Str} {k : Nat} {s : Sm} {E0 : XK → L2.St → XK} (F : FunC K x qual st f fd cdv) (S : FnScope N [p0] (defScope st)) (hN : 2 ≤ N.length) (hb : defBody st = st1 :: rest)
    (h1 : ∀ (A : Around) (outer : List PySem.Env) (s0 : Shared) (H : Hp) (E : XK), Room k (A.deeper (PyProof.Rows.envOfC qual (defScope st) s0.heap.objs.size f cdv)) → PS (cxOf (L2.CX P w) P w K mg base N qual (defScope st) f cdv A outer s0 H E) st1 (tAsg (tCallS (spDeck K tb) (E0 E) (tCons (tVar 0) tNil)) (gName 1)))
    (h2 : ∀ (p cl : Addr) (A : Around) (outer : List PySem.Env) (s0 : Shared) (H : Hp) (E : XK), Room k (A.deeper (PyProof.Rows.envOfC qual (defScope st) s0.heap.objs.size f cdv)) →
      SSs (cxOf (L2.CX P w) P w K mg base N qual (defScope st) f cdv A outer s0 H E) (mkG P w K cls flds p cl tb) (fun cls dx _ H' => E cls dx H') ⟨fun _ => False, fun _ => False⟩ rest s)
    (hall : (s (envL N.length)).wp (fun o => o = .ret (.bl true)) (fun _ _ => False)) :
    FnOk P w K mg base (L2.CX P w) (k + 1) f fd [p0] (spLaw K tb) := by
  obtain ⟨oc, od, kV, doc, pm, an, ct, osl, e1, lk, hcd⟩ := F.ex
  subst e1
  refine fn_of lk hcd S (fun vs H Q E h => ?_) fun A outer s0 H vs Q E hr h => ?_
  · obtain ⟨a, ns, rfl, _⟩ := h
    rfl
  · obtain ⟨a, ns, rfl, sq, hl, tbs, q⟩ := h
    rw [hb]
    refine ⟨_, pss_cons (h1 A outer s0 H E hr) (u := fun Dn σ H' => ∃ p cl, tSS (cxOf (L2.CX P w) P w K mg base N qual (defScope st) f cdv A outer s0 H E) (mkG P w K cls flds p cl tb) (fun cls dx _ H' => E cls dx H') ⟨fun _ => False, fun _ => False⟩ s Dn σ H')
      ⟨fun pins s' σ H' D I ⟨p, cl, z⟩ => (h2 p cl A outer s0 H E hr).run pins s' σ H' D I z⟩, ?_⟩
    show tAsg _ _ _ _ _
    refine ⟨.ref a, by rfl, ?_⟩
    have key : ∀ (Q' : VK) (E' : XK), (∀ p cl H', DkJ p cl tb H' → (∀ b o, notT o → H b = some o → H' b = some o) → Q' (.ref p) H') → spDeck K tb [.ref a] H Q' E' := fun Q' E' z => ⟨a, ns, rfl, sq, hl, tbs, z⟩
    refine (show tNil (L2.start N [.ref a]) H _ from ?_)
    unfold tNil
    refine key _ _ fun p cl H' j ex => ?_
    refine ⟨p, cl, envL N.length, dkM p cl tb, ⟨⟨j, fun _ m => m, ⟨fun b m => (mkG P w K cls flds p cl tb).has H' b j m, fun b o m n => absurd m n⟩, ?_, fun i sl v e1 e2 => ?_, fun i k l v e1 _ _ _ => ?_⟩, ⟨fun b o _ _ nt e => ex b o nt e, fun _ => j⟩, fun _ z => z.elim, fun _ z => z.elim, fun _ z => z.elim, fun k l b e1 _ => ?_⟩, T.wp_mono hall (fun o ho => ?_) fun _ _ z => z⟩
    · show (envL N.length).length = ((L2.start N [.ref a]).set 1 (some (.ref p))).length
      rw [List.length_set]
      unfold envL L2.start
      simp
      omega
    · rcases envL_at e1 with ⟨rfl, rfl⟩ | rfl
      · have e3 : ((L2.start N [.ref a]).set 1 (some (.ref p)))[1]? = some v := e2
        have hlt : 1 < (L2.start N [.ref a]).length := by
          unfold L2.start
          simp
          omega
        rw [List.getElem?_set_self hlt] at e3
        exact ⟨.ref p, (Option.some.inj e3).symm, .deck⟩
      · trivial
    · rcases envL_at e1 with ⟨_, z⟩ | z <;> cases z
    · rcases envL_at e1 with ⟨_, z⟩ | z <;> cases z
    · rw [ho]
      intro v H'' _ _ a1
      have a2 : At (mkG P w K cls flds p cl tb) (hide (fun _ => False) H'') (.bl true) v := a1
      cases a2
      exact q H''
end
end Py
set_option Elab.async false
set_option linter.all false
set_option maxRecDepth 100000
set_option maxHeartbeats 4000000
namespace Py
open PySem PySem.Spec PyProof.Rows L2
/-! ### own lists made by comprehensions -/
def oComp (it : Env → T (List D)) (b : Tg) (c : Env → T Bool) (e : Env → T D) (own : List Nat) : Env → T Ow := fun ρ => it ρ >>= fun ds => few ds (compL b c e (wipeE ρ own) ds >>= fun l => .ret (.lst l))
section
variable {X : Cx} {G : Gl} {W : WX} {hs : Hid}
theorem lc_own {it : Env → T (List D)} {g : TG} {b : Tg} {c : Env → T Bool} {e : Env → T D} {own : List (Str × Nat)} {W : WX} (ht : Tgt G g b (own.map (·.2))) {σ : L2.St} {H : Hp} {Q : VK} (q : tNE G W (oComp it b c e (own.map (·.2))) σ H Q) : tLc (tEI G W it) g (tET G W0 c) (tEE G W0 e) (own.map (·.2)) σ H Q := by
  obtain ⟨ρ, hd, R, q⟩ := q
  refine ⟨ρ, hd, R, T.wp_imp (wp_then q) fun ds q1 J H1 e1 hJ D0 hD => ?_⟩
  have q2 : ds.length ≤ 100000 ∧ (compL b c e (wipeE ρ (own.map (·.2))) ds >>= fun l => T.ret (Ow.lst l)).wp (fun o => ∀ p hd' H', NotObj o → Wider G hd H hd' H' → OwAt G hd' H' o p → newIn H p → Q (.ref p) H') (xE G W hd σ H) := wp_if q1
  obtain ⟨hlen, q2⟩ := q2
  have R1 := R.lead e1
  have nD : ¬ hd D0 := R1.fresh hD
  have nM : ¬ G.M D0 := fun m => nD (R.m D0 m)
  have x0 : Ex (hide hd H1) (hide (orIs hd D0) (upd H1 D0 (.lst []))) := fun a u z => by
    have zn := hide_nt z
    obtain ⟨n, z⟩ := hide_get z
    have np : a ≠ D0 := ne_of_none z hD
    exact hide_put (fun y => y.elim n np) (by rw [upd_ne np]; exact z) zn
  refine ⟨fun i m H' => m = ds.length - i ∧ i ≤ ds.length ∧ ∃ acc xs, H' D0 = some (.lst xs) ∧ Ats G (hide (orIs hd D0) H') acc xs ∧ xs.length ≤ i ∧ Rep G (orIs hd D0) (wipe σ (own.map (·.2))) (wipeE ρ (own.map (·.2))) H' ∧ Ex (hide hd H1) (hide (orIs hd D0) H') ∧ Lead G H1 H' ∧
    (compL b c e (wipeE ρ (own.map (·.2))) (ds.drop i)).wp (fun r => ∀ p hd' H', NotObj (.lst (acc ++ r)) → Wider G hd H hd' H' → OwAt G hd' H' (.lst (acc ++ r)) p → newIn H p → Q (.ref p) H') (fun _ _ => True),
    ⟨ds.length, rfl, Nat.zero_le _, [], [], upd_same, .nil, Nat.zero_le _, (R1.wipe _).more hD, x0, Lead.new hD, T.wp_mono (wp_then q2) (fun r z => z) fun _ _ _ => trivial⟩, ?_⟩
  rintro i m H2 ⟨rfl, hi2, acc, xs, hx, ha, hxl, R2, x2, L2', q3⟩
  obtain ⟨h1, h2⟩ := hJ i (orIs hd D0) H2 x2 R2.good
  by_cases hlt : i < ds.length
  · obtain ⟨go, yl⟩ := h1 hlt
    refine .inr ⟨go, fun H' => i + 1 ≤ ds.length ∧ ∃ acc xs, H' D0 = some (.lst xs) ∧ Ats G (hide (orIs hd D0) H') acc xs ∧ xs.length ≤ i + 1 ∧ Rep G (orIs hd D0) (wipe σ (own.map (·.2))) (wipeE ρ (own.map (·.2))) H' ∧ Ex (hide hd H1) (hide (orIs hd D0) H') ∧ Lead G H1 H' ∧
      (compL b c e (wipeE ρ (own.map (·.2))) (ds.drop (i + 1))).wp (fun r => ∀ p hd' H', NotObj (.lst (acc ++ r)) → Wider G hd H hd' H' → OwAt G hd' H' (.lst (acc ++ r)) p → newIn H p → Q (.ref p) H') (fun _ _ => True), fun H' z => ⟨ds.length - (i + 1), by omega, rfl, z.1, z.2⟩, fun x H3 y => ?_⟩
    obtain ⟨e3, d, hd3, ax⟩ := yl x H3 y
    have ed : ds.drop i = d :: ds.drop (i + 1) := by
      have z := List.getElem?_eq_some_iff.mp hd3
      rw [← z.2]
      exact List.drop_eq_getElem_cons hlt
    rw [ed] at q3
    obtain ⟨ρ3, eb, q3⟩ := wp_opt (wp_then q3)
    refine ht (orIs hd D0) _ _ ρ3 H3 x d _ (R2.lead e3) ax eb fun σ4 R4 w4 _ => ?_
    refine ⟨w4.trans (wipe_get (wipe_length _ _) fun k hk => wipe_out hk), ρ3, orIs hd D0, R4, T.wp_mono (noexc_wp (E' := fun _ _ => False) (wp_then q3)) (fun k q4 H4 e4 => ?_) fun _ _ z => z.elim⟩
    have x4 : Ex (hide (orIs hd D0) H2) (hide (orIs hd D0) H4) := (e3.trans e4).hide R2.m
    have hx4 : H4 D0 = some (.lst xs) := (e3.trans e4).ex D0 _ nM (fun _ z => nomatch z) hx
    cases k with
    | true =>
      rw [if_pos rfl] at q4
      refine L2.iteT ?_
      refine ⟨ρ3, orIs hd D0, R4.lead e4, T.wp_mono (noexc_wp (E' := fun _ _ => False) (wp_then q4)) (fun dv q5 v H5 e5 av => ?_) fun _ _ z => z.elim⟩
      have x5 : Ex (hide (orIs hd D0) H2) (hide (orIs hd D0) H5) := x4.trans (e5.hide R2.m)
      have hx5 : H5 D0 = some (.lst xs) := e5.ex D0 _ nM (fun _ z => nomatch z) hx4
      have R5 : Rep G (orIs hd D0) (wipe σ (own.map (·.2))) (wipeE ρ (own.map (·.2))) H5 := R2.lead ((e3.trans e4).trans e5)
      refine ⟨xs, hx5, Nat.lt_of_le_of_lt hxl (Nat.lt_of_lt_of_le (Nat.lt_of_lt_of_le hlt hlen) (by decide)), by omega, acc ++ [dv], xs ++ [v], upd_same, ?_, by rw [List.length_append, List.length_singleton]; omega, ?_, ?_, ?_, ?_⟩
      · have y5 : Ex (hide (orIs hd D0) H5) (hide (orIs hd D0) (upd H5 D0 (.lst (xs ++ [v])))) := fun a u z => by
          have zn := hide_nt z
          obtain ⟨n, z⟩ := hide_get z
          exact hide_put n (by rw [upd_ne (fun y => n (.inr y))]; exact z) zn
        exact ((ha.mono x5).mono y5).append (.cons (av.mono y5) .nil)
      · refine R5.poke (.inr rfl) nM fun k l u h6 h7 h8 => ?_
        rcases wipeE_own h6 with ⟨z, _⟩ | ⟨z, n⟩
        · cases z
        · have h9 : σ[k]? = some u := by
            rw [wipe_out n] at h7
            exact h7
          obtain ⟨a, e6, e7, _, ys, e8, _⟩ := R1.at_ k (.own l) u z h9
          rw [h8] at e6
          cases e6
          rw [hD] at e8
          cases e8
      · refine (x2.trans x5).trans fun a u z => ?_
        have zn := hide_nt z
        obtain ⟨n, z⟩ := hide_get z
        exact hide_put n (by rw [upd_ne (fun y => n (.inr y))]; exact z) zn
      · have L5 : Lead G H1 H5 := L2'.trans ((e3.trans e4).trans e5)
        refine ⟨fun a o nm t z => ?_, fun j => G.stays H5 _ (L5.j j) (fun a m => upd_ne fun z => nM (by rw [← z]; exact m)) fun a φ ψ e => by
          rw [upd_ne fun z => by rw [z, hx5] at e; cases e]
          exact e⟩
        rw [upd_ne (ne_of_none z hD)]
        exact L5.ex a o nm t z
      · refine T.wp_imp (wp_then q5) fun r z => ?_
        have ea : acc ++ dv :: r = acc ++ [dv] ++ r := by
          rw [List.append_assoc]
          rfl
        rw [← ea]
        exact z
    | false =>
      rw [if_neg Bool.false_ne_true] at q4
      refine L2.iteF ?_
      exact ⟨by omega, acc, xs, hx4, ha.mono x4, by omega, R2.lead (e3.trans e4), x2.trans x4, L2'.trans (e3.trans e4), q4⟩
  · refine .inl ⟨h2 (by omega), ?_⟩
    rw [List.drop_eq_nil_of_le (by omega)] at q3
    have q3 : ∀ (p : Addr) (hd' : Addr → Prop) (H' : Hp), NotObj (.lst (acc ++ [])) → Wider G hd H hd' H' → OwAt G hd' H' (.lst (acc ++ [])) p → newIn H p → Q (.ref p) H' := q3
    rw [List.append_nil] at q3
    refine q3 D0 (orIs hd D0) H2 (fun _ _ _ z => nomatch z) ⟨e1.trans L2', R2.good, fun _ z => .inl z, (e1.hide R.m).trans x2⟩ ⟨.inr rfl, nM, _, hx, xs, rfl, ha⟩ (newIn.back (hd := hd) e1 nM fun o z _ => ?_)
    rw [hD] at z
    cases z
theorem ne_comp {elt tg iter : Expr} {ifs : List Expr} {scope : Scope} {own : List (Str × Nat)} {pos : Pos} {it : Env → T (List D)} {g : TG} {b : Tg} {c : Env → T Bool} {e : Env → T D} (hc : X.calm = true) (hN : X.N.Nodup) (hi : EI X G W tg iter it) (ok : BlkOk X.N X.env.scope scope own) (ht : Tgt G g b (own.map (·.2)))
    (hg : ∀ (s : Shared) (H : Hp) (C : Addr) (cl : List (Str × Addr)) (fp : List Addr), PG (X.blk s H scope (compEnvC scope cl C X.env) fp) tg g)
    (hifs : ∀ (s : Shared) (H : Hp) (C : Addr) (cl : List (Str × Addr)) (fp : List Addr), PTs0 (X.blk s H scope (compEnvC scope cl C X.env) fp) G ifs c)
    (he : ∀ (s : Shared) (H : Hp) (C : Addr) (cl : List (Str × Addr)) (fp : List Addr), EE (X.blk s H scope (compEnvC scope cl C X.env) fp) G W0 elt e) (hs : ∀ x, foldedSetIterable iter X.env x = pure x := by intro _; rfl) :
    NE X G W (.ListComp elt [⟨tg, iter, ifs, 0⟩] scope pos) (oComp it b c e (own.map (·.2))) := by
  exact PE_imp (pe_lc hc hN hi ok hg hifs he hs) fun σ H Q q => lc_own ht q
/-- name = [.. for ..] on one line, the name a plain local, the list one's own -/
theorem ss_newLc {i : Nat} {y : Str} {py : Pos} {elt tg iter : Expr} {ifs : List Expr} {scope : Scope} {own : List (Str × Nat)} {pos spos : Pos} {it : Env → T (List D)} {g : TG} {b : Tg} {c : Env → T Bool} {e : Env → T D} (hc : X.calm = true) (hN : X.N.Nodup) (hy : X.N[i]? = some y) (hyl : X.env.scope.names.lookup y = some .local)
    (hi : EI X G W tg iter it) (ok : BlkOk X.N X.env.scope scope own) (ht : Tgt G g b (own.map (·.2)))
    (hg : ∀ (s : Shared) (H : Hp) (C : Addr) (cl : List (Str × Addr)) (fp : List Addr), PG (X.blk s H scope (compEnvC scope cl C X.env) fp) tg g)
    (hifs : ∀ (s : Shared) (H : Hp) (C : Addr) (cl : List (Str × Addr)) (fp : List Addr), PTs0 (X.blk s H scope (compEnvC scope cl C X.env) fp) G ifs c)
    (he : ∀ (s : Shared) (H : Hp) (C : Addr) (cl : List (Str × Addr)) (fp : List Addr), EE (X.blk s H scope (compEnvC scope cl C X.env) fp) G W0 elt e)
    (hsw : swapsWith (.ListComp elt [⟨tg, iter, ifs, 0⟩] scope pos) (some (.Name y py)) spos.line X.env = pure true := by rfl) (hs' : ∀ x, foldedSetIterable iter X.env x = pure x := by intro _; rfl) :
    SS X G W hs (.Assign [.Name y py] (.ListComp elt [⟨tg, iter, ifs, 0⟩] scope pos) spos) (sNew1 i (oComp it b c e (own.map (·.2)))) := by
  refine PS_imp (ps_setLc hc hN hy hyl hsw hi ok hg hifs he hs') fun Dn σ H q => ?_
  obtain ⟨ρ, hd, R, q⟩ := q
  refine lc_own ht ⟨ρ, hd, R.rep, T.wp_mono (bindS_then q) (fun o q1 p hd1 H1 no w h1 n1 => ?_) fun c l z => rz_of R z⟩
  have nM := h1.2.1
  have it : Items G H hd1 H1 [.own o] [.ref p] [p] := .own h1 no n1 (by simp) .nil
  have fin := set_all (X := X) (hs := hs) (is := [i]) (σ := σ) (ρ := ρ) (Q := Dn.nx) it rfl (R.wide w) (fun a ha => R.newIn_of (it.fresh a ha).1 (it.fresh a ha).2) (fun a ha k s v e1 e2 e3 e4 => ?_) fun σ' R' => q1 hd1 σ' _ R' w.ex
  · obtain ⟨v, r, e1, e2⟩ := fin
    cases e1
    obtain ⟨_, e2⟩ := e2
    exact e2
  · cases s with
    | own o2 =>
      obtain ⟨b, e5, e6⟩ := R.rep.at_ k _ v e1 e3
      rw [e4] at e5
      cases e5
      obtain ⟨_, _, u, e7, r⟩ := e6
      exact (it.fresh a ha).1 u e7 r.nt
    | _ => cases e2
end
end Py
set_option Elab.async false
set_option linter.all false
set_option maxRecDepth 100000
set_option maxHeartbeats 4000000
namespace Py
namespace Hk
open PySem PySem.Spec PyProof.Rows L2
/-! ### a head's hook: what the facts of a law are read from -/
/-- the law's code object -/
def lawC (K : PySem.W.Frag) : Addr := match K.lookup (He.ga K "law") with
  | some ⟨_, _, .func fd, _⟩ => (match fd.code with
    | .ref c => c
    | _ => 0)
  | _ => 0
/-- its table of the code objects within -/
def lawT (K : PySem.W.Frag) : Addr := match K.lookup (lawC K) with
  | some ⟨_, _, .fields vs, _⟩ => (match vs.getD 11 .none with
    | .ref P => P
    | _ => 0)
  | _ => 0
def tblB (o : Option Obj) : Bool := match o with
  | some ⟨.none, none, .fields vs, sl⟩ => decide (vs.size = 0) && decide (sl.size = 0)
  | _ => false
theorem tblB_ok {o : Option Obj} (h : tblB o = true) : o = some { cls := .none, data := .fields #[] } := by
  unfold tblB at h
  split at h
  · rename_i vs sl
    obtain ⟨h1, h2⟩ := Bool.and_eq_true_iff.mp h
    have e1 : vs = #[] := Array.eq_empty_of_size_eq_zero (of_decide_eq_true h1)
    have e2 : sl = #[] := Array.eq_empty_of_size_eq_zero (of_decide_eq_true h2)
    rw [e1, e2]
  · cases h
def headB (K : PySem.W.Frag) (c P : Addr) : Bool := match K.lookup c with
  | some ⟨.type t, _, .fields vs, _⟩ => decide (t = "code") && (decide (vs[11]? = some (.ref P)) && (decide (c ≠ P) && (match vs.getD 18 .none, vs.getD 7 .none, vs.getD 9 .none, vs.getD 10 .none with
    | .str _ _, .int _ _, .bool _, .int _ _ => true
    | _, _, _, _ => false)))
  | _ => false
theorem headB_ok {K : PySem.W.Frag} {h : Heap} {c P : Addr} (X : K.In h) (q : headB K c P = true) : PySem.W.CodeHd h c P := by
  unfold headB at q
  split at q
  · rename_i t d vs sl e
    obtain ⟨h1, q⟩ := Bool.and_eq_true_iff.mp q
    obtain ⟨h2, q⟩ := Bool.and_eq_true_iff.mp q
    obtain ⟨h3, q⟩ := Bool.and_eq_true_iff.mp q
    have e2 := of_decide_eq_true h2
    split at q
    · rename_i f1 f2 f3 f4 f5 f6 f7 g1 g2 g3 g4
      refine ⟨_, vs, _, _, _, _, _, _, _, X _ _ e, by rw [of_decide_eq_true h1], rfl, e2, ?_, g1, g2, g3, g4, of_decide_eq_true h3⟩
      rw [Array.getD_eq_getD_getElem?, e2]
      rfl
    · cases q
  · cases q
theorem frG_out {g : Addr → Option Obj} {P : Addr} : ∀ as : List Addr, (He.frG g (as.filter fun a => a != P)).lookup P = none
  | [] => rfl
  | a :: as => by
    by_cases h : a = P
    · have e : (a :: as).filter (fun a => a != P) = as.filter fun a => a != P := by
        rw [List.filter_cons, h]
        simp
      rw [e]
      exact frG_out as
    · have e : (a :: as).filter (fun a => a != P) = a :: as.filter fun a => a != P := by
        rw [List.filter_cons]
        simp [h]
      rw [e]
      unfold He.frG
      rw [List.filterMap_cons]
      cases q : g a with
      | none => exact frG_out as
      | some o =>
        show (match P == a with | true => some o | false => (He.frG g (as.filter fun a => a != P)).lookup P) = none
        have e2 : (P == a) = false := by
          simp
          exact fun z => h z.symm
        rw [e2]
        exact frG_out as
/-- what is seen of a written part: the checks, the defs -/
def obsK (ck : List (PySem.W.Frag → Bool)) (fn : List He.DefD) (K : PySem.W.Frag) (P : Addr) : He.AlD :=
  (headB K (lawC K) P && ((ck.all fun f => f K) && fn.all fun d => d.ok K), fn.map fun d => He.fnW K d.at_)
def obsT (ck : List (PySem.W.Frag → Bool)) (fn : List He.DefD) (g : Addr → Option Obj) (as : List Addr) (P : Addr) : Bool × He.AlD :=
  (tblB (g P), obsK ck fn (He.frG g (as.filter fun a => a != P)) P)
def obsG (n : Nat) (ck : List (PySem.W.Frag → Bool)) (fn : List He.DefD) (g : Addr → Option Obj) : Bool × He.AlD := obsT ck fn g (He.asD g n) (lawT (He.frG g (He.asD g n)))
/-- what the end leans on -/
def Says (ck : List (PySem.W.Frag → Bool)) (fn : List He.DefD) (h : Heap) : Prop :=
  ∃ (K : PySem.W.Frag) (P : Addr), K.In h ∧ K.lookup P = none ∧ h.get? P = some { cls := .none, data := .fields #[] } ∧ obsK ck fn K P = He.valD fn
def hook (n : Nat) (ck : List (PySem.W.Frag → Bool)) (fn : List He.DefD) : PySem.W.Hook where
  α := Bool × He.AlD
  obs := fun s => obsG n ck fn s.heap.get?
  val := fun _ => (true, He.valD fn)
  says := fun _ h => Says ck fn h
  of := fun _ s e => by
    have e1 : (tblB (s.heap.get? _), obsK ck fn _ _) = (true, He.valD fn) := e
    exact ⟨_, lawT (He.frG s.heap.get? (He.asD s.heap.get? n)), He.frG_in, frG_out _, tblB_ok (congrArg Prod.fst e1), congrArg Prod.snd e1⟩
  keeps := fun _ _ _ ⟨K, P, h1, h2, h3, h4⟩ k => ⟨K, P, PySem.W.Frag.In.keeps h1 k, h2, k _ _ h3, h4⟩
theorem obs_eq {n : Nat} {ck : List (PySem.W.Frag → Bool)} {fn : List He.DefD} {g : Addr → Option Obj} {s : Shared} (h : ∀ a, g a = s.heap.get? a) : obsG n ck fn g = (hook n ck fn).obs s := by
  have e : g = s.heap.get? := funext h
  rw [e] <;> rfl
section
variable {ck : List (PySem.W.Frag → Bool)} {fn : List He.DefD} {K : PySem.W.Frag} {P : Addr}
theorem head (c : obsK ck fn K P = He.valD fn) : headB K (lawC K) P = true := (Bool.and_eq_true_iff.mp (congrArg (fun z : He.AlD => z.1) c)).1
theorem fact (c : obsK ck fn K P = He.valD fn) (i : Nat) {f : PySem.W.Frag → Bool} (h : ck[i]? = some f := by rfl) : f K = true :=
  List.all_eq_true.mp (Bool.and_eq_true_iff.mp (Bool.and_eq_true_iff.mp (congrArg (fun z : He.AlD => z.1) c)).2).1 f (List.mem_of_getElem? h)
theorem def_ (c : obsK ck fn K P = He.valD fn) (i : Nat) {d : He.DefD} (h : fn[i]? = some d := by rfl) : ∃ fd, FunD K d.name d.qual d.params d.body d.scope (d.dvs K) (d.kws K) (He.fAd K d.at_) fd := by
  have c2 := (Bool.and_eq_true_iff.mp (Bool.and_eq_true_iff.mp (congrArg (fun z : He.AlD => z.1) c)).2).2
  have e : fn.map (fun d => He.fnW K d.at_) = fn.map He.DefD.val := congrArg (fun z : He.AlD => z.2) c
  have e2 : (fn.map fun d => He.fnW K d.at_)[i]? = (fn.map He.DefD.val)[i]? := by rw [e]
  rw [List.getElem?_map, List.getElem?_map, h] at e2
  exact He.DefD.funD (Option.some.inj e2) (List.all_eq_true.mp c2 d (List.mem_of_getElem? h))
end
end Hk
end Py
set_option Elab.async false
set_option linter.all false
set_option maxRecDepth 100000
set_option maxHeartbeats 4000000
namespace Py
namespace Hk
open PySem PySem.Spec PyProof.Rows L2
section
variable {K : PySem.W.Frag} {h : Heap} {mg : Str → Option Value} {x q : Str} {st : Stmt} {ps : List Str} {kws : List (Str × V)} {f : Addr} {fd : FuncData}
theorem fun_of (F : FunD K x q (defArgs st) (defBody st) (defScope st) [] kws f fd) : Fun K x q st f fd := by
  obtain ⟨oc, od, dV, kV, doc, pm, an, cdv, ct, osl, e1, e2, e3, hD, hK⟩ := F.ex
  rcases hD with ⟨_, rfl⟩ | ⟨e, _⟩
  · exact ⟨⟨oc, od, kV, doc, pm, an, cdv, ct, osl, e1, e2, e3⟩, F.kp⟩
  · exact absurd rfl e
abbrev gloB (x : Str) (K : PySem.W.Frag) : Bool := (He.Fa.glo x).ok K
abbrev freeB (x : Str) (K : PySem.W.Frag) : Bool := (He.Fa.free x).ok K
abbrev intB (x : Str) (i : Int) (K : PySem.W.Frag) : Bool := (He.Fa.int x i).ok K
theorem dn_ok (X : K.In h) (G : h.Ns mainGlobals mg) (F : ∃ fd, FunD K x x (defArgs st) (defBody st) (defScope st) [] kws (He.ga K x) fd) (g : gloB x K = true)
    (b : ∀ (kV doc pm : Value) (an : Option Addr) (cdv ct : Value) (us : List Value), us.length = ps.length → bindArgs (PySem.W.fnOf x x (defArgs st) (defBody st) (defScope st) .none kV doc pm an cdv ct) ⟨us, []⟩ = pure (ps.zip us)) : ∃ f fd, Dn K mg x st ps f fd := by
  obtain ⟨fd, F⟩ := F
  exact ⟨_, fd, fun_of F, F.bindsN b, He.glo_ok X G g, F.kp⟩
theorem dnk_ok (X : K.In h) (G : h.Ns mainGlobals mg) (F : ∃ fd, FunD K x x (defArgs st) (defBody st) (defScope st) [] kws (He.ga K x) fd) (g : gloB x K = true) : ∃ f fd, Dnk K mg x st ps f fd := by
  obtain ⟨fd, F⟩ := F
  exact ⟨_, fd, fun_of F, He.glo_ok X G g, F.kp⟩
/-- a method m of the class x -/
def mnB (x m : Str) (K : PySem.W.Frag) : Bool := He.eqO (PySem.W.findIn K (.ref (He.ga K x)) m) (some (some (.ref (He.ma K (He.ga K x) m)))) && PySem.W.isFn K (.ref (He.ma K (He.ga K x) m))
theorem mn_ok {m : Str} (F : ∃ fd, FunD K m q (defArgs st) (defBody st) (defScope st) [] kws (He.ma K (He.ga K x) m) fd) (g : mnB x m K = true)
    (b : ∀ (kV doc pm : Value) (an : Option Addr) (cdv ct : Value) (us : List Value), us.length = ps.length → bindArgs (PySem.W.fnOf m q (defArgs st) (defBody st) (defScope st) .none kV doc pm an cdv ct) ⟨us, []⟩ = pure (ps.zip us)) : ∃ f fd, Mn K m q st ps (He.ga K x) f fd := by
  obtain ⟨fd, F⟩ := F
  obtain ⟨g1, g2⟩ := Bool.and_eq_true_iff.mp g
  exact ⟨_, fd, fun_of F, F.bindsN b, He.eqO_ok g1, g2⟩
/-- an own class whose instances are data -/
def ownB (C : Addr) (K : PySem.W.Frag) : Bool := PySem.W.plainGet K C Str.empty && (PySem.W.hasDictIn K C && (PySem.W.plainOver K C && (He.eqO (PySem.W.findIn K (.ref C) "__setattr__") (some (some (.builtin "object.__setattr__"))) &&
  (He.eqO (PySem.W.findIn K (.ref C) "__class__") (some (some (.builtin "object.__class__"))) && (He.eqO (PySem.W.specialIn K (.builtin "object.__class__") "__get__") (some (some (.builtin "getset_descriptor.__get__"))) &&
  (decide (PySem.W.takesIn K (.builtin "object.__class__") = some true) && decide (PySem.W.mroIn K C (.type "object") = some true)))))))
theorem own_ok {C : Addr} (c : ownB C K = true) : OwnC K C := by
  obtain ⟨c1, c⟩ := Bool.and_eq_true_iff.mp c
  obtain ⟨c2, c⟩ := Bool.and_eq_true_iff.mp c
  obtain ⟨c3, c⟩ := Bool.and_eq_true_iff.mp c
  obtain ⟨c4, c⟩ := Bool.and_eq_true_iff.mp c
  obtain ⟨c5, c⟩ := Bool.and_eq_true_iff.mp c
  obtain ⟨c6, c⟩ := Bool.and_eq_true_iff.mp c
  obtain ⟨c7, c8⟩ := Bool.and_eq_true_iff.mp c
  exact ⟨⟨c1, c2, c3, He.eqO_ok c4⟩, He.eqO_ok c5, He.eqO_ok c6, of_decide_eq_true c7, of_decide_eq_true c8⟩
/-- a class whose instances are made, its fields fs -/
def cnB (x : Str) (fs : List Str) (K : PySem.W.Frag) : Bool := ownB (He.ga K x) K && ((fs.all fun f => He.eqO (PySem.W.findIn K (.ref (He.ga K x)) f) (some none)) && (gloB x K && (PySem.W.makesIn K (He.ga K x) && PySem.W.keepIn K (.ref (He.ga K x)))))
theorem cn_ok {fs fl : List Str} (X : K.In h) (G : h.Ns mainGlobals mg) (e : fl = fs) (c : cnB x fs K = true) : Cn K mg (He.ga K x) fl x fs := by
  obtain ⟨c1, c⟩ := Bool.and_eq_true_iff.mp c
  obtain ⟨c2, c⟩ := Bool.and_eq_true_iff.mp c
  obtain ⟨c3, c⟩ := Bool.and_eq_true_iff.mp c
  obtain ⟨c4, c5⟩ := Bool.and_eq_true_iff.mp c
  exact ⟨own_ok c1, e, fun f hf => He.eqO_ok (List.all_eq_true.mp c2 f hf), He.glo_ok X G c3, c4, c5⟩
/-- an error class over another one of one's own, over Exception -/
def clsB (C : Addr) (K : PySem.W.Frag) : Bool := match K.lookup C with
  | some ⟨.type "type", _, .cls cd, sl⟩ => (match cd.mro, sl.toList with
    | .ref C' :: .ref D :: tl, [_, _, _, _, some (.builtin n), _] => decide (C' = C) && (decide (n = "Exception.__new__") && (!cd.hasDel && (cd.hasDict && decide (tl = PySem.ESX.exTail))))
    | _, _ => false)
  | _ => false
theorem cls_ok {C : Addr} (c : clsB C K = true) : ∃ nm q N bs D sn sub ab col dd k0 k1 k2 k3 k5, K.lookup C = some (excClassObj nm q C N bs (Er.up D) true sn sub ab col dd k0 k1 k2 k3 k5 "Exception.__new__") := by
  unfold clsB at c
  split at c
  · rename_i dd cd sl ho
    split at c
    · rename_i C' D tl k0 k1 k2 k3 n k5 hm hs
      simp only [Bool.and_eq_true, decide_eq_true_eq, Bool.not_eq_true'] at c
      obtain ⟨rfl, rfl, hdel, hdict, rfl⟩ := c
      obtain ⟨nm, bs, mro, ns, qn, hd, sn, sub, ab, col, del⟩ := cd
      dsimp only at hm hdel hdict
      subst hm hdel hdict
      have hsl : sl = #[k0, k1, k2, k3, some (.builtin "Exception.__new__"), k5] := by
        obtain ⟨l⟩ := sl
        simp only at hs
        rw [hs]
      subst hsl
      exact ⟨nm, qn, ns, bs, D, sn, sub, ab, col, dd, k0, k1, k2, k3, k5, ho⟩
    · cases c
  · cases c
def kwNoB (f : Addr) (K : PySem.W.Frag) : Bool := match K.lookup f with
  | some ⟨_, _, .func fd, _⟩ => (match fd.kwdefaults with
    | .none => true
    | _ => false)
  | _ => false
end
end Hk
end Py
set_option Elab.async false
set_option linter.all false
set_option maxRecDepth 100000
set_option maxHeartbeats 4000000
namespace Py
namespace Hk
open PySem PySem.Spec PyProof.Rows L2
section
variable {K : PySem.W.Frag} {h : Heap} {mg : Str → Option Value} {x q : Str} {st : Stmt} {ps : List Str} {kws : List (Str × V)} {f : Addr} {fd : FuncData}
/-- an error class x with one parameter p -/
def txtB (x p : Str) (K : PySem.W.Frag) : Bool := gloB x K && (clsB (He.ga K x) K && (He.eqO (PySem.W.findIn K (.ref (He.ga K x)) "__setattr__") (some (some (.builtin "object.__setattr__"))) && (He.eqO (PySem.W.findIn K (.ref (He.ga K x)) p) (some none) &&
  (He.eqO (PySem.W.findIn K (.ref (He.ga K x)) "__init__") (some (some (.ref (He.ma K (He.ga K x) "__init__")))) && (decide (PySem.W.typeIn K (.ref (He.ma K (He.ga K x) "__init__")) = some (.type "function")) && (PySem.W.keepIn K (.ref (He.ga K x)) &&
  (decide (PySem.W.subIn K (.ref (He.ga K x)) (.type "BaseException") = some true) && (decide (PySem.W.typeIn K (.ref (He.ga K x)) = some (.type "type")) && kwNoB (He.ma K (He.ga K x) "__init__") K))))))))
theorem en_ok {p : Str} {A : Arguments} {B : List Stmt} {S : Scope} {fl : List Str} {p1 p2 q1 q2 q3 q4 : Pos} (X : K.In h) (G : h.Ns mainGlobals mg) (F : ∃ fd, FunD K "__init__" q A B S [] [] (He.ma K (He.ga K x) "__init__") fd) (c : txtB x p K = true)
    (e : fl = [p]) (hA : A = Er.iA p p1 p2) (hB : B = Er.iB p q1 q2 q3 q4) (hS : S = Er.iS p) (nf : (p == ("__debug__" : Str)) = false ∧ p ≠ "self")
    (bd : ∀ (qn : Str) (p1 p2 q1 q2 q3 q4 : Pos) (doc pm cdv ct : Value) (an : Option Addr) (a b : Value), bindArgs (PySem.W.fnOf "__init__" qn (Er.iA p p1 p2) (Er.iB p q1 q2 q3 q4) (Er.iS p) .none .none doc pm an cdv ct) ⟨[a, b], []⟩ = pure [(PySem.Str.ofString "self", a), (p, b)]) : En K mg (He.ga K x) fl x p := by
  obtain ⟨c1, c⟩ := Bool.and_eq_true_iff.mp c
  obtain ⟨c2, c⟩ := Bool.and_eq_true_iff.mp c
  obtain ⟨c3, c⟩ := Bool.and_eq_true_iff.mp c
  obtain ⟨c4, c⟩ := Bool.and_eq_true_iff.mp c
  obtain ⟨c5, c⟩ := Bool.and_eq_true_iff.mp c
  obtain ⟨c6, c⟩ := Bool.and_eq_true_iff.mp c
  obtain ⟨c7, c⟩ := Bool.and_eq_true_iff.mp c
  obtain ⟨c8, c⟩ := Bool.and_eq_true_iff.mp c
  obtain ⟨c9, c10⟩ := Bool.and_eq_true_iff.mp c
  subst hA hB hS
  obtain ⟨fd, F⟩ := F
  obtain ⟨oc, od, dV, kV, doc, pm, an, cdv, ct, osl, e1, e2, e3, hD, hK⟩ := F.ex
  subst e1
  rcases hD with ⟨_, rfl⟩ | ⟨z, _⟩
  · have k0 : kV = .none := by
      unfold kwNoB at c10
      rw [e2] at c10
      cases kV <;> first | rfl | cases c10
    subst k0
    exact ⟨e, _, He.glo_ok X G c1, cls_ok c2, He.eqO_ok c3, He.eqO_ok c4, He.eqO_ok c5, of_decide_eq_true c6, c7, of_decide_eq_true c8, of_decide_eq_true c9, nf, bd, q, oc, od, doc, pm, an, cdv, ct, osl, p1, p2, q1, q2, q3, q4, e2, e3⟩
  · exact absurd rfl z
def askedB (D : Addr) (K : PySem.W.Frag) : Bool := He.eqO (PySem.W.findIn K (.ref D) "__getattribute__") (some (some (.builtin "BaseException.__getattribute__"))) && (He.eqO (PySem.W.findIn K (.ref D) "__getattr__") (some none) && (decide (PySem.W.subIn K (.ref D) (.type "BaseException") = some true) && (PySem.W.hasDictIn K D &&
  (He.eqO (PySem.W.findIn K (.ref D) "__class__") (some (some (.builtin "object.__class__"))) && (He.eqO (PySem.W.specialIn K (.builtin "object.__class__") "__get__") (some (some (.builtin "getset_descriptor.__get__"))) && (decide (PySem.W.takesIn K (.builtin "object.__class__") = some true) && decide (PySem.W.mroIn K D (.type "object") = some true)))))))
theorem asked_ok {D : Addr} (c : askedB D K = true) : Er.Asked K D := by
  obtain ⟨c1, c⟩ := Bool.and_eq_true_iff.mp c
  obtain ⟨c2, c⟩ := Bool.and_eq_true_iff.mp c
  obtain ⟨c3, c⟩ := Bool.and_eq_true_iff.mp c
  obtain ⟨c4, c⟩ := Bool.and_eq_true_iff.mp c
  obtain ⟨c5, c⟩ := Bool.and_eq_true_iff.mp c
  obtain ⟨c6, c⟩ := Bool.and_eq_true_iff.mp c
  obtain ⟨c7, c8⟩ := Bool.and_eq_true_iff.mp c
  exact ⟨He.eqO_ok c1, He.eqO_ok c2, of_decide_eq_true c3, c4, He.eqO_ok c5, He.eqO_ok c6, of_decide_eq_true c7, of_decide_eq_true c8⟩
/-- the classes by number -/
def clsK (names : List Str) (K : PySem.W.Frag) : Nat → Addr := fun k => He.ga K (names.getD k "")
def fldsK (fl : List (List Str)) : Nat → List Str := fun k => fl.getD k []
def xnB (names : List Str) (base : Nat) (es : List Nat) (K : PySem.W.Frag) : Bool := gloB (names.getD base "") K && (es.all (fun k => askedB (clsK names K k) K) &&
  es.all fun k => (base :: es).all fun n => decide (PySem.W.exmOne K (.ref (clsK names K k)) (.ref (clsK names K n)) = some (k == n || n == base)) && decide (PySem.W.kitOne K (.ref (clsK names K k)) (.ref (clsK names K n)) = some (k == n || n == base)))
theorem xn_ok {names : List Str} {base : Nat} {es : List Nat} {flds : Nat → List Str} (X : K.In h) (G : h.Ns mainGlobals mg) (c : xnB names base es K = true) (hf : ∀ k, k ∈ es → flds k ≠ []) : Xn K mg (clsK names K) flds base (names.getD base "") es := by
  obtain ⟨c1, c⟩ := Bool.and_eq_true_iff.mp c
  obtain ⟨c2, c3⟩ := Bool.and_eq_true_iff.mp c
  refine ⟨He.glo_ok X G c1, fun k hk => asked_ok (List.all_eq_true.mp c2 k hk), hf, fun n k b hb => ?_, fun n k b hb => ?_⟩
  · obtain ⟨h1, h2, rfl⟩ := exM_ok hb
    exact of_decide_eq_true (Bool.and_eq_true_iff.mp (List.all_eq_true.mp (List.all_eq_true.mp c3 k h1) n h2)).1
  · obtain ⟨h1, h2, rfl⟩ := exM_ok hb
    exact of_decide_eq_true (Bool.and_eq_true_iff.mp (List.all_eq_true.mp (List.all_eq_true.mp c3 k h1) n h2)).2
/-! ### calls by keywords -/
theorem kd_ok {n : Nat} {ks : List Str} {js : List Nat}
    (hb : ∀ (kV doc pm : Value) (an : Option Addr) (cdv ct : Value) (us ws : List Value), us.length = n → ws.length = ks.length → bindArgs (PySem.W.fnOf x q (defArgs st) (defBody st) (defScope st) .none kV doc pm an cdv ct) ⟨us, ks.zip ws⟩ = pure (ps.zip (permL js (us ++ ws)))) : ∀ f fd, Fun K x q st f fd → KBd K fd ps n ks js := fun f fd F s us ws _ l1 l2 => by
  obtain ⟨oc, od, kV, doc, pm, an, cdv, ct, osl, rfl, _⟩ := F.ex
  exact .of_eq (hb kV doc pm an cdv ct us ws l1 l2)
/-- the keyword-only default y of the module's def x, an object -/
def kwAt (x y : Str) (K : PySem.W.Frag) : Addr := match K.lookup (He.ga K x) with
  | some ⟨_, _, .func fd, _⟩ => (match fd.kwdefaults with
    | .ref D => (match PySem.W.nsIn K D y with
      | some (some (.ref a)) => a
      | _ => 0)
    | _ => 0)
  | _ => 0
/-- the tuple without items -/
def nilB (a : Addr) (K : PySem.W.Frag) : Bool := match K.lookup a with
  | some ⟨.type c, _, .seq its _, _⟩ => decide (c = "tuple") && decide (its.size = 0)
  | _ => false
theorem nil_ok {a : Addr} (c : nilB a K = true) : ∀ H, SqT K H a [] := fun H => by
  unfold nilB at c
  split at c
  · rename_i c0 d its n sl e
    obtain ⟨c1, c2⟩ := Bool.and_eq_true_iff.mp c
    have e0 : its = #[] := Array.eq_empty_of_size_eq_zero (of_decide_eq_true c2)
    subst e0
    exact .inr ⟨_, #[], n, e, by rw [of_decide_eq_true c1], rfl, Nat.zero_le _, .nil⟩
  · cases c
def nilKwB (x y : Str) (K : PySem.W.Frag) : Bool := nilB (kwAt x y K) K
theorem nilKw_ok {x y : Str} (c : nilKwB x y K = true) : ∀ H, SqT K H (kwAt x y K) [] := nil_ok c
theorem kf_ok {n : Nat} {ks : List Str} {js : List Nat} {mk : List (Str × V)} {dm : List D} (X : K.In h) (G : h.Ns mainGlobals mg) (F : ∃ fd, FunD K x x (defArgs st) (defBody st) (defScope st) [] kws (He.ga K x) fd) (g : gloB x K = true) (hk : kws ≠ []) (hm : ∀ q ∈ mk, q ∈ kws) (hd : DfV K dm (mk.map (·.2)))
    (hb : ∀ (D : Addr) (doc pm : Value) (an : Option Addr) (cdv ct : Value) (us ws mv : List Value), us.length = n → ws.length = ks.length → mv.length = mk.length →
      KwChain D ((mk.map (·.1)).zip mv) (bindArgs (PySem.W.fnOf x x (defArgs st) (defBody st) (defScope st) .none (.ref D) doc pm an cdv ct) ⟨us, ks.zip ws⟩) (ps.zip (permL js (us ++ ws ++ mv)))) :
    ∀ f fd, Fun K x x st f fd → mg x = some (.ref f) → ∃ ms, KBf K fd ps n ks js ms ∧ DfV K dm ms := fun f fd F' gm => by
  have ef : f = He.ga K x := by
    have := (He.glo_ok X G g).symm.trans gm
    cases this <;> rfl
  subst ef
  obtain ⟨fd1, F⟩ := F
  obtain ⟨oc, od, dV, kV, doc, pm, an, cdv, ct, osl, e1, e2, e3, hD, hK⟩ := F.ex
  obtain ⟨oc', od', kV', doc', pm', an', cdv', ct', osl', e1', e2', e3'⟩ := F'.ex
  rw [e2] at e2'
  have efd : fd1 = fd := by
    cases e2'
    rfl
  subst efd
  rw [e1]
  rcases hD with ⟨_, rfl⟩ | ⟨z, _⟩
  · rcases hK with z | ⟨D, rfl, hq⟩
    · exact absurd z hk
    · obtain ⟨mv, hl, rk, hks⟩ := kwd_vals (ms := mk) fun q hm' => hq q (hm q hm')
      exact ⟨mk.map (·.2), ⟨mv, rk, fun s us ws X' l1 l2 => BindsTo.of_looks fun M => KwChain.looks X' hks (hb D doc pm an cdv ct us ws mv l1 l2 hl)⟩, hd⟩
  · exact absurd rfl z
/-! ### the law itself -/
theorem law_fun {x : Str} (F : ∃ fd, FunD K "law" "law" (defArgs st) (defBody st) (defScope st) [] kws (He.ga K "law") fd) : ∃ fd, FunC K "law" "law" st (He.ga K "law") fd (.ref (lawC K)) := by
  obtain ⟨fd, F⟩ := F
  obtain ⟨oc, od, dV, kV, doc, pm, an, cdv, ct, osl, e1, e2, e3, hD, hK⟩ := F.ex
  rcases hD with ⟨_, rfl⟩ | ⟨z, _⟩
  · have ec : cdv = .ref (lawC K) := by
      cases cdv with
      | ref c =>
        unfold lawC
        rw [e2, e1]
      | _ => cases e3
    subst ec
    exact ⟨fd, ⟨oc, od, kV, doc, pm, an, ct, osl, e1, e2, e3⟩, F.kp⟩
  · exact absurd rfl z
end
end Hk
end Py
set_option Elab.async false
set_option linter.all false
set_option maxRecDepth 100000
set_option maxHeartbeats 4000000
namespace Py
open PySem PySem.Spec PyProof.Rows L2
def top (i : Nat) : Stmt := PySem.Challenge.pw_offerstands_k12_streams_that_bring.main.body.getD i (.Pass ⟨0, 0, 0, 0⟩)
def meth (i j : Nat) : Stmt := match top i with
  | .ClassDef _ _ _ b _ _ _ _ _ _ _ => b.getD j (.Pass ⟨0, 0, 0, 0⟩)
  | _ => .Pass ⟨0, 0, 0, 0⟩
structure Facts (K : PySem.W.Frag) (mg : Str → Option Value) (cls : Nat → Addr) (flds : Nat → List Str) : Prop where
  d7 : ∃ f fd, Dn K mg "is_integer" (top 7) ["thing"] f fd
  d8 : ∃ f fd, Dn K mg "is_integer_within" (top 8) ["thing", "low", "high"] f fd
  d14 : ∃ f fd, Dn K mg "is_set" (top 14) ["offers", "thing"] f fd
  d19 : ∃ f fd, Dn K mg "are_lives" (top 19) ["thing"] f fd
  d18_0 : ∃ f fd, Mn K "__init__" "Trade.__init__" (meth 18 0) ["self", "lives", "loose"] (cls 5) f fd
  d18_1 : ∃ f fd, Mn K "__len__" "Trade.__len__" (meth 18 1) ["self"] (cls 5) f fd
  d22 : ∃ f fd, Dn K mg "is_dated" (top 22) ["trade", "thing"] f fd
  d24 : ∃ f fd, Dn K mg "is_deed" (top 24) ["trade", "thing"] f fd
  d23 : ∃ f fd, Dn K mg "is_stream" (top 23) ["trade", "thing"] f fd
  d25 : ∃ f fd, Dn K mg "aged" (top 25) ["dated", "days"] f fd
  d26 : ∃ f fd, Dn K mg "require_dated" (top 26) ["trade", "thing"] f fd
  d27 : ∃ f fd, Dn K mg "require_stream" (top 27) ["trade", "thing"] f fd
  d32 : ∃ f fd, Dn K mg "behind" (top 32) ["trade", "dated", "deed"] f fd
  d30 : ∃ f fd, Dnk K mg "moments" (top 30) ["trade", "stream", "start"] f fd
  d29 : ∃ f fd, Dnk K mg "stands" (top 29) ["trade", "stream", "start"] f fd
  d31 : ∃ f fd, Dn K mg "bringing" (top 31) ["trade", "dated"] f fd
  d34 : ∃ f fd, Dn K mg "_law_deck" (top 34) ["_law_script"] f fd
  d35 : ∃ f fd, Dn K mg "_law_draw" (top 35) ["_law_deck_here", "_law_below"] f fd
  d36 : ∃ f fd, Dn K mg "_law_behind" (top 36) ["_law_lives", "_law_dated", "_law_deed"] f fd
  d37 : ∃ f fd, Dn K mg "_law_all_first" (top 37) ["_law_lives", "_law_loose"] f fd
  d38 : ∃ f fd, Dn K mg "_law_told" (top 38) ["_law_call"] f fd
  d30_k0 : ∀ f fd, Fun K "moments" "moments" (top 30) f fd → KBd K fd ["trade", "stream", "start"] 2 ["start"] [0, 1, 2]
  d31_k1 : ∀ f fd, Fun K "bringing" "bringing" (top 31) f fd → KBd K fd ["trade", "dated"] 0 ["trade", "dated"] [0, 1]
  d29_f0 : ∀ f fd, Fun K "stands" "stands" (top 29) f fd → mg "stands" = some (.ref f) → ∃ ms, KBf K fd ["trade", "stream", "start"] 2 [] [0, 1, 2] ms ∧ DfV K [.tup []] ms
  n_all : mg "all" = none
  n_bool : mg "bool" = none
  n_int : mg "int" = none
  n_isinstance : mg "isinstance" = none
  n_len : mg "len" = none
  n_max : mg "max" = none
  n_range : mg "range" = none
  n_reversed : mg "reversed" = none
  n_sorted : mg "sorted" = none
  n_tuple : mg "tuple" = none
  k_LONGEST_LIFE : ∃ t, mg "LONGEST_LIFE" = some (.int 99 t)
  k_MOST_LIVES : ∃ t, mg "MOST_LIVES" = some (.int 9 t)
  c_Trade : Cn K mg (cls 5) (flds 5) "Trade" ["lives", "loose"]
  e_BadDated : En K mg (cls 3) (flds 3) "BadDated" "thing"
  e_BadStream : En K mg (cls 4) (flds 4) "BadStream" "thing"
  e_BadTrade : En K mg (cls 2) (flds 2) "BadTrade" "part"
  x : Xn K mg cls flds 0 "OfferError" [1, 2, 3, 4]
  own : ∀ c, ownOk c = true → OwnC K (cls c)
section
variable {P : Program} {w : World} {K : PySem.W.Frag} {mg : Str → Option Value} {base : Heap} {G : Gl}
theorem sc7 : FnScope ["thing"] ["thing"] (defScope (top 7)) := ⟨rfl, rfl, rfl, by decide +kernel, rfl, by decide +kernel, by decide +kernel⟩
def m7 : List D → T D := fn 1 (sRet (gAndV (gIsi (ansD (tabB "int")) (gVar 0)) (gNotV (gIsi (ansD (tabB "bool")) (gVar 0)))))
theorem ok7 (hK : G.K = K) (hP : G.P = P) (hw : G.w = w) (c : Facts K mg G.cls G.flds) {f : Addr} {fd : FuncData} (d : Dn K mg "is_integer" (top 7) ["thing"] f fd) : FnOk P w K mg base (L2.CX P w) 2 f fd ["thing"] (spD G 1 m7) := by
  refine fn_ok d.F sc7 (by decide) fun cdv A outer s0 H hs E hr => ?_
  have tk : Takes (cxOf (L2.CX P w) P w K mg base ["thing"] "is_integer" (defScope (top 7)) f cdv A outer s0 H E) (fun cls dx _ H' => E cls dx H') := takes_of rfl rfl rfl rfl
  have hu : (A.deeper (PyProof.Rows.envOfC "is_integer" (defScope (top 7)) s0.heap.objs.size f cdv)).units + 64 < cLine := room64 hr
  exact (ss_one (ss_ret (ee_and (ee_isi (ans_b hK c.own "int") rfl c.n_isinstance (ee_pv (pv 0)) (pe_bltn (v := .ty "int") rfl c.n_int (by decide +kernel) rfl) (.ty _)) (ee_one (ee_not (ee_isi (ans_b hK c.own "bool") rfl c.n_isinstance (ee_pv (pv 0)) (pe_bltn (v := .ty "bool") rfl c.n_bool (by decide +kernel) rfl) (.ty _)))))))
theorem sc8 : FnScope ["thing", "low", "high"] ["thing", "low", "high"] (defScope (top 8)) := ⟨rfl, rfl, rfl, by decide +kernel, rfl, by decide +kernel, by decide +kernel⟩
def m8 : List D → T D := fn 3 (sRet (gAndV ((fun ρ => (gCons (gVar 0) (gNil)) ρ >>= fun l => if l.length = 1 then m7 l else .bad)) (gChain (cmpI (fun i j => decide (i ≤ j))) (cmpI (fun i j => decide (i ≤ j))) (gVar 1) (gVar 0) (gVar 2))))
theorem ok8 (hK : G.K = K) (hP : G.P = P) (hw : G.w = w) (c : Facts K mg G.cls G.flds) {f : Addr} {fd : FuncData} (d : Dn K mg "is_integer_within" (top 8) ["thing", "low", "high"] f fd) : FnOk P w K mg base (L2.CX P w) 3 f fd ["thing", "low", "high"] (spD G 3 m8) := by
  obtain ⟨f7, fd7, d7⟩ := c.d7
  have F7 := ok7 (P := P) (w := w) (base := base) hK hP hw c d7
  refine fn_ok d.F sc8 (by decide) fun cdv A outer s0 H hs E hr => ?_
  have tk : Takes (cxOf (L2.CX P w) P w K mg base ["thing", "low", "high"] "is_integer_within" (defScope (top 8)) f cdv A outer s0 H E) (fun cls dx _ H' => E cls dx H') := takes_of rfl rfl rfl rfl
  have hu : (A.deeper (PyProof.Rows.envOfC "is_integer_within" (defScope (top 8)) s0.heap.objs.size f cdv)).units + 64 < cLine := room64 hr
  exact (ss_one (ss_ret (ee_and (ee_call F7 (hr.mono (by decide)) rfl d7.g d7.k d7.b tk (ea_cons (ee_pv (pv 0)) ea_nil)) (ee_one (ee_chain op_le (d_cmp (fun i j => decide (i ≤ j))) op_le (d_cmp (fun i j => decide (i ≤ j))) (ee_pv (pv 1)) (ee_pv (pv 0)) (ee_pv (pv 2)))))))
theorem sc14 : FnScope ["offers", "thing", "least", "item"] ["offers", "thing"] (defScope (top 14)) := ⟨rfl, rfl, rfl, by decide +kernel, rfl, by decide +kernel, by decide +kernel⟩
def m14 : List D → T D := fn 4 (sSeq (sIf (gNotT ((fun ρ => (gIsi (ansD (tabB "tuple")) (gVar 1)) ρ >>= truth))) (sRet (gC (.bl false))) (sNext)) (sSeq (sSet 2 (gC (.int 0))) (sSeq (sFor ((fun ρ => (gVar 1) ρ >>= seqD)) (bName 3) (sSeq (sIf (gNotT ((fun ρ => ((fun ρ => (gCons (gVar 3) (gCons (gVar 2) (gCons (gOp iSub (gVar 0) (gC (.int 1))) (gNil)))) ρ >>= fun l => if l.length = 3 then m8 l else .bad)) ρ >>= truth))) (sRet (gC (.bl false))) (sNext)) (sSet 2 (gOp (fun a b => (iAdd a b).or (catD a b)) (gVar 3) (gC (.int 1)))))) (sRet (gC (.bl true))))))
theorem ok14 (hK : G.K = K) (hP : G.P = P) (hw : G.w = w) (c : Facts K mg G.cls G.flds) {f : Addr} {fd : FuncData} (d : Dn K mg "is_set" (top 14) ["offers", "thing"] f fd) : FnOk P w K mg base (L2.CX P w) 4 f fd ["offers", "thing"] (spD G 2 m14) := by
  obtain ⟨f8, fd8, d8⟩ := c.d8
  have F8 := ok8 (P := P) (w := w) (base := base) hK hP hw c d8
  refine fn_ok d.F sc14 (by decide) fun cdv A outer s0 H hs E hr => ?_
  have tk : Takes (cxOf (L2.CX P w) P w K mg base ["offers", "thing", "least", "item"] "is_set" (defScope (top 14)) f cdv A outer s0 H E) (fun cls dx _ H' => E cls dx H') := takes_of rfl rfl rfl rfl
  have hu : (A.deeper (PyProof.Rows.envOfC "is_set" (defScope (top 14)) s0.heap.objs.size f cdv)).units + 64 < cLine := room64 hr
  exact (ss_cons (ss_if (et_not (et_tru hK (ee_isi (ans_b hK c.own "tuple") rfl c.n_isinstance (ee_pv (pv 1)) (pe_bltn (v := .ty "tuple") rfl c.n_tuple (by decide +kernel) rfl) (.ty _)))) (ss_one (ss_ret ee_bl)) ss_nil) (ss_cons (ss_set (i := 2) sc14.nd rfl (by first | exact Or.inl rfl | exact Or.inr rfl) ee_int) (ss_cons (ss_for (vs := [3]) (passes_of rfl) rfl (ei_seq hK (ee_pv (pv 1))) (pg_name (i := 3) sc14.nd rfl (by first | exact Or.inl rfl | exact Or.inr rfl)) (tgt_name 3 (by decide)) (ss_cons (ss_if (et_not (et_tru hK (ee_call F8 (hr.mono (by decide)) rfl d8.g d8.k d8.b tk (ea_cons (ee_pv (pv 3)) (ea_cons (ee_pv (pv 2)) (ea_cons (ee_op op_sub d_sub (ee_pv (pv 0)) ee_int) ea_nil)))))) (ss_one (ss_ret ee_bl)) ss_nil) (ss_one (ss_set (i := 2) sc14.nd rfl (by first | exact Or.inl rfl | exact Or.inr rfl) (ee_op (op_add.or (op_catA.or op_cat)) (d_add.or (d_cat hK)) (ee_pv (pv 3)) ee_int))))) (ss_one (ss_ret ee_bl)))))
theorem sc19 : FnScope ["thing", "life"] ["thing"] (defScope (top 19)) := ⟨rfl, rfl, rfl, by decide +kernel, rfl, by decide +kernel, by decide +kernel⟩
def m19 : List D → T D := fn 2 (sSeq (sIf (gOrT (gNotT ((fun ρ => (gIsi (ansD (tabB "tuple")) (gVar 0)) ρ >>= truth))) (gNotT ((fun ρ => gChain (cmpI (fun i j => decide (i ≤ j))) (cmpI (fun i j => decide (i ≤ j))) (gC (.int 1)) (gCall lenX (gCons (gVar 0) (gNil))) (gC (.int 9)) ρ >>= asB)))) (sRet (gC (.bl false))) (sNext)) (sRet (gCall allB (gCons (gComp ((fun ρ => (gVar 0) ρ >>= seqD)) (bName 1) (gYes) ((fun ρ => (gCons (gVar 1) (gCons (gC (.int 1)) (gCons (gC (.int 99)) (gNil)))) ρ >>= fun l => if l.length = 3 then m8 l else .bad)) [1]) (gNil)))))
theorem ok19 (hK : G.K = K) (hP : G.P = P) (hw : G.w = w) (c : Facts K mg G.cls G.flds) {f : Addr} {fd : FuncData} (d : Dn K mg "are_lives" (top 19) ["thing"] f fd) : FnOk P w K mg base (L2.CX P w) 4 f fd ["thing"] (spD G 1 m19) := by
  obtain ⟨f8, fd8, d8⟩ := c.d8
  have F8 := ok8 (P := P) (w := w) (base := base) hK hP hw c d8
  refine fn_ok d.F sc19 (by decide) fun cdv A outer s0 H hs E hr => ?_
  have tk : Takes (cxOf (L2.CX P w) P w K mg base ["thing", "life"] "are_lives" (defScope (top 19)) f cdv A outer s0 H E) (fun cls dx _ H' => E cls dx H') := takes_of rfl rfl rfl rfl
  have hu : (A.deeper (PyProof.Rows.envOfC "are_lives" (defScope (top 19)) s0.heap.objs.size f cdv)).units + 64 < cLine := room64 hr
  exact (ss_cons (ss_if (PW.pt (ew_or (et_not (et_tru hK (ee_isi (ans_b hK c.own "tuple") rfl c.n_isinstance (ee_pv (pv 0)) (pe_bltn (v := .ty "tuple") rfl c.n_tuple (by decide +kernel) rfl) (.ty _)))) (ew_or1 (et_not (et_chain op_le (d_cmp (fun i j => decide (i ≤ j))) op_le (d_cmp (fun i j => decide (i ≤ j))) ee_int (ee_blt (CallR_or call_len_seq cr_lenK) (DoesN.or (d_lenS hK) (d_lenK hK hP hw)) rfl c.n_len (by decide +kernel) (ea_cons (ee_pv (pv 0)) ea_nil)) (ee_int_glob rfl c.k_MOST_LIVES)))))) (ss_one (ss_ret ee_bl)) ss_nil) (ss_one (ss_ret (ee_blt (cr_all rfl) (d_all hK) rfl c.n_all (by decide +kernel) (ea_cons (ee_comp (own := [("life", 1)]) rfl sc19.nd (ei_seq hK (ee_pv (pv 0))) (blkOk_by (N := ["thing", "life"]) (sc := defScope (top 19)) (by decide +kernel)) (tgt_name 1 (by decide)) (fun _ _ _ _ _ => (pg_name (i := 1) sc19.nd rfl (by first | exact Or.inl rfl | exact Or.inr rfl))) (fun _ _ _ _ _ => ets_nil) (fun _ _ _ _ _ => (ee_call F8 (hr.mono (by decide)) rfl d8.g d8.k d8.b tk0 (ea_cons (ee_pv (pv 1)) (ea_cons ee_int (ea_cons (ee_int_glob rfl c.k_LONGEST_LIFE) ea_nil)))))) ea_nil)))))
theorem sc18_0 : FnScope ["self", "lives", "loose"] ["self", "lives", "loose"] (defScope (meth 18 0)) := ⟨rfl, rfl, rfl, by decide +kernel, rfl, by decide +kernel, by decide +kernel⟩
def m18_0 : List D → T (List D) := ini 3 5 ["lives", "loose"] (sSeq (sIf (gNotT ((fun ρ => ((fun ρ => (gCons (gVar 1) (gNil)) ρ >>= fun l => if l.length = 1 then m19 l else .bad)) ρ >>= truth))) (sRaise1 2 (gC (.str "lives"))) (sNext)) (sSeq (sIf (gNotT ((fun ρ => ((fun ρ => (gCons (gCall lenX (gCons (gVar 1) (gNil))) (gCons (gVar 2) (gNil))) ρ >>= fun l => if l.length = 2 then m14 l else .bad)) ρ >>= truth))) (sRaise1 2 (gC (.str "loose"))) (sNext)) (sSeq (sFld' 0 5 "lives" (gVar 1)) (sFld' 0 5 "loose" (gVar 2)))))
theorem ok18_0 (hK : G.K = K) (hP : G.P = P) (hw : G.w = w) (c : Facts K mg G.cls G.flds) {f : Addr} {fd : FuncData} (d : Mn K "__init__" "Trade.__init__" (meth 18 0) ["self", "lives", "loose"] (G.cls 5) f fd) : FnOk P w K mg base (L2.CX P w) 5 f fd ["self", "lives", "loose"] (spI G 2 5 m18_0) := by
  obtain ⟨f19, fd19, d19⟩ := c.d19
  have F19 := ok19 (P := P) (w := w) (base := base) hK hP hw c d19
  obtain ⟨f14, fd14, d14⟩ := c.d14
  have F14 := ok14 (P := P) (w := w) (base := base) hK hP hw c d14
  obtain ⟨_, T_BadTrade⟩ := c.e_BadTrade.txt
  refine ini_fl c.c_Trade.fl (ini_ok d.F sc18_0 rfl (by decide) fun cdv A outer s0 H hs E hr => ?_)
  have tk : Takes (cxOf (L2.CX P w) P w K mg base ["self", "lives", "loose"] "Trade.__init__" (defScope (meth 18 0)) f cdv A outer s0 H E) (fun cls dx _ H' => E cls dx H') := takes_of rfl rfl rfl rfl
  have hu : (A.deeper (PyProof.Rows.envOfC "Trade.__init__" (defScope (meth 18 0)) s0.heap.objs.size f cdv)).units + 64 < cLine := room64 hr
  exact (ss_cons (ss_if (et_not (et_tru hK (ee_call F19 (hr.mono (by decide)) rfl d19.g d19.k d19.b tk (ea_cons (ee_pv (pv 1)) ea_nil)))) (ss_one (ss_raise1 rfl T_BadTrade c.e_BadTrade.fl hr tk ee_str rfl)) ss_nil) (ss_cons (ss_if (et_not (et_tru hK (ee_call F14 (hr.mono (by decide)) rfl d14.g d14.k d14.b tk (ea_cons (ee_blt (CallR_or call_len_seq cr_lenK) (DoesN.or (d_lenS hK) (d_lenK hK hP hw)) rfl c.n_len (by decide +kernel) (ea_cons (ee_pv (pv 1)) ea_nil)) (ea_cons (ee_pv (pv 2)) ea_nil))))) (ss_one (ss_raise1 rfl T_BadTrade c.e_BadTrade.fl hr tk ee_str rfl)) ss_nil) (ss_cons (ss_fld (i := 0) c.c_Trade.own.cl (c.c_Trade.no _ (by decide)) (pv 0) (ee_pv (pv 1))) (ss_one (ss_fld (i := 0) c.c_Trade.own.cl (c.c_Trade.no _ (by decide)) (pv 0) (ee_pv (pv 2)))))))
theorem sc18_1 : FnScope ["self"] ["self"] (defScope (meth 18 1)) := ⟨rfl, rfl, rfl, by decide +kernel, rfl, by decide +kernel, by decide +kernel⟩
def m18_1 : List D → T D := fn 1 (sRet (gCall lenX (gCons ((fun ρ => (gVar 0) ρ >>= fldD 5 0)) (gNil))))
theorem ok18_1 (hK : G.K = K) (hP : G.P = P) (hw : G.w = w) (c : Facts K mg G.cls G.flds) {f : Addr} {fd : FuncData} (d : Mn K "__len__" "Trade.__len__" (meth 18 1) ["self"] (G.cls 5) f fd) : FnOk P w K mg base (L2.CX P w) 2 f fd ["self"] (spD G 1 m18_1) := by
  refine fn_ok d.F sc18_1 (by decide) fun cdv A outer s0 H hs E hr => ?_
  have tk : Takes (cxOf (L2.CX P w) P w K mg base ["self"] "Trade.__len__" (defScope (meth 18 1)) f cdv A outer s0 H E) (fun cls dx _ H' => E cls dx H') := takes_of rfl rfl rfl rfl
  have hu : (A.deeper (PyProof.Rows.envOfC "Trade.__len__" (defScope (meth 18 1)) s0.heap.objs.size f cdv)).units + 64 < cLine := room64 hr
  exact (ss_one (ss_ret (ee_blt (CallR_or call_len_seq cr_lenK) (DoesN.or (d_lenS hK) (d_lenK hK hP hw)) rfl c.n_len (by decide +kernel) (ea_cons (ee_fld c.c_Trade.own.cl (c.c_Trade.no _ (by decide)) (ix_of c.c_Trade.fl rfl) (ee_pv (pv 0))) ea_nil))))
theorem sc22 : FnScope ["trade", "thing", "least", "item", "offer", "days"] ["trade", "thing"] (defScope (top 22)) := ⟨rfl, rfl, rfl, by decide +kernel, rfl, by decide +kernel, by decide +kernel⟩
def m22 : List D → T D := fn 6 (sSeq (sIf (gNotT ((fun ρ => (gIsi (ansD (tabB "tuple")) (gVar 1)) ρ >>= truth))) (sRet (gC (.bl false))) (sNext)) (sSeq (sSet 2 (gC (.int 0))) (sSeq (sFor ((fun ρ => (gVar 1) ρ >>= seqD)) (bName 3) (sSeq (sIf (gOrT (gNotT ((fun ρ => (gIsi (ansD (tabB "tuple")) (gVar 3)) ρ >>= truth))) ((fun ρ => gOp (eqD true) (gCall lenX (gCons (gVar 3) (gNil))) (gC (.int 2)) ρ >>= asB))) (sRet (gC (.bl false))) (sNext)) (sSeq (sAsg (bTup 2 (bCons (bName 4) (bCons (bName 5) (bNil)))) (gVar 3)) (sSeq (sIf (gNotT ((fun ρ => ((fun ρ => (gCons (gVar 4) (gCons (gVar 2) (gCons (gOp iSub ((fun ρ => (gVar 0) ρ >>= fun d => noexc (lenO 5 m18_1 d))) (gC (.int 1))) (gNil)))) ρ >>= fun l => if l.length = 3 then m8 l else .bad)) ρ >>= truth))) (sRet (gC (.bl false))) (sNext)) (sSeq (sIf (gNotT ((fun ρ => ((fun ρ => (gCons (gVar 5) (gCons (gC (.int 1)) (gCons (gOp ixA ((fun ρ => (gVar 0) ρ >>= fldD 5 0)) (gVar 4)) (gNil)))) ρ >>= fun l => if l.length = 3 then m8 l else .bad)) ρ >>= truth))) (sRet (gC (.bl false))) (sNext)) (sSet 2 (gOp (fun a b => (iAdd a b).or (catD a b)) (gVar 4) (gC (.int 1))))))))) (sRet (gC (.bl true))))))
theorem ok22 (hK : G.K = K) (hP : G.P = P) (hw : G.w = w) (c : Facts K mg G.cls G.flds) {f : Addr} {fd : FuncData} (d : Dn K mg "is_dated" (top 22) ["trade", "thing"] f fd) : FnOk P w K mg base (L2.CX P w) 4 f fd ["trade", "thing"] (spD G 2 m22) := by
  obtain ⟨f8, fd8, d8⟩ := c.d8
  have F8 := ok8 (P := P) (w := w) (base := base) hK hP hw c d8
  obtain ⟨f18_1, fd18_1, d18_1⟩ := c.d18_1
  have F18_1 := ok18_1 (P := P) (w := w) (base := base) hK hP hw c d18_1
  refine fn_ok d.F sc22 (by decide) fun cdv A outer s0 H hs E hr => ?_
  have tk : Takes (cxOf (L2.CX P w) P w K mg base ["trade", "thing", "least", "item", "offer", "days"] "is_dated" (defScope (top 22)) f cdv A outer s0 H E) (fun cls dx _ H' => E cls dx H') := takes_of rfl rfl rfl rfl
  have hu : (A.deeper (PyProof.Rows.envOfC "is_dated" (defScope (top 22)) s0.heap.objs.size f cdv)).units + 64 < cLine := room64 hr
  exact (ss_cons (ss_if (et_not (et_tru hK (ee_isi (ans_b hK c.own "tuple") rfl c.n_isinstance (ee_pv (pv 1)) (pe_bltn (v := .ty "tuple") rfl c.n_tuple (by decide +kernel) rfl) (.ty _)))) (ss_one (ss_ret ee_bl)) ss_nil) (ss_cons (ss_set (i := 2) sc22.nd rfl (by first | exact Or.inl rfl | exact Or.inr rfl) ee_int) (ss_cons (ss_for (vs := [3]) (passes_of rfl) rfl (ei_seq hK (ee_pv (pv 1))) (pg_name (i := 3) sc22.nd rfl (by first | exact Or.inl rfl | exact Or.inr rfl)) (tgt_name 3 (by decide)) (ss_cons (ss_if (PW.pt (ew_or (et_not (et_tru hK (ee_isi (ans_b hK c.own "tuple") rfl c.n_isinstance (ee_pv (pv 3)) (pe_bltn (v := .ty "tuple") rfl c.n_tuple (by decide +kernel) rfl) (.ty _)))) (ew_or1 (et_cmp (op_neD hu) (d_ne hK) (ee_blt (CallR_or call_len_seq cr_lenK) (DoesN.or (d_lenS hK) (d_lenK hK hP hw)) rfl c.n_len (by decide +kernel) (ea_cons (ee_pv (pv 3)) ea_nil)) ee_int)))) (ss_one (ss_ret ee_bl)) ss_nil) (ss_cons (ss_asg (vs := [4, 5]) (ee_pv (pv 3)) (pg_tup rfl (pgs_cons (pg_name (i := 4) sc22.nd rfl (by first | exact Or.inl rfl | exact Or.inr rfl)) (pgs_cons (pg_name (i := 5) sc22.nd rfl (by first | exact Or.inl rfl | exact Or.inr rfl)) pgs_nil))) (tgt_tup hK (tgts_cons (tgt_name 4 (by decide)) (tgts_cons (tgt_name 5 (by decide)) tgts_nil)))) (ss_cons (ss_if (et_not (et_tru hK (ee_call F8 (hr.mono (by decide)) rfl d8.g d8.k d8.b tk (ea_cons (ee_pv (pv 4)) (ea_cons (ee_pv (pv 2)) (ea_cons (ee_op op_sub d_sub (ee_run1 (runs_len F18_1 (hr.mono (by decide)) d18_1.at_ d18_1.fn d18_1.b) rfl c.n_len (by decide +kernel) (ee_pv (pv 0))) ee_int) ea_nil)))))) (ss_one (ss_ret ee_bl)) ss_nil) (ss_cons (ss_if (et_not (et_tru hK (ee_call F8 (hr.mono (by decide)) rfl d8.g d8.k d8.b tk (ea_cons (ee_pv (pv 5)) (ea_cons ee_int (ea_cons (ee_ixA hK hP hw hu (ee_fld c.c_Trade.own.cl (c.c_Trade.no _ (by decide)) (ix_of c.c_Trade.fl rfl) (ee_pv (pv 0))) (ee_pv (pv 4))) ea_nil)))))) (ss_one (ss_ret ee_bl)) ss_nil) (ss_one (ss_set (i := 2) sc22.nd rfl (by first | exact Or.inl rfl | exact Or.inr rfl) (ee_op (op_add.or (op_catA.or op_cat)) (d_add.or (d_cat hK)) (ee_pv (pv 4)) ee_int)))))))) (ss_one (ss_ret ee_bl)))))
theorem sc24 : FnScope ["trade", "thing"] ["trade", "thing"] (defScope (top 24)) := ⟨rfl, rfl, rfl, by decide +kernel, rfl, by decide +kernel, by decide +kernel⟩
def m24 : List D → T D := fn 2 (sSeq (sIf (gNotT ((fun ρ => (gIsi (ansD (tabB "tuple")) (gVar 1)) ρ >>= truth))) (sRet (gC (.bl false))) (sNext)) (sSeq (sIf ((fun ρ => gOp (eqD false) (gCall lenX (gCons (gVar 1) (gNil))) (gC (.int 1)) ρ >>= asB)) (sRet (gOp (eqD false) (gOp ixA (gVar 1) (gC (.int 0))) (gC (.str "day")))) (sNext)) (sSeq (sIf (gOrT ((fun ρ => gOp (eqD true) (gCall lenX (gCons (gVar 1) (gNil))) (gC (.int 2)) ρ >>= asB)) (gNotT ((fun ρ => ((fun ρ => (gCons (gOp ixA (gVar 1) (gC (.int 1))) (gCons (gC (.int 0)) (gCons (gOp iSub ((fun ρ => (gVar 0) ρ >>= fun d => noexc (lenO 5 m18_1 d))) (gC (.int 1))) (gNil)))) ρ >>= fun l => if l.length = 3 then m8 l else .bad)) ρ >>= truth)))) (sRet (gC (.bl false))) (sNext)) (sRet (gOrV (gOp (eqD false) (gOp ixA (gVar 1) (gC (.int 0))) (gC (.str "come"))) (gAndV (gOp (eqD false) (gOp ixA (gVar 1) (gC (.int 0))) (gC (.str "gone"))) (gOp (fun a b => (inD false a b).or (inDic false a b)) (gOp ixA (gVar 1) (gC (.int 1))) ((fun ρ => (gVar 0) ρ >>= fldD 5 1)))))))))
theorem ok24 (hK : G.K = K) (hP : G.P = P) (hw : G.w = w) (c : Facts K mg G.cls G.flds) {f : Addr} {fd : FuncData} (d : Dn K mg "is_deed" (top 24) ["trade", "thing"] f fd) : FnOk P w K mg base (L2.CX P w) 4 f fd ["trade", "thing"] (spD G 2 m24) := by
  obtain ⟨f8, fd8, d8⟩ := c.d8
  have F8 := ok8 (P := P) (w := w) (base := base) hK hP hw c d8
  obtain ⟨f18_1, fd18_1, d18_1⟩ := c.d18_1
  have F18_1 := ok18_1 (P := P) (w := w) (base := base) hK hP hw c d18_1
  refine fn_ok d.F sc24 (by decide) fun cdv A outer s0 H hs E hr => ?_
  have tk : Takes (cxOf (L2.CX P w) P w K mg base ["trade", "thing"] "is_deed" (defScope (top 24)) f cdv A outer s0 H E) (fun cls dx _ H' => E cls dx H') := takes_of rfl rfl rfl rfl
  have hu : (A.deeper (PyProof.Rows.envOfC "is_deed" (defScope (top 24)) s0.heap.objs.size f cdv)).units + 64 < cLine := room64 hr
  exact (ss_cons (ss_if (et_not (et_tru hK (ee_isi (ans_b hK c.own "tuple") rfl c.n_isinstance (ee_pv (pv 1)) (pe_bltn (v := .ty "tuple") rfl c.n_tuple (by decide +kernel) rfl) (.ty _)))) (ss_one (ss_ret ee_bl)) ss_nil) (ss_cons (ss_if (et_cmp (op_eqD hu) (d_eq hK) (ee_blt (CallR_or call_len_seq cr_lenK) (DoesN.or (d_lenS hK) (d_lenK hK hP hw)) rfl c.n_len (by decide +kernel) (ea_cons (ee_pv (pv 1)) ea_nil)) ee_int) (ss_one (ss_ret (ee_cmp (op_eqD hu) (d_eq hK) (ee_ixA hK hP hw hu (ee_pv (pv 1)) ee_int) ee_str))) ss_nil) (ss_cons (ss_if (PW.pt (ew_or (et_cmp (op_neD hu) (d_ne hK) (ee_blt (CallR_or call_len_seq cr_lenK) (DoesN.or (d_lenS hK) (d_lenK hK hP hw)) rfl c.n_len (by decide +kernel) (ea_cons (ee_pv (pv 1)) ea_nil)) ee_int) (ew_or1 (et_not (et_tru hK (ee_call F8 (hr.mono (by decide)) rfl d8.g d8.k d8.b tk (ea_cons (ee_ixA hK hP hw hu (ee_pv (pv 1)) ee_int) (ea_cons ee_int (ea_cons (ee_op op_sub d_sub (ee_run1 (runs_len F18_1 (hr.mono (by decide)) d18_1.at_ d18_1.fn d18_1.b) rfl c.n_len (by decide +kernel) (ee_pv (pv 0))) ee_int) ea_nil))))))))) (ss_one (ss_ret ee_bl)) ss_nil) (ss_one (ss_ret (ee_or (ee_cmp (op_eqD hu) (d_eq hK) (ee_ixA hK hP hw hu (ee_pv (pv 1)) ee_int) ee_str) (ee_one (ee_and (ee_cmp (op_eqD hu) (d_eq hK) (ee_ixA hK hP hw hu (ee_pv (pv 1)) ee_int) ee_str) (ee_one (ee_cmp (op_in_seq.or (op_inO hu)) (Does2.or (d_in hK false) (d_inDic hK hP hw false)) (ee_ixA hK hP hw hu (ee_pv (pv 1)) ee_int) (ee_fld c.c_Trade.own.cl (c.c_Trade.no _ (by decide)) (ix_of c.c_Trade.fl rfl) (ee_pv (pv 0)))))))))))))
theorem sc23 : FnScope ["trade", "thing", "item"] ["trade", "thing"] (defScope (top 23)) := ⟨rfl, rfl, rfl, by decide +kernel, rfl, by decide +kernel, by decide +kernel⟩
def m23 : List D → T D := fn 3 (sRet (gAndV (gIsi (ansD (tabB "tuple")) (gVar 1)) (gCall allB (gCons (gComp ((fun ρ => (gVar 1) ρ >>= seqD)) (bName 2) (gYes) ((fun ρ => (gCons (gVar 0) (gCons (gVar 2) (gNil))) ρ >>= fun l => if l.length = 2 then m24 l else .bad)) [2]) (gNil)))))
theorem ok23 (hK : G.K = K) (hP : G.P = P) (hw : G.w = w) (c : Facts K mg G.cls G.flds) {f : Addr} {fd : FuncData} (d : Dn K mg "is_stream" (top 23) ["trade", "thing"] f fd) : FnOk P w K mg base (L2.CX P w) 5 f fd ["trade", "thing"] (spD G 2 m23) := by
  obtain ⟨f24, fd24, d24⟩ := c.d24
  have F24 := ok24 (P := P) (w := w) (base := base) hK hP hw c d24
  refine fn_ok d.F sc23 (by decide) fun cdv A outer s0 H hs E hr => ?_
  have tk : Takes (cxOf (L2.CX P w) P w K mg base ["trade", "thing", "item"] "is_stream" (defScope (top 23)) f cdv A outer s0 H E) (fun cls dx _ H' => E cls dx H') := takes_of rfl rfl rfl rfl
  have hu : (A.deeper (PyProof.Rows.envOfC "is_stream" (defScope (top 23)) s0.heap.objs.size f cdv)).units + 64 < cLine := room64 hr
  exact (ss_one (ss_ret (ee_and (ee_isi (ans_b hK c.own "tuple") rfl c.n_isinstance (ee_pv (pv 1)) (pe_bltn (v := .ty "tuple") rfl c.n_tuple (by decide +kernel) rfl) (.ty _)) (ee_one (ee_blt (cr_all rfl) (d_all hK) rfl c.n_all (by decide +kernel) (ea_cons (ee_comp (own := [("item", 2)]) rfl sc23.nd (ei_seq hK (ee_pv (pv 1))) (blkOk_by (N := ["trade", "thing", "item"]) (sc := defScope (top 23)) (by decide +kernel)) (tgt_name 2 (by decide)) (fun _ _ _ _ _ => (pg_name (i := 2) sc23.nd rfl (by first | exact Or.inl rfl | exact Or.inr rfl))) (fun _ _ _ _ _ => ets_nil) (fun _ _ _ _ _ => (ee_call F24 (hr.mono (by decide)) rfl d24.g d24.k d24.b tk0 (ea_cons (ee_pv (pv 0)) (ea_cons (ee_pv (pv 2)) ea_nil))))) ea_nil))))))
theorem sc25 : FnScope ["dated", "days", "offer", "left"] ["dated", "days"] (defScope (top 25)) := ⟨rfl, rfl, rfl, by decide +kernel, rfl, by decide +kernel, by decide +kernel⟩
def m25 : List D → T D := fn 4 (sRet (gCall asT (gCons (gComp ((fun ρ => (gVar 0) ρ >>= seqD)) (bTup 2 (bCons (bName 2) (bCons (bName 3) (bNil)))) ((fun ρ => gOp (cmpI (fun i j => decide (j < i))) (gVar 3) (gVar 1) ρ >>= asB)) (gTup (gCons (gVar 2) (gCons (gOp iSub (gVar 3) (gVar 1)) (gNil)))) [2, 3]) (gNil))))
theorem ok25 (hK : G.K = K) (hP : G.P = P) (hw : G.w = w) (c : Facts K mg G.cls G.flds) {f : Addr} {fd : FuncData} (d : Dn K mg "aged" (top 25) ["dated", "days"] f fd) : FnOk P w K mg base (L2.CX P w) 2 f fd ["dated", "days"] (spD G 2 m25) := by
  refine fn_ok d.F sc25 (by decide) fun cdv A outer s0 H hs E hr => ?_
  have tk : Takes (cxOf (L2.CX P w) P w K mg base ["dated", "days", "offer", "left"] "aged" (defScope (top 25)) f cdv A outer s0 H E) (fun cls dx _ H' => E cls dx H') := takes_of rfl rfl rfl rfl
  have hu : (A.deeper (PyProof.Rows.envOfC "aged" (defScope (top 25)) s0.heap.objs.size f cdv)).units + 64 < cLine := room64 hr
  exact (ss_one (ss_ret (ee_bty call_tuple_of (d_asT hK) rfl c.n_tuple (by decide +kernel) (ea_cons (ee_comp (own := [("offer", 2), ("left", 3)]) rfl sc25.nd (ei_seq hK (ee_pv (pv 0))) (blkOk_by (N := ["dated", "days", "offer", "left"]) (sc := defScope (top 25)) (by decide +kernel)) (tgt_tup hK (tgts_cons (tgt_name 2 (by decide)) (tgts_cons (tgt_name 3 (by decide)) tgts_nil))) (fun _ _ _ _ _ => (pg_tup rfl (pgs_cons (pg_name (i := 2) sc25.nd rfl (by first | exact Or.inl rfl | exact Or.inr rfl)) (pgs_cons (pg_name (i := 3) sc25.nd rfl (by first | exact Or.inl rfl | exact Or.inr rfl)) pgs_nil)))) (fun _ _ _ _ _ => (ets_one (et_cmp op_gt (d_cmp (fun i j => decide (j < i))) (ee_pv (pv 3)) (ee_pv (pv 1))))) (fun _ _ _ _ _ => (ee_tup (ea_cons (ee_pv (pv 2)) (ea_cons (ee_op op_sub d_sub (ee_pv (pv 3)) (ee_pv (pv 1))) ea_nil))))) ea_nil))))
theorem sc26 : FnScope ["trade", "thing"] ["trade", "thing"] (defScope (top 26)) := ⟨rfl, rfl, rfl, by decide +kernel, rfl, by decide +kernel, by decide +kernel⟩
def m26 : List D → T D := fn 2 (sIf (gNotT ((fun ρ => ((fun ρ => (gCons (gVar 0) (gCons (gVar 1) (gNil))) ρ >>= fun l => if l.length = 2 then m22 l else .bad)) ρ >>= truth))) (sRaise1 3 (gVar 1)) (sNext))
theorem ok26 (hK : G.K = K) (hP : G.P = P) (hw : G.w = w) (c : Facts K mg G.cls G.flds) {f : Addr} {fd : FuncData} (d : Dn K mg "require_dated" (top 26) ["trade", "thing"] f fd) : FnOk P w K mg base (L2.CX P w) 5 f fd ["trade", "thing"] (spD G 2 m26) := by
  obtain ⟨f22, fd22, d22⟩ := c.d22
  have F22 := ok22 (P := P) (w := w) (base := base) hK hP hw c d22
  obtain ⟨_, T_BadDated⟩ := c.e_BadDated.txt
  refine fn_ok d.F sc26 (by decide) fun cdv A outer s0 H hs E hr => ?_
  have tk : Takes (cxOf (L2.CX P w) P w K mg base ["trade", "thing"] "require_dated" (defScope (top 26)) f cdv A outer s0 H E) (fun cls dx _ H' => E cls dx H') := takes_of rfl rfl rfl rfl
  have hu : (A.deeper (PyProof.Rows.envOfC "require_dated" (defScope (top 26)) s0.heap.objs.size f cdv)).units + 64 < cLine := room64 hr
  exact (ss_one (ss_if (et_not (et_tru hK (ee_call F22 (hr.mono (by decide)) rfl d22.g d22.k d22.b tk (ea_cons (ee_pv (pv 0)) (ea_cons (ee_pv (pv 1)) ea_nil))))) (ss_one (ss_raise1 rfl T_BadDated c.e_BadDated.fl hr tk (ee_pv (pv 1)) rfl)) ss_nil))
theorem sc27 : FnScope ["trade", "thing"] ["trade", "thing"] (defScope (top 27)) := ⟨rfl, rfl, rfl, by decide +kernel, rfl, by decide +kernel, by decide +kernel⟩
def m27 : List D → T D := fn 2 (sIf (gNotT ((fun ρ => ((fun ρ => (gCons (gVar 0) (gCons (gVar 1) (gNil))) ρ >>= fun l => if l.length = 2 then m23 l else .bad)) ρ >>= truth))) (sRaise1 4 (gVar 1)) (sNext))
theorem ok27 (hK : G.K = K) (hP : G.P = P) (hw : G.w = w) (c : Facts K mg G.cls G.flds) {f : Addr} {fd : FuncData} (d : Dn K mg "require_stream" (top 27) ["trade", "thing"] f fd) : FnOk P w K mg base (L2.CX P w) 6 f fd ["trade", "thing"] (spD G 2 m27) := by
  obtain ⟨f23, fd23, d23⟩ := c.d23
  have F23 := ok23 (P := P) (w := w) (base := base) hK hP hw c d23
  obtain ⟨_, T_BadStream⟩ := c.e_BadStream.txt
  refine fn_ok d.F sc27 (by decide) fun cdv A outer s0 H hs E hr => ?_
  have tk : Takes (cxOf (L2.CX P w) P w K mg base ["trade", "thing"] "require_stream" (defScope (top 27)) f cdv A outer s0 H E) (fun cls dx _ H' => E cls dx H') := takes_of rfl rfl rfl rfl
  have hu : (A.deeper (PyProof.Rows.envOfC "require_stream" (defScope (top 27)) s0.heap.objs.size f cdv)).units + 64 < cLine := room64 hr
  exact (ss_one (ss_if (et_not (et_tru hK (ee_call F23 (hr.mono (by decide)) rfl d23.g d23.k d23.b tk (ea_cons (ee_pv (pv 0)) (ea_cons (ee_pv (pv 1)) ea_nil))))) (ss_one (ss_raise1 rfl T_BadStream c.e_BadStream.fl hr tk (ee_pv (pv 1)) rfl)) ss_nil))
theorem sc32 : FnScope ["trade", "dated", "deed", "others", "offer", "days"] ["trade", "dated", "deed"] (defScope (top 32)) := ⟨rfl, rfl, rfl, by decide +kernel, rfl, by decide +kernel, by decide +kernel⟩
def m32 : List D → T D := fn 6 (sSeq (sIf ((fun ρ => gOp (eqD false) (gOp ixA (gVar 2) (gC (.int 0))) (gC (.str "day")) ρ >>= asB)) (sRet ((fun ρ => (gCons (gVar 1) (gCons (gC (.int 1)) (gNil))) ρ >>= fun l => if l.length = 2 then m25 l else .bad))) (sNext)) (sSeq (sNew1 3 (oComp ((fun ρ => (gVar 1) ρ >>= seqD)) (bTup 2 (bCons (bName 4) (bCons (bName 5) (bNil)))) ((fun ρ => gOp (eqD true) (gVar 4) (gOp ixA (gVar 2) (gC (.int 1))) ρ >>= asB)) (gTup (gCons (gVar 4) (gCons (gVar 5) (gNil)))) [4, 5])) (sSeq (sIf ((fun ρ => gOp (eqD false) (gOp ixA (gVar 2) (gC (.int 0))) (gC (.str "come")) ρ >>= asB)) (sApp 3 (gTup (gCons (gOp ixA (gVar 2) (gC (.int 1))) (gCons (gOp ixA ((fun ρ => (gVar 0) ρ >>= fldD 5 0)) (gOp ixA (gVar 2) (gC (.int 1)))) (gNil))))) (sNext)) (sFrz 3 (sRet (gCall asT (gCons (gCall sortedX (gCons (gVar 3) (gNil))) (gNil))))))))
theorem ok32 (hK : G.K = K) (hP : G.P = P) (hw : G.w = w) (c : Facts K mg G.cls G.flds) {f : Addr} {fd : FuncData} (d : Dn K mg "behind" (top 32) ["trade", "dated", "deed"] f fd) : FnOk P w K mg base (L2.CX P w) 3 f fd ["trade", "dated", "deed"] (spD G 3 m32) := by
  obtain ⟨f25, fd25, d25⟩ := c.d25
  have F25 := ok25 (P := P) (w := w) (base := base) hK hP hw c d25
  refine fn_ok d.F sc32 (by decide) fun cdv A outer s0 H hs E hr => ?_
  have tk : Takes (cxOf (L2.CX P w) P w K mg base ["trade", "dated", "deed", "others", "offer", "days"] "behind" (defScope (top 32)) f cdv A outer s0 H E) (fun cls dx _ H' => E cls dx H') := takes_of rfl rfl rfl rfl
  have hu : (A.deeper (PyProof.Rows.envOfC "behind" (defScope (top 32)) s0.heap.objs.size f cdv)).units + 64 < cLine := room64 hr
  exact (ss_cons (ss_if (et_cmp (op_eqD hu) (d_eq hK) (ee_ixA hK hP hw hu (ee_pv (pv 2)) ee_int) ee_str) (ss_one (ss_ret (ee_call F25 (hr.mono (by decide)) rfl d25.g d25.k d25.b tk (ea_cons (ee_pv (pv 1)) (ea_cons ee_int ea_nil))))) ss_nil) (ss_cons (ss_newLc (i := 3) (own := [("offer", 4), ("days", 5)]) rfl sc32.nd rfl rfl (ei_seq hK (ee_pv (pv 1))) (blkOk_by (N := ["trade", "dated", "deed", "others", "offer", "days"]) (sc := defScope (top 32)) (by decide +kernel)) (tgt_tup hK (tgts_cons (tgt_name 4 (by decide)) (tgts_cons (tgt_name 5 (by decide)) tgts_nil))) (fun _ _ _ _ _ => (pg_tup rfl (pgs_cons (pg_name (i := 4) sc32.nd rfl (by first | exact Or.inl rfl | exact Or.inr rfl)) (pgs_cons (pg_name (i := 5) sc32.nd rfl (by first | exact Or.inl rfl | exact Or.inr rfl)) pgs_nil)))) (fun _ _ _ _ _ => (ets_one (et_cmp (op_neD hu) (d_ne hK) (ee_pv (pv 4)) (ee_ixA hK hP hw hu (ee_pv (pv 2)) ee_int)))) (fun _ _ _ _ _ => (ee_tup (ea_cons (ee_pv (pv 4)) (ea_cons (ee_pv (pv 5)) ea_nil))))) (ss_cons (ss_if (et_cmp (op_eqD hu) (d_eq hK) (ee_ixA hK hP hw hu (ee_pv (pv 2)) ee_int) ee_str) (ss_one (ss_app (pv 3) (ee_tup (ea_cons (ee_ixA hK hP hw hu (ee_pv (pv 2)) ee_int) (ea_cons (ee_ixA hK hP hw hu (ee_fld c.c_Trade.own.cl (c.c_Trade.no _ (by decide)) (ix_of c.c_Trade.fl rfl) (ee_pv (pv 0))) (ee_ixA hK hP hw hu (ee_pv (pv 2)) ee_int)) ea_nil))))) ss_nil) (ss_frz (i := 3) (ss_one (ss_ret (ee_bty call_tuple_of (d_asT hK) rfl c.n_tuple (by decide +kernel) (ea_cons (ee_blt (CallR_or (cr_sortD hK hu) (cr_sortK rfl hK hu)) (DoesN.or (d_sortD hK) (d_sortK hK hP hw)) rfl c.n_sorted (by decide +kernel) (ea_cons (ee_pv (pv 3)) ea_nil)) ea_nil))))))))
theorem sc30 : FnScope ["trade", "stream", "start", "found", "deed"] ["trade", "stream", "start"] (defScope (top 30)) := ⟨rfl, rfl, rfl, by decide +kernel, rfl, by decide +kernel, by decide +kernel⟩
def m30 : List D → T D := fn 5 (sSeq (sExpr ((fun ρ => (gCons (gVar 0) (gCons (gVar 2) (gNil))) ρ >>= fun l => if l.length = 2 then m26 l else .bad))) (sSeq (sExpr ((fun ρ => (gCons (gVar 0) (gCons (gVar 1) (gNil))) ρ >>= fun l => if l.length = 2 then m27 l else .bad))) (sSeq (sNew1 3 (oLst (gCons (gVar 2) (gNil)))) (sSeq (sFor ((fun ρ => (gVar 1) ρ >>= seqD)) (bName 4) (sApp 3 ((fun ρ => (gCons (gVar 0) (gCons (gIxL 3 ((fun ρ => (gC (.int 1)) ρ >>= fun d => opt (iNeg d)))) (gCons (gVar 4) (gNil)))) ρ >>= fun l => if l.length = 3 then m32 l else .bad)))) (sFrz 3 (sRet (gCall asT (gCons (gVar 3) (gNil)))))))))
theorem ok30 (hK : G.K = K) (hP : G.P = P) (hw : G.w = w) (c : Facts K mg G.cls G.flds) {f : Addr} {fd : FuncData} (d : Dnk K mg "moments" (top 30) ["trade", "stream", "start"] f fd) : FnOk P w K mg base (L2.CX P w) 7 f fd ["trade", "stream", "start"] (spD G 3 m30) := by
  obtain ⟨f26, fd26, d26⟩ := c.d26
  have F26 := ok26 (P := P) (w := w) (base := base) hK hP hw c d26
  obtain ⟨f27, fd27, d27⟩ := c.d27
  have F27 := ok27 (P := P) (w := w) (base := base) hK hP hw c d27
  obtain ⟨f32, fd32, d32⟩ := c.d32
  have F32 := ok32 (P := P) (w := w) (base := base) hK hP hw c d32
  refine fn_ok d.F sc30 (by decide) fun cdv A outer s0 H hs E hr => ?_
  have tk : Takes (cxOf (L2.CX P w) P w K mg base ["trade", "stream", "start", "found", "deed"] "moments" (defScope (top 30)) f cdv A outer s0 H E) (fun cls dx _ H' => E cls dx H') := takes_of rfl rfl rfl rfl
  have hu : (A.deeper (PyProof.Rows.envOfC "moments" (defScope (top 30)) s0.heap.objs.size f cdv)).units + 64 < cLine := room64 hr
  exact (ss_cons (ss_expr (ee_call F26 (hr.mono (by decide)) rfl d26.g d26.k d26.b tk (ea_cons (ee_pv (pv 0)) (ea_cons (ee_pv (pv 2)) ea_nil)))) (ss_cons (ss_expr (ee_call F27 (hr.mono (by decide)) rfl d27.g d27.k d27.b tk (ea_cons (ee_pv (pv 0)) (ea_cons (ee_pv (pv 1)) ea_nil)))) (ss_cons (ss_new1 (i := 3) sc30.nd rfl (by first | exact Or.inl rfl | exact Or.inr rfl) (ne_lst (ea_cons (ee_pv (pv 2)) ea_nil))) (ss_cons (ss_for (vs := [4]) (passes_of rfl) rfl (ei_seq hK (ee_pv (pv 1))) (pg_name (i := 4) sc30.nd rfl (by first | exact Or.inl rfl | exact Or.inr rfl)) (tgt_name 4 (by decide)) (ss_one (ss_app (pv 3) (ee_call F32 (hr.mono (by decide)) rfl d32.g d32.k d32.b tk (ea_cons (ee_pv (pv 0)) (ea_cons (ee_ixL (pv 3) (ee_neg ee_int)) (ea_cons (ee_pv (pv 4)) ea_nil))))))) (ss_frz (i := 3) (ss_one (ss_ret (ee_bty call_tuple_of (d_asT hK) rfl c.n_tuple (by decide +kernel) (ea_cons (ee_pv (pv 3)) ea_nil)))))))))
theorem sc29 : FnScope ["trade", "stream", "start"] ["trade", "stream", "start"] (defScope (top 29)) := ⟨rfl, rfl, rfl, by decide +kernel, rfl, by decide +kernel, by decide +kernel⟩
def m29 : List D → T D := fn 3 (sRet (gOp ixA ((gFnK 2 1 3 [0, 1, 2] m30 (gCons (gVar 0) (gCons (gVar 1) (gNil))) (gCons (gVar 2) (gNil)))) ((fun ρ => (gC (.int 1)) ρ >>= fun d => opt (iNeg d)))))
theorem ok29 (hK : G.K = K) (hP : G.P = P) (hw : G.w = w) (c : Facts K mg G.cls G.flds) {f : Addr} {fd : FuncData} (d : Dnk K mg "stands" (top 29) ["trade", "stream", "start"] f fd) : FnOk P w K mg base (L2.CX P w) 8 f fd ["trade", "stream", "start"] (spD G 3 m29) := by
  obtain ⟨f30, fd30, d30⟩ := c.d30
  have F30 := ok30 (P := P) (w := w) (base := base) hK hP hw c d30
  have d30_k0 : KBd K fd30 ["trade", "stream", "start"] 2 ["start"] [0, 1, 2] := c.d30_k0 _ _ d30.F
  refine fn_ok d.F sc29 (by decide) fun cdv A outer s0 H hs E hr => ?_
  have tk : Takes (cxOf (L2.CX P w) P w K mg base ["trade", "stream", "start"] "stands" (defScope (top 29)) f cdv A outer s0 H E) (fun cls dx _ H' => E cls dx H') := takes_of rfl rfl rfl rfl
  have hu : (A.deeper (PyProof.Rows.envOfC "stands" (defScope (top 29)) s0.heap.objs.size f cdv)).units + 64 < cLine := room64 hr
  exact (ss_one (ss_ret (ee_ixA hK hP hw hu (ee_callK1 (ks := ["start"]) (js := [0, 1, 2]) F30 (hr.mono (by decide)) rfl d30.g d30.k d30_k0 tk (ea_cons (ee_pv (pv 0)) (ea_cons (ee_pv (pv 1)) ea_nil)) (ek_cons (pk_cons (ee_pv (pv 2)) ek_nil))) (ee_neg ee_int))))
theorem sc31 : FnScope ["trade", "dated", "ages", "stream", "to_pass", "offer", "days", "age", "_"] ["trade", "dated"] (defScope (top 31)) := ⟨rfl, rfl, rfl, by decide +kernel, rfl, by decide +kernel, by decide +kernel⟩
def m31 : List D → T D := fn 9 (sSeq (sExpr ((fun ρ => (gCons (gVar 0) (gCons (gVar 1) (gNil))) ρ >>= fun l => if l.length = 2 then m26 l else .bad))) (sSeq (sSet 2 (gComp ((fun ρ => (gVar 1) ρ >>= seqD)) (bTup 2 (bCons (bName 5) (bCons (bName 6) (bNil)))) (gYes) (gTup (gCons (gOp iSub (gOp ixA ((fun ρ => (gVar 0) ρ >>= fldD 5 0)) (gVar 5)) (gVar 6)) (gCons (gVar 5) (gNil)))) [5, 6])) (sSeq (sNew1 3 (oLst (gNil))) (sSeq (sFor ((fun ρ => (gOp (fun a b => (iAdd a b).or (catD a b)) (gMaxD (gComp ((fun ρ => (gVar 2) ρ >>= seqD)) (bTup 2 (bCons (bName 7) (bCons (bName 8) (bNil)))) (gYes) (gVar 7) [7, 8]) (gC (.int 0))) (gC (.int 1))) ρ >>= fun d => rev1 [d])) (bName 4) (sSeq (sExt 3 (gComp ((fun ρ => (gVar 2) ρ >>= seqD)) (bTup 2 (bCons (bName 7) (bCons (bName 5) (bNil)))) ((fun ρ => gOp (eqD false) (gVar 7) (gVar 4) ρ >>= asB)) (gTup (gCons (gC (.str "come")) (gCons (gVar 5) (gNil)))) [7, 5])) (sIf ((fun ρ => gOp (cmpI (fun i j => decide (j < i))) (gVar 4) (gC (.int 0)) ρ >>= asB)) (sApp 3 (gTup (gCons (gC (.str "day")) (gNil)))) (sNext)))) (sFrz 3 (sRet (gCall asT (gCons (gVar 3) (gNil)))))))))
theorem ok31 (hK : G.K = K) (hP : G.P = P) (hw : G.w = w) (c : Facts K mg G.cls G.flds) {f : Addr} {fd : FuncData} (d : Dn K mg "bringing" (top 31) ["trade", "dated"] f fd) : FnOk P w K mg base (L2.CX P w) 6 f fd ["trade", "dated"] (spD G 2 m31) := by
  obtain ⟨f26, fd26, d26⟩ := c.d26
  have F26 := ok26 (P := P) (w := w) (base := base) hK hP hw c d26
  refine fn_ok d.F sc31 (by decide) fun cdv A outer s0 H hs E hr => ?_
  have tk : Takes (cxOf (L2.CX P w) P w K mg base ["trade", "dated", "ages", "stream", "to_pass", "offer", "days", "age", "_"] "bringing" (defScope (top 31)) f cdv A outer s0 H E) (fun cls dx _ H' => E cls dx H') := takes_of rfl rfl rfl rfl
  have hu : (A.deeper (PyProof.Rows.envOfC "bringing" (defScope (top 31)) s0.heap.objs.size f cdv)).units + 64 < cLine := room64 hr
  exact (ss_cons (ss_expr (ee_call F26 (hr.mono (by decide)) rfl d26.g d26.k d26.b tk (ea_cons (ee_pv (pv 0)) (ea_cons (ee_pv (pv 1)) ea_nil)))) (ss_cons (ss_setLc (i := 2) (own := [("offer", 5), ("days", 6)]) rfl sc31.nd rfl rfl (ei_seq hK (ee_pv (pv 1))) (blkOk_by (N := ["trade", "dated", "ages", "stream", "to_pass", "offer", "days", "age", "_"]) (sc := defScope (top 31)) (by decide +kernel)) (tgt_tup hK (tgts_cons (tgt_name 5 (by decide)) (tgts_cons (tgt_name 6 (by decide)) tgts_nil))) (fun _ _ _ _ _ => (pg_tup rfl (pgs_cons (pg_name (i := 5) sc31.nd rfl (by first | exact Or.inl rfl | exact Or.inr rfl)) (pgs_cons (pg_name (i := 6) sc31.nd rfl (by first | exact Or.inl rfl | exact Or.inr rfl)) pgs_nil)))) (fun _ _ _ _ _ => ets_nil) (fun _ _ _ _ _ => (ee_tup (ea_cons (ee_op op_sub d_sub (ee_ixA hK hP hw hu (ee_fld c.c_Trade.own.cl (c.c_Trade.no _ (by decide)) (ix_of c.c_Trade.fl rfl) (ee_pv (pv 0))) (ee_pv (pv 5))) (ee_pv (pv 6))) (ea_cons (ee_pv (pv 5)) ea_nil))))) (ss_cons (ss_new1 (i := 3) sc31.nd rfl (by first | exact Or.inl rfl | exact Or.inr rfl) (ne_lst ea_nil)) (ss_cons (ss_for (vs := [4]) (passes_of rfl) rfl (ei_revR1 rfl c.n_reversed rfl c.n_range (ee_op (op_add.or (op_catA.or op_cat)) (d_add.or (d_cat hK)) (ee_maxD rfl rfl c.n_max (ee_comp (own := [("age", 7), ("_", 8)]) rfl sc31.nd (ei_seq hK (ee_pv (pv 2))) (blkOk_by (N := ["trade", "dated", "ages", "stream", "to_pass", "offer", "days", "age", "_"]) (sc := defScope (top 31)) (by decide +kernel)) (tgt_tup hK (tgts_cons (tgt_name 7 (by decide)) (tgts_cons (tgt_name 8 (by decide)) tgts_nil))) (fun _ _ _ _ _ => (pg_tup rfl (pgs_cons (pg_name (i := 7) sc31.nd rfl (by first | exact Or.inl rfl | exact Or.inr rfl)) (pgs_cons (pg_name (i := 8) sc31.nd rfl (by first | exact Or.inl rfl | exact Or.inr rfl)) pgs_nil)))) (fun _ _ _ _ _ => ets_nil) (fun _ _ _ _ _ => (ee_pv (pv 7)))) (pk_cons ee_int ek_nil)) ee_int)) (pg_name (i := 4) sc31.nd rfl (by first | exact Or.inl rfl | exact Or.inr rfl)) (tgt_name 4 (by decide)) (ss_cons (ss_ext (pv 3) (ee_comp (own := [("age", 7), ("offer", 5)]) rfl sc31.nd (ei_seq hK (ee_pv (pv 2))) (blkOk_by (N := ["trade", "dated", "ages", "stream", "to_pass", "offer", "days", "age", "_"]) (sc := defScope (top 31)) (by decide +kernel)) (tgt_tup hK (tgts_cons (tgt_name 7 (by decide)) (tgts_cons (tgt_name 5 (by decide)) tgts_nil))) (fun _ _ _ _ _ => (pg_tup rfl (pgs_cons (pg_name (i := 7) sc31.nd rfl (by first | exact Or.inl rfl | exact Or.inr rfl)) (pgs_cons (pg_name (i := 5) sc31.nd rfl (by first | exact Or.inl rfl | exact Or.inr rfl)) pgs_nil)))) (fun _ _ _ _ _ => (ets_one (et_cmp (op_eqD hu) (d_eq hK) (ee_pv (pv 7)) (ee_pv (pv 4))))) (fun _ _ _ _ _ => (ee_tup (ea_cons ee_str (ea_cons (ee_pv (pv 5)) ea_nil)))))) (ss_one (ss_if (et_cmp op_gt (d_cmp (fun i j => decide (j < i))) (ee_pv (pv 4)) ee_int) (ss_one (ss_app (pv 3) (ee_tup (ea_cons ee_str ea_nil)))) ss_nil)))) (ss_frz (i := 3) (ss_one (ss_ret (ee_bty call_tuple_of (d_asT hK) rfl c.n_tuple (by decide +kernel) (ea_cons (ee_pv (pv 3)) ea_nil)))))))))
theorem sc34 : FnScope ["_law_script", "_law_cell"] ["_law_script"] (defScope (top 34)) := ⟨rfl, rfl, rfl, by decide +kernel, rfl, by decide +kernel, by decide +kernel⟩
def m34 (ns : List Int) : List D → T D := fn 2 (sRet (gDicS ["cells", "at"] (gCons (gComp ((fun ρ => (gScr ns 0 (optI none) (optI (some (gC (.int 60))))) ρ >>= seqD)) (bName 1) (gYes) (gOp iMod (gCall int1 (gCons (gVar 1) (gNil))) (gC (.int 1000000007))) [1]) (gCons (gC (.int 0)) (gNil)))))
theorem m34_is (ns : List Int) : m34 ns = deckM ns := rfl
theorem ok34 {ns : List Int} {cls : Nat → Addr} {flds : Nat → List Str} {tb : List (Addr × Str)} {o0 : Option HO} {pl : ∀ o, o0 = some o → Plain o} {as : Addr} (hsq : ∀ H, ScJ o0 as tb H → SqL K H as (ns.map V.int)) (c : Facts K mg cls flds) {f : Addr} {fd : FuncData} (d : Dn K mg "_law_deck" (top 34) ["_law_script"] f fd) : FnOk P w K mg base (L2.CX P w) 2 f fd ["_law_script"] (spD (mk0 P w K cls flds o0 pl as tb) 1 (deckM ns)) := by
  rw [← m34_is]
  have hK : (mk0 P w K cls flds o0 pl as tb).K = K := rfl
  refine fn_ok d.F sc34 (by decide) fun cdv A outer s0 H hs E hr => ?_
  have tk : Takes (cxOf (L2.CX P w) P w K mg base ["_law_script", "_law_cell"] "_law_deck" (defScope (top 34)) f cdv A outer s0 H E) (fun cls dx _ H' => E cls dx H') := takes_of rfl rfl rfl rfl
  have hu : (A.deeper (PyProof.Rows.envOfC "_law_deck" (defScope (top 34)) s0.heap.objs.size f cdv)).units + 64 < cLine := room64 hr
  exact (ss_one (ss_ret (ee_dicS (ks := ["cells", "at"]) (ed_cons (ee_comp (own := [("_law_cell", 1)]) rfl sc34.nd (ei_seq hK (ee_scr rfl hsq (pv 0) eo_none (eo_some ee_int))) (blkOk_by (N := ["_law_script", "_law_cell"]) (sc := defScope (top 34)) (by decide +kernel)) (tgt_name 1 (by decide)) (fun _ _ _ _ _ => (pg_name (i := 1) sc34.nd rfl (by first | exact Or.inl rfl | exact Or.inr rfl))) (fun _ _ _ _ _ => ets_nil) (fun _ _ _ _ _ => (ee_op op_modN d_mod (ee_bty call_int1 d_int1 rfl c.n_int (by decide +kernel) (ea_cons (ee_pv (pv 1)) ea_nil)) ee_int))) (ed_cons ee_int ed_nil)))))
theorem sc35 : FnScope ["_law_deck_here", "_law_below", "_law_at", "_law_cells"] ["_law_deck_here", "_law_below"] (defScope (top 35)) := ⟨rfl, rfl, rfl, by decide +kernel, rfl, by decide +kernel, by decide +kernel⟩
abbrev m35 : List D → T D := drawD
theorem ok35 {p cl : Addr} {tb : List (Addr × Str)} {cls : Nat → Addr} {flds : Nat → List Str} (c : Facts K mg cls flds) {f : Addr} {fd : FuncData} (d : Dn K mg "_law_draw" (top 35) ["_law_deck_here", "_law_below"] f fd) : FnOk P w K mg base (L2.CX P w) 2 f fd ["_law_deck_here", "_law_below"] (spD (mkG P w K cls flds p cl tb) 2 m35) := by
  refine draw_ok d.F sc35 fun cdv A outer s0 H E hr => ?_
  have hu2 := room64 hr
  have hu : (A.deeper (PyProof.Rows.envOfC "_law_draw" (defScope (top 35)) s0.heap.objs.size f cdv)).units + 1 < cLine := by
    have := room64 hr
    omega
  exact pss_cons (ps_par (i := 2) (j := 3) rfl sc35.nd rfl rfl (by decide) rfl rfl (pa_cons (pe_dget hu (pv 0) pe_str (fun _ _ => rfl)) (pa_cons (pe_dget hu (pv 0) pe_str (fun _ _ => rfl)) pa_nil)) rfl rfl)
    (pss_cons (ps_dput hu (pv 0) pe_str (pe_op op_add (pv 2) pe_int) rfl)
    (pss_cons (ps_if (pt_cmpR op_lt (pv 2) (pe_callB call_len_seq rfl c.n_len boot_len (pa_cons (pv 3) pa_nil)) (nomark _)) (pss_one (ps_ret (pe_op op_modN (pe_ix ix_list (pv 3) (pv 2) (by intro _ _; rfl)) (pv 1)))) pss_nil)
    (pss_cons (ps_if (pt_cmpR (op_eqD hu2) (pv 3) (pe_lst pa_nil) (nomark _)) (pss_one (ps_ret (pe_op op_modN (pe_op op_add (pe_op op_mul (pv 2) pe_int) (pe_op op_fdiv0 (pv 2) pe_int)) (pv 1)))) pss_nil)
    (pss_one (ps_ret (pe_op op_modN (pe_op op_add (pe_op op_add (pe_op op_fdiv0 (pe_ix ix_list (pv 3) (pe_op op_modN (pv 2) (pe_callB call_len_seq rfl c.n_len boot_len (pa_cons (pv 3) pa_nil))) (by intro _ _; rfl)) (pe_op op_add (pv 2) pe_int)) (pe_op op_mul (pv 2) pe_int)) (pe_op op_fdiv0 (pv 2) pe_int)) (pv 1)))))))
theorem sc36 : FnScope ["_law_lives", "_law_dated", "_law_deed", "_law_rest", "_law_pair", "_law_x", "_law_days"] ["_law_lives", "_law_dated", "_law_deed"] (defScope (top 36)) := ⟨rfl, rfl, rfl, by decide +kernel, rfl, by decide +kernel, by decide +kernel⟩
def m36 : List D → T D := fn 7 (sSeq (sIf ((fun ρ => gOp (eqD false) (gVar 2) (gTup (gCons (gC (.str "day")) (gNil))) ρ >>= asB)) (sRet (gCall asT (gCons (gComp ((fun ρ => (gVar 1) ρ >>= seqD)) (bTup 2 (bCons (bName 5) (bCons (bName 6) (bNil)))) ((fun ρ => gOp (cmpI (fun i j => decide (j < i))) (gVar 6) (gC (.int 1)) ρ >>= asB)) (gTup (gCons (gVar 5) (gCons (gOp iSub (gVar 6) (gC (.int 1))) (gNil)))) [5, 6]) (gNil)))) (sNext)) (sSeq (sSet 3 (gComp ((fun ρ => (gVar 1) ρ >>= seqD)) (bName 4) ((fun ρ => gOp (eqD true) (gOp ixA (gVar 4) (gC (.int 0))) (gOp ixA (gVar 2) (gC (.int 1))) ρ >>= asB)) (gVar 4) [4])) (sRet (gIf ((fun ρ => gOp (eqD false) (gOp ixA (gVar 2) (gC (.int 0))) (gC (.str "come")) ρ >>= asB)) (gCall asT (gCons (gCall sortedX (gCons (gOp (fun a b => (iAdd a b).or (catD a b)) (gVar 3) (gLst (gCons (gTup (gCons (gOp ixA (gVar 2) (gC (.int 1))) (gCons (gOp ixA (gVar 0) (gOp ixA (gVar 2) (gC (.int 1)))) (gNil)))) (gNil)))) (gNil))) (gNil))) (gCall asT (gCons (gVar 3) (gNil)))))))
theorem ok36 (hK : G.K = K) (hP : G.P = P) (hw : G.w = w) (c : Facts K mg G.cls G.flds) {f : Addr} {fd : FuncData} (d : Dn K mg "_law_behind" (top 36) ["_law_lives", "_law_dated", "_law_deed"] f fd) : FnOk P w K mg base (L2.CX P w) 2 f fd ["_law_lives", "_law_dated", "_law_deed"] (spD G 3 m36) := by
  refine fn_ok d.F sc36 (by decide) fun cdv A outer s0 H hs E hr => ?_
  have tk : Takes (cxOf (L2.CX P w) P w K mg base ["_law_lives", "_law_dated", "_law_deed", "_law_rest", "_law_pair", "_law_x", "_law_days"] "_law_behind" (defScope (top 36)) f cdv A outer s0 H E) (fun cls dx _ H' => E cls dx H') := takes_of rfl rfl rfl rfl
  have hu : (A.deeper (PyProof.Rows.envOfC "_law_behind" (defScope (top 36)) s0.heap.objs.size f cdv)).units + 64 < cLine := room64 hr
  exact (ss_cons (ss_if (et_cmp (op_eqD hu) (d_eq hK) (ee_pv (pv 2)) (ee_tup (ea_cons ee_str ea_nil))) (ss_one (ss_ret (ee_bty call_tuple_of (d_asT hK) rfl c.n_tuple (by decide +kernel) (ea_cons (ee_comp (own := [("_law_x", 5), ("_law_days", 6)]) rfl sc36.nd (ei_seq hK (ee_pv (pv 1))) (blkOk_by (N := ["_law_lives", "_law_dated", "_law_deed", "_law_rest", "_law_pair", "_law_x", "_law_days"]) (sc := defScope (top 36)) (by decide +kernel)) (tgt_tup hK (tgts_cons (tgt_name 5 (by decide)) (tgts_cons (tgt_name 6 (by decide)) tgts_nil))) (fun _ _ _ _ _ => (pg_tup rfl (pgs_cons (pg_name (i := 5) sc36.nd rfl (by first | exact Or.inl rfl | exact Or.inr rfl)) (pgs_cons (pg_name (i := 6) sc36.nd rfl (by first | exact Or.inl rfl | exact Or.inr rfl)) pgs_nil)))) (fun _ _ _ _ _ => (ets_one (et_cmp op_gt (d_cmp (fun i j => decide (j < i))) (ee_pv (pv 6)) ee_int))) (fun _ _ _ _ _ => (ee_tup (ea_cons (ee_pv (pv 5)) (ea_cons (ee_op op_sub d_sub (ee_pv (pv 6)) ee_int) ea_nil))))) ea_nil)))) ss_nil) (ss_cons (ss_setLc (i := 3) (own := [("_law_pair", 4)]) rfl sc36.nd rfl rfl (ei_seq hK (ee_pv (pv 1))) (blkOk_by (N := ["_law_lives", "_law_dated", "_law_deed", "_law_rest", "_law_pair", "_law_x", "_law_days"]) (sc := defScope (top 36)) (by decide +kernel)) (tgt_name 4 (by decide)) (fun _ _ _ _ _ => (pg_name (i := 4) sc36.nd rfl (by first | exact Or.inl rfl | exact Or.inr rfl))) (fun _ _ _ _ _ => (ets_one (et_cmp (op_neD hu) (d_ne hK) (ee_ixA hK hP hw hu (ee_pv (pv 4)) ee_int) (ee_ixA hK hP hw hu (ee_pv (pv 2)) ee_int)))) (fun _ _ _ _ _ => (ee_pv (pv 4)))) (ss_one (ss_ret (ee_if (et_cmp (op_eqD hu) (d_eq hK) (ee_ixA hK hP hw hu (ee_pv (pv 2)) ee_int) ee_str) (ee_bty call_tuple_of (d_asT hK) rfl c.n_tuple (by decide +kernel) (ea_cons (ee_blt (CallR_or (cr_sortD hK hu) (cr_sortK rfl hK hu)) (DoesN.or (d_sortD hK) (d_sortK hK hP hw)) rfl c.n_sorted (by decide +kernel) (ea_cons (ee_op (op_add.or (op_catA.or op_cat)) (d_add.or (d_cat hK)) (ee_pv (pv 3)) (ee_lst (ea_cons (ee_tup (ea_cons (ee_ixA hK hP hw hu (ee_pv (pv 2)) ee_int) (ea_cons (ee_ixA hK hP hw hu (ee_pv (pv 0)) (ee_ixA hK hP hw hu (ee_pv (pv 2)) ee_int)) ea_nil))) ea_nil))) ea_nil)) ea_nil)) (ee_bty call_tuple_of (d_asT hK) rfl c.n_tuple (by decide +kernel) (ea_cons (ee_pv (pv 3)) ea_nil)))))))
theorem sc37 : FnScope ["_law_lives", "_law_loose", "_law_n", "_law_deeds", "_law_first", "_law_edge", "_law_later", "_law_dated", "_law_deed", "_law_x", "_law_to"] ["_law_lives", "_law_loose"] (defScope (top 37)) := ⟨rfl, rfl, rfl, by decide +kernel, rfl, by decide +kernel, by decide +kernel⟩
def m37 : List D → T D := fn 11 (sSeq (sSet 2 (gCall lenX (gCons (gVar 0) (gNil)))) (sSeq (sSet 3 (gOp (fun a b => (iAdd a b).or (catD a b)) (gOp (fun a b => (iAdd a b).or (catD a b)) (gComp ((fun ρ => (gCons (gVar 2) (gNil)) ρ >>= rng1)) (bName 9) (gYes) (gTup (gCons (gC (.str "come")) (gCons (gVar 9) (gNil)))) [9]) (gLst (gCons (gTup (gCons (gC (.str "day")) (gNil))) (gNil)))) (gComp ((fun ρ => (gVar 1) ρ >>= seqD)) (bName 9) (gYes) (gTup (gCons (gC (.str "gone")) (gCons (gVar 9) (gNil)))) [9]))) (sSeq (sPar [4, 5] (iOwn (oDic1 (gTup (gNil)) (gTup (gNil))) (iVal (gLst (gCons (gTup (gNil)) (gNil))) (iNil)))) (sSeq (whileL ((fun ρ => gOp (eqD true) (gVar 5) (gLst (gNil)) ρ >>= asB)) (sSeq (sNew1 6 (oLst (gNil))) (sSeq (sFor ((fun ρ => (gVar 5) ρ >>= seqD)) (bName 7) (sFor ((fun ρ => (gVar 3) ρ >>= seqD)) (bName 8) (sSeq (sSet 10 ((fun ρ => (gCons (gVar 0) (gCons (gVar 7) (gCons (gVar 8) (gNil)))) ρ >>= fun l => if l.length = 3 then m36 l else .bad))) (sIf ((fun ρ => gInO true (gVar 10) 4 ρ >>= asB)) (sSeq (sPutO 4 (gVar 10) (gOp (fun a b => (iAdd a b).or (catD a b)) (gIxO 4 (gVar 7)) (gTup (gCons (gVar 8) (gNil))))) (sApp 6 (gVar 10))) (sNext))))) (sFrz 6 (sSet 5 (gVar 6))))) 100000) (sFrz 4 (sRet (gVar 4)))))))
theorem ok37 (hK : G.K = K) (hP : G.P = P) (hw : G.w = w) (c : Facts K mg G.cls G.flds) {f : Addr} {fd : FuncData} (d : Dn K mg "_law_all_first" (top 37) ["_law_lives", "_law_loose"] f fd) : FnOk P w K mg base (L2.CX P w) 3 f fd ["_law_lives", "_law_loose"] (spD G 2 m37) := by
  obtain ⟨f36, fd36, d36⟩ := c.d36
  have F36 := ok36 (P := P) (w := w) (base := base) hK hP hw c d36
  refine fn_ok d.F sc37 (by decide) fun cdv A outer s0 H hs E hr => ?_
  have tk : Takes (cxOf (L2.CX P w) P w K mg base ["_law_lives", "_law_loose", "_law_n", "_law_deeds", "_law_first", "_law_edge", "_law_later", "_law_dated", "_law_deed", "_law_x", "_law_to"] "_law_all_first" (defScope (top 37)) f cdv A outer s0 H E) (fun cls dx _ H' => E cls dx H') := takes_of rfl rfl rfl rfl
  have hu : (A.deeper (PyProof.Rows.envOfC "_law_all_first" (defScope (top 37)) s0.heap.objs.size f cdv)).units + 64 < cLine := room64 hr
  exact (ss_cons (ss_set (i := 2) sc37.nd rfl (by first | exact Or.inl rfl | exact Or.inr rfl) (ee_blt (CallR_or call_len_seq cr_lenK) (DoesN.or (d_lenS hK) (d_lenK hK hP hw)) rfl c.n_len (by decide +kernel) (ea_cons (ee_pv (pv 0)) ea_nil))) (ss_cons (ss_set (i := 3) sc37.nd rfl (by first | exact Or.inl rfl | exact Or.inr rfl) (ee_op (op_add.or (op_catA.or op_cat)) (d_add.or (d_cat hK)) (ee_op (op_add.or (op_catA.or op_cat)) (d_add.or (d_cat hK)) (ee_comp (own := [("_law_x", 9)]) rfl sc37.nd (ei_range1 rfl c.n_range (ea_cons (ee_pv (pv 2)) ea_nil)) (blkOk_by (N := ["_law_lives", "_law_loose", "_law_n", "_law_deeds", "_law_first", "_law_edge", "_law_later", "_law_dated", "_law_deed", "_law_x", "_law_to"]) (sc := defScope (top 37)) (by decide +kernel)) (tgt_name 9 (by decide)) (fun _ _ _ _ _ => (pg_name (i := 9) sc37.nd rfl (by first | exact Or.inl rfl | exact Or.inr rfl))) (fun _ _ _ _ _ => ets_nil) (fun _ _ _ _ _ => (ee_tup (ea_cons ee_str (ea_cons (ee_pv (pv 9)) ea_nil))))) (ee_lst (ea_cons (ee_tup (ea_cons ee_str ea_nil)) ea_nil))) (ee_comp (own := [("_law_x", 9)]) rfl sc37.nd (ei_seq hK (ee_pv (pv 1))) (blkOk_by (N := ["_law_lives", "_law_loose", "_law_n", "_law_deeds", "_law_first", "_law_edge", "_law_later", "_law_dated", "_law_deed", "_law_x", "_law_to"]) (sc := defScope (top 37)) (by decide +kernel)) (tgt_name 9 (by decide)) (fun _ _ _ _ _ => (pg_name (i := 9) sc37.nd rfl (by first | exact Or.inl rfl | exact Or.inr rfl))) (fun _ _ _ _ _ => ets_nil) (fun _ _ _ _ _ => (ee_tup (ea_cons ee_str (ea_cons (ee_pv (pv 9)) ea_nil))))))) (ss_cons (ss_par2 (i := 4) (j := 5) rfl sc37.nd rfl rfl (by decide) rfl rfl (it_own (ne_dic1 hK hP hw hu (ee_tup ea_nil) (ee_tup ea_nil)) (it_val (ee_lst (ea_cons (ee_tup ea_nil) ea_nil)) it_nil))) (ss_cons (ss_while 100000 (passes_of rfl) (et_cmp (op_neD hu) (d_ne hK) (ee_pv (pv 5)) (ee_lst ea_nil)) (ss_cons (ss_new1 (i := 6) sc37.nd rfl (by first | exact Or.inl rfl | exact Or.inr rfl) (ne_lst ea_nil)) (ss_cons (ss_for (vs := [7]) (passes_of rfl) rfl (ei_seq hK (ee_pv (pv 5))) (pg_name (i := 7) sc37.nd rfl (by first | exact Or.inl rfl | exact Or.inr rfl)) (tgt_name 7 (by decide)) (ss_one (ss_for (vs := [8]) (passes_of rfl) rfl (ei_seq hK (ee_pv (pv 3))) (pg_name (i := 8) sc37.nd rfl (by first | exact Or.inl rfl | exact Or.inr rfl)) (tgt_name 8 (by decide)) (ss_cons (ss_set (i := 10) sc37.nd rfl (by first | exact Or.inl rfl | exact Or.inr rfl) (ee_call F36 (hr.mono (by decide)) rfl d36.g d36.k d36.b tk (ea_cons (ee_pv (pv 0)) (ea_cons (ee_pv (pv 7)) (ea_cons (ee_pv (pv 8)) ea_nil))))) (ss_one (ss_if (et_inO hK hP hw true (ee_pv (pv 10)) (pv 4) (op_notInO hu)) (ss_cons (ss_putO hK hP hw hu (pv 4) (ee_pv (pv 10)) (ee_op (op_add.or (op_catA.or op_cat)) (d_add.or (d_cat hK)) (ee_ixO hK hP hw hu (pv 4) (ee_pv (pv 7))) (ee_tup (ea_cons (ee_pv (pv 8)) ea_nil)))) (ss_one (ss_app (pv 6) (ee_pv (pv 10))))) ss_nil)))))) (ss_frz (i := 6) (ss_one (ss_set (i := 5) sc37.nd rfl (by first | exact Or.inl rfl | exact Or.inr rfl) (ee_pv (pv 6)))))))) (ss_frz (i := 4) (ss_one (ss_ret (ee_pv (pv 4)))))))))
theorem sc38 : FnScope ["_law_call", "_law_found", "e"] ["_law_call"] (defScope (top 38)) := ⟨rfl, rfl, rfl, by decide +kernel, rfl, by decide +kernel, by decide +kernel⟩
def s38 (th : T D) : Sm := sSeq (sSet 1 (gC .non)) (sSeq (sTry 2 (exM 0 [1, 2, 3, 4] 3) (sExpr (gThk 0 th)) (sSet 1 (gLst (gCons (gXf 2 3 0) (gNil))))) (sRet (gVar 1)))
theorem t38 {X : Cx} {G : Gl} (hK : G.K = X.K) (hP : G.P = X.prog) (hw : G.w = X.w) (c : Facts X.K X.mg G.cls G.flds) {g : Addr} {cg : Value} (s : Shared) (H : Hp) (E : XK) (f : Addr) (y : Up) (th : T D) (hs : Hid) (hr : Room 1 (X.A.deeper (PyProof.Rows.envOfC "_law_told" (defScope (top 38)) s.heap.objs.size g cg)))
    (act0 : Act X G ["_law_call", "_law_found", "e"] "_law_told" (defScope (top 38)) g cg s H E f y "_law_call" th) : SSs (gCx X ["_law_call", "_law_found", "e"] "_law_told" (defScope (top 38)) g cg s H E) (G.to G.ea (some (f, y))) (fun cls dx _ H' => E cls dx H') hs (defBody (top 38)) (s38 th) := by
  obtain ⟨_, T_BadDated⟩ := c.e_BadDated.txt
  have tk : Takes (gCx X ["_law_call", "_law_found", "e"] "_law_told" (defScope (top 38)) g cg s H E) (fun cls dx _ H' => E cls dx H') := takes_of rfl rfl rfl rfl
  have hu : (X.A.deeper (PyProof.Rows.envOfC "_law_told" (defScope (top 38)) s.heap.objs.size g cg)).units + 64 < cLine := room64 hr
  exact (ss_cons (ss_set (i := 1) sc38.nd rfl (by first | exact Or.inl rfl | exact Or.inr rfl) ee_non) (ss_cons (ss_try (i := 2) (m := (exM 0 [1, 2, 3, 4] 3)) (c := .ref (G.cls 3)) rfl rfl sc38.nd rfl rfl ⟨rfl, by decide, .inl T_BadDated.gC⟩ tk (c.x.exm 3) (fun W pn xe tk => (ss_one (ss_expr (act0 _ _ _ _ _ tk)))) (fun a oe cls d pn hz hf => (ss_one (ss_set (i := 1) sc38.nd rfl (by first | exact Or.inl rfl | exact Or.inr rfl) (ee_lst (ea_cons (ee_xf (c := 3) (c.x.asked 3 (by decide)).xf T_BadDated.noN (ix_of c.e_BadDated.fl rfl) hz hf (pv 2)) ea_nil)))))) (ss_one (ss_ret (ee_pv (pv 1))))))
theorem sc39 : FnScope ["_law_script", "_law_deck_here", "_law_n", "_law_lives", "_law_loose", "_law_many", "_law_life", "_law_dated", "_law_odd", "_law_thing", "_law_trade", "_law_first", "_law_told_here", "_law_waits", "_law_x", "_law_days"] ["_law_script"] (defScope (top 39)) := ⟨rfl, rfl, rfl, by decide +kernel, rfl, by decide +kernel, by decide +kernel⟩
def sL : Sm := sSeq (sSet 2 (gOp (fun a b => (iAdd a b).or (catD a b)) (gC (.int 1)) ((fun ρ => (gCons (gVar 1) (gCons (gC (.int 3)) (gNil))) ρ >>= fun l => if l.length = 2 then m35 l else .bad)))) (sSeq (sSet 3 (gCall asT (gCons (gComp ((fun ρ => (gCons (gVar 2) (gNil)) ρ >>= rng1)) (bName 14) (gYes) (gIf ((fun ρ => gOp (cmpI (fun i j => decide (i < j))) (gVar 2) (gC (.int 3)) ρ >>= asB)) (gOp ixA (gLst (gCons (gC (.int 1)) (gCons (gC (.int 2)) (gCons (gC (.int 2)) (gCons (gC (.int 3)) (gNil)))))) ((fun ρ => (gCons (gVar 1) (gCons (gC (.int 4)) (gNil))) ρ >>= fun l => if l.length = 2 then m35 l else .bad))) (gOp (fun a b => (iAdd a b).or (catD a b)) (gC (.int 1)) ((fun ρ => (gCons (gVar 1) (gCons (gC (.int 2)) (gNil))) ρ >>= fun l => if l.length = 2 then m35 l else .bad)))) [14]) (gNil)))) (sSeq (sSet 4 (gCall asT (gCons (gComp ((fun ρ => (gCons (gVar 2) (gNil)) ρ >>= rng1)) (bName 14) ((fun ρ => gOp (eqD false) ((fun ρ => (gCons (gVar 1) (gCons (gC (.int 2)) (gNil))) ρ >>= fun l => if l.length = 2 then m35 l else .bad)) (gC (.int 1)) ρ >>= asB)) (gVar 14) [14]) (gNil)))) (sSeq (sPar [10, 11] (iVal (gMake 2 5 m18_0 (gCons (gVar 3) (gCons (gVar 4) (gNil)))) (iVal ((fun ρ => (gCons (gVar 3) (gCons (gVar 4) (gNil))) ρ >>= fun l => if l.length = 2 then m37 l else .bad)) (iNil)))) (sSeq (sSet 5 (gC (.int 1))) (sSeq (sFor ((fun ρ => (gVar 3) ρ >>= seqD)) (bName 6) (sSet 5 (gOp iMul (gVar 5) (gOp (fun a b => (iAdd a b).or (catD a b)) (gVar 6) (gC (.int 1)))))) (sSeq (sIf ((fun ρ => gOp (eqD true) (gCall lenX (gCons (gVar 11) (gNil))) (gVar 5) ρ >>= asB)) (sRet (gC (.bl false))) (sNext)) (sSeq (sFor ((fun ρ => (gCall sortedX (gCons (gVar 11) (gNil))) ρ >>= seqD)) (bName 7) (sSeq (sPar [12, 13] (iVal ((fun ρ => (gCons (gVar 10) (gCons (gVar 7) (gNil))) ρ >>= fun l => if l.length = 2 then m31 l else .bad)) (iVal (gComp ((fun ρ => (gVar 7) ρ >>= seqD)) (bTup 2 (bCons (bName 14) (bCons (bName 15) (bNil)))) (gYes) (gOp iSub (gOp ixA (gVar 3) (gVar 14)) (gVar 15)) [14, 15]) (iNil)))) (sSeq (sIf ((fun ρ => gOp (eqD true) (gCall lenX (gCons (gVar 12) (gNil))) (gOp (fun a b => (iAdd a b).or (catD a b)) (gCall lenX (gCons (gVar 7) (gNil))) (gCall maxL (gCons (gOp (fun a b => (iAdd a b).or (catD a b)) (gVar 13) (gLst (gCons (gC (.int 0)) (gNil)))) (gNil)))) ρ >>= asB)) (sRet (gC (.bl false))) (sNext)) (sIf (gOrT ((fun ρ => gOp (eqD true) (gVar 12) (gOp ixA (gVar 11) (gVar 7)) ρ >>= asB)) ((fun ρ => gOp (eqD true) ((gFnF 2 0 3 [0, 1, 2] [.tup []] m29 (gCons (gVar 10) (gCons (gVar 12) (gNil))) (gNil))) (gVar 7) ρ >>= asB))) (sRet (gC (.bl false))) (sNext))))) (sSeq (sSet 8 (gLst (gCons (gTup (gCons (gTup (gCons (gC (.int 0)) (gCons (gOp (fun a b => (iAdd a b).or (catD a b)) (gOp ixA (gVar 3) (gC (.int 0))) (gC (.int 1))) (gNil)))) (gNil))) (gCons (gTup (gCons (gTup (gCons (gVar 2) (gCons (gC (.int 1)) (gNil)))) (gNil))) (gCons (gC .non) (gCons (gC (.int 7)) (gCons (gTup (gCons (gTup (gCons (gC (.int 0)) (gCons (gC (.bl true)) (gNil)))) (gNil))) (gCons (gLst (gNil)) (gCons (gTup (gCons (gTup (gCons (gC (.int 0)) (gCons (gC (.int 0)) (gNil)))) (gNil))) (gCons (gTup (gCons (gC (.int 0)) (gCons (gC (.int 1)) (gNil)))) (gCons (gTup (gCons (gTup (gCons (gC (.int 0)) (gCons (gC (.int 1)) (gNil)))) (gCons (gTup (gCons (gC (.int 0)) (gCons (gC (.int 1)) (gNil)))) (gNil)))) (gCons (gC (.str "()")) (gNil))))))))))))) (sSeq (sSet 9 (gOp ixA (gVar 8) ((fun ρ => (gCons (gVar 1) (gCons (gC (.int 10)) (gNil))) ρ >>= fun l => if l.length = 2 then m35 l else .bad)))) (sRet (gOp (eqD false) ((fun ρ => runS (s38 (((gFnK 0 2 2 [0, 1] m31 gNil (gCons (gVar 10) (gCons (gVar 9) (gNil))))) (seen ρ)) (envT 3)))) (gLst (gCons (gVar 9) (gNil))))))))))))))
theorem okLaw {cls : Nat → Addr} {flds : Nat → List Str} (c : Facts K mg cls flds) {c0 Pt : Addr} (TB : LamX.TabB base mg c0 Pt) {f : Addr} {fd : FuncData} (F : FunC K "law" "law" (top 39) f fd (.ref c0)) (hall : (sL (envL 16)).wp (fun o => o = .ret (.bl true)) (fun _ _ => False)) : FnOk P w K mg base (L2.CX P w) 9 f fd ["_law_script"] (spLaw K [(Pt, "law" ++ ".<locals>." ++ "<lambda>")]) := by
  obtain ⟨f34, fd34, d34⟩ := c.d34
  have FD : FnOk P w K mg base (L2.CX P w) 2 f34 fd34 ["_law_script"] (spDeck K [(Pt, "law" ++ ".<locals>." ++ "<lambda>")]) := deck_sp fun o0 pl as ns hsq => ok34 (o0 := o0) (pl := pl) (as := as) hsq c d34
  obtain ⟨f35, fd35, d35⟩ := c.d35
  obtain ⟨f37, fd37, d37⟩ := c.d37
  obtain ⟨f18_0, fd18_0, d18_0⟩ := c.d18_0
  obtain ⟨f31, fd31, d31⟩ := c.d31
  obtain ⟨f29, fd29, d29⟩ := c.d29
  obtain ⟨f38, fd38, d38⟩ := c.d38
  refine law_ok (cls := cls) (flds := flds) (k := 8) (E0 := fun E σ cls d H' => E cls d H') F sc39 (by decide) rfl (fun A outer s0 H E hr => ps_set (i := 1) sc39.nd rfl (by first | exact Or.inl rfl | exact Or.inr rfl) (pe_callS FD (hr.mono (by decide)) rfl d34.g d34.k d34.b (fun σ => passAt (takes_of rfl rfl rfl rfl) σ) (pa_cons (pv 0) pa_nil))) (fun p cl A outer s0 H E hr => ?_) hall
  have F35 := ok35 (P := P) (w := w) (base := base) (p := p) (cl := cl) (tb := [(Pt, "law" ++ ".<locals>." ++ "<lambda>")]) c d35
  have F37 := ok37 (P := P) (w := w) (base := base) (G := (mkG P w K cls flds p cl [(Pt, "law" ++ ".<locals>." ++ "<lambda>")])) rfl rfl rfl c d37
  have F18_0 := ok18_0 (P := P) (w := w) (base := base) (G := (mkG P w K cls flds p cl [(Pt, "law" ++ ".<locals>." ++ "<lambda>")])) rfl rfl rfl c d18_0
  have F31 := ok31 (P := P) (w := w) (base := base) (G := (mkG P w K cls flds p cl [(Pt, "law" ++ ".<locals>." ++ "<lambda>")])) rfl rfl rfl c d31
  have F29 := ok29 (P := P) (w := w) (base := base) (G := (mkG P w K cls flds p cl [(Pt, "law" ++ ".<locals>." ++ "<lambda>")])) rfl rfl rfl c d29
  obtain ⟨_, d29_f0⟩ := c.d29_f0 _ _ d29.F d29.g
  have d31_k1 : KBd K fd31 ["trade", "dated"] 0 ["trade", "dated"] [0, 1] := c.d31_k1 _ _ d31.F
  have hK : (mkG P w K cls flds p cl [(Pt, "law" ++ ".<locals>." ++ "<lambda>")]).K = K := rfl
  have hP : (mkG P w K cls flds p cl [(Pt, "law" ++ ".<locals>." ++ "<lambda>")]).P = P := rfl
  have hw : (mkG P w K cls flds p cl [(Pt, "law" ++ ".<locals>." ++ "<lambda>")]).w = w := rfl
  have tk : Takes (cxOf (L2.CX P w) P w K mg base ["_law_script", "_law_deck_here", "_law_n", "_law_lives", "_law_loose", "_law_many", "_law_life", "_law_dated", "_law_odd", "_law_thing", "_law_trade", "_law_first", "_law_told_here", "_law_waits", "_law_x", "_law_days"] "law" (defScope (top 39)) f (.ref c0) A outer s0 H E) (fun cls dx _ H' => E cls dx H') := takes_of rfl rfl rfl rfl
  have hu : (A.deeper (PyProof.Rows.envOfC "law" (defScope (top 39)) s0.heap.objs.size f (.ref c0))).units + 64 < cLine := room64 hr
  exact (ss_cons (ss_set (i := 2) sc39.nd rfl (by first | exact Or.inl rfl | exact Or.inr rfl) (ee_op (op_add.or (op_catA.or op_cat)) (d_add.or (d_cat hK)) ee_int (ee_call F35 (hr.mono (by decide)) rfl d35.g d35.k d35.b tk (ea_cons (ee_pv (pv 1)) (ea_cons ee_int ea_nil))))) (ss_cons (ss_set (i := 3) sc39.nd rfl (by first | exact Or.inl rfl | exact Or.inr rfl) (ee_bty call_tuple_of (d_asT hK) rfl c.n_tuple (by decide +kernel) (ea_cons (ee_comp (own := [("_law_x", 14)]) rfl sc39.nd (ei_range1 rfl c.n_range (ea_cons (ee_pv (pv 2)) ea_nil)) (blkOk_by (N := ["_law_script", "_law_deck_here", "_law_n", "_law_lives", "_law_loose", "_law_many", "_law_life", "_law_dated", "_law_odd", "_law_thing", "_law_trade", "_law_first", "_law_told_here", "_law_waits", "_law_x", "_law_days"]) (sc := defScope (top 39)) (by decide +kernel)) (tgt_name 14 (by decide)) (fun _ _ _ _ _ => (pg_name (i := 14) sc39.nd rfl (by first | exact Or.inl rfl | exact Or.inr rfl))) (fun _ _ _ _ _ => ets_nil) (fun _ _ _ _ _ => (ee_if (et_cmp op_lt (d_cmp (fun i j => decide (i < j))) (ee_pv (pv 2)) ee_int) (ee_ixA hK hP hw hu (ee_lst (ea_cons ee_int (ea_cons ee_int (ea_cons ee_int (ea_cons ee_int ea_nil))))) (ee_call F35 (hr.mono (by decide)) rfl d35.g d35.k d35.b tk0 (ea_cons (ee_pv (pv 1)) (ea_cons ee_int ea_nil)))) (ee_op (op_add.or (op_catA.or op_cat)) (d_add.or (d_cat hK)) ee_int (ee_call F35 (hr.mono (by decide)) rfl d35.g d35.k d35.b tk0 (ea_cons (ee_pv (pv 1)) (ea_cons ee_int ea_nil))))))) ea_nil))) (ss_cons (ss_set (i := 4) sc39.nd rfl (by first | exact Or.inl rfl | exact Or.inr rfl) (ee_bty call_tuple_of (d_asT hK) rfl c.n_tuple (by decide +kernel) (ea_cons (ee_comp (own := [("_law_x", 14)]) rfl sc39.nd (ei_range1 rfl c.n_range (ea_cons (ee_pv (pv 2)) ea_nil)) (blkOk_by (N := ["_law_script", "_law_deck_here", "_law_n", "_law_lives", "_law_loose", "_law_many", "_law_life", "_law_dated", "_law_odd", "_law_thing", "_law_trade", "_law_first", "_law_told_here", "_law_waits", "_law_x", "_law_days"]) (sc := defScope (top 39)) (by decide +kernel)) (tgt_name 14 (by decide)) (fun _ _ _ _ _ => (pg_name (i := 14) sc39.nd rfl (by first | exact Or.inl rfl | exact Or.inr rfl))) (fun _ _ _ _ _ => (ets_one (et_cmp (op_eqD hu) (d_eq hK) (ee_call F35 (hr.mono (by decide)) rfl d35.g d35.k d35.b tk0 (ea_cons (ee_pv (pv 1)) (ea_cons ee_int ea_nil))) ee_int))) (fun _ _ _ _ _ => (ee_pv (pv 14)))) ea_nil))) (ss_cons (ss_par (is := [10, 11]) rfl hK (it_val (ee_make (Mn.mkC (x := "Trade") c.c_Trade d18_0) F18_0 (hr.mono (by decide)) rfl c.c_Trade.g d18_0.b tk (ea_cons (ee_pv (pv 3)) (ea_cons (ee_pv (pv 4)) ea_nil))) (it_val (ee_call F37 (hr.mono (by decide)) rfl d37.g d37.k d37.b tk (ea_cons (ee_pv (pv 3)) (ea_cons (ee_pv (pv 4)) ea_nil))) it_nil)) (pgs_cons (pg_name (i := 10) sc39.nd rfl (by first | exact Or.inl rfl | exact Or.inr rfl)) (pgs_cons (pg_name (i := 11) sc39.nd rfl (by first | exact Or.inl rfl | exact Or.inr rfl)) pgs_nil)) rfl) (ss_cons (ss_set (i := 5) sc39.nd rfl (by first | exact Or.inl rfl | exact Or.inr rfl) ee_int) (ss_cons (ss_for (vs := [6]) (passes_of rfl) rfl (ei_seq hK (ee_pv (pv 3))) (pg_name (i := 6) sc39.nd rfl (by first | exact Or.inl rfl | exact Or.inr rfl)) (tgt_name 6 (by decide)) (ss_one (ss_set (i := 5) sc39.nd rfl (by first | exact Or.inl rfl | exact Or.inr rfl) (ee_op op_mul d_mul (ee_pv (pv 5)) (ee_op (op_add.or (op_catA.or op_cat)) (d_add.or (d_cat hK)) (ee_pv (pv 6)) ee_int))))) (ss_cons (ss_if (et_cmp (op_neD hu) (d_ne hK) (ee_blt (CallR_or call_len_seq cr_lenK) (DoesN.or (d_lenS hK) (d_lenK hK hP hw)) rfl c.n_len (by decide +kernel) (ea_cons (ee_pv (pv 11)) ea_nil)) (ee_pv (pv 5))) (ss_one (ss_ret ee_bl)) ss_nil) (ss_cons (ss_for (vs := [7]) (passes_of rfl) rfl (ei_seq hK (ee_blt (CallR_or (cr_sortD hK hu) (cr_sortK rfl hK hu)) (DoesN.or (d_sortD hK) (d_sortK hK hP hw)) rfl c.n_sorted (by decide +kernel) (ea_cons (ee_pv (pv 11)) ea_nil))) (pg_name (i := 7) sc39.nd rfl (by first | exact Or.inl rfl | exact Or.inr rfl)) (tgt_name 7 (by decide)) (ss_cons (ss_par2 (i := 12) (j := 13) rfl sc39.nd rfl rfl (by decide) rfl rfl (it_val (ee_call F31 (hr.mono (by decide)) rfl d31.g d31.k d31.b tk (ea_cons (ee_pv (pv 10)) (ea_cons (ee_pv (pv 7)) ea_nil))) (it_val (ee_comp (own := [("_law_x", 14), ("_law_days", 15)]) rfl sc39.nd (ei_seq hK (ee_pv (pv 7))) (blkOk_by (N := ["_law_script", "_law_deck_here", "_law_n", "_law_lives", "_law_loose", "_law_many", "_law_life", "_law_dated", "_law_odd", "_law_thing", "_law_trade", "_law_first", "_law_told_here", "_law_waits", "_law_x", "_law_days"]) (sc := defScope (top 39)) (by decide +kernel)) (tgt_tup hK (tgts_cons (tgt_name 14 (by decide)) (tgts_cons (tgt_name 15 (by decide)) tgts_nil))) (fun _ _ _ _ _ => (pg_tup rfl (pgs_cons (pg_name (i := 14) sc39.nd rfl (by first | exact Or.inl rfl | exact Or.inr rfl)) (pgs_cons (pg_name (i := 15) sc39.nd rfl (by first | exact Or.inl rfl | exact Or.inr rfl)) pgs_nil)))) (fun _ _ _ _ _ => ets_nil) (fun _ _ _ _ _ => (ee_op op_sub d_sub (ee_ixA hK hP hw hu (ee_pv (pv 3)) (ee_pv (pv 14))) (ee_pv (pv 15))))) it_nil))) (ss_cons (ss_if (et_cmp (op_neD hu) (d_ne hK) (ee_blt (CallR_or call_len_seq cr_lenK) (DoesN.or (d_lenS hK) (d_lenK hK hP hw)) rfl c.n_len (by decide +kernel) (ea_cons (ee_pv (pv 12)) ea_nil)) (ee_op (op_add.or (op_catA.or op_cat)) (d_add.or (d_cat hK)) (ee_blt (CallR_or call_len_seq cr_lenK) (DoesN.or (d_lenS hK) (d_lenK hK hP hw)) rfl c.n_len (by decide +kernel) (ea_cons (ee_pv (pv 7)) ea_nil)) (ee_blt (L2.cr_max rfl) d_maxL rfl c.n_max (by decide +kernel) (ea_cons (ee_op (op_add.or (op_catA.or op_cat)) (d_add.or (d_cat hK)) (ee_pv (pv 13)) (ee_lst (ea_cons ee_int ea_nil))) ea_nil)))) (ss_one (ss_ret ee_bl)) ss_nil) (ss_one (ss_if (PW.pt (ew_or (et_cmp (op_neD hu) (d_ne hK) (ee_pv (pv 12)) (ee_ixA hK hP hw hu (ee_pv (pv 11)) (ee_pv (pv 7)))) (ew_or1 (et_cmp (op_neD hu) (d_ne hK) (ee_callF1 (ks := []) (js := [0, 1, 2]) (dm := [.tup []]) hK F29 (hr.mono (by decide)) rfl d29.g d29.k d29_f0.1 d29_f0.2 tk (ea_cons (ee_pv (pv 10)) (ea_cons (ee_pv (pv 12)) ea_nil)) ek_nil) (ee_pv (pv 7)))))) (ss_one (ss_ret ee_bl)) ss_nil))))) (ss_cons (ss_set (i := 8) sc39.nd rfl (by first | exact Or.inl rfl | exact Or.inr rfl) (ee_lst (ea_cons (ee_tup (ea_cons (ee_tup (ea_cons ee_int (ea_cons (ee_op (op_add.or (op_catA.or op_cat)) (d_add.or (d_cat hK)) (ee_ixA hK hP hw hu (ee_pv (pv 3)) ee_int) ee_int) ea_nil))) ea_nil)) (ea_cons (ee_tup (ea_cons (ee_tup (ea_cons (ee_pv (pv 2)) (ea_cons ee_int ea_nil))) ea_nil)) (ea_cons ee_non (ea_cons ee_int (ea_cons (ee_tup (ea_cons (ee_tup (ea_cons ee_int (ea_cons ee_bl ea_nil))) ea_nil)) (ea_cons (ee_lst ea_nil) (ea_cons (ee_tup (ea_cons (ee_tup (ea_cons ee_int (ea_cons ee_int ea_nil))) ea_nil)) (ea_cons (ee_tup (ea_cons ee_int (ea_cons ee_int ea_nil))) (ea_cons (ee_tup (ea_cons (ee_tup (ea_cons ee_int (ea_cons ee_int ea_nil))) (ea_cons (ee_tup (ea_cons ee_int (ea_cons ee_int ea_nil))) ea_nil))) (ea_cons ee_str ea_nil)))))))))))) (ss_cons (ss_set (i := 9) sc39.nd rfl (by first | exact Or.inl rfl | exact Or.inr rfl) (ee_ixA hK hP hw hu (ee_pv (pv 8)) (ee_call F35 (hr.mono (by decide)) rfl d35.g d35.k d35.b tk (ea_cons (ee_pv (pv 1)) (ea_cons ee_int ea_nil))))) (ss_one (ss_ret (ee_cmp (op_eqD hu) (d_eq hK) (by exact ee_lam (Ng := ["_law_call", "_law_found", "e"]) (sT := s38) (k := 6) d38 rfl sc38 rfl (Or.inl rfl) tk TB rfl (by exact List.mem_singleton.mpr rfl) (fun q hq _ => by have e := List.mem_singleton.mp hq; rw [e]; rfl) (hr.mono (by decide)) (LamX.lamS_by (show LamX.lamSB (defScope (top 39)) _ = true by decide +kernel)) rfl (fun _ _ _ _ _ => rfl) (by intro _ _ Al ol sl Hl El hr; have hu := room64 hr; exact (ee_callK0 (ks := ["trade", "dated"]) (js := [0, 1]) F31 (hr.mono (by decide)) rfl d31.g d31.k d31_k1 (takes_of rfl rfl rfl rfl) (ek_cons (pk_cons (ee_pv (pv 10)) (ek_cons (pk_cons (ee_pv (pv 9)) ek_nil)))))) (fun cg s H E f y th hs hr act => t38 rfl rfl rfl c s H E f y th hs (hr.mono (by decide)) act)) (ee_lst (ea_cons (ee_pv (pv 9)) ea_nil)))))))))))))))
end
end Py
set_option Elab.async false
set_option linter.all false
set_option maxRecDepth 1000000
namespace Py
open PySem
/-- the outcome of a law is True, whatever is drawn -/
def allO : T Out → Bool
  | .ret (.ret (.bl true)) => true
  | .draw n k => (List.range n).all fun i => allO (k i)
  | _ => false
theorem allO_wp : ∀ {t : T Out}, allO t = true → t.wp (fun o => o = .ret (.bl true)) (fun _ _ => False)
  | .ret (.ret (.bl true)), _ => rfl
  | .draw n k, h => fun i hi => allO_wp (List.all_eq_true.mp h i (List.mem_range.mpr hi))
/-- the first draw of a run -/
def wide {α : Type} : T α → Nat
  | .draw n _ => n
  | _ => 0
/-- the run behind a first draw -/
def behindD {α : Type} (i : Nat) : T α → T α
  | .draw _ k => k i
  | _ => .bad
theorem allO_draw {t : T Out} {n : Nat} (e : wide t = n) (h : ∀ i, i < n → allO (behindD i t) = true) (hn : n ≠ 0) : allO t = true := by
  cases t with
  | draw m k =>
    have e : m = n := e
    subst e
    exact List.all_eq_true.mpr fun i hi => h i (List.mem_range.mp hi)
  | _ => exact absurd e.symm hn
def run0 : T Out := sL (envL 16)
theorem part0 : allO (behindD 0 run0) = true := by decide +kernel
theorem part1_0 : allO (behindD 0 (behindD 1 run0)) = true := by decide +kernel
theorem part1_1 : allO (behindD 1 (behindD 1 run0)) = true := by decide +kernel
theorem part1_2 : allO (behindD 2 (behindD 1 run0)) = true := by decide +kernel
theorem part1_3 : allO (behindD 3 (behindD 1 run0)) = true := by decide +kernel
theorem part2_0_0_0 : allO (behindD 0 (behindD 0 (behindD 0 (behindD 2 run0)))) = true := by decide +kernel
theorem part2_0_0_1 : allO (behindD 1 (behindD 0 (behindD 0 (behindD 2 run0)))) = true := by decide +kernel
theorem part2_0_1_0 : allO (behindD 0 (behindD 1 (behindD 0 (behindD 2 run0)))) = true := by decide +kernel
theorem part2_0_1_1 : allO (behindD 1 (behindD 1 (behindD 0 (behindD 2 run0)))) = true := by decide +kernel
theorem part2_1_0_0 : allO (behindD 0 (behindD 0 (behindD 1 (behindD 2 run0)))) = true := by decide +kernel
theorem part2_1_0_1 : allO (behindD 1 (behindD 0 (behindD 1 (behindD 2 run0)))) = true := by decide +kernel
theorem part2_1_1_0 : allO (behindD 0 (behindD 1 (behindD 1 (behindD 2 run0)))) = true := by decide +kernel
theorem part2_1_1_1 : allO (behindD 1 (behindD 1 (behindD 1 (behindD 2 run0)))) = true := by decide +kernel
theorem hall : allO (sL (envL 16)) = true := allO_draw (show wide run0 = 3 by decide +kernel) (fun i hi => (match i, hi with | 0, _ => part0 | 1, _ => allO_draw (show wide (behindD 1 run0) = 4 by decide +kernel) (fun i hi => (match i, hi with | 0, _ => part1_0 | 1, _ => part1_1 | 2, _ => part1_2 | 3, _ => part1_3 | (k + 4), h => absurd h (by omega))) (by decide) | 2, _ => allO_draw (show wide (behindD 2 run0) = 2 by decide +kernel) (fun i hi => (match i, hi with | 0, _ => allO_draw (show wide (behindD 0 (behindD 2 run0)) = 2 by decide +kernel) (fun i hi => (match i, hi with | 0, _ => allO_draw (show wide (behindD 0 (behindD 0 (behindD 2 run0))) = 2 by decide +kernel) (fun i hi => (match i, hi with | 0, _ => part2_0_0_0 | 1, _ => part2_0_0_1 | (k + 2), h => absurd h (by omega))) (by decide) | 1, _ => allO_draw (show wide (behindD 1 (behindD 0 (behindD 2 run0))) = 2 by decide +kernel) (fun i hi => (match i, hi with | 0, _ => part2_0_1_0 | 1, _ => part2_0_1_1 | (k + 2), h => absurd h (by omega))) (by decide) | (k + 2), h => absurd h (by omega))) (by decide) | 1, _ => allO_draw (show wide (behindD 1 (behindD 2 run0)) = 2 by decide +kernel) (fun i hi => (match i, hi with | 0, _ => allO_draw (show wide (behindD 0 (behindD 1 (behindD 2 run0))) = 2 by decide +kernel) (fun i hi => (match i, hi with | 0, _ => part2_1_0_0 | 1, _ => part2_1_0_1 | (k + 2), h => absurd h (by omega))) (by decide) | 1, _ => allO_draw (show wide (behindD 1 (behindD 1 (behindD 2 run0))) = 2 by decide +kernel) (fun i hi => (match i, hi with | 0, _ => part2_1_1_0 | 1, _ => part2_1_1_1 | (k + 2), h => absurd h (by omega))) (by decide) | (k + 2), h => absurd h (by omega))) (by decide) | (k + 2), h => absurd h (by omega))) (by decide) | (k + 3), h => absurd h (by omega))) (by decide)
end Py
set_option Elab.async false
set_option linter.all false
set_option maxRecDepth 100000
set_option maxHeartbeats 0
namespace Py
namespace Hk
open PySem PySem.Spec PyProof.Rows L2
def names : List Str := ["OfferError", "BadText", "BadTrade", "BadDated", "BadStream", "Trade"]
def fls : List (List Str) := [[], ["line"], ["part"], ["thing"], ["thing"], ["lives", "loose"]]
def fnL : List He.DefD := [⟨("is_integer", none), "is_integer", "is_integer", defArgs (top 7), defBody (top 7), defScope (top 7), [], []⟩, ⟨("is_integer_within", none), "is_integer_within", "is_integer_within", defArgs (top 8), defBody (top 8), defScope (top 8), [], []⟩, ⟨("is_set", none), "is_set", "is_set", defArgs (top 14), defBody (top 14), defScope (top 14), [], []⟩, ⟨("are_lives", none), "are_lives", "are_lives", defArgs (top 19), defBody (top 19), defScope (top 19), [], []⟩, ⟨("Trade", some "__init__"), "__init__", "Trade.__init__", defArgs (meth 18 0), defBody (meth 18 0), defScope (meth 18 0), [], []⟩, ⟨("Trade", some "__len__"), "__len__", "Trade.__len__", defArgs (meth 18 1), defBody (meth 18 1), defScope (meth 18 1), [], []⟩, ⟨("is_dated", none), "is_dated", "is_dated", defArgs (top 22), defBody (top 22), defScope (top 22), [], []⟩, ⟨("is_deed", none), "is_deed", "is_deed", defArgs (top 24), defBody (top 24), defScope (top 24), [], []⟩, ⟨("is_stream", none), "is_stream", "is_stream", defArgs (top 23), defBody (top 23), defScope (top 23), [], []⟩, ⟨("aged", none), "aged", "aged", defArgs (top 25), defBody (top 25), defScope (top 25), [], []⟩, ⟨("require_dated", none), "require_dated", "require_dated", defArgs (top 26), defBody (top 26), defScope (top 26), [], []⟩, ⟨("require_stream", none), "require_stream", "require_stream", defArgs (top 27), defBody (top 27), defScope (top 27), [], []⟩, ⟨("behind", none), "behind", "behind", defArgs (top 32), defBody (top 32), defScope (top 32), [], []⟩, ⟨("moments", none), "moments", "moments", defArgs (top 30), defBody (top 30), defScope (top 30), [], [("start", .adr (kwAt "moments" "start"))]⟩, ⟨("stands", none), "stands", "stands", defArgs (top 29), defBody (top 29), defScope (top 29), [], [("start", .adr (kwAt "stands" "start"))]⟩, ⟨("bringing", none), "bringing", "bringing", defArgs (top 31), defBody (top 31), defScope (top 31), [], []⟩, ⟨("_law_deck", none), "_law_deck", "_law_deck", defArgs (top 34), defBody (top 34), defScope (top 34), [], []⟩, ⟨("_law_draw", none), "_law_draw", "_law_draw", defArgs (top 35), defBody (top 35), defScope (top 35), [], []⟩, ⟨("_law_behind", none), "_law_behind", "_law_behind", defArgs (top 36), defBody (top 36), defScope (top 36), [], []⟩, ⟨("_law_all_first", none), "_law_all_first", "_law_all_first", defArgs (top 37), defBody (top 37), defScope (top 37), [], []⟩, ⟨("_law_told", none), "_law_told", "_law_told", defArgs (top 38), defBody (top 38), defScope (top 38), [], []⟩, ⟨("law", none), "law", "law", defArgs (top 39), defBody (top 39), defScope (top 39), [], []⟩, ⟨("BadDated", some "__init__"), "__init__", "BadDated.__init__", defArgs (meth 4 0), defBody (meth 4 0), defScope (meth 4 0), [], []⟩, ⟨("BadStream", some "__init__"), "__init__", "BadStream.__init__", defArgs (meth 5 0), defBody (meth 5 0), defScope (meth 5 0), [], []⟩, ⟨("BadTrade", some "__init__"), "__init__", "BadTrade.__init__", defArgs (meth 3 0), defBody (meth 3 0), defScope (meth 3 0), [], []⟩]
def ckL : List (PySem.W.Frag → Bool) := [gloB "is_integer", gloB "is_integer_within", gloB "is_set", gloB "are_lives", mnB "Trade" "__init__", mnB "Trade" "__len__", gloB "is_dated", gloB "is_deed", gloB "is_stream", gloB "aged", gloB "require_dated", gloB "require_stream", gloB "behind", gloB "moments", gloB "stands", gloB "bringing", gloB "_law_deck", gloB "_law_draw", gloB "_law_behind", gloB "_law_all_first", gloB "_law_told", nilKwB "stands" "start", freeB "all", freeB "bool", freeB "int", freeB "isinstance", freeB "len", freeB "max", freeB "range", freeB "reversed", freeB "sorted", freeB "tuple", intB "LONGEST_LIFE" 99, intB "MOST_LIVES" 9, cnB "Trade" ["lives", "loose"], txtB "BadDated" "thing", txtB "BadStream" "thing", txtB "BadTrade" "part", xnB names 0 [1, 2, 3, 4], gloB "law"]
abbrev R : PySem.W.OpenRow := PySem.W.OpenLaw.row PySem.Challenge.rw_offerstands_k12_streams_that_bring
abbrev hkL : PySem.W.Hook := hook 5 ckL fnL
def obL (s : PySem.W.SharedT) : Bool × He.AlD := obsG 5 ckL fnL (HandSHeadRun.getT s)
theorem obL_eq (s : PySem.W.SharedT) : obL s = hkL.obs s.abs := obs_eq (HandSHeadRun.getT_eq s)
def loose : List Str := ((["OfferError", "BadText", "BadTrade", "BadDated", "BadStream", "is_integer", "is_integer_within", "text_lines", "numbered_head", "line_at"] : List Str) ++ (["require_last", "is_set", "MOST_LIVES", "LONGEST_LIFE", "Trade", "are_lives", "offer_line", "rows_read", "is_dated", "is_stream"] : List Str) ++ (["is_deed", "aged", "require_dated", "require_stream", "stands", "moments", "bringing", "behind", "_law_deck", "_law_draw"] : List Str) ++ (["_law_behind", "_law_all_first", "_law_told"] : List Str))
theorem runL (w : World) : HandSHeadRun.RunEq R (PySem.W.view R.prog [39]) hkL obL 4000 ((["OfferError", "BadText", "BadTrade", "BadDated", "BadStream", "is_integer", "is_integer_within", "text_lines", "numbered_head", "line_at"] : List Str) ++ (["require_last", "is_set", "MOST_LIVES", "LONGEST_LIFE", "Trade", "are_lives", "offer_line", "rows_read", "is_dated", "is_stream"] : List Str) ++ (["is_deed", "aged", "require_dated", "require_stream", "stands", "moments", "bringing", "behind", "_law_deck", "_law_draw"] : List Str) ++ (["_law_behind", "_law_all_first", "_law_told"] : List Str)) w := by
  intro os
  kernel_rfl
theorem factsL {K : PySem.W.Frag} {P : Addr} {h : Heap} {mg : Str → Option Value} (X : K.In h) (G : h.Ns mainGlobals mg) (c : obsK ckL fnL K P = He.valD fnL) : Facts K mg (clsK names K) (fldsK fls) where
  d7 := dn_ok X G (def_ c 0) (fact c 0) (fun _ _ _ _ _ _ us hl => match us, hl with | [_], _ => rfl)
  d8 := dn_ok X G (def_ c 1) (fact c 1) (fun _ _ _ _ _ _ us hl => match us, hl with | [_, _, _], _ => rfl)
  d14 := dn_ok X G (def_ c 2) (fact c 2) (fun _ _ _ _ _ _ us hl => match us, hl with | [_, _], _ => rfl)
  d19 := dn_ok X G (def_ c 3) (fact c 3) (fun _ _ _ _ _ _ us hl => match us, hl with | [_], _ => rfl)
  d18_0 := mn_ok (x := "Trade") (def_ c 4) (fact c 4) (fun _ _ _ _ _ _ us hl => match us, hl with | [_, _, _], _ => rfl)
  d18_1 := mn_ok (x := "Trade") (def_ c 5) (fact c 5) (fun _ _ _ _ _ _ us hl => match us, hl with | [_], _ => rfl)
  d22 := dn_ok X G (def_ c 6) (fact c 6) (fun _ _ _ _ _ _ us hl => match us, hl with | [_, _], _ => rfl)
  d24 := dn_ok X G (def_ c 7) (fact c 7) (fun _ _ _ _ _ _ us hl => match us, hl with | [_, _], _ => rfl)
  d23 := dn_ok X G (def_ c 8) (fact c 8) (fun _ _ _ _ _ _ us hl => match us, hl with | [_, _], _ => rfl)
  d25 := dn_ok X G (def_ c 9) (fact c 9) (fun _ _ _ _ _ _ us hl => match us, hl with | [_, _], _ => rfl)
  d26 := dn_ok X G (def_ c 10) (fact c 10) (fun _ _ _ _ _ _ us hl => match us, hl with | [_, _], _ => rfl)
  d27 := dn_ok X G (def_ c 11) (fact c 11) (fun _ _ _ _ _ _ us hl => match us, hl with | [_, _], _ => rfl)
  d32 := dn_ok X G (def_ c 12) (fact c 12) (fun _ _ _ _ _ _ us hl => match us, hl with | [_, _, _], _ => rfl)
  d30 := dnk_ok X G (def_ c 13) (fact c 13)
  d29 := dnk_ok X G (def_ c 14) (fact c 14)
  d31 := dn_ok X G (def_ c 15) (fact c 15) (fun _ _ _ _ _ _ us hl => match us, hl with | [_, _], _ => rfl)
  d34 := dn_ok X G (def_ c 16) (fact c 16) (fun _ _ _ _ _ _ us hl => match us, hl with | [_], _ => rfl)
  d35 := dn_ok X G (def_ c 17) (fact c 17) (fun _ _ _ _ _ _ us hl => match us, hl with | [_, _], _ => rfl)
  d36 := dn_ok X G (def_ c 18) (fact c 18) (fun _ _ _ _ _ _ us hl => match us, hl with | [_, _, _], _ => rfl)
  d37 := dn_ok X G (def_ c 19) (fact c 19) (fun _ _ _ _ _ _ us hl => match us, hl with | [_, _], _ => rfl)
  d38 := dn_ok X G (def_ c 20) (fact c 20) (fun _ _ _ _ _ _ us hl => match us, hl with | [_], _ => rfl)
  d30_k0 := kd_ok fun _ _ _ _ _ _ us ws l1 l2 => match us, ws, l1, l2 with | [_, _], [_], _, _ => rfl
  d31_k1 := kd_ok fun _ _ _ _ _ _ us ws l1 l2 => match us, ws, l1, l2 with | [], [_, _], _, _ => rfl
  d29_f0 := kf_ok (kws := [("start", He.Dv.v K (.adr (kwAt "stands" "start")))]) (mk := [("start", He.Dv.v K (.adr (kwAt "stands" "start")))]) X G (def_ c 14) (fact c 14) (fun z => nomatch z) (fun q hq => by simpa using hq) ⟨.inr (.inr ⟨rfl, _, rfl, nilKw_ok (fact c 21)⟩), trivial⟩ fun _ _ _ _ _ _ us ws mv l1 l2 l3 => match us, ws, mv, l1, l2, l3 with | [_, _], [], [_], _, _, _ => ⟨_, _, _, _, _, _, rfl, rfl, rfl⟩
  n_all := He.free_ok X G (fact c 22)
  n_bool := He.free_ok X G (fact c 23)
  n_int := He.free_ok X G (fact c 24)
  n_isinstance := He.free_ok X G (fact c 25)
  n_len := He.free_ok X G (fact c 26)
  n_max := He.free_ok X G (fact c 27)
  n_range := He.free_ok X G (fact c 28)
  n_reversed := He.free_ok X G (fact c 29)
  n_sorted := He.free_ok X G (fact c 30)
  n_tuple := He.free_ok X G (fact c 31)
  k_LONGEST_LIFE := He.int_ok X G (fact c 32)
  k_MOST_LIVES := He.int_ok X G (fact c 33)
  c_Trade := cn_ok X G rfl (fact c 34)
  e_BadDated := en_ok X G (def_ c 22) (fact c 35) rfl rfl rfl rfl ⟨by decide, by decide⟩ fun _ _ _ _ _ _ _ _ _ _ _ _ _ _ => rfl
  e_BadStream := en_ok X G (def_ c 23) (fact c 36) rfl rfl rfl rfl ⟨by decide, by decide⟩ fun _ _ _ _ _ _ _ _ _ _ _ _ _ _ => rfl
  e_BadTrade := en_ok X G (def_ c 24) (fact c 37) rfl rfl rfl rfl ⟨by decide, by decide⟩ fun _ _ _ _ _ _ _ _ _ _ _ _ _ _ => rfl
  x := xn_ok X G (fact c 38) (by decide)
  own := fun _ z => nomatch z
end Hk
end Py
set_option Elab.async false
set_option linter.all false
set_option maxRecDepth 100000
set_option maxHeartbeats 0
open PySem PySem.W PySem.Calls PyProof.Rows
theorem PySem.Challenge.cw_offerstands_k12_streams_that_bring_holds : PySem.Challenge.rw_offerstands_k12_streams_that_bring.Holds := by
  w_on; o_law
  refine HandSHeadRun.head_any (r := OpenLaw.row PySem.Challenge.rw_offerstands_k12_streams_that_bring) (q := view (OpenLaw.row PySem.Challenge.rw_offerstands_k12_streams_that_bring).prog [39]) (H := Py.Hk.hkL) (ob := Py.Hk.obL) (M := 4000) (loose := ((["OfferError", "BadText", "BadTrade", "BadDated", "BadStream", "is_integer", "is_integer_within", "text_lines", "numbered_head", "line_at"] : List Str) ++ (["require_last", "is_set", "MOST_LIVES", "LONGEST_LIFE", "Trade", "are_lives", "offer_line", "rows_read", "is_dated", "is_stream"] : List Str) ++ (["is_deed", "aged", "require_dated", "require_stream", "stands", "moments", "bringing", "behind", "_law_deck", "_law_draw"] : List Str) ++ (["_law_behind", "_law_all_first", "_law_told"] : List Str))) (d := HandSHeadRun.topDef (OpenLaw.row PySem.Challenge.rw_offerstands_k12_streams_that_bring).prog 39) (kwd := []) Py.Hk.obL_eq
    (by kernel_rfl) (fun s => by kernel_rfl) Py.Hk.runL (by kernel_rfl) (by kernel_rfl) (by kernel_rfl) (by rfl) (by first | assumption | decide +kernel) (by decide +kernel) ⟨rfl, rfl, rfl, rfl, rfl, by decide +kernel⟩ ?hw ?hc
  case hw => w_witness2
  case hc =>
    refine LamX.walk_ofTsE (l := PySem.Challenge.rw_offerstands_k12_streams_that_bring) (n := 63) (k := 9) (x := "_law_script") (CX := fun w => L2.CX PySem.Challenge.pw_offerstands_k12_streams_that_bring w) rfl (by decide) (by kernel_rfl) ⟨rfl, by decide, by decide⟩ ?F ?hCX
    case hCX =>
      intro w H s e s' x
      obtain ⟨_, _, _, _, _, _, _, _, _, _, _, _, _, _, _, _, z⟩ := x
    case F =>
      intro w mg fa h Y G hmg0
      obtain ⟨K, P, KX, nP, hT, c⟩ := Y
      have hmg : mg ("law" : PySem.Str) = some (.ref fa) := by
        have e : (HandSHeadRun.topDef (OpenLaw.row PySem.Challenge.rw_offerstands_k12_streams_that_bring).prog 39).name = ("law" : PySem.Str) := by kernel_rfl
        rw [← e]
        exact hmg0
      have efa := hmg.symm.trans (He.glo_ok KX G (Py.Hk.fact c 39))
      cases efa
      obtain ⟨fd, FL⟩ := Py.Hk.law_fun (x := "law") (st := Py.top 39) (kws := []) (Py.Hk.def_ c 21)
      have hb : ∀ (s : Shared) (u : Value), BindsTo s fd ⟨[u], []⟩ [("_law_script", u)] := by
        intro s u
        obtain ⟨oc, od, kV, doc, pm, an, ct, osl, e1, _⟩ := FL.ex
        rw [e1]
        exact .of_eq rfl
      refine ⟨K, KX, fd, [(Py.Hk.lawC K, P)], Py.spLaw K [(P, "law" ++ ".<locals>." ++ "<lambda>")], ?_, ?_, ?_, hb, ?_, ?_⟩
      · intro p hp
        rw [List.mem_singleton.mp hp]
        exact hT
      · intro p hp
        rw [List.mem_singleton.mp hp]
        exact nP
      · intro p hp
        rw [List.mem_singleton.mp hp]
        exact Py.Hk.headB_ok KX (Py.Hk.head c)
      · intro H a ns hl _ hH sq
        refine ⟨a, ns, rfl, sq, hl, fun p hp => ?_, fun _ => rfl⟩
        rw [List.mem_singleton.mp hp]
        exact ⟨#[], hH _ (List.mem_singleton.mpr rfl), trivial, fun pos cv hc => nomatch hc⟩
      · intro base KB GB TB
        exact Py.okLaw (Py.Hk.factsL KX G c) (TB _ (List.mem_singleton.mpr rfl)) FL (Py.allO_wp Py.hall)
