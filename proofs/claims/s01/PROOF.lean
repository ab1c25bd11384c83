import PyProof.Rows.All
import Wide.All
import OpenK.AllK
import Wide.FinOn
import PyProof.EqAt
import PyProof.EqKinds
import PyProof.TupleCall
import KE.BitLaws
import KE.OsGo
import KE.RegKIsAll
import PyProof.SetScanFacts
import PyProof.SetKind
import PyProof.Seq
import PyProof.ForAny
import PyProof.Walks
import PyProof.WalksS
import PyProof.FactsAll.set
import PyProof.FactsAll.set_1
import PyProof.FactsAll.set_2
import PyProof.Rows.SetFrom
import PyProof.Rows.SortShellAny
import PyProof.CollectWalk
import PyProof.WalkInts
import PyProof.Rows.CallKwBuiltin
import PyProof.Rows.News
import PyProof.ConsumeWalk
import PySem.Challenge.RW_blameline_s01_answers
set_option Elab.async false
set_option linter.all false
set_option maxRecDepth 100000
/-! THE HAND LAYER, for ints, bools, texts, own classes, lists, tuples, dicts, comprehensions, walks over dicts, enumerate, zip, reversed, texts, calls, loops. Paste it whole ahead of your own text; what your proof does not reach may be deleted. -/
namespace L2
open PySem PySem.Spec PyProof.Rows

/-- a key: an int or a str -/
abbrev Key := Sum Int Str
def keyIs : Key → Value → Bool
  | .inl k, v => Value.isInt k v
  | .inr x, v => Value.isStrOf x v
def keyH (w : World) : Key → Int
  | .inl k => hashInt k
  | .inr x => hashStr w x
theorem keyIs_shape : ∀ {k : Key} {v : Value}, keyIs k v = true → (∃ i t, k = Sum.inl i ∧ v = Value.int i t) ∨ (∃ x t, k = Sum.inr x ∧ v = Value.str x t)
  | .inl i, v, h => by
    obtain ⟨t, e⟩ := Value.isInt_shape (k := i) (v := v) h
    exact .inl ⟨i, t, rfl, e⟩
  | .inr x, v, h => by
    obtain ⟨t, e⟩ := Value.isStrOf_shape (x := x) (v := v) h
    exact .inr ⟨x, t, rfl, e⟩
theorem key_ll (a b : Int) : decide ((Sum.inl a : Key) = Sum.inl b) = (a == b) := by
  by_cases e : a = b
  · subst e; simp
  · have h : ¬ (Sum.inl a : Key) = Sum.inl b := fun q => e (Sum.inl.inj q)
    rw [decide_eq_false h]
    exact (beq_eq_false_iff_ne.mpr e).symm
theorem key_rr (a b : Str) : decide ((Sum.inr a : Key) = Sum.inr b) = decide (a = b) := by
  by_cases e : a = b
  · subst e; simp
  · have h : ¬ (Sum.inr a : Key) = Sum.inr b := fun q => e (Sum.inr.inj q)
    rw [decide_eq_false h, decide_eq_false e]
theorem key_lr (a : Int) (b : Str) : decide ((Sum.inl a : Key) = Sum.inr b) = false := decide_eq_false (fun q => nomatch q)
theorem key_rl (a : Str) (b : Int) : decide ((Sum.inr a : Key) = Sum.inl b) = false := decide_eq_false (fun q => nomatch q)

def mixKind (prog : Program) (w : World) : PySem.KeyKind prog w Key where
  is := keyIs
  hash := keyH w
  inj := fun v a b ha hb => by
    rcases keyIs_shape ha with ⟨i, t, rfl, rfl⟩ | ⟨x, t, rfl, rfl⟩
    · rcases keyIs_shape hb with ⟨j, u, rfl, e⟩ | ⟨y, u, rfl, e⟩
      · injection e with e1 _; rw [e1]
      · exact nomatch e
    · rcases keyIs_shape hb with ⟨j, u, rfl, e⟩ | ⟨y, u, rfl, e⟩
      · exact nomatch e
      · injection e with e1 _; rw [e1]
  byValue := fun k v h => by
    rcases keyIs_shape h with ⟨i, t, rfl, rfl⟩ | ⟨x, t, rfl, rfl⟩ <;> rfl
  pyHash := fun hv h => by
    rcases keyIs_shape hv with ⟨i, t, rfl, rfl⟩ | ⟨x, t, rfl, rfl⟩
    · exact wpAny_pyHash_int h
    · exact wpAny_pyHash_str h
  eqBool := fun hu hv h => by
    rcases keyIs_shape hu with ⟨i, t, rfl, rfl⟩ | ⟨x, t, rfl, rfl⟩
    · rcases keyIs_shape hv with ⟨j, u, rfl, rfl⟩ | ⟨y, u, rfl, rfl⟩
      · rw [key_ll] at h; exact wpAny_eqBool_int h
      · rw [key_lr] at h; exact SeqAt.EqAt.int_str i t y u _ _ _ _ h
    · rcases keyIs_shape hv with ⟨j, u, rfl, rfl⟩ | ⟨y, u, rfl, rfl⟩
      · rw [key_rl] at h; exact SeqAt.EqAt.str_int x t j u _ _ _ _ h
      · rw [key_rr] at h; exact wpAny_eqBool_str h
  «strs» := fun k x t v h => by
    rcases keyIs_shape h with ⟨i, u, rfl, e⟩ | ⟨y, u, rfl, e⟩
    · exact nomatch e
    · injection e with e1 _
      subst e1
      cases v <;> rfl

end L2

namespace L2
open PySem PySem.Spec PyProof.Rows

/-- a value, without the heap -/
inductive V where
  | non | bl (b : Bool) | int (i : Int) | str (x : Str) | byt (b : Array UInt8) | flt (b : UInt64) | ref (a : Addr) | ty (n : String)
  deriving DecidableEq

def RelV : V → Value → Prop
  | .non, u => u = Value.none
  | .bl b, u => u = Value.bool b
  | .int i, u => ∃ t, u = Value.int i t
  | .str x, u => ∃ t, u = Value.str x t
  | .byt b, u => ∃ t, u = Value.bytes b t
  | .flt b, u => ∃ t, u = Value.float b t
  | .ref a, u => u = Value.ref a
  | .ty n, u => u = Value.type n

abbrev Vals : List V → List Value → Prop := Paired RelV
theorem Vals.length {xs : List V} {us : List Value} (r : Vals xs us) : xs.length = us.length := Paired.length r
theorem Vals.get : ∀ {xs : List V} {us : List Value} {i : Nat} {x : V}, Vals xs us → xs[i]? = some x → ∃ u, us[i]? = some u ∧ RelV x u
  | _, _, _, _, .nil, e => by simp at e
  | _, _, 0, _, .cons r _, e => by simp at e; subst e; exact ⟨_, rfl, r⟩
  | _, _, i + 1, x, .cons _ t, e => by
    obtain ⟨u, h1, h2⟩ := Vals.get (i := i) (x := x) t (by simpa using e)
    exact ⟨u, by simpa using h1, h2⟩
theorem Vals.append : ∀ {xs ys : List V} {us ws : List Value}, Vals xs us → Vals ys ws → Vals (xs ++ ys) (us ++ ws)
  | _, _, _, _, .nil, s => s
  | _, _, _, _, .cons r t, s => .cons r (Vals.append t s)
theorem Vals.take : ∀ {xs : List V} {us : List Value} (n : Nat), Vals xs us → Vals (xs.take n) (us.take n)
  | _, _, 0, _ => .nil
  | _, _, _ + 1, .nil => .nil
  | _, _, n + 1, .cons r t => .cons r (Vals.take n t)
theorem Vals.drop : ∀ {xs : List V} {us : List Value} (n : Nat), Vals xs us → Vals (xs.drop n) (us.drop n)
  | _, _, 0, r => r
  | _, _, _ + 1, .nil => .nil
  | _, _, n + 1, .cons _ t => Vals.drop n t
def RelO : Option V → Option Value → Prop
  | some v, some u => RelV v u
  | none, none => True
  | _, _ => False
def KV {κ : Type} : List (κ × V) → List (κ × Value) → Prop := Paired fun (p : κ × V) (q : κ × Value) => p.1 = q.1 ∧ RelV p.2 q.2

/-- a key of a dict (00_mix): an int or a text -/
def kV : Key → V
  | .inl i => .int i
  | .inr x => .str x

/-- what stands at a tracked address -/
inductive HO where
  /-- a list -/
  | lst (xs : List V)
  /-- a tuple (never changes) -/
  | tup (xs : List V)
  /-- a dict whose keys are ints and texts; one whose keys are tuples of ints and texts (the empty one is both) -/
  | dK (kvs : List (Key × V)) | dT (kvs : List (List Key × V))
  /-- a set of ints: its members, its size -/
  | set (S : Int → Bool) (n : Nat)
  /-- an instance of the class at C, its dict at dx, its attributes -/
  | ins (C dx : Addr) (fs : List (Str × V))
  /-- the dict of the instance at x -/
  | own (x : Addr)
  /-- the dict of an exception -/
  | xd (fs : List (Str × V))
  /-- a bound method, f of x -/
  | met (f x : Addr)
  /-- a range object lo, lo + 1, .. below hi -/
  | rng (lo hi : Int)
  /-- a thing that is known to the object (the script; a dict while a loop walks it): read, never written while it is so -/
  | frz (o : Obj) (u : HO)
  /-- a code object's table -/
  | tbl (ps : Array Value)
  /-- any other thing, by what is true of its one object (a def of one's own: SetO a S n := HO.ext fun h => ..) -/
  | ext (φ : Heap → Prop)

abbrev Hp := Addr → Option HO
def upd (H : Hp) (a : Addr) (o : HO) : Hp := fun b => if b = a then some o else H b
theorem upd_same {H : Hp} {a : Addr} {o : HO} : upd H a o a = some o := by unfold upd; rw [if_pos rfl]
theorem upd_ne {H : Hp} {a b : Addr} {o : HO} (h : b ≠ a) : upd H a o b = H b := by unfold upd; rw [if_neg h]
/-- two objects of different content stand apart -/
theorem ne_of {H : Hp} {a b : Addr} {o u : HO} (h : H a = some o) (h' : H b = some u) (d : o ≠ u) : a ≠ b := by
  intro e; subst e; rw [h] at h'; exact d (Option.some.inj h')
theorem ne_of_none {H : Hp} {a b : Addr} {o : HO} (h : H a = some o) (h' : H b = none) : a ≠ b := by
  intro e; subst e; rw [h] at h'; cases h'

section
variable (P : Program) (w : World)
def ObjOk (H : Hp) (h : Heap) (a : Addr) : HO → Prop
  | .lst xs => xs.length ≤ sizeLine ∧ ∃ (its : List Value) (n : Nat), Vals xs its ∧ h.get? a = some { cls := .type "list", data := .seq its.toArray n }
  | .tup xs => xs.length ≤ sizeLine ∧ ∃ its : List Value, Vals xs its ∧ IsTup h a its.toArray
  | .dK kvs => kvs.length ≤ sizeLine ∧ (a == sysModules) = false ∧ ∃ vs, KV kvs vs ∧ h.DictOf (mixKind P w) a vs
  | .dT kvs => kvs.length ≤ sizeLine ∧ (a == sysModules) = false ∧ ∃ xs : List (List Key × Addr × Value),
      Paired (fun (p : List Key × V) (q : List Key × Addr × Value) => p.1 = q.1 ∧ H q.2.1 = some (.tup (p.1.map kV)) ∧ RelV p.2 q.2.2) kvs xs ∧
      ∃ o es ep, h.get? a = some o ∧ o.ExactDict ∧ o.data = .dict es ep ∧ es.toList = xs.map (entryOfKey (tupleKind (mixKind P w))) ∧ (xs.map (·.1)).Nodup
  | .set S n => h.SetOf (intKind P w) a S n
  | .ins C dx fs => H dx = some (.own a) ∧ fs.length ≤ 1000 ∧ dx ≠ a ∧ h.get? a = some (PySem.W.instObj C dx) ∧
      ∃ mA, h.Ns1 dx mA ∧ (∀ f, RelO (fs.lookup f) (mA f)) ∧ PySem.Within mA (fs.map (·.1))
  | .own _ => ∃ o, h.get? a = some o
  | .xd fs => ∃ mA, h.Ns1 a mA ∧ ∀ f, RelO (fs.lookup f) (mA f)
  | .rng lo hi => ∃ t u v, h.get? a = some { cls := .type "range", data := .fields #[.int lo t, .int hi u, .int 1 v] }
  | .frz o u => h.get? a = some o ∧ ObjOk H h a u
  | .tbl ps => h.get? a = some { cls := .none, data := .fields ps }
  | .met f x => h.get? a = some (PySem.W.methodObj (.ref f) (.ref x))
  | .ext φ => φ h ∧ (∃ o, h.get? a = some o) ∧ ∀ h1 h2 : Heap, φ h1 → (∀ o, h1.get? a = some o → h2.get? a = some o) → φ h2
/-- the abstract heap is held -/
def HOk (H : Hp) (h : Heap) : Prop := ∀ a o, H a = some o → ObjOk P w H h a o
end

section
variable {P : Program} {w : World} {H H' : Hp} {h h' : Heap} {a : Addr} {o : HO}
theorem ObjOk.lt (x : ObjOk P w H h a o) : a < h.objs.size := by
  cases o with
  | lst xs => obtain ⟨_, _, _, _, e⟩ := x; exact Heap.lt_size e
  | tup xs => obtain ⟨_, _, _, p⟩ := x; exact p.lt
  | dK kvs => obtain ⟨_, _, _, _, o, _, _, e, _⟩ := x; exact Heap.lt_size e
  | dT kvs => obtain ⟨_, _, _, _, o, _, _, e, _⟩ := x; exact Heap.lt_size e
  | set S n => obtain ⟨o, _, _, _, e, _⟩ := x; exact Heap.lt_size e
  | ins C dx fs => obtain ⟨_, _, _, e, _⟩ := x; exact Heap.lt_size e
  | own y => obtain ⟨_, e⟩ := x; exact Heap.lt_size e
  | xd fs => obtain ⟨_, ⟨_, _, _, e, _⟩, _⟩ := x; exact Heap.lt_size e
  | rng lo hi => obtain ⟨_, _, _, e⟩ := x; exact Heap.lt_size e
  | frz ob u => obtain ⟨e, _⟩ := x; exact Heap.lt_size e
  | tbl ps => exact Heap.lt_size (show h.get? a = some _ from x)
  | met f y => exact Heap.lt_size (show h.get? a = some _ from x)
  | ext φ => obtain ⟨_, ⟨_, e⟩, _⟩ := x; exact Heap.lt_size e
theorem Paired.mapP {α β : Type} {F G : α → β → Prop} : ∀ {l₁ : List α} {l₂ : List β}, Paired F l₁ l₂ → (∀ a b, F a b → G a b) → Paired G l₁ l₂
  | _, _, .nil, _ => .nil
  | _, _, .cons r t, f => .cons (f _ _ r) (Paired.mapP t f)
/-- what an object's description leans on: its own object, its own dict, the tuples -/
theorem ObjOk.stay (x : ObjOk P w H h a o) (k : ∀ b u, (b = a ∨ H b = some (.own a)) → h.get? b = some u → h'.get? b = some u)
    (ho : ∀ b, H b = some (.own a) → H' b = some (.own a)) (ht : ∀ b xs, H b = some (.tup xs) → H' b = some (.tup xs)) : ObjOk P w H' h' a o := by
  induction o with
  | lst xs => obtain ⟨z, its, n, r, e⟩ := x; exact ⟨z, its, n, r, k _ _ (.inl rfl) e⟩
  | tup xs => obtain ⟨z, its, r, ob, e, c⟩ := x; exact ⟨z, its, r, ob, k _ _ (.inl rfl) e, c⟩
  | dK kvs => obtain ⟨z, y, vs, r, ob, es, ep, e, c⟩ := x; exact ⟨z, y, vs, r, ob, es, ep, k _ _ (.inl rfl) e, c⟩
  | dT kvs =>
    obtain ⟨z, y, xs, r, ob, es, ep, e, c⟩ := x
    exact ⟨z, y, xs, Paired.mapP r fun p q z => ⟨z.1, ht _ _ z.2.1, z.2.2⟩, ob, es, ep, k _ _ (.inl rfl) e, c⟩
  | set S n => obtain ⟨ob, es, ep, t, e, c⟩ := x; exact ⟨ob, es, ep, t, k _ _ (.inl rfl) e, c⟩
  | ins C dx fs =>
    obtain ⟨d, z, ne, e, mA, ⟨od, es, ep, e2, c⟩, r⟩ := x
    exact ⟨ho _ d, z, ne, k _ _ (.inl rfl) e, mA, ⟨od, es, ep, k _ _ (.inr d) e2, c⟩, r⟩
  | own y => obtain ⟨ob, e⟩ := x; exact ⟨ob, k _ _ (.inl rfl) e⟩
  | xd fs => obtain ⟨mA, ⟨od, es, ep, e, c⟩, r⟩ := x; exact ⟨mA, ⟨od, es, ep, k _ _ (.inl rfl) e, c⟩, r⟩
  | rng lo hi => obtain ⟨t, u, v, e⟩ := x; exact ⟨t, u, v, k _ _ (.inl rfl) e⟩
  | frz ob u ih => obtain ⟨e, q⟩ := x; exact ⟨k _ _ (.inl rfl) e, ih q⟩
  | tbl ps =>
    have e : h.get? a = some { cls := .none, data := .fields ps } := x
    show h'.get? a = some { cls := .none, data := .fields ps }
    exact k a _ (.inl rfl) e
  | met f y =>
    have e : h.get? a = some (PySem.W.methodObj (.ref f) (.ref y)) := x
    show h'.get? a = some (PySem.W.methodObj (.ref f) (.ref y))
    exact k a _ (.inl rfl) e
  | ext φ => obtain ⟨p, ⟨o, e⟩, st⟩ := x; exact ⟨st _ _ p fun o q => k _ _ (.inl rfl) q, ⟨o, k _ _ (.inl rfl) e⟩, st⟩
theorem HOk.lt (x : HOk P w H h) (e : H a = some o) : a < h.objs.size := (x a o e).lt
theorem HOk.fresh (x : HOk P w H h) (e : h.objs.size ≤ a) : H a = none := by
  cases q : H a with
  | none => rfl
  | some u => exact absurd (Nat.lt_of_lt_of_le (x.lt q) e) (Nat.lt_irrefl _)
/-- every object of the heap is kept -/
theorem HOk.kept (x : HOk P w H h) (k : ∀ b u, h.get? b = some u → h'.get? b = some u) : HOk P w H h' := fun a o e =>
  (x a o e).stay (fun b u _ q => k b u q) (fun _ q => q) fun _ _ q => q
/-- a new object is laid and tracked -/
theorem HOk.laid (x : HOk P w H h) (k : ∀ b u, h.get? b = some u → h'.get? b = some u) (hp : h.objs.size ≤ a) (new : ObjOk P w (upd H a o) h' a o) : HOk P w (upd H a o) h' := fun b u e => by
  have hn := x.fresh hp
  by_cases hb : b = a
  · subst hb; rw [upd_same] at e; cases e; exact new
  · rw [upd_ne hb] at e
    exact (x b u e).stay (fun c v _ q => k c v q) (fun c q => by rw [upd_ne (ne_of_none q hn)]; exact q) fun c xs q => by rw [upd_ne (ne_of_none q hn)]; exact q
end

/-- what may be read as u: it is u, or a known u -/
def Rd (H : Hp) (a : Addr) (u : HO) : Prop := H a = some u ∨ ∃ o, H a = some (.frz o u)
theorem Rd.ok {P : Program} {w : World} {H : Hp} {h : Heap} {a : Addr} {u : HO} (r : Rd H a u) (x : HOk P w H h) : ObjOk P w H h a u := by
  rcases r with r | ⟨o, r⟩
  · exact x a u r
  · obtain ⟨_, q⟩ := x a _ r
    exact q
/-- what may be written -/
def Mut : Option HO → Prop
  | some (.lst _) => True
  | some (.dK _) => True
  | some (.dT _) => True
  | some (.set _ _) => True
  | some (.ins _ _ _) => True
  | some (.ext _) => True
  | _ => False
section
variable {P : Program} {w : World} {H : Hp} {h h' : Heap} {x e : Addr} {o' : HO}
/-- the object at e is changed: x itself, or the dict of the instance x -/
theorem HOk.write (ok : HOk P w H h) (mu : Mut (H x)) (he : e = x ∨ H e = some (.own x)) (k : ∀ b u, b ≠ e → h.get? b = some u → h'.get? b = some u) (heo : ∃ u, h'.get? e = some u)
    (new : ObjOk P w (upd H x o') h' x o') : HOk P w (upd H x o') h' := fun b u q => by
  have nown : ∀ c y, H c = some (.own y) → c ≠ x := fun c y r z => by subst z; rw [r] at mu; exact mu
  have ntup : ∀ c xs, H c = some (.tup xs) → c ≠ x := fun c xs r z => by subst z; rw [r] at mu; exact mu
  by_cases hb : b = x
  · subst hb; rw [upd_same] at q; cases q; exact new
  · rw [upd_ne hb] at q
    by_cases hbe : b = e
    · have q' : H b = some (.own x) := by
        rcases he with z | z
        · exact absurd (hbe.trans z) hb
        · rw [hbe]; exact z
      rw [q] at q'; cases q'
      obtain ⟨v, hv⟩ := heo
      exact ⟨v, by rw [hbe]; exact hv⟩
    · refine (ok b u q).stay (fun c v hc r => k c v ?_ r) (fun c r => by rw [upd_ne (nown c b r)]; exact r) fun c xs r => by rw [upd_ne (ntup c xs r)]; exact r
      rcases hc with rfl | hc
      · exact hbe
      · rintro rfl
        rcases he with z | z
        · exact nown c b hc z
        · rw [hc] at z; cases z; exact hb rfl
end

/-! ### kept unless tracked; of the frames at fs (the callers') the slots may change (an exception that passes writes there); of the records at ex (iterators) nothing is said -/
structure Un (fs ex : List Addr) (H H' : Hp) (h h' : Heap) : Prop where
  keep : ∀ b o, h.get? b = some o → H b = none → b ∉ fs → b ∉ ex → h'.get? b = some o
  slot : ∀ b o, h.get? b = some o → H b = none → b ∈ fs → b ∉ ex → ∃ sl, h'.get? b = some { o with slots := sl }
  free : ∀ b o, h.get? b = some o → H b = none → b ∉ ex → H' b = none
  there : ∀ b o, h.get? b = some o → b ∉ ex → ∃ o', h'.get? b = some o'
  tups : ∀ b xs, H b = some (.tup xs) → H' b = some (.tup xs)
  frzs : ∀ b o u, H b = some (.frz o u) → H' b = some (.frz o u)
  tbls : ∀ b ps, H b = some (.tbl ps) → ∃ more, H' b = some (.tbl (ps ++ more))
section
variable {fs fs' ex ex' : List Addr} {H H1 H2 : Hp} {h h1 h2 h' : Heap} {a x e : Addr} {o : HO}
theorem Un.any (u : Un fs ex H H1 h h1) {b : Addr} {ob : Obj} (q : h.get? b = some ob) (n : H b = none) (hx : b ∉ ex) : ∃ sl, h1.get? b = some { ob with slots := sl } := by
  by_cases hb : b ∈ fs
  · exact u.slot b ob q n hb hx
  · exact ⟨ob.slots, u.keep b ob q n hb hx⟩
theorem Un.kept (k : ∀ b u, h.get? b = some u → h'.get? b = some u) : Un fs ex H H h h' :=
  ⟨fun b ob q _ _ _ => k b ob q, fun b ob q _ _ _ => ⟨ob.slots, k b ob q⟩, fun _ _ _ n _ => n, fun b ob q _ => ⟨ob, k b ob q⟩, fun _ _ q => q, fun _ _ _ q => q, fun _ ps q => ⟨#[], by rw [q]; simp⟩⟩
theorem Un.refl : Un fs ex H H h h := Un.kept fun _ _ q => q
theorem Un.laid (k : ∀ b u, h.get? b = some u → h'.get? b = some u) (hp : h.objs.size ≤ a) (hn : H a = none) : Un fs ex H (upd H a o) h h' where
  keep := fun b u q _ _ _ => k b u q
  slot := fun b u q _ _ _ => ⟨u.slots, k b u q⟩
  free := fun b u q n _ => by rw [upd_ne (Nat.ne_of_lt (Nat.lt_of_lt_of_le (Heap.lt_size q) hp))]; exact n
  there := fun b u q _ => ⟨u, k b u q⟩
  tups := fun b xs q => by rw [upd_ne (ne_of_none q hn)]; exact q
  frzs := fun b u xs q => by rw [upd_ne (ne_of_none q hn)]; exact q
  tbls := fun b ps q => ⟨#[], by rw [upd_ne (ne_of_none q hn), q]; simp⟩
theorem Un.write (mu : Mut (H x)) (he : e = x ∨ H e = some (.own x)) (k : ∀ b u, b ≠ e → h.get? b = some u → h'.get? b = some u) (heo : ∃ u, h'.get? e = some u) : Un fs ex H (upd H x o) h h' := by
  have hx : ∀ b, H b = none → b ≠ x := fun b n z => by subst z; rw [n] at mu; exact mu
  have hb : ∀ b, H b = none → b ≠ e := fun b n z => by
    subst z
    rcases he with r | r
    · exact hx b n r
    · rw [n] at r; cases r
  have hm : ∀ b u, H b = some u → ¬ Mut (some u) → b ≠ x := fun b u q nm z => by subst z; rw [q] at mu; exact nm mu
  refine ⟨fun b u q n _ _ => k b u (hb b n) q, fun b u q n _ _ => ⟨u.slots, k b u (hb b n) q⟩, fun b u q n _ => by rw [upd_ne (hx b n)]; exact n, fun b u q _ => ?_,
    fun b xs q => by rw [upd_ne (hm b _ q fun z => z)]; exact q, fun b u xs q => by rw [upd_ne (hm b _ q fun z => z)]; exact q, fun b ps q => ⟨#[], by rw [upd_ne (hm b _ q fun z => z), q]; simp⟩⟩
  by_cases hbe : b = e
  · subst hbe; exact heo
  · exact ⟨u, k b u hbe q⟩
end

/-! ### the heap without what is tracked -/
def trk (h : Heap) (H : Hp) : List Addr := (List.range h.objs.size).filter fun a => (H a).isSome
def hidT (h : Heap) (H : Hp) : Heap := PySem.W.hideAll h (trk h H)
theorem hidT_size (h : Heap) (H : Hp) : (hidT h H).objs.size = h.objs.size := PySem.W.hideAll_size _ _
theorem hidT_get {h : Heap} {H : Hp} {b : Addr} {o : Obj} (e : h.get? b = some o) (n : H b = none) : (hidT h H).get? b = some o :=
  PySem.W.hideAll_get _ e fun hm => by
    have q : (H b).isSome = true := (List.mem_filter.mp hm).2
    rw [n] at q; simp at q
theorem of_hidT {h : Heap} {H : Hp} {b : Addr} {o : Obj} (e : (hidT h H).get? b = some o) : h.get? b = some o ∧ H b = none := by
  have e' : h.get? b = some o := PySem.W.of_hideAll (trk h H) e
  refine ⟨e', ?_⟩
  cases q : H b with
  | none => rfl
  | some x =>
    have hm : b ∈ trk h H := List.mem_filter.mpr ⟨List.mem_range.mpr (Heap.lt_size e'), by simp [q]⟩
    have z : (hidT h H).get? b = none := PySem.W.hideAll_none (trk h H) hm
    rw [z] at e; cases e

/-! ### OpenK's ledger, filled with every new object but one -/
def allNews (g h : Heap) (L : Addr) : List (Addr × Obj) := (List.range h.objs.size).filterMap fun a => if a = L ∨ (g.get? a).isSome = true then none else (h.get? a).map fun o => (a, o)
def rest (g h : Heap) (L d : Addr) : List (Addr × Obj) := (allNews g h L).filter fun p => decide (p.1 ≠ d)
end L2

namespace L2
open PySem PySem.Spec PyProof.Rows

/-- the module's facts, over the base: the heap at the law's entry without what is tracked there -/
structure Mod (K : PySem.W.Frag) (mg : Str → Option Value) (base : Heap) : Prop where
  kin : K.In base
  glob : base.Ns mainGlobals mg
  blt : ∃ mb, base.Ns builtinsNs mb ∧ ∀ x : Str, x ≠ "__name__" → mb x = bootBuiltins x
  nolimit : base.NoLimit

/-- the context: a def's body (or a comprehension's block) running. base: fixed through the whole law; s₀, H₀: the entry; outer: the frames whose slots others may change (a def's callers); stack: all frames that run;
   ex: iterators that were made ahead of the entry and are walked here (a comprehension's); fn: the names whose cells were made at the entry (a def: all; a comprehension's block: its own); calm: not within an except suite; pn: pins that every state bears; xe: what is wanted of an exception that leaves the code -/
structure Cx where
  prog : Program
  w : World
  K : PySem.W.Frag
  mg : Str → Option Value
  base : Heap
  A : Around
  N : List Str
  s₀ : Shared
  H₀ : Hp
  env : Env
  outer : List Env
  stack : List Env
  ex : List Addr
  fn : Str → Bool
  calm : Bool
  pn : List (Addr × Obj)
  xe : Value → Shared → Prop
/-- the callers' frames -/
def frs (l : List Env) : List Addr := l.filterMap (·.frame)
abbrev Cx.fs (X : Cx) : List Addr := frs X.outer

def Vis (sc : Scope) (x : Str) : Prop := sc.names.lookup x = some .local ∨ sc.names.lookup x = some .cell ∨ sc.names.lookup x = some .free
def Loc (sc : Scope) (x : Str) : Prop := sc.names.lookup x = some .local ∨ sc.names.lookup x = some .cell
def Look (env : Env) (h : Heap) (m : Str → Option Value) (x : Str) (u : Value) : Prop :=
  (env.kindOf x = some .local ∧ m x = some u) ∨ ((env.kindOf x = some .cell ∨ env.kindOf x = some .free) ∧ ∃ c, env.cells.lookup x = some c ∧ h.IsCell c (some u))

structure Cx.Ok (X : Cx) : Prop where
  mod : Mod X.K X.mg X.base
  kind : X.env.scope.kind = .function
  glob : X.env.globals = mainGlobals
  blt : X.env.builtins = builtinsNs
  above : X.s₀.heap.objs.size ≤ X.env.locals
  inj : ∀ x y c, X.env.cells.lookup x = some c → X.env.cells.lookup y = some c → x = y
  has : ∀ x, (X.env.kindOf x = some .cell ∨ X.env.kindOf x = some .free) → ∃ c, X.env.cells.lookup x = some c
  cab : ∀ x c, X.fn x = true → X.env.cells.lookup x = some c → X.s₀.heap.objs.size ≤ c
  hd : X.calm = true → X.A.handled = none
  frames : X.A.frames = some X.stack
  stk : X.stack = X.outer ∨ (X.stack = X.env :: X.outer ∧ X.env.frame = some X.env.locals)
  exf : ∀ b ∈ X.ex, b ≠ X.env.locals ∧ ∀ x c, X.env.cells.lookup x = some c → c ≠ b
  bs : ∀ b o, X.base.get? b = some o → X.s₀.heap.get? b = some o ∧ X.H₀ b = none
  bsz : X.base.objs.size ≤ X.s₀.heap.objs.size
  noex : ∀ b o, X.base.get? b = some o → b ∉ X.ex
  exfs : ∀ b ∈ X.ex, b ∉ X.fs
  funs : X.s₀.heap.FunFrames X.base X.outer
  frf : ∀ b ∈ X.fs, X.H₀ b = none

structure Inv (X : Cx) (pins : List (Addr × Obj)) (σ : List (Option V)) (H : Hp) (s : Shared) : Prop where
  ok : X.Ok
  os : s.os = X.s₀.os
  bare : AllBare s.gens
  base : Un X.fs X.ex X.H₀ H X.s₀.heap s.heap
  loc : ∃ m, s.heap.Ns X.env.locals m ∧ ∀ (i : Nat) (x : Str) (v : V), X.N[i]? = some x → σ[i]? = some (some v) → Vis X.env.scope x → ∃ u, RelV v u ∧ Look X.env s.heap m x u
  cell : ∀ x c, X.env.cells.lookup x = some c → ∃ v, s.heap.IsCell c v
  free : H X.env.locals = none
  freeC : ∀ x c, X.env.cells.lookup x = some c → H c = none
  pin : ∀ p ∈ X.pn ++ pins, s.heap.get? p.1 = some p.2 ∧ H p.1 = none ∧ p.1 ≠ X.env.locals ∧ p.1 ∉ X.fs ∧ ∀ v, p.2.data ≠ .cell v
  hok : HOk X.prog X.w H s.heap
  len : σ.length = X.N.length

section
variable {X : Cx} {pins : List (Addr × Obj)} {σ : List (Option V)} {H H' : Hp} {s : Shared} {h' : Heap}

theorem Cx.Ok.nofr (ok : X.Ok) {b : Addr} {o : Obj} (e : X.base.get? b = some o) : b ∉ X.fs := fun hb => by
  have := (ok.funs.mem hb).1
  rw [e] at this; cases this
theorem Inv.bs (I : Inv X pins σ H s) : ∀ b o, X.base.get? b = some o → s.heap.get? b = some o ∧ H b = none := fun b o e =>
  ⟨I.base.keep b o (I.ok.bs b o e).1 (I.ok.bs b o e).2 (I.ok.nofr e) (I.ok.noex b o e), I.base.free b o (I.ok.bs b o e).1 (I.ok.bs b o e).2 (I.ok.noex b o e)⟩
theorem Inv.bk (I : Inv X pins σ H s) : ∀ b o, X.base.get? b = some o → s.heap.get? b = some o := fun b o e => (I.bs b o e).1
theorem Inv.mod (I : Inv X pins σ H s) : Mod X.K X.mg X.base := I.ok.mod
theorem Inv.kIn (I : Inv X pins σ H s) : X.K.In s.heap := I.ok.mod.kin.keeps I.bk
/-- the frame over the base: for OpenK's rules (K.In X.base is I.mod.kin) -/
theorem Inv.fr (I : Inv X pins σ H s) : ∃ m, Fr X.base X.env.locals s.heap m :=
  let ⟨m, hn, _⟩ := I.loc
  ⟨m, hn, I.bk, Nat.le_trans I.ok.bsz I.ok.above⟩
theorem Inv.lt (I : Inv X pins σ H s) : X.env.locals < s.heap.objs.size := let ⟨_, hn, _⟩ := I.loc; hn.lt
theorem Inv.sz (I : Inv X pins σ H s) : X.s₀.heap.objs.size ≤ s.heap.objs.size := Nat.le_trans I.ok.above (Nat.le_of_lt I.lt)
theorem Inv.nofs (I : Inv X pins σ H s) {a : Addr} (h : s.heap.objs.size ≤ a) : a ∉ X.fs := fun hb => by
  obtain ⟨_, o, ho, _⟩ := I.ok.funs.mem hb
  exact absurd (Nat.lt_of_lt_of_le (Heap.lt_size ho) (Nat.le_trans I.sz h)) (Nat.lt_irrefl _)
theorem Inv.cne (I : Inv X pins σ H s) : ∀ x c, X.env.cells.lookup x = some c → c ≠ X.env.locals := fun x c e z => by
  obtain ⟨v, o, ho, hd⟩ := I.cell x c e
  obtain ⟨m, ⟨o', es, ep, ho', hd', _⟩, _⟩ := I.loc
  rw [z, ho'] at ho; cases ho; rw [hd'] at hd; cases hd
theorem Inv.funs (I : Inv X pins σ H s) : s.heap.FunFrames X.base X.outer := by
  have all : ∀ (l : List Env), (∀ b ∈ frs l, b ∈ X.fs) → X.s₀.heap.FunFrames X.base l → s.heap.FunFrames X.base l := by
    intro l
    induction l with
    | nil => intro _ _; trivial
    | cons env r ih =>
      intro hs hl
      obtain ⟨hk, ⟨L, o, hf, hn, ho, hd⟩, hr⟩ := hl
      have hL : L ∈ X.fs := hs L (by unfold frs; rw [List.filterMap_cons, hf]; exact List.mem_cons_self)
      obtain ⟨sl, e⟩ := I.base.slot L o ho (I.ok.frf L hL) hL fun z => I.ok.exfs L z hL
      exact ⟨hk, ⟨L, _, hf, hn, e, hd⟩, ih (fun b hb => hs b (by unfold frs; rw [List.filterMap_cons, hf]; exact List.mem_cons_of_mem _ hb)) hr⟩
  exact all X.outer (fun _ hb => hb) I.ok.funs

/-- the frames that run, for a call -/
theorem Inv.stack (I : Inv X pins σ H s) : s.heap.FunFrames X.base X.stack := by
  rcases I.ok.stk with e | ⟨e, hf⟩
  · rw [e]; exact I.funs
  · rw [e]
    obtain ⟨m, hn, _⟩ := I.loc
    refine .cons (by rw [I.ok.kind]; decide) hf hn ?_ I.funs
    exact Heap.get?_none_of_le (Nat.le_trans I.ok.bsz I.ok.above)
theorem Inv.stkSub (I : Inv X pins σ H s) : ∀ b ∈ frs X.stack, b ∈ X.env.locals :: X.fs := fun b hb => by
  rcases I.ok.stk with e | ⟨e, hf⟩
  · rw [e] at hb; exact List.mem_cons_of_mem _ hb
  · rw [e] at hb
    unfold frs at hb
    rw [List.filterMap_cons, hf] at hb
    exact hb
theorem Inv.stkFree (I : Inv X pins σ H s) : ∀ b ∈ frs X.stack, H b = none := fun b hb => by
  rcases List.mem_cons.mp (I.stkSub b hb) with e | hb
  · rw [e]; exact I.free
  · obtain ⟨_, o, ho, _⟩ := I.ok.funs.mem hb
    exact I.base.free b o ho (I.ok.frf b hb) fun z => I.ok.exfs b z hb

/-- THE STEP: the untracked objects but the frame and the records at ch are kept (the callers' frames up to slots), the frame's map is kept, the new abstract heap is held -/
theorem Inv.step {g' : Array GenState} {t' : Nat} {d' : Drawn} {ch : List Addr} (I : Inv X pins σ H s)
    (hch : ∀ b ∈ ch, (b ∈ X.ex ∨ X.s₀.heap.objs.size ≤ b) ∧ b ≠ X.env.locals ∧ (∀ x c, X.env.cells.lookup x = some c → c ≠ b) ∧ ∀ p ∈ X.pn ++ pins, p.1 ≠ b)
    (keep : ∀ b o, b ≠ X.env.locals → b ∉ X.fs → b ∉ ch → s.heap.get? b = some o → H b = none → h'.get? b = some o)
    (slot : ∀ b o, b ≠ X.env.locals → b ∈ X.fs → b ∉ ch → s.heap.get? b = some o → H b = none → ∃ sl, h'.get? b = some { o with slots := sl }) (free : ∀ b o, b ∉ ch → s.heap.get? b = some o → H b = none → H' b = none)
    (there : ∀ b o, b ∉ ch → s.heap.get? b = some o → ∃ o', h'.get? b = some o')
    (tups : ∀ b xs, H b = some (.tup xs) → H' b = some (.tup xs)) (frzs : ∀ b o u, H b = some (.frz o u) → H' b = some (.frz o u)) (tbls : ∀ b ps, H b = some (.tbl ps) → ∃ more, H' b = some (.tbl (ps ++ more)))
    (ns : ∀ m, s.heap.Ns X.env.locals m → h'.Ns X.env.locals m) (hok : HOk X.prog X.w H' h') (hg : AllBare g') :
    Inv X pins σ H' { s with heap := h', gens := g', drawn := d', toks := t' } := by
  have neL : ∀ b o, X.s₀.heap.get? b = some o → b ≠ X.env.locals := fun b o e => Nat.ne_of_lt (Nat.lt_of_lt_of_le (Heap.lt_size e) I.ok.above)
  have neC : ∀ b o, X.s₀.heap.get? b = some o → b ∉ X.ex → b ∉ ch := fun b o e hx hb => by
    rcases (hch b hb).1 with z | z
    · exact hx z
    · exact absurd (Nat.lt_of_lt_of_le (Heap.lt_size e) z) (Nat.lt_irrefl _)
  have cellK : ∀ x c, X.env.cells.lookup x = some c → ∀ v, s.heap.IsCell c v → h'.IsCell c v := fun x c e v ⟨o, ho, hd⟩ => by
    have nch : c ∉ ch := fun z => (hch c z).2.2.1 x c e rfl
    by_cases hc : c ∈ X.fs
    · obtain ⟨sl, q⟩ := slot c o (I.cne x c e) hc nch ho (I.freeC x c e)
      exact ⟨_, q, hd⟩
    · exact ⟨o, keep c o (I.cne x c e) hc nch ho (I.freeC x c e), hd⟩
  refine ⟨I.ok, I.os, hg, ⟨fun b o e n hb hx => ?_, fun b o e n hb hx => ?_, fun b o e n hx => ?_, fun b o e hx => ?_, fun b xs e => tups b xs (I.base.tups b xs e), fun b o xs e => frzs b o xs (I.base.frzs b o xs e), fun b ps e => ?_⟩, ?_, fun x c e => ?_, ?_, fun x c e => ?_, fun p hp => ?_, hok, I.len⟩
  · exact keep b o (neL b o e) hb (neC b o e hx) (I.base.keep b o e n hb hx) (I.base.free b o e n hx)
  · obtain ⟨sl, e1⟩ := I.base.slot b o e n hb hx
    obtain ⟨sl', e2⟩ := slot b _ (neL b o e) hb (neC b o e hx) e1 (I.base.free b o e n hx)
    exact ⟨sl', e2⟩
  · obtain ⟨o', e1⟩ := I.base.there b o e hx
    exact free b o' (neC b o e hx) e1 (I.base.free b o e n hx)
  · obtain ⟨o', e1⟩ := I.base.there b o e hx
    exact there b o' (neC b o e hx) e1
  · obtain ⟨m1, e1⟩ := I.base.tbls b ps e
    obtain ⟨m2, e2⟩ := tbls b _ e1
    exact ⟨m1 ++ m2, by rw [e2, Array.append_assoc]⟩
  · obtain ⟨m, hn, hl⟩ := I.loc
    refine ⟨m, ns m hn, fun i x v e1 e2 e3 => ?_⟩
    obtain ⟨u, r, l⟩ := hl i x v e1 e2 e3
    refine ⟨u, r, ?_⟩
    rcases l with l | ⟨k, c, e, z⟩
    · exact .inl l
    · exact .inr ⟨k, c, e, cellK x c e _ z⟩
  · obtain ⟨v, z⟩ := I.cell x c e
    exact ⟨v, cellK x c e v z⟩
  · obtain ⟨m, ⟨o, _, _, ho, _⟩, _⟩ := I.loc
    exact free _ o (fun z => (hch _ z).2.1 rfl) ho I.free
  · obtain ⟨v, o, ho, hd⟩ := I.cell x c e
    exact free c o (fun z => (hch c z).2.2.1 x c e rfl) ho (I.freeC x c e)
  · obtain ⟨e, n, ne, nf, d⟩ := I.pin p hp
    have nch : p.1 ∉ ch := fun z => (hch p.1 z).2.2.2 p hp rfl
    exact ⟨keep p.1 p.2 ne nf nch e n, free p.1 p.2 nch e n, ne, nf, d⟩
/-- .. where the frame's own object is kept too -/
theorem Inv.un {t' : Nat} (I : Inv X pins σ H s) (u : Un X.fs [] H H' s.heap h') (hok : HOk X.prog X.w H' h') : Inv X pins σ H' { s with heap := h', toks := t' } := by
  obtain ⟨m, ⟨o, es, ep, ho, r⟩, _⟩ := id I.loc
  obtain ⟨sl, hL⟩ := u.any ho I.free (by simp)
  exact I.step (g' := s.gens) (d' := s.drawn) (ch := []) (fun _ z => nomatch z) (fun b o _ hb _ e n => u.keep b o e n hb (by simp)) (fun b o _ hb _ e n => u.slot b o e n hb (by simp)) (fun b o _ e n => u.free b o e n (by simp)) (fun b o _ e => u.there b o e (by simp)) u.tups u.frzs u.tbls (fun m' hm => by
    obtain ⟨o', es', ep', ho', r'⟩ := hm
    rw [ho] at ho'; cases ho'
    exact ⟨_, es', ep', hL, r'⟩) hok I.bare
/-- behind a call (or a comprehension's block): the slots of this frame may have changed too, the records at ch may have turned -/
theorem Inv.call {g' : Array GenState} {t' : Nat} {d' : Drawn} {ch : List Addr} (I : Inv X pins σ H s) (u : Un (frs X.stack) ch H H' s.heap h') (hok : HOk X.prog X.w H' h') (hg : AllBare g')
    (hch : ∀ b ∈ ch, (b ∈ X.ex ∨ X.s₀.heap.objs.size ≤ b) ∧ b ≠ X.env.locals ∧ (∀ x c, X.env.cells.lookup x = some c → c ≠ b) ∧ ∀ p ∈ X.pn ++ pins, p.1 ≠ b) :
    Inv X pins σ H' { s with heap := h', gens := g', drawn := d', toks := t' } := by
  obtain ⟨m, ⟨o, es, ep, ho, r⟩, _⟩ := id I.loc
  obtain ⟨sl, hL⟩ := u.any ho I.free fun z => (hch _ z).2.1 rfl
  exact I.step (ch := ch) hch (fun b o hL hb hc e n => u.keep b o e n (fun z => (List.mem_cons.mp (I.stkSub b z)).elim hL hb) hc) (fun b o _ _ hc e n => u.any e n hc) (fun b o hc e n => u.free b o e n hc) (fun b o hc e => u.there b o e hc) u.tups u.frzs u.tbls (fun m' hm => by
    obtain ⟨o', es', ep', ho', r'⟩ := hm
    rw [ho] at ho'; cases ho'
    exact ⟨_, es', ep', hL, r'⟩) hok hg
/-- an untracked record of ours (an iterator) has turned -/
theorem Inv.turned {t' : Nat} {it : Addr} (I : Inv X pins σ H s) (k : ∀ b o, b ≠ it → s.heap.get? b = some o → h'.get? b = some o) (hn : H it = none) (hL : it ≠ X.env.locals)
    (h1 : it ∈ X.ex ∨ X.s₀.heap.objs.size ≤ it) (h2 : ∀ x c, X.env.cells.lookup x = some c → c ≠ it) (h3 : ∀ p ∈ X.pn ++ pins, p.1 ≠ it) : Inv X pins σ H { s with heap := h', toks := t' } := by
  have nit : ∀ b u, H b = some u → b ≠ it := fun b u e z => by rw [z, hn] at e; cases e
  refine I.step (g' := s.gens) (d' := s.drawn) (ch := [it]) (fun b hb => ?_) (fun b o _ _ hc e _ => k b o (fun z => hc (by simp [z])) e) (fun b o _ _ hc e _ => ⟨o.slots, k b o (fun z => hc (by simp [z])) e⟩) (fun _ _ _ _ n => n)
    (fun b o hc e => ⟨o, k b o (fun z => hc (by simp [z])) e⟩) (fun _ _ e => e) (fun _ _ _ e => e) (fun b ps e => ⟨#[], by rw [e]; simp⟩) (fun m hm => ?_) (fun b u e => ?_) I.bare
  · have e : b = it := by simpa using hb
    subst e
    exact ⟨h1, hL, h2, h3⟩
  · obtain ⟨o, es, ep, ho, r⟩ := hm
    exact ⟨o, es, ep, k _ o (Ne.symm hL) ho, r⟩
  · refine (I.hok b u e).stay (fun c v hc q => k c v ?_ q) (fun _ q => q) fun _ _ q => q
    rcases hc with z | z
    · rw [z]; exact nit b u e
    · exact nit c _ z
theorem Inv.tok (I : Inv X pins σ H s) (t : Nat) : Inv X pins σ H { s with toks := t } := I.un (h' := s.heap) (t' := t) Un.refl I.hok
/-- all objects kept -/
theorem Inv.kept {t' : Nat} (I : Inv X pins σ H s) (k : ∀ b u, s.heap.get? b = some u → h'.get? b = some u) : Inv X pins σ H { s with heap := h', toks := t' } := I.un (Un.kept k) (I.hok.kept k)
/-- a new object laid and tracked -/
theorem Inv.laid {a : Addr} {o : HO} {t' : Nat} (I : Inv X pins σ H s) (k : ∀ b u, s.heap.get? b = some u → h'.get? b = some u) (hp : s.heap.objs.size ≤ a) (new : ObjOk X.prog X.w (upd H a o) h' a o) :
    Inv X pins σ (upd H a o) { s with heap := h', toks := t' } := I.un (Un.laid k hp (I.hok.fresh hp)) (I.hok.laid k hp new)
/-- an object written -/
theorem Inv.write {x e : Addr} {o : HO} {t' : Nat} (I : Inv X pins σ H s) (mu : Mut (H x)) (he : e = x ∨ H e = some (.own x)) (k : ∀ b u, b ≠ e → s.heap.get? b = some u → h'.get? b = some u) (heo : ∃ u, h'.get? e = some u)
    (new : ObjOk X.prog X.w (upd H x o) h' x o) : Inv X pins σ (upd H x o) { s with heap := h', toks := t' } := I.un (Un.write mu he k heo) (I.hok.write mu he k heo new)
/-- forgetting slots, pins -/
theorem Inv.weak {σ' : List (Option V)} (I : Inv X pins σ H s) (hl : σ'.length = σ.length) (w : ∀ (i : Nat) v, σ'[i]? = some (some v) → σ[i]? = some (some v)) : Inv X pins σ' H s :=
  ⟨I.ok, I.os, I.bare, I.base, let ⟨m, hn, hl'⟩ := I.loc; ⟨m, hn, fun i x v e1 e2 e3 => hl' i x v e1 (w i v e2) e3⟩, I.cell, I.free, I.freeC, I.pin, I.hok, hl.trans I.len⟩
theorem Inv.pins_of {pins' : List (Addr × Obj)} (I : Inv X pins σ H s) (h : ∀ p ∈ pins', s.heap.get? p.1 = some p.2 ∧ H p.1 = none ∧ p.1 ≠ X.env.locals ∧ p.1 ∉ X.fs ∧ ∀ v, p.2.data ≠ .cell v) : Inv X pins' σ H s :=
  ⟨I.ok, I.os, I.bare, I.base, I.loc, I.cell, I.free, I.freeC, fun p hp => (List.mem_append.mp hp).elim (fun z => I.pin p (List.mem_append_left _ z)) (h p), I.hok, I.len⟩

theorem nodup_ix {N : List Str} (hN : N.Nodup) {i j : Nat} {x : Str} (a : N[i]? = some x) (b : N[j]? = some x) : i = j := by
  obtain ⟨h1, e1⟩ := List.getElem?_eq_some_iff.mp a
  obtain ⟨h2, e2⟩ := List.getElem?_eq_some_iff.mp b
  exact (List.getElem_inj hN).mp (e1.trans e2.symm)

/-- a name is stored; what changed -/
theorem store_ok2 {M : Model} {A : Around} {E : Value → Shared → Prop} {i : Nat} {x : Str} {v : V} {u : Value} {Q : Unit → Shared → Prop} (I : Inv X pins σ H s) (hN : X.N.Nodup) (hi : X.N[i]? = some x) (hx : Loc X.env.scope x) (r : RelV v u)
    (h : ∀ s', Inv X pins (σ.set i (some v)) H s' → (∃ a, Heap.SameBut a s.heap s'.heap ∧ (a = X.env.locals ∨ X.env.cells.lookup x = some a)) → Q () s') (hf : X.fn x = true ∨ X.env.scope.names.lookup x = some .local := by first | exact .inl rfl | exact .inr rfl | assumption) : wpAny M A (storeName X.env x u) Q E s := by
  obtain ⟨m, hn, hl⟩ := id I.loc
  have hcls : (X.env.scope.kind == .class || (X.env.scope.kind == .module && X.env.locals != X.env.globals)) = false := by rw [I.ok.kind]; rfl
  have hiσ : i < σ.length := by rw [I.len]; exact (List.getElem?_eq_some_iff.mp hi).1
  have cne := I.cne
  have tracked : ∀ {a : Addr} {h' : Heap}, (∃ o, s.heap.get? a = some o ∧ H a = none) → Heap.SameBut a s.heap h' → HOk X.prog X.w H h' := fun {a h'} ha hs b ob e => by
    obtain ⟨_, _, hfree⟩ := ha
    refine (I.hok b ob e).stay (fun c w' hc q => (hs.2 c ?_).trans q) (fun _ q => q) fun _ _ q => q
    rintro rfl
    rcases hc with rfl | hc
    · rw [hfree] at e; cases e
    · rw [hfree] at hc; cases hc
  rcases hx with hk | hk
  · refine wpAny_storeName_local hk hn (fun h' hn' hs => ?_) hcls
    obtain ⟨oL, _, _, hoL, _⟩ := id hn
    refine h _ ⟨I.ok, I.os, I.bare, ⟨fun b o e n hb hx => ?_, fun b o e n hb hx => ?_, I.base.free, fun b o e hx => ?_, I.base.tups, I.base.frzs, I.base.tbls⟩, ⟨_, hn', fun j y v' e1 e2 e3 => ?_⟩, fun y c e => ?_, I.free, I.freeC, fun p hp => ?_, tracked ⟨oL, hoL, I.free⟩ hs, by simpa using I.len⟩ ⟨_, hs, .inl rfl⟩
    · exact (hs.2 b (Nat.ne_of_lt (Nat.lt_of_lt_of_le (Heap.lt_size e) I.ok.above))).trans (I.base.keep b o e n hb hx)
    · obtain ⟨sl, e1⟩ := I.base.slot b o e n hb hx
      exact ⟨sl, (hs.2 b (Nat.ne_of_lt (Nat.lt_of_lt_of_le (Heap.lt_size e) I.ok.above))).trans e1⟩
    · obtain ⟨o', e1⟩ := I.base.there b o e hx
      exact ⟨o', (hs.2 b (Nat.ne_of_lt (Nat.lt_of_lt_of_le (Heap.lt_size e) I.ok.above))).trans e1⟩
    · by_cases hj : j = i
      · subst hj
        rw [hi] at e1; cases e1
        rw [List.getElem?_set_self hiσ] at e2
        cases e2
        exact ⟨u, r, .inl ⟨hk, by simp⟩⟩
      · rw [List.getElem?_set_ne (Ne.symm hj)] at e2
        obtain ⟨u', r', q⟩ := hl j y v' e1 e2 e3
        refine ⟨u', r', ?_⟩
        rcases q with ⟨k, e⟩ | ⟨k, c, e, z⟩
        · refine .inl ⟨k, ?_⟩
          have : y ≠ x := fun e => hj (nodup_ix hN e1 (e ▸ hi))
          simp [this, e]
        · exact .inr ⟨k, c, e, z.sameBut hs (cne y c e)⟩
    · obtain ⟨w', z⟩ := I.cell y c e
      exact ⟨w', z.sameBut hs (cne y c e)⟩
    · obtain ⟨e, n, ne, nf, d⟩ := I.pin p hp
      exact ⟨(hs.2 p.1 ne).trans e, n, ne, nf, d⟩
  · have hfn : X.fn x = true := by
      rcases hf with z | z
      · exact z
      · rw [z] at hk; cases hk
    obtain ⟨c, hc⟩ := I.ok.has x (.inl hk)
    obtain ⟨w', z⟩ := I.cell x c hc
    refine wpAny_storeName_cell I.ok.kind hk hc z (fun h' hc' hs => ?_)
    obtain ⟨oc, hoc, hocd⟩ := id z
    refine h { s with heap := h' } ⟨I.ok, I.os, I.bare, ⟨fun b o e n hb hx => ?_, fun b o e n hb hx => ?_, I.base.free, fun b o e hx => ?_, I.base.tups, I.base.frzs, I.base.tbls⟩, ⟨m, hn.sameBut hs (Ne.symm (cne x c hc)), fun j y v' e1 e2 e3 => ?_⟩, fun y c' e => ?_, I.free, I.freeC, fun p hp => ?_, tracked ⟨oc, hoc, I.freeC x c hc⟩ hs, by simpa using I.len⟩ ⟨c, hs, .inr hc⟩
    · exact (hs.2 b (Nat.ne_of_lt (Nat.lt_of_lt_of_le (Heap.lt_size e) (I.ok.cab x c hfn hc)))).trans (I.base.keep b o e n hb hx)
    · obtain ⟨sl, e1⟩ := I.base.slot b o e n hb hx
      exact ⟨sl, (hs.2 b (Nat.ne_of_lt (Nat.lt_of_lt_of_le (Heap.lt_size e) (I.ok.cab x c hfn hc)))).trans e1⟩
    · obtain ⟨o', e1⟩ := I.base.there b o e hx
      exact ⟨o', (hs.2 b (Nat.ne_of_lt (Nat.lt_of_lt_of_le (Heap.lt_size e) (I.ok.cab x c hfn hc)))).trans e1⟩
    · by_cases hj : j = i
      · subst hj
        rw [hi] at e1; cases e1
        rw [List.getElem?_set_self hiσ] at e2
        cases e2
        exact ⟨u, r, .inr ⟨.inl hk, c, hc, hc'⟩⟩
      · rw [List.getElem?_set_ne (Ne.symm hj)] at e2
        obtain ⟨u', r', q⟩ := hl j y v' e1 e2 e3
        refine ⟨u', r', ?_⟩
        rcases q with q | ⟨k, c', e, z'⟩
        · exact .inl q
        · refine .inr ⟨k, c', e, z'.sameBut hs ?_⟩
          rintro rfl
          exact hj (nodup_ix hN e1 (I.ok.inj _ _ _ e hc ▸ hi))
    · by_cases hcc : c' = c
      · subst hcc; exact ⟨_, hc'⟩
      · obtain ⟨w2, z2⟩ := I.cell y c' e
        exact ⟨w2, z2.sameBut hs hcc⟩
    · obtain ⟨e, n, ne, nf, d⟩ := I.pin p hp
      refine ⟨(hs.2 p.1 ?_).trans e, n, ne, nf, d⟩
      intro q
      rw [q, hoc] at e
      have q' : oc = p.2 := Option.some.inj e
      exact d w' (by rw [← q']; exact hocd)
theorem store_ok {M : Model} {A : Around} {E : Value → Shared → Prop} {i : Nat} {x : Str} {v : V} {u : Value} {Q : Unit → Shared → Prop} (I : Inv X pins σ H s) (hN : X.N.Nodup) (hi : X.N[i]? = some x) (hx : Loc X.env.scope x) (r : RelV v u)
    (h : ∀ s', Inv X pins (σ.set i (some v)) H s' → Q () s') (hf : X.fn x = true ∨ X.env.scope.names.lookup x = some .local := by first | exact .inl rfl | exact .inr rfl | assumption) : wpAny M A (storeName X.env x u) Q E s :=
  store_ok2 I hN hi hx r (fun s' I' _ => h s' I') hf
/-- behind a call or a block, the state as it is -/
theorem Inv.call' {s' : Shared} {ch : List Addr} (I : Inv X pins σ H s) (ho : s'.os = s.os) (u : Un (frs X.stack) ch H H' s.heap s'.heap) (hok : HOk X.prog X.w H' s'.heap) (hg : AllBare s'.gens)
    (hch : ∀ b ∈ ch, (b ∈ X.ex ∨ X.s₀.heap.objs.size ≤ b) ∧ b ≠ X.env.locals ∧ (∀ x c, X.env.cells.lookup x = some c → c ≠ b) ∧ ∀ p ∈ X.pn ++ pins, p.1 ≠ b) : Inv X pins σ H' s' := by
  obtain ⟨h', g', d', t', o'⟩ := s'
  have e : o' = s.os := ho
  subst e
  exact I.call (g' := g') (t' := t') (d' := d') u hok hg hch
end

/-! ### the judgements -/
/-- an exception: its class, its own dict's address (where it has one), the abstract heap behind it -/
abbrev XK := Value → Option Addr → Hp → Prop
abbrev St := List (Option V)
abbrev VK := V → Hp → Prop
/-- an expression's reading; a test's; an argument list's -/
abbrev TE := St → Hp → VK → Prop
abbrev TT := St → Hp → (Bool → Hp → Prop) → Prop
abbrev TA := St → Hp → (List V → Hp → Prop) → Prop
/-- what is wanted behind a statement -/
structure Ends where
  nx : St → Hp → Prop
  rt : VK
  bk : St → Hp → Prop := fun _ _ => False
  ct : St → Hp → Prop := fun _ _ => False
abbrev TS := Ends → St → Hp → Prop

def EP (X : Cx) (pins : List (Addr × Obj)) (σ : St) (Q : VK) (u : Value) (s' : Shared) : Prop := ∃ v H', Inv X pins σ H' s' ∧ RelV v u ∧ Q v H'
def TP (X : Cx) (pins : List (Addr × Obj)) (σ : St) (Q : Bool → Hp → Prop) (b : Bool) (s' : Shared) : Prop := ∃ H', Inv X pins σ H' s' ∧ Q b H'
def AP (X : Cx) (pins : List (Addr × Obj)) (σ : St) (Q : List V → Hp → Prop) (us : List Value) (s' : Shared) : Prop := ∃ vs H', Inv X pins σ H' s' ∧ Vals vs us ∧ Q vs H'
def SP (X : Cx) (pins : List (Addr × Obj)) (D : Ends) (f : Flow) (s' : Shared) : Prop :=
  match f with
  | .next => ∃ σ' H', Inv X pins σ' H' s' ∧ D.nx σ' H'
  | .brk => ∃ σ' H', Inv X pins σ' H' s' ∧ D.bk σ' H'
  | .cont => ∃ σ' H', Inv X pins σ' H' s' ∧ D.ct σ' H'
  | .ret u => ∃ v σ' H', Inv X pins σ' H' s' ∧ RelV v u ∧ D.rt v H'

def PE (X : Cx) (e : Expr) (t : TE) : Prop :=
  ∀ (pins : List (Addr × Obj)) (s : Shared) (σ : St) (H : Hp) (Q : VK), Inv X pins σ H s → t σ H Q → wpAny (model X.prog X.w) X.A (eval e X.env) (EP X pins σ Q) X.xe s
def PT (X : Cx) (e : Expr) (t : TT) : Prop :=
  ∀ (pins : List (Addr × Obj)) (s : Shared) (σ : St) (H : Hp) (Q : Bool → Hp → Prop), Inv X pins σ H s → t σ H Q → wpAny (model X.prog X.w) X.A (isTrue e X.env (eval e X.env)) (TP X pins σ Q) X.xe s
/-- a test whatever its 'whole' is (and, or) -/
def PW (X : Cx) (e : Expr) (t : TT) : Prop :=
  ∀ (whole : Sem Value) (pins : List (Addr × Obj)) (s : Shared) (σ : St) (H : Hp) (Q : Bool → Hp → Prop), Inv X pins σ H s → t σ H Q → wpAny (model X.prog X.w) X.A (isTrue e X.env whole) (TP X pins σ Q) X.xe s
theorem PW.pt {X : Cx} {e : Expr} {t : TT} (h : PW X e t) : PT X e t := h _
/-- an argument list (no star), from the left -/
def PA (X : Cx) (es : List Expr) (t : TA) : Prop :=
  ∀ (pos : Pos) (pins : List (Addr × Obj)) (s : Shared) (σ : St) (H : Hp) (Q : List V → Hp → Prop), Inv X pins σ H s → t σ H Q → wpAny (model X.prog X.w) X.A (spliced (backTo pos (starEach es X.env))) (AP X pins σ Q) X.xe s
def PS (X : Cx) (st : Stmt) (t : TS) : Prop :=
  ∀ (pins : List (Addr × Obj)) (s : Shared) (σ : St) (H : Hp) (D : Ends), Inv X pins σ H s → t D σ H → wpAny (model X.prog X.w) X.A (exec st X.env) (SP X pins D) X.xe s
def PSs (X : Cx) (st : List Stmt) (t : TS) : Prop :=
  ∀ (pins : List (Addr × Obj)) (s : Shared) (σ : St) (H : Hp) (D : Ends), Inv X pins σ H s → t D σ H → wpAny (model X.prog X.w) X.A (execs st X.env) (SP X pins D) X.xe s
/-- weaken the end -/
theorem thn {α : Type} {t : Sem α} {Q Q' : α → Shared → Prop} {M : Model} {A : Around} {E : Value → Shared → Prop} {s : Shared} (h : wpAny M A t Q E s) (hQ : ∀ a s, Q a s → Q' a s) : wpAny M A t Q' E s := wpAny_mono h hQ fun _ _ x => x
end L2

namespace L2
open PySem PySem.Spec PyProof.Rows
section
variable {X : Cx}

/-- two expressions in a row -/
theorem bin {a b : Expr} {ta tb : TE} (ha : PE X a ta) (hb : PE X b tb) {pins : List (Addr × Obj)} {s : Shared} {σ : St} {H : Hp} {R : V → V → Hp → Prop} (I : Inv X pins σ H s) (h : ta σ H fun x H1 => tb σ H1 fun y H2 => R x y H2)
    {α : Type} {Q : α → Shared → Prop} {f : Value → Value → Sem α}
    (hf : ∀ v u s2 x y H2, Inv X pins σ H2 s2 → RelV x v → RelV y u → R x y H2 → wpAny (model X.prog X.w) X.A (f v u) Q X.xe s2) :
    wpAny (model X.prog X.w) X.A (eval a X.env) (fun v s₁ => wpAny (model X.prog X.w) X.A (eval b X.env) (fun u s₂ => wpAny (model X.prog X.w) X.A (f v u) Q X.xe s₂) X.xe s₁) X.xe s := by
  refine thn (ha pins s σ H _ I h) fun v s1 ⟨x, H1, I1, r1, q1⟩ => ?_
  refine thn (hb pins s1 σ H1 _ I1 q1) fun u s2 ⟨y, H2, I2, r2, q2⟩ => ?_
  exact hf v u s2 x y H2 I2 r1 r2 q2

/-! ### names and constants -/
def tVar (i : Nat) : TE := fun σ H Q => ∃ v, σ[i]? = some (some v) ∧ Q v H
def tC (v : V) : TE := fun _ H Q => Q v H
theorem pe_var {i : Nat} {x : Str} {pos : Pos} (hN : X.N[i]? = some x) (hv : Vis X.env.scope x) (hd : (x == ("__debug__" : Str)) = false := by decide) (hcd : (x == ("__classdict__" : Str)) = false := by decide) : PE X (.Name x pos) (tVar i) := by
  intro pins s σ H Q I h
  obtain ⟨v, e, h⟩ := h
  obtain ⟨m, hn, hl⟩ := I.loc
  obtain ⟨u, r, l⟩ := hl i x v hN e hv
  have fin : EP X pins σ Q u s := ⟨v, H, I, r, h⟩
  rcases l with ⟨hk, hm⟩ | ⟨hk, c, hc, hcell⟩
  · exact wpAny_Name (wpAny_loadName_local I.ok.kind hk hn hm fin) hd
  · rcases hk with hk | hk
    · exact wpAny_Name (wpAny_loadName_cell I.ok.kind hk hc hcell fin) hd
    · exact wpAny_Name (wpAny_loadName_free I.ok.kind hk hc hcell fin hcd) hd
theorem pe_int {i j pos} : PE X (.Constant (.int i) j pos) (tC (.int i)) := fun _ _ _ H _ I h => wpAny_Constant_int ⟨.int i, H, I.tok _, ⟨_, rfl⟩, h⟩
theorem pe_bl {b j pos} : PE X (.Constant (.bool b) j pos) (tC (.bl b)) := fun _ _ _ H _ I h => Constant_bool ⟨.bl b, H, I, rfl, h⟩
/-- a global name of the def -/
def Gl (X : Cx) (x : Str) : Prop := X.env.kindOf x = some .globalImplicit
theorem ld_glob {E : Value → Shared → Prop} {pins : List (Addr × Obj)} {s : Shared} {σ : St} {H : Hp} {x : Str} {u : Value} {pos : Pos} {Q : Value → Shared → Prop} (I : Inv X pins σ H s) (hg : Gl X x) (hm : X.mg x = some u) (h : Q u s)
    (hd : (x == ("__debug__" : Str)) = false := by decide) : wpAny (model X.prog X.w) X.A (eval (.Name x pos) X.env) Q E s :=
  Calls.Name_function_global I.ok.kind hg (Calls.loadGlobal_global (by rw [I.ok.glob]; exact I.mod.glob.keeps I.bk) hm h) hd
theorem ld_blt {E : Value → Shared → Prop} {pins : List (Addr × Obj)} {s : Shared} {σ : St} {H : Hp} {x : Str} {u : Value} {pos : Pos} {Q : Value → Shared → Prop} (I : Inv X pins σ H s) (hg : Gl X x) (hm : X.mg x = none) (hv : bootBuiltins x = some u) (h : Q u s)
    (hn : x ≠ "__name__" := by decide) (hd : (x == ("__debug__" : Str)) = false := by decide) : wpAny (model X.prog X.w) X.A (eval (.Name x pos) X.env) Q E s := by
  obtain ⟨mb, h1, h2⟩ := I.mod.blt
  exact Calls.Name_function_global I.ok.kind hg (Calls.loadGlobal_builtin (by rw [I.ok.glob]; exact I.mod.glob.keeps I.bk) hm (by rw [I.ok.blt]; exact h1.keeps I.bk) ((h2 x hn).trans hv) h) hd
/-- a module's constant, a class, a function, as a value -/
theorem pe_glob {x : Str} {v : V} {u : Value} {pos : Pos} (hg : Gl X x) (hm : X.mg x = some u) (r : RelV v u) (hd : (x == ("__debug__" : Str)) = false := by decide) : PE X (.Name x pos) (tC v) :=
  fun _ _ _ H _ I h => ld_glob I hg hm ⟨v, H, I, r, h⟩ hd
/-! ### arithmetic -/
/-- two ints -/
def t2I (ta tb : TE) (k : Int → Int → Hp → Prop) : St → Hp → Prop := fun σ H => ta σ H fun x H1 => tb σ H1 fun y H2 => ∃ i j, x = .int i ∧ y = .int j ∧ k i j H2
def tAdd (ta tb : TE) : TE := fun σ H Q => t2I ta tb (fun i j H2 => Q (.int (i + j)) H2) σ H
def tSub (ta tb : TE) : TE := fun σ H Q => t2I ta tb (fun i j H2 => Q (.int (i - j)) H2) σ H
/-- the left factor below 2^64 -/
def tMul (ta tb : TE) : TE := fun σ H Q => t2I ta tb (fun i j H2 => (-(2 ^ 64) < i ∧ i < 2 ^ 64) ∧ Q (.int (i * j)) H2) σ H
variable {a b : Expr} {ta tb : TE} {pos : Pos}
/-! ### comparisons -/
def PC (X : Cx) (op : CmpOp) (a b : Expr) (t : TE) : Prop :=
  ∀ (pins : List (Addr × Obj)) (s : Shared) (σ : St) (H : Hp) (Q : VK), Inv X pins σ H s → t σ H Q →
    wpAny (model X.prog X.w) X.A (eval a X.env) (fun v s₁ => wpAny (model X.prog X.w) X.A (eval b X.env) (fun u s₂ => wpAny (model X.prog X.w) X.A (compareOp op v u) (EP X pins σ Q) X.xe s₂) X.xe s₁) X.xe s
def tCmp (p : Int → Int → Bool) (ta tb : TE) : TE := fun σ H Q => t2I ta tb (fun i j H2 => Q (.bl (p i j)) H2) σ H
abbrev tLt : TE → TE → TE := tCmp fun i j => decide (i < j)
abbrev tLe : TE → TE → TE := tCmp fun i j => decide (i ≤ j)
abbrev tGt : TE → TE → TE := tCmp fun i j => decide (j < i)
abbrev tGe : TE → TE → TE := tCmp fun i j => decide (j ≤ i)
abbrev tEqI : TE → TE → TE := tCmp fun i j => decide (i = j)
abbrev tNeI : TE → TE → TE := tCmp fun i j => !decide (i = j)
/-- is None -/
def tIsN (ta : TE) : TE := fun σ H Q => ta σ H fun x H1 => Q (.bl (decide (x = .non))) H1
def tNotN (ta : TE) : TE := fun σ H Q => ta σ H fun x H1 => Q (.bl (!decide (x = .non))) H1
/-- a comparison as a value, as a test -/
def tB (t : TE) : TT := fun σ H Q => t σ H fun x H1 => ∃ c, x = .bl c ∧ Q c H1
theorem pt_cmp {op : CmpOp} {t : TE} (h : PC X op a b t) (h1 : behindInMarks op b = false := by first | exact nobehind _ (by decide) (by decide) | rfl) : PT X (.Compare a [op] [b] pos) (tB t) := by
  intro pins s σ H Q I hw
  refine wpAny_isTrue_Compare1 (thn (h pins s σ H _ I hw) fun v s1 h1 => thn h1 fun u s2 h2 => thn h2 fun c s3 ⟨x, H1, I1, r1, q1⟩ => ?_) h1
  obtain ⟨d, rfl, q⟩ := q1
  cases r1
  exact wpAny_truthy_bool ⟨H1, I1, q⟩
/-- an expression whose value is a bool, as a test -/
theorem pt_val {e : Expr} {t : TE} (h : PE X e t) (he : ∀ whole, isTrue e X.env whole = (do let v ← whole; standAt e.pos; holding [v] (truthy v)) := by intro _; rfl) : PT X e (tB t) := by
  intro pins s σ H Q I hw
  refine isTrue_plain (thn (h pins s σ H _ I hw) fun v s1 ⟨x, H1, I1, r1, q1⟩ => ?_) (he _)
  obtain ⟨d, rfl, q⟩ := q1
  cases r1
  exact wpAny_truthy_bool ⟨H1, I1, q⟩

/-! ### and, or, not -/
variable {tA tB' : TT} {rest : List Expr}
def tAnd (t u : TT) : TT := fun σ H Q => t σ H fun c H1 => if c = true then u σ H1 Q else Q false H1
def tOr (t u : TT) : TT := fun σ H Q => t σ H fun c H1 => if c = true then Q true H1 else u σ H1 Q
def tNot (t : TT) : TT := fun σ H Q => t σ H fun c H1 => Q (!c) H1
theorem pw_and1 (ha : PT X a tA) : PW X (.BoolOp .And [a] pos) tA := by
  intro wh pins s σ H Q I h
  refine isTrue_and (thn (ha pins s σ H Q I h) fun c s1 e => ?_)
  cases c with
  | true => exact isTrue_and_nil e
  | false => exact e
theorem pw_or1 (ha : PT X a tA) : PW X (.BoolOp .Or [a] pos) tA := by
  intro wh pins s σ H Q I h
  refine isTrue_or (thn (ha pins s σ H Q I h) fun c s1 e => ?_)
  cases c with
  | false => exact isTrue_or_nil e
  | true => exact e
theorem pw_and (ha : PT X a tA) (hb : PW X (.BoolOp .And (b :: rest) pos) tB') : PW X (.BoolOp .And (a :: b :: rest) pos) (tAnd tA tB') := by
  intro wh pins s σ H Q I h
  refine isTrue_and (thn (ha pins s σ H _ I h) fun c s1 ⟨H1, I1, q1⟩ => ?_)
  cases c with
  | true => exact hb wh pins s1 σ H1 Q I1 q1
  | false => exact ⟨H1, I1, q1⟩
theorem pw_or (ha : PT X a tA) (hb : PW X (.BoolOp .Or (b :: rest) pos) tB') : PW X (.BoolOp .Or (a :: b :: rest) pos) (tOr tA tB') := by
  intro wh pins s σ H Q I h
  refine isTrue_or (thn (ha pins s σ H _ I h) fun c s1 ⟨H1, I1, q1⟩ => ?_)
  cases c with
  | true => exact ⟨H1, I1, q1⟩
  | false => exact hb wh pins s1 σ H1 Q I1 q1
theorem pt_not (ha : PT X a tA) : PT X (.UnaryOp .Not a pos) (tNot tA) := by
  intro pins s σ H Q I h
  exact isTrue_not (ha pins s σ H (fun c H1 => Q (!c) H1) I h)
/-- .. as values (bools) -/
def tAndV (ta tb : TE) : TE := fun σ H Q => ta σ H fun x H1 => ∃ c, x = .bl c ∧ if c = true then tb σ H1 Q else Q (.bl false) H1
def tOrV (ta tb : TE) : TE := fun σ H Q => ta σ H fun x H1 => ∃ c, x = .bl c ∧ if c = true then Q (.bl true) H1 else tb σ H1 Q
def tNotV (ta : TE) : TE := fun σ H Q => ta σ H fun x H1 => ∃ c, x = .bl c ∧ Q (.bl (!c)) H1
theorem pe_one {op} {t : TE} (h : PE X a t) : PE X (.BoolOp op [a] pos) t := fun pins s σ H Q I hw => BoolOp_one (h pins s σ H Q I hw)
theorem pe_and (ha : PE X a ta) (hb : PE X (.BoolOp .And (b :: rest) pos) tb) : PE X (.BoolOp .And (a :: b :: rest) pos) (tAndV ta tb) := by
  intro pins s σ H Q I h
  refine BoolOp_and (thn (ha pins s σ H _ I h) fun v s1 ⟨x, H1, I1, r1, q1⟩ => ?_)
  obtain ⟨c, rfl, q1⟩ := q1
  cases r1
  refine wpAny_truthy_bool ?_
  cases c with
  | true => exact hb pins s1 σ H1 Q I1 q1
  | false => exact ⟨.bl false, H1, I1, rfl, q1⟩
/-- a if t else b -/
def tIf (t : TT) (ta tb : TE) : TE := fun σ H Q => t σ H fun c H1 => if c = true then ta σ H1 Q else tb σ H1 Q
theorem pe_ifExp {c : Expr} (hc : PT X c tA) (ha : PE X a ta) (hb : PE X b tb) : PE X (.IfExp c a b pos) (tIf tA ta tb) := by
  intro pins s σ H Q I h
  refine wpAny_IfExp (thn (hc pins s σ H _ I h) fun d s1 ⟨H1, I1, q1⟩ => ?_)
  cases d with
  | true => exact ha pins s1 σ H1 Q I1 q1
  | false => exact hb pins s1 σ H1 Q I1 q1
end
end L2

namespace L2
open PySem PySem.Spec PyProof.Rows

/-! ### a list, a tuple that is read: tracked, frozen, or an object of the module -/
def SqL (K : PySem.W.Frag) (H : Hp) (a : Addr) (xs : List V) : Prop :=
  Rd H a (.lst xs) ∨
    ∃ (o : Obj) (its : Array Value) (n : Nat), K.lookup a = some o ∧ o.cls = .type "list" ∧ o.dict = none ∧ o.data = .seq its n ∧ its.size ≤ sizeLine ∧ Vals xs its.toList
def SqT (K : PySem.W.Frag) (H : Hp) (a : Addr) (xs : List V) : Prop :=
  Rd H a (.tup xs) ∨
    ∃ (o : Obj) (its : Array Value) (n : Nat), K.lookup a = some o ∧ o.cls = .type "tuple" ∧ o.data = .seq its n ∧ its.size ≤ sizeLine ∧ Vals xs its.toList
def absV : Value → Option V
  | .none => some .non
  | .bool b => some (.bl b)
  | .int i _ => some (.int i)
  | .str x _ => some (.str x)
  | .bytes b _ => some (.byt b)
  | .float b _ => some (.flt b)
  | .ref a => some (.ref a)
  | .type n => some (.ty n)
  | _ => none
theorem RelV.abs {x : V} {u : Value} (r : RelV x u) : absV u = some x := by
  cases x with
  | non => cases r; rfl
  | bl _ => cases r; rfl
  | int _ => obtain ⟨t, rfl⟩ := r; rfl
  | str _ => obtain ⟨t, rfl⟩ := r; rfl
  | byt _ => obtain ⟨t, rfl⟩ := r; rfl
  | flt _ => obtain ⟨t, rfl⟩ := r; rfl
  | ref _ => cases r; rfl
  | ty _ => cases r; rfl
theorem RelV.inj {x y : V} {u : Value} (r : RelV x u) (q : RelV y u) : x = y := Option.some.inj (r.abs.symm.trans q.abs)
theorem Vals.inj : ∀ {xs ys : List V} {us : List Value}, Vals xs us → Vals ys us → xs = ys
  | _, _, _, .nil, .nil => rfl
  | _, _, _, .cons r t, .cons r' t' => by rw [r.inj r', Vals.inj t t']
section
variable {X : Cx} {pins : List (Addr × Obj)} {σ : St} {H : Hp} {s : Shared} {a : Addr} {xs ys : List V}
theorem SqL.of {K : PySem.W.Frag} (h : H a = some (.lst xs)) : SqL K H a xs := .inl (.inl h)
theorem SqT.of {K : PySem.W.Frag} (h : H a = some (.tup xs)) : SqT K H a xs := .inl (.inl h)
theorem Inv.list (I : Inv X pins σ H s) (h : SqL X.K H a xs) : ∃ its : List Value, Vals xs its ∧ PlainL s.heap a its.toArray ∧ xs.length ≤ sizeLine := by
  rcases h with h | ⟨o, its, n, hk, hc, hd, hs, hz, r⟩
  · obtain ⟨z, its, n, r, e⟩ := h.ok I.hok
    exact ⟨its, r, ⟨_, n, e, rfl, rfl, rfl⟩, z⟩
  · refine ⟨its.toList, r, ⟨o, n, I.kIn a o hk, hc, hd, by simpa using hs⟩, ?_⟩
    have e := r.length
    simp only [Array.length_toList] at e
    omega
theorem Inv.tuple (I : Inv X pins σ H s) (h : SqT X.K H a xs) : ∃ its : List Value, Vals xs its ∧ IsTup s.heap a its.toArray ∧ xs.length ≤ sizeLine := by
  rcases h with h | ⟨o, its, n, hk, hc, hs, hz, r⟩
  · obtain ⟨z, its, r, p⟩ := h.ok I.hok
    exact ⟨its, r, p, z⟩
  · refine ⟨its.toList, r, ⟨o, I.kIn a o hk, hc, n, by simpa using hs⟩, ?_⟩
    have e := r.length
    simp only [Array.length_toList] at e
    omega
theorem Inv.list_inj (I : Inv X pins σ H s) (h : SqL X.K H a xs) (h' : SqL X.K H a ys) : xs = ys := by
  obtain ⟨its, r, ⟨o, n, e, _, _, d⟩, _⟩ := I.list h
  obtain ⟨its', r', ⟨o', n', e', _, _, d'⟩, _⟩ := I.list h'
  rw [e] at e'; cases e'
  rw [d] at d'
  injection d' with d1 _
  have : its = its' := by simpa using congrArg Array.toList d1
  subst this
  exact r.inj r'
end

/-! ### another wish about exceptions -/
abbrev Cx.wish (X : Cx) (E : Value → Shared → Prop) : Cx := { X with xe := E }
/-- no exception leaves -/
abbrev Cx.nox (X : Cx) : Cx := X.wish fun _ _ => False
theorem Cx.Ok.wish {X : Cx} (ok : X.Ok) (E : Value → Shared → Prop) : (X.wish E).Ok :=
  ⟨ok.mod, ok.kind, ok.glob, ok.blt, ok.above, ok.inj, ok.has, ok.cab, ok.hd, ok.frames, ok.stk, ok.exf, ok.bs, ok.bsz, ok.noex, ok.exfs, ok.funs, ok.frf⟩
theorem Cx.Ok.unwish {X : Cx} {E : Value → Shared → Prop} (ok : (X.wish E).Ok) : X.Ok :=
  ⟨ok.mod, ok.kind, ok.glob, ok.blt, ok.above, ok.inj, ok.has, ok.cab, ok.hd, ok.frames, ok.stk, ok.exf, ok.bs, ok.bsz, ok.noex, ok.exfs, ok.funs, ok.frf⟩
section
variable {X : Cx} {pins : List (Addr × Obj)} {σ : St} {H : Hp} {s : Shared} {E : Value → Shared → Prop}
theorem Inv.wish (I : Inv X pins σ H s) (E : Value → Shared → Prop) : Inv (X.wish E) pins σ H s := ⟨I.ok.wish E, I.os, I.bare, I.base, I.loc, I.cell, I.free, I.freeC, I.pin, I.hok, I.len⟩
theorem Inv.unwish (I : Inv (X.wish E) pins σ H s) : Inv X pins σ H s := ⟨I.ok.unwish, I.os, I.bare, I.base, I.loc, I.cell, I.free, I.freeC, I.pin, I.hok, I.len⟩
theorem SP.unwish {D : Ends} {f : Flow} {s' : Shared} (h : SP (X.wish E) pins D f s') : SP X pins D f s' := by
  cases f with
  | next => obtain ⟨σ', H', I, q⟩ := h; exact ⟨σ', H', I.unwish, q⟩
  | brk => obtain ⟨σ', H', I, q⟩ := h; exact ⟨σ', H', I.unwish, q⟩
  | cont => obtain ⟨σ', H', I, q⟩ := h; exact ⟨σ', H', I.unwish, q⟩
  | ret u => obtain ⟨v, σ', H', I, r, q⟩ := h; exact ⟨v, σ', H', I.unwish, r, q⟩
theorem PSs.nox {st : List Stmt} {t : TS} (h : PSs X.nox st t) : PSs X st t := fun pins s σ H D I hw =>
  wpAny_mono (h pins s σ H D (I.wish _) hw) (fun _ _ q => q.unwish) fun _ _ z => False.elim z
end

/-! ### blocks and small statements -/
section
variable {X : Cx} {st : Stmt} {rest : List Stmt} {t u : TS} {e : Expr} {te : TE} {pos : Pos}
def tNext : TS := fun D σ H => D.nx σ H
def tSeq (t u : TS) : TS := fun D σ H => t { D with nx := u D } σ H
theorem pss_nil : PSs X [] tNext := fun _ _ σ H _ I h => wpAny_execs_nil ⟨σ, H, I, h⟩
theorem pss_cons (h1 : PS X st t) (h2 : PSs X rest u) : PSs X (st :: rest) (tSeq t u) := by
  intro pins s σ H D I h
  refine wpAny_execs_cons (thn (h1 pins s σ H { D with nx := u D } I h) fun f s1 q => ?_)
  cases f with
  | next =>
    obtain ⟨σ', H', I', q⟩ := q
    exact h2 pins s1 σ' H' D I' q
  | ret v => exact q
  | brk => exact q
  | cont => exact q
theorem pss_one (h1 : PS X st t) : PSs X [st] t := by
  intro pins s σ H D I h
  refine wpAny_execs_cons (thn (h1 pins s σ H D I h) fun f s1 q => ?_)
  cases f with
  | next => exact wpAny_execs_nil q
  | ret v => exact q
  | brk => exact q
  | cont => exact q
def tBreak : TS := fun D σ H => D.bk σ H
def tCont : TS := fun D σ H => D.ct σ H
/-- in a def's body nothing is shown -/
theorem Inv.quiet {pins : List (Addr × Obj)} {σ : St} {H : Hp} {s : Shared} (I : Inv X pins σ H s) : interactive X.env = false := by simp [interactive, I.ok.kind]
/-- an expression whose value is dropped -/
def tDrop (te : TE) : TS := fun D σ H => te σ H fun _ H1 => D.nx σ H1
theorem ps_expr (he : PE X e te) (hs : swapsWith e none pos.line X.env = pure false := by rfl) : PS X (.Expr e pos) (tDrop te) := by
  intro pins s σ H D I h
  exact wpAny_Expr_any (thn (he pins s σ H _ I h) fun v s1 ⟨x, H1, I1, r1, q1⟩ => ⟨σ, H1, I1, q1⟩) I.quiet hs
def tRet (te : TE) : TS := fun D σ H => te σ H D.rt
theorem ps_ret (he : PE X e te) : PS X (.Return (some e) pos) (tRet te) := by
  intro pins s σ H D I h
  exact wpAny_Return_some (thn (he pins s σ H _ I h) fun v s1 ⟨x, H1, I1, r1, q1⟩ => ⟨x, σ, H1, I1, r1, q1⟩)
def tRetN : TS := fun D _ H => D.rt .non H
def tIfS (c : TT) (t u : TS) : TS := fun D σ H => c σ H fun b H1 => if b = true then t D σ H1 else u D σ H1
theorem ps_if {c : Expr} {a b : List Stmt} {tc : TT} (hc : PT X c tc) (ha : PSs X a t) (hb : PSs X b u) : PS X (.If c a b pos) (tIfS tc t u) := by
  intro pins s σ H D I h
  refine wpAny_If (thn (hc pins s σ H _ I h) fun d s1 ⟨H1, I1, q1⟩ => ?_)
  cases d with
  | true => exact ha pins s1 σ H1 D I1 q1
  | false => exact hb pins s1 σ H1 D I1 q1
/-- code that the proof never comes to -/
def tNever : TS := fun _ _ _ => False
theorem ps_never : PS X st tNever := fun _ _ _ _ _ _ h => h.elim
end

/-! ### targets -/
abbrev TG := V → St → Hp → (St → Hp → Prop) → Prop
abbrev TGs := List V → St → Hp → (St → Hp → Prop) → Prop
def PG (X : Cx) (target : Expr) (t : TG) : Prop :=
  ∀ (pins : List (Addr × Obj)) (s : Shared) (σ : St) (H : Hp) (v : V) (u : Value) (Q : St → Hp → Prop), Inv X pins σ H s → RelV v u → t v σ H Q →
    wpAny (model X.prog X.w) X.A (assign target X.env u) (fun _ s' => ∃ σ' H', Inv X pins σ' H' s' ∧ Q σ' H') X.xe s
/-- several targets, one after another -/
def PGs (X : Cx) (ts : List Expr) (t : TGs) : Prop :=
  ∀ (pins : List (Addr × Obj)) (s : Shared) (σ : St) (H : Hp) (vs : List V) (us : List Value) (Q : St → Hp → Prop), Inv X pins σ H s → Vals vs us → t vs σ H Q →
    wpAny (model X.prog X.w) X.A (assignInOrder ((assignEach ts X.env).map (·.2)) us) (fun _ s' => ∃ σ' H', Inv X pins σ' H' s' ∧ Q σ' H') X.xe s
/-- o[i] = v, by values -/
abbrev TSet := V → V → V → Hp → (Hp → Prop) → Prop
def PSet (X : Cx) (t : TSet) : Prop :=
  ∀ (pins : List (Addr × Obj)) (s : Shared) (σ : St) (H : Hp) (o i v : V) (ov iv u : Value) (Q : Hp → Prop), Inv X pins σ H s → RelV o ov → RelV i iv → RelV v u → t o i v H Q →
    wpAny (model X.prog X.w) X.A (setItem ov iv u) (fun _ s' => ∃ H', Inv X pins σ H' s' ∧ Q H') X.xe s
/-- a op= b, by values -/
abbrev TIp := V → V → Hp → VK → Prop
def PIp (X : Cx) (op : Operator) (t : TIp) : Prop :=
  ∀ (pins : List (Addr × Obj)) (s : Shared) (σ : St) (H : Hp) (x y : V) (v u : Value) (Q : VK), Inv X pins σ H s → RelV x v → RelV y u → t x y H Q →
    wpAny (model X.prog X.w) X.A (inplaceOp op v u) (EP X pins σ Q) X.xe s
section
variable {X : Cx} {pos : Pos}
def gName (i : Nat) : TG := fun v σ H Q => Q (σ.set i (some v)) H
theorem pg_name {i : Nat} {x : Str} (hN : X.N.Nodup) (hi : X.N[i]? = some x) (hx : Loc X.env.scope x) (hf : X.fn x = true ∨ X.env.scope.names.lookup x = some .local := by first | exact .inl rfl | exact .inr rfl | assumption) : PG X (.Name x pos) (gName i) := by
  intro pins s σ H v u Q I r h
  exact wpAny_assign_Name (store_ok I hN hi hx r (fun s' I' => ⟨_, H, I', h⟩) hf)
def gNil : TGs := fun vs σ H Q => vs = [] ∧ Q σ H
def gCons (t : TG) (u : TGs) : TGs := fun vs σ H Q => ∃ v r, vs = v :: r ∧ t v σ H fun σ' H' => u r σ' H' Q
/-- (a, b, ..) = a tuple of that length -/
def gTup (K : PySem.W.Frag) (n : Nat) (t : TGs) : TG := fun v σ H Q => ∃ a xs, v = .ref a ∧ SqT K H a xs ∧ xs.length = n ∧ t xs σ H Q
/-- o[i] = .. -/
def gSub (to ti : TE) (t : TSet) : TG := fun v σ H Q => to σ H fun o H1 => ti σ H1 fun i H2 => t o i v H2 fun H3 => Q σ H3
/-- target = value -/
def tAsg (te : TE) (g : TG) : TS := fun D σ H => te σ H fun x H1 => g x σ H1 D.nx
/-- name = value -/
theorem ps_set {i : Nat} {x : Str} {e : Expr} {te : TE} {pos' : Pos} (hN : X.N.Nodup) (hi : X.N[i]? = some x) (hx : Loc X.env.scope x) (he : PE X e te) (hs : swapsWith e (some (.Name x pos')) pos.line X.env = pure false := by rfl) (hf : X.fn x = true ∨ X.env.scope.names.lookup x = some .local := by first | exact .inl rfl | exact .inr rfl | assumption) :
    PS X (.Assign [.Name x pos'] e pos) (tAsg te (gName i)) := by
  intro pins s σ H D I h
  refine wpAny_Assign_Name (thn (he pins s σ H _ I h) fun v s1 ⟨y, H1, I1, r1, q1⟩ => ?_) hs
  exact store_ok I1 hN hi hx r1 (fun s2 I2 => ⟨_, H1, I2, q1⟩) hf
/-- a, b = x, y with plain local names: stored from the right; the pair itself is not tracked (the opening rows as in PyProof/Rows/TupAssign.lean:23) -/
def tPar (i j : Nat) (ta : TA) : TS := fun D σ H => ta σ H fun vs H1 => ∃ v w, vs = [v, w] ∧ D.nx ((σ.set i (some v)).set j (some w)) H1
/-- name op= e -/
def tAug (i : Nat) (te : TE) (ti : TIp) : TS := fun D σ H => ∃ x, σ[i]? = some (some x) ∧ te σ H fun y H1 => ti x y H1 fun z H2 => D.nx (σ.set i (some z)) H2
/-- o[i] op= e -/
def tAugS (to ti te : TE) (tget : V → V → Hp → VK → Prop) (tip : TIp) (tset : TSet) : TS := fun D σ H => to σ H fun o H1 => ti σ H1 fun i H2 => tget o i H2 fun x H3 => te σ H3 fun y H4 => tip x y H4 fun z H5 => tset o i z H5 fun H6 => D.nx σ H6
/-- o[i], by values -/
def PGet (X : Cx) (t : V → V → Hp → VK → Prop) : Prop :=
  ∀ (pins : List (Addr × Obj)) (s : Shared) (σ : St) (H : Hp) (o i : V) (ov iv : Value) (Q : VK), Inv X pins σ H s → RelV o ov → RelV i iv → t o i H Q →
    wpAny (model X.prog X.w) X.A (getItem ov iv) (EP X pins σ Q) X.xe s
/-- ints -/
def ipI (f : Int → Int → Int) : TIp := fun x y H Q => ∃ i j, x = .int i ∧ y = .int j ∧ Q (.int (f i j)) H
end

/-! ### while -/
section
variable {X : Cx} {pos : Pos}
/-- the invariant W with its measure -/
def tWhile (c : TT) (tb : TS) : TS := fun D σ H => ∃ W : Nat → St → Hp → Prop, (∃ m, W m σ H) ∧ ∀ m σ H, W m σ H →
  c σ H fun b H1 => if b = true then ∃ N : St → Hp → Prop, (∀ σ' H', N σ' H' → ∃ m', m' < m ∧ W m' σ' H') ∧ tb { D with nx := N, ct := N, bk := D.nx } σ H1 else D.nx σ H1
theorem ps_while {c : Expr} {body : List Stmt} {tc : TT} {tb : TS} (hp : PassesOwn (model X.prog X.w) X.A X.env X.xe) (hc : PT X c tc) (hb : PSs X body tb) : PS X (.While c body [] pos) (tWhile tc tb) := by
  intro pins s σ H D I h
  obtain ⟨W, ⟨m0, w0⟩, turn⟩ := h
  refine wpAny_While (codeAny_whileLoop (fun n s' => ∃ σ' H', Inv X pins σ' H' s' ∧ W n σ' H') ?_ m0 ⟨σ, H, I, w0⟩)
  rintro n s1 ⟨σ1, H1, I1, w1⟩
  refine wpAny_passesOwn hp (thn (hc pins s1 σ1 H1 _ I1 (turn n σ1 H1 w1)) fun b s2 ⟨H2, I2, q2⟩ => ?_)
  cases b with
  | true =>
    obtain ⟨N, hN, q2⟩ := q2
    rw [if_pos rfl]
    refine wpAny_passesOwn hp (thn (hb pins s2 σ1 H2 _ I2 q2) fun f s3 q3 => ?_)
    cases f with
    | next =>
      obtain ⟨σ3, H3, I3, n3⟩ := q3
      obtain ⟨m', hm, w3⟩ := hN σ3 H3 n3
      exact ⟨m', hm, σ3, H3, I3, w3⟩
    | cont =>
      obtain ⟨σ3, H3, I3, n3⟩ := q3
      obtain ⟨m', hm, w3⟩ := hN σ3 H3 n3
      exact ⟨m', hm, σ3, H3, I3, w3⟩
    | brk => exact q3
    | ret v => exact q3
  | false =>
    rw [if_neg Bool.false_ne_true]
    exact wpAny_execs_nil ⟨σ1, H2, I2, q2⟩
end

/-! ### what a loop or a comprehension walks -/
/-- at turn i: it yields x (the heap may grow), or it stops -/
structure It where
  go : Nat → Hp → Prop
  yld : Nat → Hp → V → Hp → Prop
  stop : Nat → Hp → Prop
/-- the iterator's own objects may turn: they are not the frame's, not pinned, younger than the entry (or a comprehension's own) -/
def FpOk (X : Cx) (pins : List (Addr × Obj)) (H : Hp) (b : Addr) : Prop :=
  H b = none ∧ b ≠ X.env.locals ∧ b ∉ X.fs ∧ (b ∈ X.ex ∨ X.s₀.heap.objs.size ≤ b) ∧ (∀ x c, X.env.cells.lookup x = some c → c ≠ b) ∧ ∀ p ∈ X.pn ++ pins, p.1 ≠ b
theorem Inv.fpOk {X : Cx} {pins : List (Addr × Obj)} {σ : St} {H H' : Hp} {s : Shared} {b : Addr} (I : Inv X pins σ H s) (hb : s.heap.objs.size ≤ b) (hn : H' b = none) : FpOk X pins H' b := by
  refine ⟨hn, Nat.ne_of_gt (Nat.lt_of_lt_of_le I.lt hb), I.nofs hb, .inr (Nat.le_trans I.sz hb), fun x c e z => ?_, fun p hp z => ?_⟩
  · obtain ⟨v, q⟩ := I.cell x c e
    exact absurd (Nat.lt_of_lt_of_le q.lt (by rw [z]; exact hb)) (Nat.lt_irrefl _)
  · exact absurd (Nat.lt_of_lt_of_le (Heap.lt_size (I.pin p hp).1) (by rw [z]; exact hb)) (Nat.lt_irrefl _)
structure Turn (P : Program) (w : World) (K : PySem.W.Frag) (tg : Expr) (J : It) (fp : List Addr) (it : Addr) (tn : Nat → Heap → Prop) : Prop where
  mem : it ∈ fp
  obj : ∀ i h, tn i h → ∀ b ∈ fp, ∃ o, h.get? b = some o ∧ ∀ v, o.data ≠ .cell v
  keep : ∀ i h h', tn i h → (∀ b ∈ fp, ∀ o, h.get? b = some o → h'.get? b = some o) → tn i h'
  item : ∀ (X : Cx), X.prog = P → X.w = w → X.K = K → X.calm = true → ∀ (i : Nat) (pins : List (Addr × Obj)) (s : Shared) (σ : St) (H : Hp) (E : Value → Shared → Prop), Inv X pins σ H s → (∀ b ∈ fp, FpOk X pins H b) → tn i s.heap → J.go i H →
    wpAny (model P w) X.A (pyNext (.ref it)) (fun r s1 => ∃ u, r = some u ∧
      wpAny (model P w) X.A (letOwnedTupleGo tg (.ref it) u) (fun _ s2 => ∃ x H', Inv X pins σ H' s2 ∧ RelV x u ∧ J.yld i H x H' ∧ tn (i + 1) s2.heap ∧ ∀ b ∈ fp, H' b = none) E s1) E s
  done : ∀ (X : Cx), X.prog = P → X.w = w → X.K = K → X.calm = true → ∀ (i : Nat) (pins : List (Addr × Obj)) (s : Shared) (σ : St) (H : Hp) (E : Value → Shared → Prop), Inv X pins σ H s → (∀ b ∈ fp, FpOk X pins H b) → tn i s.heap → J.stop i H →
    wpAny (model P w) X.A (pyNext (.ref it)) (fun r s1 => r = none ∧ Inv X pins σ H s1) E s
  self : ∀ (A : Around) (i : Nat) (s : Shared) (Q : Value → Shared → Prop) (E : Value → Shared → Prop), tn i s.heap → Q (.ref it) s → wpAny (model P w) A (pyIter (.ref it)) Q E s
abbrev TI := St → Hp → (It → Hp → Prop) → Prop
/-- an iterator has come -/
def PIE (X : Cx) (pins : List (Addr × Obj)) (σ : St) (tg : Expr) (R : It → Hp → Prop) (itv : Value) (s2 : Shared) : Prop :=
  ∃ (it : Addr) (fp : List Addr) (tn : Nat → Heap → Prop) (J : It) (H' : Hp), itv = .ref it ∧ Inv X pins σ H' s2 ∧ Turn X.prog X.w X.K tg J fp it tn ∧ tn 0 s2.heap ∧ (∀ b ∈ fp, FpOk X pins H' b) ∧ R J H'
def PI (X : Cx) (tg iter : Expr) (wi : TI) : Prop :=
  ∀ (pins : List (Addr × Obj)) (s : Shared) (σ : St) (H : Hp) (R : It → Hp → Prop), Inv X pins σ H s → wi σ H R →
    wpAny (model X.prog X.w) X.A (eval iter X.env) (fun v s1 => wpAny (model X.prog X.w) X.A (pyIter v) (PIE X pins σ tg R) X.xe s1) X.xe s

/-- the step ahead of the store is nothing for an iterator that keeps no tuple -/
theorem go_of {M : Model} {A : Around} {E : Value → Shared → Prop} {s : Shared} {tg : Expr} {it : Addr} {u : Value} {o : Obj} {n : String} {vs : Array Value} {Q : Unit → Shared → Prop} (ho : s.heap.get? it = some o) (hc : o.cls = .type n) (hd : o.data = .fields vs)
    (hn : ["enumerate", "zip", "dict_itemiterator", "dict_reverseitemiterator", "odict_iterator", "itertools.zip_longest", "itertools.pairwise"].contains n = false) (hQ : Q () s) : wpAny M A (letOwnedTupleGo tg (.ref it) u) Q E s := by
  unfold letOwnedTupleGo
  cases tg <;> first
    | exact wpAny_pure hQ
    | (cases u <;> first
        | exact wpAny_pure hQ
        | (refine wpAny_bind (wpAny_load ho ?_)
           rw [hc, hd]
           show wpAny M A (if (["enumerate", "zip", "dict_itemiterator", "dict_reverseitemiterator", "odict_iterator", "itertools.zip_longest", "itertools.pairwise"].contains n && vs[0]? == some (rawInt _)) = true then _ else _) Q E s
           rw [if_neg (by intro h; rw [hn, Bool.false_and] at h; cases h)]
           exact wpAny_pure hQ))

/-- the list at a, as it stands at each turn (a loop may append to it) -/
def Itl (K : PySem.W.Frag) (a : Addr) : It :=
  ⟨fun i H => ∃ xs x, SqL K H a xs ∧ xs[i]? = some x, fun i H x H' => H' = H ∧ ∀ xs, SqL K H a xs → xs[i]? = some x, fun i H => ∃ xs, SqL K H a xs ∧ xs.length ≤ i⟩
def Itt (K : PySem.W.Frag) (a : Addr) : It :=
  ⟨fun i H => ∃ xs x, SqT K H a xs ∧ xs[i]? = some x, fun i H x H' => H' = H ∧ ∀ xs, SqT K H a xs → xs[i]? = some x, fun i H => ∃ xs, SqT K H a xs ∧ xs.length ≤ i⟩
/-- lo, lo + 1, .. (n of them) -/
def Itr (lo : Int) (n : Nat) : It := ⟨fun i _ => i < n, fun i H x H' => H' = H ∧ x = .int (lo + i), fun i _ => n ≤ i⟩
theorem turn_list {P : Program} {w : World} {K : PySem.W.Frag} {tg : Expr} (a it : Addr) : Turn P w K tg (Itl K a) [it] it (fun i h => h.IsListIter it a i) where
  mem := by simp
  obj := fun i h st b hb => by
    have e : b = it := by simpa using hb
    subst e
    obtain ⟨o, e, c, d⟩ := st
    exact ⟨o, e, fun v z => by rw [d] at z; cases z⟩
  keep := fun i h h' st k => st.at fun o e => k it (by simp) o e
  item := by
    intro X hP hw hK hc i pins s σ H E I hf st hg
    subst hP hw hK
    obtain ⟨xs, x, hq, hx⟩ := hg
    obtain ⟨its, rv, p, hz⟩ := I.list hq
    obtain ⟨u, hu, ru⟩ := rv.get hx
    obtain ⟨f0, f1, f2, f3, f4, f5⟩ := hf it (by simp)
    refine wpAny_pyNext_list_item st p.isList (x := u) (by simpa using hu) fun h' st' sb => ?_
    have I1 : Inv X pins σ H { s with heap := h' } := I.turned (t' := s.toks) (fun b o hb e => (sb.2 b hb).trans e) f0 f1 f3 f4 f5
    obtain ⟨o, e, c, d⟩ := id st'
    exact ⟨u, rfl, go_of (s := { s with heap := h' }) e c d (by decide) ⟨x, H, I1, ru, ⟨rfl, fun ys hy => by rw [I.list_inj hy hq]; exact hx⟩, st', fun b hb => (hf b hb).1⟩⟩
  done := by
    intro X hP hw hK hc i pins s σ H E I hf st hg
    subst hP hw hK
    obtain ⟨xs, hq, hx⟩ := hg
    obtain ⟨its, rv, p, hz⟩ := I.list hq
    obtain ⟨f0, f1, f2, f3, f4, f5⟩ := hf it (by simp)
    have hl := rv.length
    exact wpAny_pyNext_list_end (I.ok.hd hc) st p.isList (by simp; omega) fun h' eb => ⟨rfl, I.turned (t' := s.toks) (fun b o hb e => eb b o hb e) f0 f1 f3 f4 f5⟩
  self := fun _ _ _ _ _ st h => wpAny_pyIter_listiter st h
theorem turn_range {P : Program} {w : World} {K : PySem.W.Frag} {tg : Expr} (it : Addr) (lo : Int) (n : Nat) : Turn P w K tg (Itr lo n) [it] it (fun i h => IsRangeIter h it (lo + (i : Nat) * 1) ((n : Int) - (i : Nat)) 1) where
  mem := by simp
  obj := fun i h st b hb => by
    have e : b = it := by simpa using hb
    subst e
    exact ⟨_, st, fun v z => by
      have z' : Data.fields _ = Data.cell v := z
      cases z'⟩
  keep := fun i h h' st k => k it (by simp) _ st
  item := by
    intro X hP hw hK hc i pins s σ H E I hf st hg
    subst hP hw hK
    obtain ⟨f0, f1, f2, f3, f4, f5⟩ := hf it (by simp)
    have W := Walks.range (prog := X.prog) (w := X.w) (I.ok.hd hc) it lo 1 n
    refine W.item i s _ _ hg st fun v h' tk hv st' kk => ?_
    obtain ⟨t, rfl⟩ := hv
    have I1 : Inv X pins σ H { s with heap := h', toks := tk } := I.turned (fun b o hb e => kk b o (by simpa using hb) e) f0 f1 f3 f4 f5
    refine ⟨_, rfl, go_of (s := { s with heap := h', toks := tk }) (n := "range_iterator") st' rfl rfl (by decide) ⟨.int (lo + i), H, I1, ⟨t, ?_⟩, ⟨rfl, rfl⟩, st', fun b hb => (hf b hb).1⟩⟩
    rw [Int.mul_one]
  done := by
    intro X hP hw hK hc i pins s σ H E I hf st hg
    subst hP hw hK
    obtain ⟨f0, f1, f2, f3, f4, f5⟩ := hf it (by simp)
    exact wpAny_pyNext_range_end (I.ok.hd hc) st (by have : n ≤ i := hg; omega) fun h' eb => ⟨rfl, I.turned (t' := s.toks) (fun b o hb e => eb b o hb e) f0 f1 f3 f4 f5⟩
  self := fun _ _ _ _ _ st h => wpAny_pyIter_rangeiter st h
end L2

namespace L2
open PySem PySem.Spec PyProof.Rows
section
variable {X : Cx} {tg : Expr}
def iList (K : PySem.W.Frag) (tl : TE) : TI := fun σ H R => tl σ H fun x H1 => ∃ a, x = .ref a ∧ (∃ xs, SqL K H1 a xs) ∧ R (Itl K a) H1
def iTup (K : PySem.W.Frag) (tl : TE) : TI := fun σ H R => tl σ H fun x H1 => ∃ a, x = .ref a ∧ (∃ xs, SqT K H1 a xs) ∧ R (Itt K a) H1
theorem pi_list {l : Expr} {tl : TE} (hl : PE X l tl) : PI X tg l (iList X.K tl) := by
  intro pins s σ H R I h
  refine thn (hl pins s σ H _ I h) fun v s1 ⟨x, H1, I1, r1, q1⟩ => ?_
  obtain ⟨a, e, ⟨xs, hq⟩, q⟩ := q1
  subst e
  cases r1
  obtain ⟨its, rv, p, hz⟩ := I1.list hq
  refine wpAny_pyIter_list p.isList ?_
  refine ⟨s1.heap.objs.size, [s1.heap.objs.size], _, _, H1, rfl, I1.kept (t' := s1.toks) fun b o e => Heap.get?_push_of_some _ e, turn_list a _, ⟨_, Heap.get?_push_size _ rfl, rfl, rfl⟩, fun b hb => ?_, q⟩
  have e : b = s1.heap.objs.size := by simpa using hb
  subst e
  exact I1.fpOk (Nat.le_refl _) (I1.hok.fresh (Nat.le_refl _))
/-- a range object just made, walked -/
theorem range_it {pins : List (Addr × Obj)} {σ : St} {H : Hp} {s : Shared} {R : It → Hp → Prop} {E : Value → Shared → Prop} {lo hi : Int} {t u v : Tok} {tk : Nat} (I : Inv X pins σ H s) (h1 : -(2 ^ 62) ≤ lo) (h2 : lo < 2 ^ 62) (h3 : -(2 ^ 62) ≤ hi) (h4 : hi < 2 ^ 62)
    (q : R (Itr lo (hi - lo).toNat) H) : wpAny (model X.prog X.w) X.A (pyIter (.ref s.heap.objs.size)) (PIE X pins σ tg R) E { s with heap := s.heap.push { cls := .type "range", data := .fields #[.int lo t, .int hi u, .int 1 v] }, toks := tk } := by
  refine wpAny_pyIter_range (IsRange.new ..) (small_one h1 h2 h3 h4) ?_
  have I1 : Inv X pins σ H { s with heap := s.heap.push { cls := .type "range", data := .fields #[.int lo t, .int hi u, .int 1 v] }, toks := tk } := I.kept fun b o e => Heap.get?_push_of_some _ e
  refine ⟨(s.heap.push { cls := .type "range", data := .fields #[.int lo t, .int hi u, .int 1 v] }).objs.size, [(s.heap.push { cls := .type "range", data := .fields #[.int lo t, .int hi u, .int 1 v] }).objs.size], _, _, H, rfl,
    I1.kept (t' := tk) fun b o e => Heap.get?_push_of_some _ e, turn_range _ lo (hi - lo).toNat, ?_, fun b hb => ?_, q⟩
  · have e1 : lo + ((0 : Nat) : Int) * 1 = lo := by simp
    have e2 : (((hi - lo).toNat : Nat) : Int) - ((0 : Nat) : Int) = Builtin.Range.rangeSize lo hi 1 := by rw [rangeSize_one]; split <;> omega
    show IsRangeIter _ _ (lo + ((0 : Nat) : Int) * 1) ((((hi - lo).toNat : Nat) : Int) - ((0 : Nat) : Int)) 1
    rw [e1, e2]
    exact Heap.get?_push_size _ rfl
  · have e : b = (s.heap.push { cls := .type "range", data := .fields #[.int lo t, .int hi u, .int 1 v] }).objs.size := by simpa using hb
    subst e
    exact I1.fpOk (Nat.le_refl _) (I1.hok.fresh (Nat.le_refl _))
def iRng1 (ta : TA) : TI := fun σ H R => ta σ H fun vs H1 => ∃ j : Int, vs = [.int j] ∧ -(2 ^ 62) ≤ j ∧ j < 2 ^ 62 ∧ R (Itr 0 j.toNat) H1
def iRng2 (ta : TA) : TI := fun σ H R => ta σ H fun vs H1 => ∃ i j : Int, vs = [.int i, .int j] ∧ (-(2 ^ 62) ≤ i ∧ i < 2 ^ 62 ∧ -(2 ^ 62) ≤ j ∧ j < 2 ^ 62) ∧ R (Itr i (j - i).toNat) H1
theorem pi_range1 {a : Expr} {ta : TA} {p pos : Pos} (hg : Gl X "range") (hm : X.mg "range" = none) (ha : PA X [a] ta) (hs : starEach [a] X.env = [(false, eval a X.env)] := by rfl) : PI X tg (.Call (.Name "range" p) [a] [] pos) (iRng1 ta) := by
  intro pins s σ H R I h
  refine Call_ (ld_blt I hg hm boot_range (PyProof.Rows.callWith_type1 (thn (ha pos pins s σ H _ I h) fun us s1 ⟨vs, H1, I1, r1, q1⟩ => ?_) hs rfl))
  obtain ⟨j, e, q1, q2, q⟩ := q1
  subst e
  cases r1 with
  | cons r rr =>
    cases rr
    obtain ⟨t, rfl⟩ := r
    exact call_range_1 (range_it I1 (by omega) (by omega) q1 q2 (by simpa using q))
/-! ### for -/
/-- W: the invariant by the turn and a measure; N: what the body is to reach -/
def tFor (wi : TI) (g : TG) (tb : TS) : TS := fun D σ H => wi σ H fun J H1 => ∃ W : Nat → Nat → St → Hp → Prop, (∃ m, W 0 m σ H1) ∧ ∀ i m σ H, W i m σ H →
  (J.stop i H ∧ D.nx σ H) ∨ (J.go i H ∧ ∃ N : St → Hp → Prop, (∀ σ' H', N σ' H' → ∃ m', m' < m ∧ W (i + 1) m' σ' H') ∧ ∀ x H', J.yld i H x H' → g x σ H' fun σ2 H2 => tb { D with nx := N, ct := N, bk := D.nx } σ2 H2)
/-- the records at fp as they stand -/
def pinsAt (fp : List Addr) (h : Heap) : List (Addr × Obj) := fp.filterMap fun b => (h.get? b).map fun o => (b, o)
theorem mem_pinsAt {fp : List Addr} {h : Heap} {b : Addr} {o : Obj} (hb : b ∈ fp) (e : h.get? b = some o) : (b, o) ∈ pinsAt fp h := List.mem_filterMap.mpr ⟨b, hb, by rw [e]; rfl⟩
theorem of_pinsAt {fp : List Addr} {h : Heap} {p : Addr × Obj} (hp : p ∈ pinsAt fp h) : p.1 ∈ fp ∧ h.get? p.1 = some p.2 := by
  obtain ⟨b, hb, e⟩ := List.mem_filterMap.mp hp
  cases q : h.get? b with
  | none => rw [q] at e; cases e
  | some o =>
    rw [q] at e
    have e' : (b, o) = p := Option.some.inj e
    subst e'
    exact ⟨hb, q⟩
theorem Inv.pinned {pins : List (Addr × Obj)} {σ : St} {H : Hp} {s : Shared} {fp : List Addr} (I : Inv X pins σ H s) (hf : ∀ b ∈ fp, FpOk X pins H b) (ho : ∀ b ∈ fp, ∃ o, s.heap.get? b = some o ∧ ∀ v, o.data ≠ .cell v) : Inv X (pins ++ pinsAt fp s.heap) σ H s :=
  I.pins_of fun p hp => (List.mem_append.mp hp).elim (fun z => I.pin p (List.mem_append_right _ z)) fun z => by
    obtain ⟨hb, e⟩ := of_pinsAt z
    obtain ⟨f0, f1, f2, _⟩ := hf p.1 hb
    obtain ⟨o, e', d⟩ := ho p.1 hb
    rw [e] at e'; cases e'
    exact ⟨e, f0, f1, f2, d⟩
theorem Inv.unpinned {pins pl : List (Addr × Obj)} {σ : St} {H : Hp} {s : Shared} (I : Inv X (pins ++ pl) σ H s) : Inv X pins σ H s := I.pins_of fun p hp => I.pin p (List.mem_append_right _ (List.mem_append_left _ hp))
theorem ps_for {iter : Expr} {body : List Stmt} {wi : TI} {g : TG} {tb : TS} {pos : Pos} (hp : PassesOwn (model X.prog X.w) X.A X.env X.xe) (hc : X.calm = true) (hi : PI X tg iter wi) (hg : PG X tg g) (hb : PSs X body tb)
    (hs : ∀ x, foldedSetIterable iter X.env x = pure x := by intro _; rfl) : PS X (.For tg iter body [] pos) (tFor wi g tb) := by
  intro pins s σ H D I h
  refine wpAny_For (thn (hi pins s σ H _ I h) fun v s1 h1 => thn h1 fun itv s2 h2 => ?_) hs
  obtain ⟨it, fp, tn, J, H2, e, I2, T, st2, f2, W, ⟨m0, w0⟩, turn⟩ := h2
  subst e
  -- what stays true of the iterator's objects through the loop
  have stat : ∀ {H' : Hp}, (∀ b ∈ fp, H' b = none) → ∀ b ∈ fp, FpOk X pins H' b := fun hn b hb => ⟨hn b hb, (f2 b hb).2⟩
  refine codeAny_forLoop_any (fun n s' => ∃ i σ' H', Inv X pins σ' H' s' ∧ tn i s'.heap ∧ (∀ b ∈ fp, H' b = none) ∧ W i n σ' H') ?_ m0 ⟨0, σ, H2, I2, st2, fun b hb => (f2 b hb).1, w0⟩
  rintro n s3 ⟨i, σ3, H3, I3, st3, fr3, w3⟩
  rcases turn i n σ3 H3 w3 with ⟨stop, qn⟩ | ⟨go, N, hN, step⟩
  · refine wpAny_passesOwn hp (thn (T.done X rfl rfl rfl hc i pins s3 σ3 H3 X.xe I3 (stat fr3) st3 stop) fun r s4 ⟨hr, I4⟩ => ?_)
    subst hr
    exact wpAny_execs_nil ⟨σ3, H3, I4, qn⟩
  · refine wpAny_passesOwn hp (thn (T.item X rfl rfl rfl hc i pins s3 σ3 H3 X.xe I3 (stat fr3) st3 go) fun r s4 ⟨u, hr, h4⟩ => ?_)
    subst hr
    refine wpAny_passesOwn hp (thn h4 fun _ s5 ⟨x, H5, I5, r5, y5, st5, fr5⟩ => ?_)
    have I5' := I5.pinned (stat fr5) (T.obj _ _ st5)
    refine wpAny_passesOwn hp (thn (hg _ s5 σ3 H5 x u _ I5' r5 (step x H5 y5)) fun _ s6 ⟨σ6, H6, I6, q6⟩ => ?_)
    refine wpAny_passesOwn hp (thn (hb _ s6 σ6 H6 _ I6 q6) fun f s7 q7 => ?_)
    have again : ∀ {σ7 : St} {H7 : Hp}, Inv X (pins ++ pinsAt fp s5.heap) σ7 H7 s7 → N σ7 H7 → ∃ m, m < n ∧ ∃ i σ' H', Inv X pins σ' H' s7 ∧ tn i s7.heap ∧ (∀ b ∈ fp, H' b = none) ∧ W i m σ' H' := fun {σ7 H7} I7 n7 => by
      obtain ⟨m', hm, w7⟩ := hN σ7 H7 n7
      refine ⟨m', hm, i + 1, σ7, H7, I7.unpinned, T.keep _ _ _ st5 fun b hb o e => (I7.pin (b, o) (List.mem_append_right _ (List.mem_append_right _ (mem_pinsAt hb e)))).1, fun b hb => ?_, w7⟩
      obtain ⟨o, e, d⟩ := T.obj _ _ st5 b hb
      exact (I7.pin (b, o) (List.mem_append_right _ (List.mem_append_right _ (mem_pinsAt hb e)))).2.1
    cases f with
    | next => obtain ⟨σ7, H7, I7, n7⟩ := q7; exact again I7 n7
    | cont => obtain ⟨σ7, H7, I7, n7⟩ := q7; exact again I7 n7
    | brk => obtain ⟨σ7, H7, I7, q7⟩ := q7; exact ⟨σ7, H7, I7.unpinned, q7⟩
    | ret v => obtain ⟨x7, σ7, H7, I7, r7, q7⟩ := q7; exact ⟨x7, σ7, H7, I7.unpinned, r7, q7⟩
end

/-! ### the forms one uses -/
/-- over a list that the body leaves as it is -/
theorem for_list {K : PySem.W.Frag} {a : Addr} {xs : List V} {g : TG} {tb : TS} {D : Ends} {σ : St} {H : Hp} (Pv : Nat → St → Hp → Prop) (h0 : Pv 0 σ H) (hl : ∀ i σ H, i ≤ xs.length → Pv i σ H → SqL K H a xs)
    (hs : ∀ i x σ H, xs[i]? = some x → Pv i σ H → g x σ H fun σ2 H2 => tb { D with nx := Pv (i + 1), ct := Pv (i + 1), bk := D.nx } σ2 H2) (hd : ∀ σ H, Pv xs.length σ H → D.nx σ H) :
    ∃ W : Nat → Nat → St → Hp → Prop, (∃ m, W 0 m σ H) ∧ ∀ i m σ H, W i m σ H →
      ((Itl K a).stop i H ∧ D.nx σ H) ∨ ((Itl K a).go i H ∧ ∃ N : St → Hp → Prop, (∀ σ' H', N σ' H' → ∃ m', m' < m ∧ W (i + 1) m' σ' H') ∧ ∀ x H', (Itl K a).yld i H x H' → g x σ H' fun σ2 H2 => tb { D with nx := N, ct := N, bk := D.nx } σ2 H2) := by
  refine ⟨fun i m σ H => m = xs.length - i ∧ i ≤ xs.length ∧ Pv i σ H, ⟨xs.length, by simp, Nat.zero_le _, h0⟩, ?_⟩
  rintro i m σ H ⟨rfl, hi, p⟩
  have q := hl i σ H hi p
  by_cases hlt : i < xs.length
  · refine .inr ⟨⟨xs, xs[i], q, by simp [hlt]⟩, Pv (i + 1), fun σ' H' p' => ⟨xs.length - (i + 1), by omega, rfl, hlt, p'⟩, fun x H' y => ?_⟩
    obtain ⟨e, y⟩ := y
    subst e
    exact hs i x σ _ (y xs q) p
  · have e : i = xs.length := by omega
    subst e
    exact .inl ⟨⟨xs, q, Nat.le_refl _⟩, hd σ H p⟩
theorem for_range {lo : Int} {n : Nat} {g : TG} {tb : TS} {D : Ends} {σ : St} {H : Hp} (Pv : Nat → St → Hp → Prop) (h0 : Pv 0 σ H)
    (hs : ∀ i σ H, i < n → Pv i σ H → g (.int (lo + i)) σ H fun σ2 H2 => tb { D with nx := Pv (i + 1), ct := Pv (i + 1), bk := D.nx } σ2 H2) (hd : ∀ σ H, Pv n σ H → D.nx σ H) :
    ∃ W : Nat → Nat → St → Hp → Prop, (∃ m, W 0 m σ H) ∧ ∀ i m σ H, W i m σ H →
      ((Itr lo n).stop i H ∧ D.nx σ H) ∨ ((Itr lo n).go i H ∧ ∃ N : St → Hp → Prop, (∀ σ' H', N σ' H' → ∃ m', m' < m ∧ W (i + 1) m' σ' H') ∧ ∀ x H', (Itr lo n).yld i H x H' → g x σ H' fun σ2 H2 => tb { D with nx := N, ct := N, bk := D.nx } σ2 H2) := by
  refine ⟨fun i m σ H => m = n - i ∧ i ≤ n ∧ Pv i σ H, ⟨n, by simp, Nat.zero_le _, h0⟩, ?_⟩
  rintro i m σ H ⟨rfl, hi, p⟩
  by_cases hlt : i < n
  · refine .inr ⟨hlt, Pv (i + 1), fun σ' H' p' => ⟨n - (i + 1), by omega, rfl, hlt, p'⟩, fun x H' y => ?_⟩
    obtain ⟨e, y⟩ := y
    subst e y
    exact hs i σ _ hlt p
  · have e : i = n := by omega
    subst e
    exact .inl ⟨Nat.le_refl _, hd σ H p⟩
end L2

namespace L2
open PySem PySem.Spec PyProof.Rows

abbrev R2 := V → V → Hp → VK → Prop
/-- a two-place operation on values: f is binaryOp op, inplaceOp op or compareOp op -/
def OpR (X : Cx) (f : Value → Value → Sem Value) (r : R2) : Prop :=
  ∀ (pins : List (Addr × Obj)) (s : Shared) (σ : St) (H : Hp) (x y : V) (v u : Value) (Q : VK), Inv X pins σ H s → RelV x v → RelV y u → r x y H Q →
    wpAny (model X.prog X.w) X.A (f v u) (EP X pins σ Q) X.xe s
/-- a one-place operation -/
def UnR (X : Cx) (f : Value → Sem Value) (r : V → Hp → VK → Prop) : Prop :=
  ∀ (pins : List (Addr × Obj)) (s : Shared) (σ : St) (H : Hp) (x : V) (v : Value) (Q : VK), Inv X pins σ H s → RelV x v → r x H Q →
    wpAny (model X.prog X.w) X.A (f v) (EP X pins σ Q) X.xe s
/-- a call of a value that is known (a builtin, a type) with values -/
def CallR (X : Cx) (f : Value) (r : List V → Hp → VK → Prop) : Prop :=
  ∀ (pins : List (Addr × Obj)) (s : Shared) (σ : St) (H : Hp) (xs : List V) (us : List Value) (Q : VK), Inv X pins σ H s → Vals xs us → r xs H Q →
    wpAny (model X.prog X.w) X.A (call f us) (EP X pins σ Q) X.xe s
/-- a value's truth -/
def TruR (X : Cx) (r : V → Hp → (Bool → Hp → Prop) → Prop) : Prop :=
  ∀ (pins : List (Addr × Obj)) (s : Shared) (σ : St) (H : Hp) (x : V) (v : Value) (Q : Bool → Hp → Prop), Inv X pins σ H s → RelV x v → r x H Q →
    wpAny (model X.prog X.w) X.A (truthy v) (TP X pins σ Q) X.xe s

def tOp (r : R2) (ta tb : TE) : TE := fun σ H Q => ta σ H fun x H1 => tb σ H1 fun y H2 => r x y H2 Q
def tUn (r : V → Hp → VK → Prop) (ta : TE) : TE := fun σ H Q => ta σ H fun x H1 => r x H1 Q
/-- ints in, under C, and a value out -/
def rI (C : Int → Int → Prop) (g : Int → Int → V) : R2 := fun x y H Q => ∃ i j, x = .int i ∧ y = .int j ∧ C i j ∧ Q (g i j) H
def rI0 (g : Int → Int → V) : R2 := fun x y H Q => ∃ i j, x = .int i ∧ y = .int j ∧ Q (g i j) H
def rU (g : Int → V) : V → Hp → VK → Prop := fun x H Q => ∃ i, x = .int i ∧ Q (g i) H

section
variable {X : Cx} {a b c : Expr} {ta tb tc : TE} {pos : Pos}

theorem binT (ha : PE X a ta) (hb : PE X b tb) {pins : List (Addr × Obj)} {s : Shared} {σ : St} {H : Hp} {R : V → V → Hp → Prop} (I : Inv X pins σ H s)
    (h : ta σ H fun x H1 => tb σ H1 fun y H2 => R x y H2) {Q : Value → Shared → Prop} {f : Value → Value → Sem Value}
    (hf : ∀ v u s2 x y H2, Inv X pins σ H2 s2 → RelV x v → RelV y u → R x y H2 → wpAny (model X.prog X.w) X.A (f v u) Q X.xe s2) :
    wpAny (model X.prog X.w) X.A (eval a X.env) (fun v s₁ => wpAny (model X.prog X.w) X.A (eval b X.env) (fun u s₂ => wpAny (model X.prog X.w) X.A (f v u) Q X.xe s₂) X.xe s₁) X.xe s := by
  refine thn (ha pins s σ H _ I h) fun v s1 ⟨x, H1, I1, r1, q1⟩ => ?_
  refine thn (hb pins s1 σ H1 _ I1 q1) fun u s2 ⟨y, H2, I2, r2, q2⟩ => ?_
  exact hf v u s2 x y H2 I2 r1 r2 q2

theorem pe_op {op : Operator} {r : R2} (ho : OpR X (binaryOp op) r) (ha : PE X a ta) (hb : PE X b tb) : PE X (.BinOp a op b pos) (tOp r ta tb) := by
  intro pins s σ H Q I h
  exact wpAny_BinOp (binT ha hb I h fun v u s2 x y H2 I2 rx ry q => ho pins s2 σ H2 x y v u Q I2 rx ry q)
theorem pe_un {op : UnaryOp} {r : V → Hp → VK → Prop} (ho : UnR X (unaryOp op) r) (ha : PE X a ta) : PE X (.UnaryOp op a pos) (tUn r ta) := by
  intro pins s σ H Q I h
  exact UnaryOp_ (thn (ha pins s σ H _ I h) fun v s1 ⟨x, H1, I1, r1, q1⟩ => ho pins s1 σ H1 x v Q I1 r1 q1)
/-! ### ints -/
theorem opI {f : Value → Value → Sem Value} {C : Int → Int → Prop} {g : Int → Int → Int}
    (rule : ∀ (i j : Int) (t u : Tok) (s : Shared) (Q : Value → Shared → Prop) (E : Value → Shared → Prop), C i j → Q (.int (g i j) s.toks) { s with toks := s.toks + 1 } → wpAny (model X.prog X.w) X.A (f (.int i t) (.int j u)) Q E s) :
    OpR X f (rI C fun i j => .int (g i j)) := by
  intro pins s σ H x y v u Q I rx ry h
  obtain ⟨i, j, rfl, rfl, hc, q⟩ := h
  obtain ⟨t, rfl⟩ := rx
  obtain ⟨t', rfl⟩ := ry
  exact rule i j t t' s _ _ hc ⟨.int (g i j), H, I.tok _, ⟨_, rfl⟩, q⟩
theorem opI0 {f : Value → Value → Sem Value} {g : Int → Int → Int}
    (rule : ∀ (i j : Int) (t u : Tok) (s : Shared) (Q : Value → Shared → Prop) (E : Value → Shared → Prop), Q (.int (g i j) s.toks) { s with toks := s.toks + 1 } → wpAny (model X.prog X.w) X.A (f (.int i t) (.int j u)) Q E s) :
    OpR X f (rI0 fun i j => .int (g i j)) := by
  intro pins s σ H x y v u Q I rx ry h
  obtain ⟨i, j, rfl, rfl, q⟩ := h
  obtain ⟨t, rfl⟩ := rx
  obtain ⟨t', rfl⟩ := ry
  exact rule i j t t' s _ _ ⟨.int (g i j), H, I.tok _, ⟨_, rfl⟩, q⟩
theorem opB0 {f : Value → Value → Sem Value} {g : Int → Int → Bool}
    (rule : ∀ (i j : Int) (t u : Tok) (s : Shared) (Q : Value → Shared → Prop) (E : Value → Shared → Prop), Q (.bool (g i j)) s → wpAny (model X.prog X.w) X.A (f (.int i t) (.int j u)) Q E s) :
    OpR X f (rI0 fun i j => .bl (g i j)) := by
  intro pins s σ H x y v u Q I rx ry h
  obtain ⟨i, j, rfl, rfl, q⟩ := h
  obtain ⟨t, rfl⟩ := rx
  obtain ⟨t', rfl⟩ := ry
  exact rule i j t t' s _ _ ⟨.bl (g i j), H, I, rfl, q⟩

def CDiv (i j : Int) : Prop := 0 < j ∧ j < 1073741824
def CDivN (i j : Int) : Prop := j ≠ 0 ∧ j.natAbs < 1073741824
def CPow (i j : Int) : Prop := 0 ≤ j ∧ j ≤ 1000000 ∧ i.natAbs < 2 ^ 64
def CMul (i j : Int) : Prop := (-(2 ^ 64) < i ∧ i < 2 ^ 64) ∨ (-(2 ^ 64) < j ∧ j < 2 ^ 64)
theorem CMul.ok {i j : Int} (h : CMul i j) : IntMulOk i j := by
  rcases h with ⟨h1, h2⟩ | ⟨h1, h2⟩
  · exact .of_left (intBits_le_64 h1 h2)
  · exact .of_right (intBits_le_64 h1 h2)
theorem two_pow_nn (k : Nat) : (0 : Int) ≤ 2 ^ k := by
  rw [two_pow_cast]
  exact Int.natCast_nonneg _

theorem op_add : OpR X (binaryOp .Add) (rI0 fun i j => .int (i + j)) := opI0 fun _ _ _ _ _ _ _ q => add_int q
theorem op_sub : OpR X (binaryOp .Sub) (rI0 fun i j => .int (i - j)) := opI0 fun _ _ _ _ _ _ _ q => sub_int q
theorem op_mul : OpR X (binaryOp .Mult) (rI CMul fun i j => .int (i * j)) := opI fun _ _ _ _ _ _ _ hc q => mul_int q hc.ok
/-- // by a positive divisor -/
theorem op_fdiv : OpR X (binaryOp .FloorDiv) (rI CDiv fun i j => .int (i / j)) := opI fun i j _ _ _ _ _ hc q => by
  have h1 : (0 : Int) < j := hc.1
  have h2 : j < 1073741824 := hc.2
  exact floordiv_int (by omega) (by rw [Int.fdiv_eq_ediv_of_nonneg i (by omega)]; exact q) (.inl (PyProof.noPylong_small (by omega)))
theorem op_shr : OpR X (binaryOp .RShift) (rI (fun _ j => 0 ≤ j) fun i j => .int (i / 2 ^ j.toNat)) := opI fun i j _ _ _ _ _ hc q =>
  rshift_int hc (by rw [Int.fdiv_eq_ediv_of_nonneg i (two_pow_nn _)]; exact q)
theorem op_and : OpR X (binaryOp .BitAnd) (rI0 fun i j => .int (Builtin.bitAnd i j)) := opI0 fun _ _ _ _ _ _ _ q => and_int q
theorem op_xor : OpR X (binaryOp .BitXor) (rI0 fun i j => .int (Builtin.bitXor i j)) := opI0 fun _ _ _ _ _ _ _ q => xor_int q

theorem unI {f : Value → Sem Value} {g : Int → Int}
    (rule : ∀ (i : Int) (t : Tok) (s : Shared) (Q : Value → Shared → Prop) (E : Value → Shared → Prop), Q (.int (g i) s.toks) { s with toks := s.toks + 1 } → wpAny (model X.prog X.w) X.A (f (.int i t)) Q E s) :
    UnR X f (rU fun i => .int (g i)) := by
  intro pins s σ H x v Q I rx h
  obtain ⟨i, rfl, q⟩ := h
  obtain ⟨t, rfl⟩ := rx
  exact rule i t s _ _ ⟨.int (g i), H, I.tok _, ⟨_, rfl⟩, q⟩
theorem un_neg : UnR X (unaryOp .USub) (rU fun i => .int (-i)) := unI fun _ _ _ _ _ q => neg_int q
/-! ### bools among ints: n += (a < b) -/
end

/-! ### comparisons -/
/-- the scalars that == tells apart as data does -/
def scal : V → V → Bool
  | .non, .non => true | .non, .int _ => true | .int _, .non => true | .non, .bl _ => true | .bl _, .non => true | .non, .str _ => true | .str _, .non => true
  | .int _, .int _ => true | .bl _, .bl _ => true | .str _, .str _ => true | .byt _, .byt _ => true
  | .int _, .str _ => true | .str _, .int _ => true | .bl _, .str _ => true | .str _, .bl _ => true
  | _, _ => false
def rEq : R2 := fun x y H Q => scal x y = true ∧ Q (.bl (decide (x = y))) H
def rNe : R2 := fun x y H Q => scal x y = true ∧ Q (.bl (!decide (x = y))) H

theorem dec_int {i j : Int} : decide (V.int i = V.int j) = (i == j) := by
  rw [Bool.eq_iff_iff]
  simp
theorem dec_bl {i j : Bool} : decide (V.bl i = V.bl j) = (i == j) := by
  rw [Bool.eq_iff_iff]
  simp
theorem dec_str {i j : Str} : decide (V.str i = V.str j) = (i == j) := by
  rw [Bool.eq_iff_iff]
  simp
theorem dec_byt {i j : Array UInt8} : decide (V.byt i = V.byt j) = (i.toList == j.toList) := by
  rw [Bool.eq_iff_iff]
  cases i
  cases j
  simp

section
variable {X : Cx} {a b c : Expr} {ta tb tc : TE} {pos : Pos}
theorem fin_bl {pins : List (Addr × Obj)} {σ : St} {H : Hp} {s : Shared} {Q : VK} {k k' : Bool} (I : Inv X pins σ H s) (q : Q (.bl k) H) (e : k = k') : EP X pins σ Q (.bool k') s := by
  subst e
  exact ⟨.bl k, H, I, rfl, q⟩
theorem op_eq : OpR X (compareOp .Eq) rEq := by
  intro pins s σ H x y v u Q I rx ry h
  obtain ⟨hs, q⟩ := h
  cases x with
  | non =>
    cases rx
    cases y with
    | non => cases ry; exact PySem.EqNone.eq_none_none (fin_bl I q (by simp))
    | bl j => cases ry; exact PySem.EqNone.eq_none_bool (fin_bl I q (by simp))
    | int j => obtain ⟨t', rfl⟩ := ry; exact PySem.EqNone.eq_none_int (fin_bl I q (by simp))
    | str j => obtain ⟨t', rfl⟩ := ry; exact PySem.EqNone.eq_none_str (fin_bl I q (by simp))
    | _ => exact absurd (show false = true from hs) Bool.false_ne_true
  | bl i =>
    cases rx
    cases y with
    | non => cases ry; exact PySem.EqNone.eq_bool_none (fin_bl I q (by simp))
    | bl j => cases ry; exact eq_bool (fin_bl I q dec_bl)
    | str j => obtain ⟨t', rfl⟩ := ry; exact PySem.EqMixed.eq_bool_str (fin_bl I q (by simp))
    | _ => exact absurd (show false = true from hs) Bool.false_ne_true
  | int i =>
    obtain ⟨t, rfl⟩ := rx
    cases y with
    | non => cases ry; exact PySem.EqNone.eq_int_none (fin_bl I q (by simp))
    | int j => obtain ⟨t', rfl⟩ := ry; exact eq_int (fin_bl I q dec_int)
    | str j => obtain ⟨t', rfl⟩ := ry; exact PySem.EqMixed.eq_int_str (fin_bl I q (by simp))
    | _ => exact absurd (show false = true from hs) Bool.false_ne_true
  | str i =>
    obtain ⟨t, rfl⟩ := rx
    cases y with
    | non => cases ry; exact PySem.EqNone.eq_str_none (fin_bl I q (by simp))
    | bl j => cases ry; exact PySem.EqMixed.eq_str_bool (fin_bl I q (by simp))
    | int j => obtain ⟨t', rfl⟩ := ry; exact PySem.EqMixed.eq_str_int (fin_bl I q (by simp))
    | str j => obtain ⟨t', rfl⟩ := ry; exact eq_str (fin_bl I q dec_str)
    | _ => exact absurd (show false = true from hs) Bool.false_ne_true
  | byt i =>
    obtain ⟨t, rfl⟩ := rx
    cases y with
    | byt j => obtain ⟨t', rfl⟩ := ry; exact PySem.W.eq_bytes (fin_bl I q dec_byt)
    | _ => exact absurd (show false = true from hs) Bool.false_ne_true
  | _ => cases y <;> exact absurd (show false = true from hs) Bool.false_ne_true
theorem op_ne : OpR X (compareOp .NotEq) rNe := by
  intro pins s σ H x y v u Q I rx ry h
  obtain ⟨hs, q⟩ := h
  cases x with
  | non =>
    cases rx
    cases y with
    | non => cases ry; exact PySem.EqNone.ne_none_none (fin_bl I q (by simp))
    | bl j => cases ry; exact PySem.EqNone.ne_none_bool (fin_bl I q (by simp))
    | int j => obtain ⟨t', rfl⟩ := ry; exact PySem.EqNone.ne_none_int (fin_bl I q (by simp))
    | str j => obtain ⟨t', rfl⟩ := ry; exact PySem.EqNone.ne_none_str (fin_bl I q (by simp))
    | _ => exact absurd (show false = true from hs) Bool.false_ne_true
  | bl i =>
    cases rx
    cases y with
    | non => cases ry; exact PySem.EqNone.ne_bool_none (fin_bl I q (by simp))
    | bl j => cases ry; exact ne_bool (fin_bl I q (congrArg not dec_bl))
    | str j => obtain ⟨t', rfl⟩ := ry; exact PySem.EqMixed.ne_bool_str (fin_bl I q (by simp))
    | _ => exact absurd (show false = true from hs) Bool.false_ne_true
  | int i =>
    obtain ⟨t, rfl⟩ := rx
    cases y with
    | non => cases ry; exact PySem.EqNone.ne_int_none (fin_bl I q (by simp))
    | int j => obtain ⟨t', rfl⟩ := ry; exact ne_int (fin_bl I q (congrArg not dec_int))
    | str j => obtain ⟨t', rfl⟩ := ry; exact PySem.EqMixed.ne_int_str (fin_bl I q (by simp))
    | _ => exact absurd (show false = true from hs) Bool.false_ne_true
  | str i =>
    obtain ⟨t, rfl⟩ := rx
    cases y with
    | non => cases ry; exact PySem.EqNone.ne_str_none (fin_bl I q (by simp))
    | bl j => cases ry; exact PySem.EqMixed.ne_str_bool (fin_bl I q (by simp))
    | int j => obtain ⟨t', rfl⟩ := ry; exact PySem.EqMixed.ne_str_int (fin_bl I q (by simp))
    | str j => obtain ⟨t', rfl⟩ := ry; exact ne_str (fin_bl I q (congrArg not dec_str))
    | _ => exact absurd (show false = true from hs) Bool.false_ne_true
  | byt i =>
    obtain ⟨t, rfl⟩ := rx
    cases y with
    | byt j => obtain ⟨t', rfl⟩ := ry; exact PySem.W.ne_bytes (fin_bl I q (congrArg not dec_byt))
    | _ => exact absurd (show false = true from hs) Bool.false_ne_true
  | _ => cases y <;> exact absurd (show false = true from hs) Bool.false_ne_true

theorem op_lt : OpR X (compareOp .Lt) (rI0 fun i j => .bl (decide (i < j))) := opB0 fun _ _ _ _ _ _ _ q => lt_int q
theorem op_le : OpR X (compareOp .LtE) (rI0 fun i j => .bl (decide (i ≤ j))) := opB0 fun _ _ _ _ _ _ _ q => le_int q
theorem op_gt : OpR X (compareOp .Gt) (rI0 fun i j => .bl (decide (j < i))) := opB0 fun _ _ _ _ _ _ _ q => gt_int q
/-- is, is not of two objects that are tracked lists or instances -/
def isObj : HO → Bool
  | .lst _ => true
  | .ins _ _ _ => true
  | _ => false
theorem nomark (b : Expr) {op : CmpOp} (h : op ≠ .In := by decide) (h2 : op ≠ .NotIn := by decide) : behindInMarks op b = false := by
  have e1 : (op == CmpOp.In) = false := by cases op <;> first | rfl | exact absurd rfl h
  have e2 : (op == CmpOp.NotIn) = false := by cases op <;> first | rfl | exact absurd rfl h2
  cases b <;> simp [behindInMarks, e1, e2]
/-- a comparison as a value; hm: nomark b, or (for in, not in) by with_unfolding_all rfl -/
theorem pe_cmpR {op : CmpOp} {r : R2} (ho : OpR X (compareOp op) r) (ha : PE X a ta) (hb : PE X b tb) (hm : behindInMarks op b = false) : PE X (.Compare a [op] [b] pos) (tOp r ta tb) := by
  intro pins s σ H Q I h
  exact wpAny_Compare1 (binT ha hb I h fun v u s2 x y H2 I2 rx ry q => ho pins s2 σ H2 x y v u Q I2 rx ry q) hm
/-- a reading of a value as a test -/
def tTest (t : TE) : TT := fun σ H Q => t σ H fun x H' => ∃ k, x = .bl k ∧ Q k H'
theorem pt_cmpR {op : CmpOp} {r : R2} (ho : OpR X (compareOp op) r) (ha : PE X a ta) (hb : PE X b tb) (hm : behindInMarks op b = false) : PT X (.Compare a [op] [b] pos) (tTest (tOp r ta tb)) := by
  intro pins s σ H Q I h
  refine wpAny_isTrue_Compare1 (thn (ha pins s σ H _ I h) fun v s1 ⟨x, H1, I1, r1, q1⟩ => thn (hb pins s1 σ H1 _ I1 q1) fun u s2 ⟨y, H2, I2, r2, q2⟩ =>
    thn (ho pins s2 σ H2 x y v u _ I2 r1 r2 q2) fun c s3 ⟨z, H3, I3, r3, k, e, q3⟩ => ?_) hm
  subst e
  cases r3
  exact wpAny_truthy_bool ⟨H3, I3, q3⟩
/-- a op1 b op2 c -/
def tChain (r r' : R2) (ta tb tc : TE) : TE := fun σ H Q => ta σ H fun x H1 => tb σ H1 fun y H2 => r x y H2 fun z H3 => ∃ k, z = .bl k ∧
  (if k = true then tc σ H3 fun w' H4 => r' y w' H4 Q else Q (.bl false) H3)
theorem pe_chain {op op' : CmpOp} {r r' : R2} (ho : OpR X (compareOp op) r) (ho' : OpR X (compareOp op') r') (ha : PE X a ta) (hb : PE X b tb) (hc : PE X c tc)
    (hm : lastMarks [op, op'] [b, c] = false := by with_unfolding_all rfl) : PE X (.Compare a [op, op'] [b, c] pos) (tChain r r' ta tb tc) := by
  intro pins s σ H Q I h
  refine Compare_chain (thn (ha pins s σ H _ I h) fun v s1 ⟨x, H1, I1, r1, q1⟩ => chain_link (thn (hb pins s1 σ H1 _ I1 q1) fun u s2 ⟨y, H2, I2, r2, q2⟩ =>
    thn (ho pins s2 σ H2 x y v u _ I2 r1 r2 q2) fun d s3 ⟨z, H3, I3, r3, k, e, q3⟩ => ?_)) hm
  subst e
  cases r3
  refine wpAny_truthy_bool ?_
  cases k with
  | false => exact ite_ff ⟨.bl false, H3, I3, rfl, q3⟩
  | true => exact ite_tt (chain_last (thn (hc pins s3 σ H3 _ I3 q3) fun w' s4 ⟨z', H4, I4, r4, q4⟩ => ho' pins s4 σ H4 y z' u w' Q I4 r2 r4 q4))
/-! ### truth -/
/-- a value's truth by the abstract heap -/
def TruV (K : PySem.W.Frag) (x : V) (H : Hp) (k : Bool) : Prop :=
  match x with
  | .non => k = false
  | .bl b => k = b
  | .int i => k = (i != 0)
  | .str y => y.length ≤ sizeLine ∧ k = ((y.length : Int) != 0)
  | .byt y => y.size ≤ sizeLine ∧ k = ((y.size : Int) != 0)
  | .ref p => (∃ xs, SqL K H p xs ∧ k = !xs.isEmpty) ∨ (∃ xs, SqT K H p xs ∧ k = !xs.isEmpty) ∨ ∃ kvs, H p = some (.dK kvs) ∧ k = !kvs.isEmpty
  | _ => False
theorem line63 : (sizeLine : Nat) < 2 ^ 63 := by rw [sizeLine_eq]; decide
/-! ### strs and bytes -/
def PlainIxT (b : Expr) : Prop := ∀ o i, subscripted b false o i = operate [o, i] (getItem o i)
/-! ### scalar builtins, by CallR -/
theorem vals1 {x : V} {us : List Value} (r : Vals [x] us) : ∃ u, us = [u] ∧ RelV x u := by
  cases r with
  | cons r1 r2 => cases r2; exact ⟨_, rfl, r1⟩
theorem vals2 {x y : V} {us : List Value} (r : Vals [x, y] us) : ∃ u w', us = [u, w'] ∧ RelV x u ∧ RelV y w' := by
  cases r with
  | cons r1 r2 =>
    cases r2 with
    | cons r3 r4 => cases r4; exact ⟨_, _, rfl, r1, r3⟩
theorem call_max2 (hc : X.calm = true) : CallR X (.builtin "max") (fun xs H Q => ∃ i j, xs = [.int i, .int j] ∧ Q (.int (if j > i then j else i)) H) := by
  intro pins s σ H xs us Q I r h
  obtain ⟨i, j, rfl, q⟩ := h
  obtain ⟨u, w', rfl, ⟨t, rfl⟩, ⟨t', rfl⟩⟩ := vals2 r
  refine max_two_ints (I.ok.hd hc) fun h' tk k => ⟨_, H, I.kept k, ?_, q⟩
  by_cases hj : j > i
  · rw [if_pos hj, if_pos hj]; exact ⟨_, rfl⟩
  · rw [if_neg hj, if_neg hj]; exact ⟨_, rfl⟩
theorem call_min2 (hc : X.calm = true) : CallR X (.builtin "min") (fun xs H Q => ∃ i j, xs = [.int i, .int j] ∧ Q (.int (if j < i then j else i)) H) := by
  intro pins s σ H xs us Q I r h
  obtain ⟨i, j, rfl, q⟩ := h
  obtain ⟨u, w', rfl, ⟨t, rfl⟩, ⟨t', rfl⟩⟩ := vals2 r
  refine min_two_ints (I.ok.hd hc) fun h' tk k => ⟨_, H, I.kept k, ?_, q⟩
  by_cases hj : j < i
  · rw [if_pos hj, if_pos hj]; exact ⟨_, rfl⟩
  · rw [if_neg hj, if_neg hj]; exact ⟨_, rfl⟩
/-- len of a str, a bytes, a list, a tuple -/
def LenV (K : PySem.W.Frag) (x : V) (H : Hp) (n : Nat) : Prop :=
  match x with
  | .str y => y.length ≤ sizeLine ∧ n = y.length
  | .byt y => y.size ≤ sizeLine ∧ n = y.size
  | .ref p => (∃ xs, SqL K H p xs ∧ n = xs.length) ∨ ∃ xs, SqT K H p xs ∧ n = xs.length
  | _ => False
end
end L2

namespace L2
open PySem PySem.Spec PyProof.Rows

/-! ### an instance, its attributes a map -/
structure ObjM (h : Heap) (x dx C : Addr) (mA : Str → Option Value) : Prop where
  obj : h.get? x = some (PySem.W.instObj C dx)
  ns : h.Ns1 dx mA
  ne : dx ≠ x

theorem lookIn_ns {h : Heap} {dx : Addr} {mA : Str → Option Value} (n : h.Ns1 dx mA) : ∃ od, h.get? dx = some od ∧ ∀ name, PySem.W.lookIn name od = some (mA name) := by
  obtain ⟨o, es, ep, ho, hd, hk, _, hm⟩ := n
  refine ⟨o, ho, fun name => ?_⟩
  have e := hm name
  unfold nsFind findBy at e
  rw [← Array.find?_toList] at e
  unfold PySem.W.lookIn
  rw [hd]
  dsimp only
  split
  · rename_i y q
    rw [q] at e
    exact congrArg some e
  · rename_i q
    rw [q] at e
    have a : es.toList.any (·.refKey) = false := by
      rw [List.any_eq_false]
      intro y hy
      obtain ⟨z, t, hkey⟩ := hk y (Array.mem_toList_iff.mp hy)
      simp [DictEntry.refKey, hkey]
    have a' : ¬ es.toList.any (·.refKey) = true := by rw [a]; exact Bool.false_ne_true
    rw [if_neg a']
    exact congrArg some e

theorem ObjM.look {h : Heap} {x dx C : Addr} {mA : Str → Option Value} (I : ObjM h x dx C mA) : ∃ od, PySem.W.InstAt h x (PySem.W.instObj C dx) C (some od) ∧ ∀ name, PySem.W.lookIn name od = some (mA name) :=
  let ⟨od, ho, hl⟩ := lookIn_ns I.ns
  ⟨od, ⟨I.obj, rfl, rfl, ho⟩, hl⟩

section
variable {prog : Program} {w : World} {A : Around} {E : Value → Shared → Prop} {s : Shared} {K : PySem.W.Frag} {x dx C f : Addr} {mA : Str → Option Value} {name : Str} {v : Value}

theorem get_map {expr : Bool} {Q : Value → Shared → Prop} (X : K.In s.heap) (I : ObjM s.heap x dx C mA) (hg : PySem.W.plainGet K C name = true) (hh : PySem.W.hasDictIn K C = true)
    (ha : PySem.W.findIn K (.ref C) name = some none) (hv : mA name = some v) (hv' : PySem.W.handedIn v = true) (h : Q v { s with toks := s.toks + 1 }) :
    wpAny (model prog w) A (getAttr (.ref x) name expr) Q E s := by
  obtain ⟨od, J, hl⟩ := I.look
  exact PySem.W.get_value X J (PySem.W.plainGet_of hg).1 (PySem.W.findObj_own hh ha rfl (by rw [hl, hv])) hv' h

theorem get_meth {pl : Sem Bool} {Q : Value × List Value → Shared → Prop} (X : K.In s.heap) (I : ObjM s.heap x dx C mA) (hg : PySem.W.plainGet K C name = true)
    (hf : PySem.W.findIn K (.ref C) name = some (some (.ref f))) (ht : PySem.W.isFn K (.ref f) = true) (hv : mA name = none) (h : Q (.ref f, [.ref x]) s) :
    wpAny (model prog w) A (getMethod (.ref x) name pl) Q E s := by
  obtain ⟨od, J, hl⟩ := I.look
  exact PySem.W.method_fn X J (PySem.W.plainGet_of hg).1 (PySem.W.plainGet_of hg).2 hf (beq_iff_eq.mp ht) (by show (PySem.W.lookIn name od).map (·.isSome) = some false; rw [hl, hv]; rfl) h

theorem set_map {ns : List Str} {Q : Unit → Shared → Prop} (X : K.In s.heap) (I : ObjM s.heap x dx C mA)
    (hs : PySem.W.findIn K (.ref C) "__setattr__" = some (some (.builtin "object.__setattr__"))) (hp : PySem.W.plainOver K C = true) (ht : PySem.W.takerIn K C name = some none) (hh : PySem.W.hasDictIn K C = true)
    (hw : PySem.Within mA ns) (hsz : ns.length ≤ sizeLine)
    (h : ∀ h', ObjM h' x dx C (fun y => if y = name then some v else mA y) → Heap.SameBut dx s.heap h' → Q () { s with heap := h', toks := s.toks + 2 }) :
    wpAny (model prog w) A (setAttr (.ref x) name v) Q E s := by
  obtain ⟨od, J, hl⟩ := I.look
  refine PySem.W.set_plain X J hs (PySem.W.osa_open (s := { s with toks := s.toks + 1 }) (r := none) X J hp ht fun b => ?_)
  obtain ⟨cd, hc, hd'⟩ := PySem.W.any_some hh
  have hx : s.heap.get? x = some ⟨.ref C, some dx, .plain, #[]⟩ := I.obj
  refine wpAny_bind (wpAny_pure (wpAny_bind (wpAny_bind (wpAny_loadPart hx (wpAny_bind (PySem.W.Looks.here (s := { s with toks := s.toks + 1 }) (PySem.W.looks_clsIn X hc) ?_))))))
  rw [hd']
  refine wpAny_pure (a := some dx) (wpAny_bind (wpAny_pure (wpAny_bind ?_)))
  refine wpAny_nsSet1 (s := { s with toks := s.toks + 1 }) I.ns fun h' hn2 hs2 => ?_
  obtain ⟨oD, esD, epD, hoD, hdD, hcD⟩ := hn2.count (PySem.Within.cons name v hw)
  refine wpAny_bind (wpAny_lookBehind hoD (by rw [hdD]; exact pastItsLine_dict (Nat.le_trans hcD (by rw [List.length_cons]; omega))) ?_)
  exact wpAny_pure (h _ ⟨(hs2.2 _ (Ne.symm I.ne)).trans I.obj, hn2, I.ne⟩ hs2)

/-- C(..): the dict at the heap's end, the instance behind it; then its __init__ -/
theorem make_map {R : Result → Shared → Prop} {vs : List Value} {kw : List (Str × Value)} (X : K.In s.heap) (hm : PySem.W.makesIn K C = true)
    (hi : PySem.W.findIn K (.ref C) "__init__" = some (some (.ref f))) (hf : PySem.W.typeIn K (.ref f) = some (.type "function"))
    (h : codeAny (model prog w) (A.under (.builtin "type.__call__" ⟨.ref C :: vs, kw⟩)) (.call (.ref f) ⟨.ref (s.heap.objs.size + 1) :: vs, kw⟩) (PySem.W.InitBack (s.heap.objs.size + 1) R)
      { s with heap := (s.heap.push PySem.W.emptyDict).push (PySem.W.instObj C s.heap.objs.size) }) :
    codeAny (model prog w) A (.call (.ref C) ⟨vs, kw⟩) R s := by
  obtain ⟨hh, g, d, t, os⟩ := s
  exact PySem.W.make_core (PySem.W.makes_of X hm) (PySem.W.looks_findIn X hi) (fun self => PySem.W.bind_fn X self hf) (.inl rfl) h
end

/-! ### the attributes as a list of pairs -/
def putF (f : Str) (v : V) : List (Str × V) → List (Str × V)
  | [] => [(f, v)]
  | (g, x) :: r => if g = f then (g, v) :: r else (g, x) :: putF f v r
theorem lookup_putF (f g : Str) (v : V) : ∀ fs : List (Str × V), (putF f v fs).lookup g = if g = f then some v else fs.lookup g
  | [] => by
    show List.lookup g [(f, v)] = _
    by_cases h : g = f
    · have hb : (g == f) = true := beq_iff_eq.mpr h
      simp only [List.lookup, hb, if_pos h]
    · have hb : (g == f) = false := beq_eq_false_iff_ne.mpr h
      simp only [List.lookup, hb, if_neg h]
  | (k, x) :: r => by
    have ih := lookup_putF f g v r
    rw [show putF f v ((k, x) :: r) = (if k = f then (k, v) :: r else (k, x) :: putF f v r) from rfl]
    by_cases hk : k = f
    · rw [if_pos hk]
      by_cases h : g = k
      · have hb : (g == k) = true := beq_iff_eq.mpr h
        simp only [List.lookup, hb, if_pos (h.trans hk)]
      · have hb : (g == k) = false := beq_eq_false_iff_ne.mpr h
        simp only [List.lookup, hb, if_neg (fun e : g = f => h (e.trans hk.symm))]
    · rw [if_neg hk]
      by_cases h : g = k
      · have hb : (g == k) = true := beq_iff_eq.mpr h
        simp only [List.lookup, hb, if_neg (fun e : g = f => hk (h.symm.trans e))]
      · have hb : (g == k) = false := beq_eq_false_iff_ne.mpr h
        simp only [List.lookup, hb]
        exact ih
theorem keys_putF (f : Str) (v : V) : ∀ fs : List (Str × V), f ∈ (putF f v fs).map (·.1) ∧ ∀ g, g ∈ fs.map (·.1) → g ∈ (putF f v fs).map (·.1)
  | [] => ⟨by simp [putF], fun g h => by simp at h⟩
  | (k, x) :: r => by
    obtain ⟨i1, i2⟩ := keys_putF f v r
    rw [show putF f v ((k, x) :: r) = (if k = f then (k, v) :: r else (k, x) :: putF f v r) from rfl]
    by_cases hk : k = f
    · rw [if_pos hk]
      subst hk
      exact ⟨by simp, fun g h => by simpa using h⟩
    · rw [if_neg hk]
      refine ⟨?_, fun g h => ?_⟩
      · rw [List.map_cons]
        exact List.mem_cons_of_mem _ i1
      · rw [List.map_cons] at h ⊢
        rcases List.mem_cons.mp h with e | e
        · exact List.mem_cons.mpr (.inl e)
        · exact List.mem_cons_of_mem _ (i2 g e)
theorem length_putF (f : Str) (v : V) : ∀ fs : List (Str × V), (putF f v fs).length ≤ fs.length + 1
  | [] => by simp [putF]
  | (k, x) :: r => by
    have ih := length_putF f v r
    rw [show putF f v ((k, x) :: r) = (if k = f then (k, v) :: r else (k, x) :: putF f v r) from rfl]
    by_cases hk : k = f
    · rw [if_pos hk, List.length_cons, List.length_cons]; omega
    · rw [if_neg hk, List.length_cons, List.length_cons]; omega

theorem RelO.some_of {v : V} {o : Option Value} (r : RelO (some v) o) : ∃ u, o = some u ∧ RelV v u := by
  cases o with
  | none => exact (show False from r).elim
  | some u => exact ⟨u, rfl, r⟩
theorem RelO.none_of {o : Option Value} (r : RelO none o) : o = none := by
  cases o with
  | none => rfl
  | some u => exact (show False from r).elim
theorem handed_of {v : V} {u : Value} (r : RelV v u) : PySem.W.handedIn u = true := by
  cases v with
  | non => cases (show u = Value.none from r); rfl
  | bl b => cases (show u = Value.bool b from r); rfl
  | int i => obtain ⟨t, e⟩ := (show ∃ t, u = Value.int i t from r); cases e; rfl
  | str x => obtain ⟨t, e⟩ := (show ∃ t, u = Value.str x t from r); cases e; rfl
  | byt b => obtain ⟨t, e⟩ := (show ∃ t, u = Value.bytes b t from r); cases e; rfl
  | flt b => obtain ⟨t, e⟩ := (show ∃ t, u = Value.float b t from r); cases e; rfl
  | ref a => cases (show u = Value.ref a from r); rfl
  | ty n => cases (show u = Value.type n from r); rfl

section
variable {P : Program} {w : World} {H H' : Hp} {h h' : Heap} {a C dx : Addr} {fs fs' : List (Str × V)}
theorem ins_get (hok : HOk P w H h) (e : H a = some (.ins C dx fs)) : ∃ mA, ObjM h a dx C mA ∧ (∀ f, RelO (fs.lookup f) (mA f)) ∧ PySem.Within mA (fs.map (·.1)) ∧ fs.length ≤ 1000 ∧ H dx = some (.own a) := by
  obtain ⟨d, z, ne, ob, mA, n, r, q⟩ := (show ObjOk P w H h a (.ins C dx fs) from hok a _ e)
  exact ⟨mA, ⟨ob, n, ne⟩, r, q, z, d⟩
end

/-! ### what of the text a class must have -/
structure Cls (K : PySem.W.Frag) (C : Addr) : Prop where
  pg : PySem.W.plainGet K C Str.empty = true
  hd : PySem.W.hasDictIn K C = true
  po : PySem.W.plainOver K C = true
  sa : PySem.W.findIn K (.ref C) "__setattr__" = some (some (.builtin "object.__setattr__"))
theorem Cls.get {K : PySem.W.Frag} {C : Addr} (c : Cls K C) (f : Str) : PySem.W.plainGet K C f = true := c.pg
/-- no class of it has the name -/
def NoAttr (K : PySem.W.Frag) (C : Addr) (f : Str) : Prop := PySem.W.findIn K (.ref C) f = some none
theorem NoAttr.taker {K : PySem.W.Frag} {C : Addr} {f : Str} (n : NoAttr K C f) : PySem.W.takerIn K C f = some none := by
  unfold PySem.W.takerIn
  rw [show PySem.W.findIn K (.ref C) f = some none from n]
  rfl
/-- a constant of the class -/
structure Con (K : PySem.W.Frag) (C : Addr) (f : Str) (v : V) (u : Value) : Prop where
  at_ : PySem.W.findIn K (.ref C) f = some (some u)
  rel : RelV v u
  get : PySem.W.specialIn K u "__get__" = some none
  cp : PySem.W.copiedNames.contains f = false
/-- a method: a plain def of the class or of one above it -/
structure Meth (K : PySem.W.Frag) (C : Addr) (m : Str) (f : Addr) : Prop where
  at_ : PySem.W.findIn K (.ref C) m = some (some (.ref f))
  fn : PySem.W.isFn K (.ref f) = true
  kp : PySem.W.keepIn K (.ref f) = true

section
variable {X : Cx} {pins : List (Addr × Obj)} {σ : St} {H : Hp} {s : Shared} {a C dx : Addr} {fs : List (Str × V)} {f : Str} {v : V} {A : Around} {E : Value → Shared → Prop}

theorem getattr_ok {b : Bool} {Q : Value → Shared → Prop} (I : Inv X pins σ H s) (e : H a = some (.ins C dx fs)) (c : Cls X.K C) (n : NoAttr X.K C f) (l : fs.lookup f = some v)
    (h : ∀ u s', Inv X pins σ H s' → RelV v u → Q u s') : wpAny (model X.prog X.w) A (getAttr (.ref a) f b) Q E s := by
  obtain ⟨mA, O, r, _, _, _⟩ := ins_get I.hok e
  obtain ⟨u, hu, ru⟩ := RelO.some_of (v := v) (o := mA f) (by rw [← l]; exact r f)
  exact get_map I.kIn O (c.get f) c.hd n hu (handed_of ru) (h u _ (I.tok _) ru)

theorem getmeth_ok {m : Str} {g : Addr} {pl : Sem Bool} {Q : Value × List Value → Shared → Prop} (I : Inv X pins σ H s) (e : H a = some (.ins C dx fs)) (c : Cls X.K C) (k : Meth X.K C m g) (l : fs.lookup m = none)
    (h : Q (.ref g, [.ref a]) s) : wpAny (model X.prog X.w) A (getMethod (.ref a) m pl) Q E s := by
  obtain ⟨mA, O, r, _, _, _⟩ := ins_get I.hok e
  have hn : mA m = none := RelO.none_of (by rw [← l]; exact r m)
  exact get_meth I.kIn O (c.get m) k.at_ k.fn hn h

theorem setattr_ok {y : V} {u : Value} {Q : Unit → Shared → Prop} (I : Inv X pins σ H s) (e : H a = some (.ins C dx fs)) (c : Cls X.K C) (n : NoAttr X.K C f) (hl : fs.length < 1000) (ry : RelV y u)
    (h : ∀ s', Inv X pins σ (upd H a (.ins C dx (putF f y fs))) s' → Q () s') : wpAny (model X.prog X.w) A (setAttr (.ref a) f u) Q E s := by
  obtain ⟨mA, O, r, wi, _, ho⟩ := ins_get I.hok e
  have hz : (fs.map (·.1)).length ≤ sizeLine := by rw [List.length_map, sizeLine_eq]; omega
  refine set_map I.kIn O c.sa c.po n.taker c.hd wi hz fun h' O' sb => h _ ?_
  have hd : ∃ o, h'.get? dx = some o := let ⟨o, _, _, e', _⟩ := O'.ns; ⟨o, e'⟩
  refine I.write (x := a) (e := dx) (by rw [e]; exact True.intro) (.inr ho) (fun b q hb z => (sb.2 b hb).trans z) hd ?_
  refine ⟨by rw [upd_ne O.ne]; exact ho, ?_, O.ne, O'.obj, _, O'.ns, fun g => ?_, fun g hg => ?_⟩
  · have := length_putF f y fs; omega
  · show RelO ((putF f y fs).lookup g) (if g = f then some u else mA g)
    rw [lookup_putF]
    by_cases q : g = f
    · rw [if_pos q, if_pos q]; exact ry
    · rw [if_neg q, if_neg q]; exact r g
  · by_cases q : g = f
    · rw [q]; exact (keys_putF f y fs).1
    · refine (keys_putF f y fs).2 g (wi g fun z => hg ?_)
      show (if g = f then some u else mA g) = none
      rw [if_neg q]; exact z

/-- a new instance, tracked, without attributes -/
theorem Inv.made (I : Inv X pins σ H s) : Inv X pins σ (upd (upd H s.heap.objs.size (.own (s.heap.objs.size + 1))) (s.heap.objs.size + 1) (.ins C s.heap.objs.size []))
    { s with heap := (s.heap.push PySem.W.emptyDict).push (PySem.W.instObj C s.heap.objs.size) } := by
  have e1 : (s.heap.push PySem.W.emptyDict).get? s.heap.objs.size = some PySem.W.emptyDict := Heap.get?_push_size s.heap rfl
  have e2 : ((s.heap.push PySem.W.emptyDict).push (PySem.W.instObj C s.heap.objs.size)).get? (s.heap.objs.size + 1) = some (PySem.W.instObj C s.heap.objs.size) := by
    have := Heap.get?_push_size (s.heap.push PySem.W.emptyDict) (o := PySem.W.instObj C s.heap.objs.size) rfl
    rwa [Heap.size_push] at this
  have e3 : (s.heap.push PySem.W.emptyDict).Ns s.heap.objs.size (fun _ => none) := ⟨PySem.W.emptyDict, #[], _, e1, rfl, (fun e he => absurd he (by simp)), fun _ => rfl⟩
  have I1 := I.laid (a := s.heap.objs.size) (o := .own (s.heap.objs.size + 1)) (h' := s.heap.push PySem.W.emptyDict) (t' := s.toks) (fun b u q => Heap.get?_push_of_some _ q) (Nat.le_refl _) ⟨_, e1⟩
  refine I1.laid (a := s.heap.objs.size + 1) (o := .ins C s.heap.objs.size []) (t' := s.toks) (fun b u q => Heap.get?_push_of_some _ q) (Nat.le_of_eq (Heap.size_push _ _)) ?_
  have ne : s.heap.objs.size ≠ s.heap.objs.size + 1 := Nat.ne_of_lt (Nat.lt_succ_self _)
  refine ⟨by rw [upd_ne ne, upd_same], Nat.zero_le _, ne, e2, fun _ => none, (Heap.Ns1.of_empty e3).at fun o q => Heap.get?_push_of_some _ q, fun _ => True.intro, fun y hy => absurd rfl hy⟩

/-- e.f where nothing but the object is asked: through attributeBase (super) and the last hold -/
theorem attr_of {prog : Program} {w : World} {env : Env} {e : Expr} {f : Str} {pos : Pos} {s : Shared} {Q : Value → Shared → Prop} (hb : attributeBase e f env (eval e env) = eval e env)
    (h : wpAny (model prog w) A (eval e env) (fun o s₁ => wpAny (model prog w) A (getAttr o f true) Q E s₁) E s) : wpAny (model prog w) A (eval (.Attribute e f pos) env) Q E s :=
  Attribute_any_ h (by rw [arm_eval_Attribute, hb])
end

/-! ### readings and rules -/
/-- e.f, an attribute of the instance -/
def tFld (K : PySem.W.Frag) (ta : TE) (f : Str) : TE := fun σ H Q => ta σ H fun x H1 => ∃ a C dx fs v, x = .ref a ∧ H1 a = some (.ins C dx fs) ∧ Cls K C ∧ NoAttr K C f ∧ fs.lookup f = some v ∧ Q v H1
/-- e.f, a constant of the class -/
def tCon (K : PySem.W.Frag) (ta : TE) (f : Str) : TE := fun σ H Q => ta σ H fun x H1 => ∃ a C dx fs v u, x = .ref a ∧ H1 a = some (.ins C dx fs) ∧ Cls K C ∧ Con K C f v u ∧ fs.lookup f = none ∧ Q v H1
/-- e.f = value -/
def sFld (K : PySem.W.Frag) (ta tv : TE) (f : Str) : TS := fun D σ H => tv σ H fun y H1 => ta σ H1 fun x H2 => ∃ a C dx fs, x = .ref a ∧ H2 a = some (.ins C dx fs) ∧ Cls K C ∧ NoAttr K C f ∧ fs.length < 1000 ∧
  D.nx σ (upd H2 a (.ins C dx (putF f y fs)))
/-- an augmented operator on two values -/
def InOp (X : Cx) (op : Operator) (rd : V → V → Hp → VK → Prop) : Prop :=
  ∀ (pins : List (Addr × Obj)) (s : Shared) (σ : St) (H : Hp) (x y : V) (u v : Value) (Q : VK), Inv X pins σ H s → RelV x u → RelV y v → rd x y H Q → wpAny (model X.prog X.w) X.A (inplaceOp op u v) (EP X pins σ Q) X.xe s
/-- e.f op= value -/
def sFldAug (K : PySem.W.Frag) (ta tv : TE) (rd : V → V → Hp → VK → Prop) (f : Str) : TS := fun D σ H => ta σ H fun x H1 => ∃ a C dx fs v, x = .ref a ∧ H1 a = some (.ins C dx fs) ∧ Cls K C ∧ NoAttr K C f ∧ fs.lookup f = some v ∧
  tv σ H1 fun y H2 => rd v y H2 fun z H3 => ∃ dx' fs', H3 a = some (.ins C dx' fs') ∧ fs'.length < 1000 ∧ D.nx σ (upd H3 a (.ins C dx' (putF f z fs')))

section
variable {X : Cx} {o e value : Expr} {f : Str} {pos pos' tpos : Pos} {ta tv : TE}
theorem pe_fld (he : PE X e ta) (hb : attributeBase e f X.env (eval e X.env) = eval e X.env) : PE X (.Attribute e f pos) (tFld X.K ta f) := by
  intro pins s σ H Q I h
  refine attr_of hb (thn (he pins s σ H _ I h) fun u s1 ⟨x, H1, I1, rx, a, C, dx, fs, v, ex, ea, c, n, l, q⟩ => ?_)
  subst ex
  obtain rfl : u = Value.ref a := rx
  exact getattr_ok I1 ea c n l fun u' s2 I2 ru => ⟨v, H1, I2, ru, q⟩
theorem ps_fld (ha : PE X o ta) (hv : PE X value tv) (hs : swapsWith value (some (.Attribute o f pos')) pos.line X.env = pure false) : PS X (.Assign [.Attribute o f pos'] value pos) (sFld X.K ta tv f) := by
  intro pins s σ H D I h
  refine plainObj_wpAny_Assign_Attribute (thn (hv pins s σ H _ I h) fun u s1 ⟨y, H1, I1, ry, q⟩ => thn (ha pins s1 σ H1 _ I1 q) fun ov s2 ⟨x, H2, I2, rx, a, C, dx, fs, ex, ea, c, n, l, q2⟩ => ?_) hs
  subst ex
  obtain rfl : ov = Value.ref a := rx
  exact setattr_ok I2 ea c n l ry fun s3 I3 => ⟨σ, _, I3, q2⟩
theorem ps_fldaug {op : Operator} {rd : V → V → Hp → VK → Prop} (ha : PE X o ta) (hv : PE X value tv) (hop : InOp X op rd) : PS X (.AugAssign (.Attribute o f tpos) op value pos) (sFldAug X.K ta tv rd f) := by
  intro pins s σ H D I h
  refine wpAny_AugAssign_AttributeAny (thn (ha pins s σ H _ I h) fun ov s1 ⟨x, H1, I1, rx, a, C, dx, fs, v, ex, ea, c, n, l, q⟩ => ?_)
  subst ex
  obtain rfl : ov = Value.ref a := rx
  refine getattr_ok I1 ea c n l fun u s2 I2 ru => thn (hv pins s2 σ H1 _ I2 q) fun w3 s3 ⟨y, H2, I3, ry, q3⟩ => thn (hop pins s3 σ H2 v y u w3 _ I3 ru ry q3) fun w4 s4 ⟨z, H3, I4, rz, dx', fs', ea', l', q4⟩ => ?_
  exact setattr_ok I4 ea' c n l' rz fun s5 I5 => ⟨σ, _, I5, q4⟩
def rAdd : V → V → Hp → VK → Prop := fun x y H Q => ∃ i j, x = .int i ∧ y = .int j ∧ Q (.int (i + j)) H
def rSub : V → V → Hp → VK → Prop := fun x y H Q => ∃ i j, x = .int i ∧ y = .int j ∧ Q (.int (i - j)) H
theorem in_add : InOp X .Add rAdd := by
  rintro pins s σ H x y u v Q I rx ry ⟨i, j, rfl, rfl, q⟩
  obtain ⟨t, rfl⟩ := (show ∃ t, u = Value.int i t from rx)
  obtain ⟨t', rfl⟩ := (show ∃ t', v = Value.int j t' from ry)
  exact PyProof.Rows.iadd_int ⟨.int (i + j), H, I.tok _, ⟨_, rfl⟩, q⟩
/-- what is between an instance and its method: the tree of a method call -/
theorem methcall_of {pl : Sem Bool} {m : Str} {apos : Pos} {args : List Expr} {pins : List (Addr × Obj)} {s : Shared} {σ : St} {H : Hp} {Q : Value → Shared → Prop} {te : TE} (he : PE X e te) (I : Inv X pins σ H s)
    (h : te σ H fun x H1 => ∃ a C dx fs g, x = .ref a ∧ H1 a = some (.ins C dx fs) ∧ Cls X.K C ∧ Meth X.K C m g ∧ fs.lookup m = none ∧
      ∀ s1, Inv X pins σ H1 s1 → wpAny (model X.prog X.w) X.A (callWith pos (.ref g) [.ref a] (backTo pos (starEach args X.env)) (backToKw pos (keywordEach [] X.env))) Q X.xe s1)
    (ht : eval (.Call (.Attribute e m apos) args [] pos) X.env = (do
      let ov ← eval e X.env
      standAt apos.atName
      let (f, first) ← holding [ov] (getMethod ov m pl)
      callWith pos f first (backTo pos (starEach args X.env)) (backToKw pos (keywordEach [] X.env)))) :
    wpAny (model X.prog X.w) X.A (eval (.Call (.Attribute e m apos) args [] pos) X.env) Q X.xe s := by
  refine PySem.W.methodCall_KW (pl := pl) (thn (he pins s σ H _ I h) fun u s1 ⟨x, H1, I1, rx, a, C, dx, fs, g, ex, ea, c, k, l, q⟩ => ?_) ht
  subst ex
  obtain rfl : u = Value.ref a := rx
  exact getmeth_ok I1 ea c k l (q s1 I1)
end

/-! ### isinstance -/
section
variable {X : Cx} {pins : List (Addr × Obj)} {σ : St} {H : Hp} {s : Shared} {A : Around} {E : Value → Shared → Prop} {Q : Value → Shared → Prop} {c : Value} {b : Bool}
/-- the type of a value, as the fragment's deciders take it; for an instance its class -/
inductive TyOf (K : PySem.W.Frag) (H : Hp) : V → Value → Prop where
  | non : TyOf K H .non (.type "NoneType")
  | bl (x : Bool) : TyOf K H (.bl x) (.type "bool")
  | int (i : Int) : TyOf K H (.int i) (.type "int")
  | str (x : Str) : TyOf K H (.str x) (.type "str")
  | flt (x : UInt64) : TyOf K H (.flt x) (.type "float")
  | lst {a : Addr} {xs : List V} (e : H a = some (.lst xs)) : TyOf K H (.ref a) (.type "list")
  | frz {a : Addr} {o : Obj} {xs : List V} (e : H a = some (.frz o (.lst xs))) : TyOf K H (.ref a) (.type "list")
  | tup {a : Addr} {xs : List V} (e : H a = some (.tup xs)) : TyOf K H (.ref a) (.type "tuple")
  | dK {a : Addr} {kvs : List (Key × V)} (e : H a = some (.dK kvs)) : TyOf K H (.ref a) (.type "dict")
  | dT {a : Addr} {kvs : List (List Key × V)} (e : H a = some (.dT kvs)) : TyOf K H (.ref a) (.type "dict")
  | ins {a C dx : Addr} {fs : List (Str × V)} (e : H a = some (.ins C dx fs)) (cl : Cls K C) (ha : PySem.W.findIn K (.ref C) "__class__" = some (some (.builtin "object.__class__")))
      (hn : PySem.W.specialIn K (.builtin "object.__class__") "__get__" = some (some (.builtin "getset_descriptor.__get__"))) (htk : PySem.W.takesIn K (.builtin "object.__class__") = some true)
      (hm : PySem.W.mroIn K C (.type "object") = some true) : TyOf K H (.ref a) (.ref C)
/-- isinstance(x, c) for one class c, a built-in or an own one: kitOne's answer -/
theorem isinst_ok {x : V} {u t : Value} (I : Inv X pins σ H s) (rx : RelV x u) (ty : TyOf X.K H x t) (e : PySem.W.kitOne X.K t c = some b) (h : ∀ tk, Q (.bool b) { s with toks := tk }) :
    wpAny (model X.prog X.w) A (call (.builtin "isinstance") [u, c]) Q E s := by
  cases ty with
  | non => cases (show u = Value.none from rx); exact PySem.W.kia_one PySem.W.kitx_none I.kIn True.intro e (fun z => nomatch z) h
  | bl y => cases (show u = Value.bool y from rx); exact PySem.W.kia_one PySem.W.kitx_bool I.kIn True.intro e (fun z => nomatch z) h
  | int i => obtain ⟨t, q⟩ := (show ∃ t, u = Value.int i t from rx); cases q; exact PySem.W.kia_one PySem.W.kitx_int I.kIn True.intro e (fun z => nomatch z) h
  | str y => obtain ⟨t, q⟩ := (show ∃ t, u = Value.str y t from rx); cases q; exact PySem.W.kia_one PySem.W.kitx_str I.kIn True.intro e (fun z => nomatch z) h
  | flt y => obtain ⟨t, q⟩ := (show ∃ t, u = Value.float y t from rx); cases q; exact PySem.W.kia_one PySem.W.kitx_float I.kIn True.intro e (fun z => nomatch z) h
  | @lst a xs ea =>
    cases (show u = Value.ref a from rx)
    obtain ⟨_, _, n, _, h1⟩ := (show ObjOk X.prog X.w H s.heap a (.lst xs) from I.hok a _ ea)
    exact PySem.W.kia_one PySem.W.kitx_list I.kIn ⟨_, h1, rfl⟩ e (fun z => nomatch z) h
  | @frz a ob xs ea =>
    cases (show u = Value.ref a from rx)
    obtain ⟨_, _, _, n, _, h1⟩ := (show ObjOk X.prog X.w H s.heap a (.frz ob (.lst xs)) from I.hok a _ ea)
    exact PySem.W.kia_one PySem.W.kitx_list I.kIn ⟨_, h1, rfl⟩ e (fun z => nomatch z) h
  | @tup a xs ea =>
    cases (show u = Value.ref a from rx)
    obtain ⟨_, _, _, p⟩ := (show ObjOk X.prog X.w H s.heap a (.tup xs) from I.hok a _ ea)
    obtain ⟨o, h1, h2, _⟩ := p
    exact PySem.W.kia_one PySem.W.kitx_tuple I.kIn ⟨o, h1, h2⟩ e (fun z => nomatch z) h
  | @dK a kvs ea =>
    cases (show u = Value.ref a from rx)
    obtain ⟨_, _, vs, _, p⟩ := (show ObjOk X.prog X.w H s.heap a (.dK kvs) from I.hok a _ ea)
    obtain ⟨o, es, ep, h1, h2, _⟩ := p
    exact PySem.W.kia_one PySem.W.kitx_dict I.kIn ⟨o, h1, h2.1⟩ e (fun z => nomatch z) h
  | @dT a kvs ea =>
    cases (show u = Value.ref a from rx)
    obtain ⟨_, _, xs, _, o, es, ep, h1, h2, _⟩ := (show ObjOk X.prog X.w H s.heap a (.dT kvs) from I.hok a _ ea)
    exact PySem.W.kia_one PySem.W.kitx_dict I.kIn ⟨o, h1, h2.1⟩ e (fun z => nomatch z) h
  | @ins a C dx fs ea cl ha hn htk hm =>
    cases (show u = Value.ref a from rx)
    obtain ⟨mA, O, _⟩ := ins_get I.hok ea
    obtain ⟨od, J, _⟩ := O.look
    exact PySem.W.kia_one (PySem.W.kitx_own (cl.get _) cl.hd ha hn htk hm) I.kIn J e (fun z => nomatch z) h
end
end L2

namespace L2
open PySem PySem.Spec PyProof.Rows

/-! ### room -/
structure Room (k : Nat) (A : Around) : Prop where
  hd : A.handled = none
  dp : A.depth + 3 * k + 5 < recursionLimit
  un : A.units + 16 * k + 200 < cLine
theorem Room.mono {j k : Nat} {A : Around} (r : Room k A) (h : j ≤ k) : Room j A := ⟨r.hd, by have := r.dp; omega, by have := r.un; omega⟩
theorem Room.deeper {k : Nat} {A : Around} (r : Room (k + 1) A) (env : Env) : Room k (A.deeper env) :=
  ⟨r.hd, by have := r.dp; show A.depth + 1 + 3 * k + 5 < _; omega, by have := r.un; show A.units + 3 + 16 * k + 200 < _; omega⟩
theorem make_depth {A : Around} {C : Addr} {us : List Value} {kw : List (Str × Value)} : (A.under (.builtin "type.__call__" ⟨.ref C :: us, kw⟩)).depth = A.depth + 1 := by
  first | rfl | simp [Around.under, Code.weight, Code.isCreation, Code.isGuard, Code.isCaller, Code.frames, Code.isFrame, guardIds]
theorem make_units {A : Around} {C : Addr} {us : List Value} {kw : List (Str × Value)} : (A.under (.builtin "type.__call__" ⟨.ref C :: us, kw⟩)).units = A.units + 1 := by
  first | rfl | simp [Around.under, Code.cUnits, Code.frames, Code.isFrame]
theorem Room.make {k : Nat} {A : Around} (r : Room (k + 1) A) (C : Addr) (us : List Value) (kw : List (Str × Value)) : Room k (A.under (.builtin "type.__call__" ⟨.ref C :: us, kw⟩)) :=
  ⟨r.hd, by have := r.dp; rw [make_depth]; omega, by have := r.un; rw [make_units]; omega⟩
theorem Room.depth {k : Nat} {A : Around} (r : Room k A) : A.depth < recursionLimit := by have := r.dp; omega
/-! ### argument lists and displays -/
def tNil : TA := fun _ H Q => Q [] H
def tCons (ta : TE) (tr : TA) : TA := fun σ H Q => ta σ H fun x H1 => tr σ H1 fun xs H2 => Q (x :: xs) H2
section
variable {X : Cx} {e : Expr} {es : List Expr} {te : TE} {t : TA} {pos : Pos}
theorem pa_nil : PA X [] tNil := fun _ _ _ _ H Q I h => Calls.spliced_nil ⟨[], H, I, .nil, h⟩
theorem pa_cons (ha : PE X e te) (hr : PA X es t) (hs : starEach (e :: es) X.env = (false, eval e X.env) :: starEach es X.env := by rfl) : PA X (e :: es) (tCons te t) := by
  intro pos pins s σ H Q I h
  rw [hs]
  show wpAny _ _ (spliced ((false, eval e X.env) :: backTo pos (starEach es X.env))) _ _ s
  refine Calls.spliced_cons (thn (ha pins s σ H _ I h) fun u s1 ⟨x, H1, I1, r1, q1⟩ => ?_)
  exact thn (hr pos pins s1 σ H1 _ I1 q1) fun us s2 ⟨xs, H2, I2, r2, q2⟩ => ⟨x :: xs, H2, I2, .cons r1 r2, q2⟩

/-- a tuple, a list of written items -/
def tTup (t : TA) : TE := fun σ H Q => t σ H fun xs H1 => xs.length ≤ sizeLine ∧ ∀ p, H1 p = none → Q (.ref p) (upd H1 p (.tup xs))
def tLst (t : TA) : TE := fun σ H Q => t σ H fun xs H1 => xs.length ≤ sizeLine ∧ ∀ p, H1 p = none → Q (.ref p) (upd H1 p (.lst xs))
theorem pe_tup {x1} (h : PA X es t) : PE X (.Tuple es x1 pos) (tTup t) := by
  intro pins s σ H Q I hq
  refine wpAny_Tuple_spliced (thn (h pos pins s σ H _ I hq) fun us s1 ⟨xs, H1, I1, r, z, q⟩ => ⟨by rw [← r.length]; exact z, ?_⟩)
  have hf : H1 s1.heap.objs.size = none := I1.hok.fresh (Nat.le_refl _)
  refine ⟨.ref s1.heap.objs.size, upd H1 s1.heap.objs.size (.tup xs), I1.laid (t' := s1.toks) (fun b u e => Heap.get?_push_of_some _ e) (Nat.le_refl _) ?_, rfl, q _ hf⟩
  exact ⟨z, us, r, ⟨_, Heap.get?_push_size _ rfl, rfl, _, rfl⟩⟩
theorem pe_lst (h : PA X es t) : PE X (.List es pos) (tLst t) := by
  intro pins s σ H Q I hq
  refine wpAny_List_spliced (thn (h pos pins s σ H _ I hq) fun us s1 ⟨xs, H1, I1, r, z, q⟩ => ⟨by rw [← r.length]; exact z, ?_⟩)
  have hf : H1 s1.heap.objs.size = none := I1.hok.fresh (Nat.le_refl _)
  refine ⟨.ref s1.heap.objs.size, upd H1 s1.heap.objs.size (.lst xs), I1.laid (t' := s1.toks) (fun b u e => Heap.get?_push_of_some _ e) (Nat.le_refl _) ?_, rfl, q _ hf⟩
  exact ⟨z, us, 0, r, Heap.get?_push_size _ rfl⟩
end

/-! ### what a def promises -/
/-- a def's promise: the bound arguments in the parameters' order, the heap, the wanted end, the wanted exception -/
abbrev Sp := List V → Hp → VK → XK → Prop
/-- how an exception lies behind a call (file 08 gives it): the callers' frames, abstract heap and state ahead of the call, the wish, the exception, the state -/
abbrev CXT := List Env → Hp → Shared → XK → Value → Shared → Prop

/-- the state at a call -/
structure Env0 (P : Program) (w : World) (K : PySem.W.Frag) (mg : Str → Option Value) (base : Heap) (A : Around) (outer : List Env) (s : Shared) (H : Hp) : Prop where
  frames : A.frames = some outer
  mod : Mod K mg base
  bs : ∀ b o, base.get? b = some o → s.heap.get? b = some o ∧ H b = none
  bsz : base.objs.size ≤ s.heap.objs.size
  funs : s.heap.FunFrames base outer
  frf : ∀ b ∈ frs outer, H b = none
  hok : HOk P w H s.heap
  bare : AllBare s.gens
/-- a call's end -/
def CE (outer : List Env) (P : Program) (w : World) (H : Hp) (s : Shared) (Q : VK) (u : Value) (s' : Shared) : Prop :=
  ∃ v H', s'.os = s.os ∧ AllBare s'.gens ∧ Un (frs outer) [] H H' s.heap s'.heap ∧ HOk P w H' s'.heap ∧ RelV v u ∧ Q v H'
def CR (CX : CXT) (outer : List Env) (P : Program) (w : World) (H : Hp) (s : Shared) (Q : VK) (E : XK) (r : Result) (s' : Shared) : Prop :=
  match r with
  | .ok (.ret u) => CE outer P w H s Q u s'
  | .ok _ => False
  | .error e => CX outer H s E e s'
structure FnOk (P : Program) (w : World) (K : PySem.W.Frag) (mg : Str → Option Value) (base : Heap) (CX : CXT) (k : Nat) (f : Addr) (fd : FuncData) (ps : List Str) (sp : Sp) : Prop where
  len : ∀ vs H Q E, sp vs H Q E → vs.length = ps.length
  run : ∀ (A : Around) (outer : List Env) (s : Shared) (H : Hp) (args : Args) (us : List Value) (vs : List V) (Q : VK) (E : XK), Room k A → Env0 P w K mg base A outer s H → BindsTo s fd args (ps.zip us) → Vals vs us → sp vs H Q E →
    codeAny (model P w) A (.call (.ref f) args) (CR CX outer P w H s Q E) s
theorem Env0.make {P : Program} {w : World} {K : PySem.W.Frag} {mg : Str → Option Value} {base : Heap} {A : Around} {outer : List Env} {s : Shared} {H : Hp} (e : Env0 P w K mg base A outer s H) (C : Addr) (us : List Value) (kw : List (Str × Value)) :
    Env0 P w K mg base (A.under (.builtin "type.__call__" ⟨.ref C :: us, kw⟩)) outer s H := ⟨by first | exact e.frames | (simpa [Around.under, Code.envs, Code.isFrame, pushEnvs] using e.frames), e.mod, e.bs, e.bsz, e.funs, e.frf, e.hok, e.bare⟩
section
variable {X : Cx} {pins : List (Addr × Obj)} {σ : St} {H : Hp} {s s' : Shared}
/-- from a body: what a callee wants -/
theorem Inv.env0 (I : Inv X pins σ H s) : Env0 X.prog X.w X.K X.mg X.base X.A X.stack s H :=
  ⟨I.ok.frames, I.ok.mod, I.bs, Nat.le_trans I.ok.bsz I.sz, I.stack, I.stkFree, I.hok, I.bare⟩
/-- behind a call -/
theorem Inv.after {Q : VK} {u : Value} (I : Inv X pins σ H s) (h : CE X.stack X.prog X.w H s Q u s') : EP X pins σ Q u s' := by
  obtain ⟨v, H', os, bare, un, hok, r, q⟩ := h
  obtain ⟨hh, g, d, t, os'⟩ := s'
  obtain rfl : os' = s.os := os
  exact ⟨v, H', I.call (h' := hh) (g' := g) (d' := d) (t' := t) (ch := []) un hok bare (fun b z => absurd z (by simp)), r, q⟩
end

/-! ### calls -/
/-- f(..): the written arguments, then the defaults dvs; E: what is wanted of an exception -/
def tCall (sp : Sp) (dvs : List V) (E : XK) (t : TA) : TE := fun σ H Q => t σ H fun vs H1 => sp (vs ++ dvs) H1 Q E
/-- o.m(..) of an instance of the class at C -/
def tMeth (C : Addr) (m : Str) (sp : Sp) (dvs : List V) (E : XK) (ta : TE) (t : TA) : TE := fun σ H Q => ta σ H fun x H1 => ∃ a dx fs, x = .ref a ∧ H1 a = some (.ins C dx fs) ∧ fs.lookup m = none ∧
  t σ H1 fun vs H2 => sp (x :: (vs ++ dvs)) H2 Q E
/-- C(..): a new instance and its dict, then __init__ -/
def tMake (C : Addr) (sp : Sp) (dvs : List V) (E : XK) (t : TA) : TE := fun σ H Q => t σ H fun vs H1 => ∀ x dx, H1 x = none → H1 dx = none → dx ≠ x →
  sp (.ref x :: (vs ++ dvs)) (upd (upd H1 dx (.own x)) x (.ins C dx [])) (fun v H2 => v = .non ∧ Q (.ref x) H2) E

/-- how the parameters are bound: us the positional arguments, kw the keywords' values by name, ds the defaults that fill up -/
def Binds (K : PySem.W.Frag) (fd : FuncData) (ps : List Str) (ds : List Value) : Prop :=
  ∀ (s : Shared) (us : List Value), K.In s.heap → (us ++ ds).length = ps.length → BindsTo s fd ⟨us, []⟩ (ps.zip (us ++ ds))
/-- every parameter is given -/
theorem Binds.all {K : PySem.W.Frag} {fd : FuncData} {ps : List Str} (h : ∀ us : List Value, us.length = ps.length → bindArgs fd ⟨us, []⟩ = pure (ps.zip us)) : Binds K fd ps [] := fun s us _ hl => by
  rw [List.append_nil] at hl ⊢
  exact .of_eq (h us hl)

/-- an exception of a callee reaches what this body wants of exceptions -/
def Passes (CX : CXT) (X : Cx) (E : XK) : Prop := ∀ (pins : List (Addr × Obj)) (σ : St) (H : Hp) (s : Shared) (e : Value) (s' : Shared), Inv X pins σ H s → CX X.stack H s E e s' → X.xe e s'

section
variable {X : Cx} {CX : CXT} {k : Nat} {f C : Addr} {fd : FuncData} {ps : List Str} {sp : Sp} {dvs : List V} {ds : List Value} {E : XK} {x m : Str} {p pos apos : Pos} {e o : Expr} {es : List Expr} {ta : TE} {t : TA}

/-- the callee runs -/
theorem run_fn {pins : List (Addr × Obj)} {σ : St} {H : Hp} {s : Shared} {Q : VK} {us : List Value} {vs : List V} (F : FnOk X.prog X.w X.K X.mg X.base CX k f fd ps sp) (hr : Room k X.A) (hb : Binds X.K fd ps ds) (hd : Vals dvs ds) (hx : Passes CX X E)
    (I : Inv X pins σ H s) (r : Vals vs us) (h : sp (vs ++ dvs) H Q E) : wpAny (model X.prog X.w) X.A (call (.ref f) us) (EP X pins σ Q) X.xe s := by
  have r2 : Vals (vs ++ dvs) (us ++ ds) := r.append hd
  have hl : (us ++ ds).length = ps.length := by rw [← r2.length]; exact F.len _ _ _ _ h
  refine wpAny_call (codeAny_mono (F.run X.A X.stack s H ⟨us, []⟩ (us ++ ds) (vs ++ dvs) Q E hr I.env0 (hb s us I.kIn hl) r2 h) fun r s' hq => ?_)
  cases r with
  | error e => exact hx pins σ H s e s' I hq
  | ok fl =>
    cases fl with
    | ret u => exact I.after hq
    | next => exact False.elim hq
    | brk => exact False.elim hq
    | cont => exact False.elim hq

theorem pe_call (F : FnOk X.prog X.w X.K X.mg X.base CX k f fd ps sp) (hr : Room k X.A) (hg : Gl X x) (hm : X.mg x = some (.ref f)) (hk : PySem.W.keepIn X.K (.ref f) = true) (hb : Binds X.K fd ps ds) (hd : Vals dvs ds) (hx : Passes CX X E)
    (ha : PA X (e :: es) t) (hdb : (x == ("__debug__" : Str)) = false := by decide) (he : starEach (e :: es) X.env = (false, eval e X.env) :: starEach es X.env := by rfl) (hpl : (backTo pos (starEach es X.env)).any (·.1) = false := by rfl) :
    PE X (.Call (.Name x p) (e :: es) [] pos) (tCall sp dvs E t) := by
  intro pins s σ H Q I h
  refine wpAny_Call_Name_kw (ld_glob I hg hm ?_ hdb)
  refine PySem.W.callWith_K (h₀ := X.base) I.ok.mod.kin hk (thn (ha pos pins s σ H _ I h) fun us s1 ⟨vs, H1, I1, r, q⟩ => ⟨I1.kIn, ?_⟩) he hpl
  exact run_fn F hr hb hd hx I1 r q
/-- o.m(e, ..) -/
theorem pe_meth {pl : Sem Bool} (he : PE X o ta) (c : Cls X.K C) (hm : Meth X.K C m f) (F : FnOk X.prog X.w X.K X.mg X.base CX k f fd ps sp) (hr : Room k X.A) (hb : Binds X.K fd ps ds) (hd : Vals dvs ds) (hx : Passes CX X E) (ha : PA X (e :: es) t)
    (hst : starEach (e :: es) X.env = (false, eval e X.env) :: starEach es X.env := by rfl) (hpl : (backTo pos (starEach es X.env)).any (·.1) = false := by rfl)
    (ht : eval (.Call (.Attribute o m apos) (e :: es) [] pos) X.env = (do
      let ov ← eval o X.env
      standAt apos.atName
      let (f, first) ← holding [ov] (getMethod ov m pl)
      callWith pos f first (backTo pos (starEach (e :: es) X.env)) (backToKw pos (keywordEach [] X.env))) := by rfl) :
    PE X (.Call (.Attribute o m apos) (e :: es) [] pos) (tMeth C m sp dvs E ta t) := by
  intro pins s σ H Q I h
  refine PySem.W.methodCall_KW (pl := pl) (thn (he pins s σ H _ I h) fun u s1 ⟨x, H1, I1, rx, a, dx, fs, ex, ea, l, q⟩ => ?_) ht
  subst ex
  obtain rfl : u = Value.ref a := rx
  refine getmeth_ok I1 ea c hm l ?_
  refine PySem.W.callWith_K (first := [.ref a]) (h₀ := X.base) I.ok.mod.kin hm.kp (thn (ha pos pins s1 σ H1 _ I1 q) fun us s2 ⟨vs, H2, I2, r, q2⟩ => ⟨I2.kIn, ?_⟩) hst hpl
  exact run_fn (us := .ref a :: us) (vs := .ref a :: vs) F hr hb hd hx I2 (.cons rfl r) q2
/-- o.m() -/
theorem pe_meth0 {pl : Sem Bool} (he : PE X o ta) (c : Cls X.K C) (hm : Meth X.K C m f) (F : FnOk X.prog X.w X.K X.mg X.base CX k f fd ps sp) (hr : Room k X.A) (hb : Binds X.K fd ps ds) (hd : Vals dvs ds) (hx : Passes CX X E)
    (ht : eval (.Call (.Attribute o m apos) [] [] pos) X.env = (do
      let ov ← eval o X.env
      standAt apos.atName
      let (f, first) ← holding [ov] (getMethod ov m pl)
      callWith pos f first (backTo pos (starEach [] X.env)) (backToKw pos (keywordEach [] X.env))) := by rfl) :
    PE X (.Call (.Attribute o m apos) [] [] pos) (tMeth C m sp dvs E ta tNil) := by
  intro pins s σ H Q I h
  refine PySem.W.methodCall_KW (pl := pl) (thn (he pins s σ H _ I h) fun u s1 ⟨x, H1, I1, rx, a, dx, fs, ex, ea, l, q⟩ => ?_) ht
  subst ex
  obtain rfl : u = Value.ref a := rx
  refine getmeth_ok I1 ea c hm l ?_
  exact PySem.W.callWith_K0 (first := [.ref a]) I1.kIn hm.kp (run_fn (us := [.ref a]) (vs := [.ref a]) F hr hb hd hx I1 (.cons rfl .nil) q)

/-- what a class must have to be made -/
structure Mk (K : PySem.W.Frag) (C f : Addr) : Prop where
  makes : PySem.W.makesIn K C = true
  init : PySem.W.findIn K (.ref C) "__init__" = some (some (.ref f))
  fn : PySem.W.isFn K (.ref f) = true
  kp : PySem.W.keepIn K (.ref C) = true

theorem run_make {pins : List (Addr × Obj)} {σ : St} {H : Hp} {s : Shared} {Q : VK} {us : List Value} {vs : List V} (M : Mk X.K C f) (F : FnOk X.prog X.w X.K X.mg X.base CX k f fd ps sp) (hr : Room (k + 1) X.A) (hb : Binds X.K fd ps ds) (hd : Vals dvs ds)
    (hx : Passes CX X E) (I : Inv X pins σ H s) (r : Vals vs us)
    (h : ∀ x dx, H x = none → H dx = none → dx ≠ x → sp (.ref x :: (vs ++ dvs)) (upd (upd H dx (.own x)) x (.ins C dx [])) (fun v H2 => v = .non ∧ Q (.ref x) H2) E) :
    wpAny (model X.prog X.w) X.A (call (.ref C) us) (EP X pins σ Q) X.xe s := by
  have hq := h (s.heap.objs.size + 1) s.heap.objs.size (I.hok.fresh (Nat.le_succ _)) (I.hok.fresh (Nat.le_refl _)) (Nat.ne_of_lt (Nat.lt_succ_self _))
  have I2 := Inv.made (C := C) I
  have r2 : Vals (V.ref (s.heap.objs.size + 1) :: (vs ++ dvs)) (Value.ref (s.heap.objs.size + 1) :: (us ++ ds)) := .cons rfl (r.append hd)
  have hl : (Value.ref (s.heap.objs.size + 1) :: us ++ ds).length = ps.length := by
    have e := r2.length
    rw [F.len _ _ _ _ hq] at e
    exact e.symm
  refine wpAny_call (make_map (f := f) I.kIn M.makes M.init (beq_iff_eq.mp M.fn) (codeAny_mono (F.run _ X.stack _ _ ⟨Value.ref (s.heap.objs.size + 1) :: us, []⟩ (Value.ref (s.heap.objs.size + 1) :: (us ++ ds)) _ _ E (hr.make C us [])
    (I2.env0.make C us []) (hb _ (Value.ref (s.heap.objs.size + 1) :: us) I2.kIn hl) r2 hq) fun r s' hq' => ?_))
  cases r with
  | error e => exact hx pins σ _ _ e s' I2 hq'
  | ok fl =>
    cases fl with
    | ret u =>
      obtain ⟨v, H', I3, rv, ev, q3⟩ := I2.after hq'
      subst ev
      exact ⟨rv, ⟨V.ref (s.heap.objs.size + 1), H', I3, rfl, q3⟩⟩
    | next => exact False.elim hq'
    | brk => exact False.elim hq'
    | cont => exact False.elim hq'
theorem pe_make (M : Mk X.K C f) (F : FnOk X.prog X.w X.K X.mg X.base CX k f fd ps sp) (hr : Room (k + 1) X.A) (hg : Gl X x) (hm : X.mg x = some (.ref C)) (hb : Binds X.K fd ps ds) (hd : Vals dvs ds) (hx : Passes CX X E)
    (ha : PA X (e :: es) t) (hdb : (x == ("__debug__" : Str)) = false := by decide) (he : starEach (e :: es) X.env = (false, eval e X.env) :: starEach es X.env := by rfl) (hpl : (backTo pos (starEach es X.env)).any (·.1) = false := by rfl) :
    PE X (.Call (.Name x p) (e :: es) [] pos) (tMake C sp dvs E t) := by
  intro pins s σ H Q I h
  refine wpAny_Call_Name_kw (ld_glob I hg hm ?_ hdb)
  refine PySem.W.callWith_K (h₀ := X.base) I.ok.mod.kin M.kp (thn (ha pos pins s σ H _ I h) fun us s1 ⟨vs, H1, I1, r, q⟩ => ⟨I1.kIn, ?_⟩) he hpl
  exact run_make M F hr hb hd hx I1 r q
theorem pe_make0 (M : Mk X.K C f) (F : FnOk X.prog X.w X.K X.mg X.base CX k f fd ps sp) (hr : Room (k + 1) X.A) (hg : Gl X x) (hm : X.mg x = some (.ref C)) (hb : Binds X.K fd ps ds) (hd : Vals dvs ds) (hx : Passes CX X E)
    (hdb : (x == ("__debug__" : Str)) = false := by decide) : PE X (.Call (.Name x p) [] [] pos) (tMake C sp dvs E tNil) := by
  intro pins s σ H Q I h
  refine wpAny_Call_Name_kw (ld_glob I hg hm ?_ hdb)
  exact PySem.W.callWith_K0 I.kIn M.kp (run_make (us := []) M F hr hb hd hx I .nil h)
end

/-! ### keywords -/
/-- the values of the keywords, from the left -/
def PK (X : Cx) (kws : List Keyword) (t : TA) : Prop :=
  ∀ (pos : Pos) (pins : List (Addr × Obj)) (s : Shared) (σ : St) (H : Hp) (Q : List V → Hp → Prop), Inv X pins σ H s → t σ H Q → wpAny (model X.prog X.w) X.A (evalAll ((backToKw pos (keywordEach kws X.env)).map (·.2))) (AP X pins σ Q) X.xe s
section
variable {X : Cx} {CX : CXT} {k : Nat} {f C : Addr} {fd : FuncData} {ps ks : List Str} {sp : Sp} {E : XK} {x m : Str} {p pos apos kpos : Pos} {e o : Expr} {es : List Expr} {kws : List Keyword} {te ta : TE} {t tk : TA} {nm : Option Str}
/-- how a call with keywords binds: g puts the positional values us and the keywords' values ws (names ks) in the parameters' order, defaults among them -/
structure KBinds (K : PySem.W.Frag) (fd : FuncData) (ps ks : List Str) (g : List Value → List Value → List Value) (gV : List V → List V → List V) : Prop where
  to : ∀ (s : Shared) (us ws : List Value), K.In s.heap → (g us ws).length = ps.length → BindsTo s fd ⟨us, ks.zip ws⟩ (ps.zip (g us ws))
  rel : ∀ {vs : List V} {us : List Value} {zs : List V} {ws : List Value}, Vals vs us → Vals zs ws → Vals (gV vs zs) (g us ws)
def tCallK (sp : Sp) (gV : List V → List V → List V) (E : XK) (t tk : TA) : TE := fun σ H Q => t σ H fun vs H1 => tk σ H1 fun zs H2 => sp (gV vs zs) H2 Q E
variable {g : List Value → List Value → List Value} {gV : List V → List V → List V}
end

/-! ### a def's body keeps its promise -/
/-- names: the parameters first -/
structure FnScope (N P : List Str) (sc : Scope) : Prop where
  kind : sc.kind = .function
  co : sc.isCoroutine = false
  gen : sc.isGenerator = false
  nd : N.Nodup
  pre : N.take P.length = P
  par : ∀ x ∈ P, sc.names.lookup x = some .local ∨ sc.names.lookup x = some .cell
  nofree : ∀ y ∈ sc.names, y.2 ≠ .free

theorem bindL_out {kindOf : Str → Option NameKind} {x : Str} : ∀ {binds : List (Str × Value)} {m : Str → Option Value}, (∀ v, (x, v) ∉ binds) → bindL kindOf binds m x = m x
  | [], _, _ => rfl
  | (n, v) :: r, m, h => by
    unfold bindL
    rw [bindL_out fun w hw => h w (List.mem_cons_of_mem _ hw)]
    split
    · have : x ≠ n := by rintro rfl; exact h v List.mem_cons_self
      simp [this]
    · rfl
theorem bindC_out {kindOf : Str → Option NameKind} {x : Str} : ∀ {binds : List (Str × Value)} {m : Str → Option Value}, (∀ v, (x, v) ∉ binds) → bindC kindOf binds m x = m x
  | [], _, _ => rfl
  | (n, v) :: r, m, h => by
    unfold bindC
    rw [bindC_out fun w hw => h w (List.mem_cons_of_mem _ hw)]
    split
    · rfl
    · have : x ≠ n := by rintro rfl; exact h v List.mem_cons_self
      simp [this]
theorem bindL_get {kindOf : Str → Option NameKind} {x : Str} {v : Value} : ∀ {P : List Str} {vs : List Value} {i : Nat} {m : Str → Option Value}, P.Nodup → P[i]? = some x → vs[i]? = some v → kindOf x = some .local →
    bindL kindOf (P.zip vs) m x = some v
  | [], _, _, _, _, h, _, _ => by simp at h
  | _ :: _, [], _, _, _, _, h, _ => by simp at h
  | p :: P, w :: vs, 0, m, nd, h1, h2, hk => by
    simp at h1 h2; subst h1; subst h2
    show bindL kindOf ((p, w) :: P.zip vs) m p = _
    unfold bindL
    rw [bindL_out fun v hv => (List.nodup_cons.mp nd).1 (List.of_mem_zip hv).1, if_pos hk]
    simp
  | p :: P, w :: vs, i + 1, m, nd, h1, h2, hk => by
    show bindL kindOf ((p, w) :: P.zip vs) m x = _
    unfold bindL
    exact bindL_get (i := i) (List.nodup_cons.mp nd).2 (by simpa using h1) (by simpa using h2) hk
theorem bindC_get {kindOf : Str → Option NameKind} {x : Str} {v : Value} : ∀ {P : List Str} {vs : List Value} {i : Nat} {m : Str → Option Value}, P.Nodup → P[i]? = some x → vs[i]? = some v → kindOf x ≠ some .local →
    bindC kindOf (P.zip vs) m x = some v
  | [], _, _, _, _, h, _, _ => by simp at h
  | _ :: _, [], _, _, _, _, h, _ => by simp at h
  | p :: P, w :: vs, 0, m, nd, h1, h2, hk => by
    simp at h1 h2; subst h1; subst h2
    show bindC kindOf ((p, w) :: P.zip vs) m p = _
    unfold bindC
    rw [bindC_out fun v hv => (List.nodup_cons.mp nd).1 (List.of_mem_zip hv).1, if_neg hk]
    simp
  | p :: P, w :: vs, i + 1, m, nd, h1, h2, hk => by
    show bindC kindOf ((p, w) :: P.zip vs) m x = _
    unfold bindC
    exact bindC_get (i := i) (List.nodup_cons.mp nd).2 (by simpa using h1) (by simpa using h2) hk

/-- the names' values at the entry -/
def start (N : List Str) (vs : List V) : St := vs.map some ++ List.replicate (N.length - vs.length) none

/-- the context of a def's body, at its entry; an exception leaves the frame, then lies as CX says -/
def cxOf (CX : CXT) (P : Program) (w : World) (K : PySem.W.Frag) (mg : Str → Option Value) (base : Heap) (N : List Str) (qual : Str) (scope : Scope) (f : Addr) (cd : Value) (A : Around) (outer : List Env) (s : Shared) (H : Hp) (E : XK) : Cx where
  prog := P
  w := w
  K := K
  mg := mg
  base := base
  A := A.deeper (envOfC qual scope s.heap.objs.size f cd)
  N := N
  s₀ := s
  H₀ := H
  env := envOfC qual scope s.heap.objs.size f cd
  outer := outer
  stack := envOfC qual scope s.heap.objs.size f cd :: outer
  ex := []
  calm := true
  fn := fun _ => true
  pn := []
  xe := fun e s' => wpAny (model P w) (A.deeper (envOfC qual scope s.heap.objs.size f cd)) (leaving (envOfC qual scope s.heap.objs.size f cd) e) (fun _ s'' => CX outer H s E e s'') (fun e' s'' => CX outer H s E e' s'') s'

theorem cell_has {sc : Scope} {n : Nat} {x : Str} (h : sc.names.lookup x = some .cell) : ∃ c, (cellsFrom n sc.names []).lookup x = some c := by
  have q := PySem.W.cellsFrom_some sc.names n [] (.inl h)
  exact Option.isSome_iff_exists.mp q

theorem inv_start {CX : CXT} {P : Program} {w : World} {K : PySem.W.Frag} {mg : Str → Option Value} {base : Heap} {N ps : List Str} {qual : Str} {scope : Scope} {f : Addr} {cd : Value} {A : Around} {outer : List Env} {s s1 : Shared} {H : Hp} {E : XK} {us : List Value} {vs : List V}
    (S : FnScope N ps scope) (hd : A.handled = none) (e0 : Env0 P w K mg base A outer s H) (hl : vs.length = ps.length) (r : Vals vs us)
    (x : InCallC s s.heap.objs.size (bindL (envOfC qual scope s.heap.objs.size f cd).kindOf (ps.zip us) fun _ => none) (cellsFrom (s.heap.objs.size + 1) scope.names []) (bindC (envOfC qual scope s.heap.objs.size f cd).kindOf (ps.zip us) fun _ => none) s1) :
    Inv (cxOf CX P w K mg base N qual scope f cd A outer s H E) [] (start N vs) H s1 := by
  have hpl : ps.length ≤ N.length := by have := congrArg List.length S.pre; rw [List.length_take] at this; omega
  obtain ⟨h1, tk, rfl, hk⟩ := x.done
  have noA : ∀ b : Addr, b ∉ (cxOf CX P w K mg base N qual scope f cd A outer s H E).ex := fun b z => absurd (show b ∈ ([] : List Addr) from z) (by simp)
  refine ⟨⟨e0.mod, S.kind, rfl, rfl, Nat.le_refl _, fun y z c h1 h2 => ?_, fun y hy => ?_, fun y c _ h => ?_, fun _ => hd, Around.frames_deeper e0.frames, .inr ⟨rfl, rfl⟩, fun b z => absurd z (noA b), e0.bs, e0.bsz, fun b _ _ => noA b, fun b z => absurd z (noA b), e0.funs, e0.frf⟩,
    rfl, e0.bare, Un.kept hk, ⟨_, x.toInCall.ns, fun i y v h1 h2 h3 => ?_⟩, fun y c h => ⟨_, x.cell y c h⟩, e0.hok.fresh (Nat.le_refl _), fun y c h => ?_, fun p hp => absurd (show p ∈ ([] : List (Addr × Obj)) from hp) (by simp), e0.hok.kept hk, ?_⟩
  · exact name_of_addr x.apart (PySem.mem_of_lookup h1) (PySem.mem_of_lookup h2)
  · have hy : scope.names.lookup y = some .cell ∨ scope.names.lookup y = some .free := hy
    rcases hy with hy | hy
    · exact cell_has hy
    · exact absurd rfl (S.nofree _ (PySem.mem_of_lookup hy))
  · exact Nat.le_of_lt (x.above y c (PySem.mem_of_lookup h))
  · have hi : i < vs.length := by
      unfold start at h2
      by_cases hi : i < vs.length
      · exact hi
      · rw [List.getElem?_append_right (by simpa using hi)] at h2
        rw [List.getElem?_replicate] at h2
        split at h2 <;> cases h2
    have ha : vs[i]? = some v := by
      unfold start at h2
      rw [List.getElem?_append_left (by simpa using hi), List.getElem?_map] at h2
      cases e : vs[i]? with
      | none => rw [e] at h2; cases h2
      | some a => rw [e] at h2; cases h2; rfl
    obtain ⟨u, hu, rv⟩ := r.get ha
    have hp : ps[i]? = some y := by
      rw [← S.pre, List.getElem?_take_of_lt (by omega)]; exact h1
    have ndP : ps.Nodup := by rw [← S.pre]; exact S.nd.sublist (List.take_sublist _ _)
    refine ⟨u, rv, ?_⟩
    rcases S.par y (List.mem_of_getElem? hp) with k | k
    · exact .inl ⟨k, bindL_get ndP hp hu k⟩
    · obtain ⟨c, e⟩ := cell_has (n := s.heap.objs.size + 1) k
      refine .inr ⟨.inl k, c, e, ?_⟩
      have q := x.cell y c e
      rw [bindC_get ndP hp hu (by show scope.names.lookup y ≠ _; rw [k]; decide)] at q
      exact q
  · exact e0.hok.fresh (Nat.le_of_lt (x.above y c (PySem.mem_of_lookup h)))
  · unfold start
    show _ = N.length
    rw [List.length_append, List.length_map, List.length_replicate]
    omega

/-- THE RULE: a def (or a method) of the text, by its body. The body's reading t is chosen for each entry; it is run at the parameters' values -/
theorem fn_of {CX : CXT} {P : Program} {w : World} {K : PySem.W.Frag} {mg : Str → Option Value} {base : Heap} {k : Nat} {f : Addr} {name qual : Str} {params : Arguments} {body : List Stmt} {scope : Scope} {dV kV doc pm cdv ct oc : Value} {an od : Option Addr}
    {osl : Array (Option Value)} {N ps : List Str} {sp : Sp} (lk : K.lookup f = some ⟨oc, od, .func (PySem.W.fnOf name qual params body scope dV kV doc pm an cdv ct), osl⟩) (hcd : PySem.W.codeIn K cdv qual = true) (S : FnScope N ps scope)
    (len : ∀ vs H Q E, sp vs H Q E → vs.length = ps.length)
    (hbody : ∀ (A : Around) (outer : List Env) (s : Shared) (H : Hp) (vs : List V) (Q : VK) (E : XK), Room k (A.deeper (envOfC qual scope s.heap.objs.size f cdv)) → sp vs H Q E →
      ∃ t, PSs (cxOf CX P w K mg base N qual scope f cdv A outer s H E) body t ∧ t { nx := fun _ H' => Q .non H', rt := Q } (start N vs) H) :
    FnOk P w K mg base CX (k + 1) f (PySem.W.fnOf name qual params body scope dV kV doc pm an cdv ct) ps sp := by
  refine ⟨len, fun A outer s H args us vs Q E hr e0 hb r hsp => ?_⟩
  have hl := len _ _ _ _ hsp
  have KX : K.In s.heap := e0.mod.kin.keeps fun b o e => (e0.bs b o e).1
  have lim : s.heap.NoLimit := e0.mod.nolimit.keeps fun b o e => (e0.bs b o e).1
  have hkind : ∀ y ∈ ps.zip us, scope.names.lookup y.1 = some .local ∨ (scope.names.lookup y.1 = some .cell ∧ ((cellsFrom (s.heap.objs.size + 1) scope.names []).lookup y.1).isSome = true) := fun ⟨n, v⟩ hy => by
    rcases S.par n (List.of_mem_zip hy).1 with q | q
    · exact .inl q
    · exact .inr ⟨q, PySem.W.cellsFrom_some _ _ _ (.inl q)⟩
  refine codeAny_call_function hr.depth (KX _ _ lk) rfl S.co S.gen rfl (PySem.W.codeRec_of KX hcd) (hb _ _ _ _ ?_)
  refine wpAny_newFunctionEnv_cells S.kind hkind fun env he s1 x => ?_
  subst he
  refine ⟨lim.keeps x.toInCall.keep, codeAny_func ?_⟩
  obtain ⟨t, ht, hq⟩ := hbody A outer s H vs Q E (hr.deeper _) hsp
  have I : Inv (cxOf CX P w K mg base N qual scope f cdv A outer s H E) [] (start N vs) H s1 := inv_start S hr.hd e0 hl r x
  refine wpAny_mono (ht [] s1 (start N vs) H _ I hq) (fun fl s' hs => ?_) fun e s' hs => hs
  have fin : ∀ {σ' : St} {H' : Hp} {v : V} {u : Value}, Inv (cxOf CX P w K mg base N qual scope f cdv A outer s H E) [] σ' H' s' → RelV v u → Q v H' → CE outer P w H s Q u s' :=
    fun {σ' H' v u} J rv q => ⟨v, H', J.os, J.bare, J.base, J.hok, rv, q⟩
  cases fl with
  | ret u =>
    obtain ⟨v, σ', H', J, rv, q⟩ := hs
    exact fin J rv q
  | next =>
    obtain ⟨σ', H', J, q⟩ := hs
    exact fin (v := V.non) (u := Value.none) J rfl q
  | brk =>
    obtain ⟨_, _, _, q⟩ := hs
    exact False.elim q
  | cont =>
    obtain ⟨_, _, _, q⟩ := hs
    exact False.elim q
end L2

namespace L2
open PySem PySem.Spec PyProof.Rows
section
variable {X : Cx} {x : Str} {p pos : Pos} {e : Expr} {es : List Expr} {t : TA} {id T : String} {r : List V → Hp → VK → Prop}

def tCB (r : List V → Hp → VK → Prop) (t : TA) : TE := fun σ H Q => t σ H fun vs H1 => r vs H1 Q
/-- f(e, ..), f a built-in function -/
theorem pe_callB (hc : CallR X (.builtin id) r) (hg : Gl X x) (hm : X.mg x = none) (hv : bootBuiltins x = some (.builtin id)) (ha : PA X (e :: es) t) (hn : x ≠ "__name__" := by decide) (hdb : (x == ("__debug__" : Str)) = false := by decide)
    (he : starEach (e :: es) X.env = (false, eval e X.env) :: starEach es X.env := by rfl) (hpl : (backTo pos (starEach es X.env)).any (·.1) = false := by rfl) : PE X (.Call (.Name x p) (e :: es) [] pos) (tCB r t) := by
  intro pins s σ H Q I h
  refine wpAny_Call_Name_kw (ld_blt I hg hm hv ?_ hn hdb)
  exact PyProof.Rows.callWith_builtin1 (thn (ha pos pins s σ H _ I h) fun us s1 ⟨vs, H1, I1, r1, q1⟩ => hc pins s1 σ H1 vs us Q I1 r1 q1) he hpl
/-- T(e, ..), T a built-in type -/
theorem pe_callTy (hc : CallR X (.type T) r) (hg : Gl X x) (hm : X.mg x = none) (hv : bootBuiltins x = some (.type T)) (ha : PA X (e :: es) t) (hn : x ≠ "__name__" := by decide) (hdb : (x == ("__debug__" : Str)) = false := by decide)
    (he : starEach (e :: es) X.env = (false, eval e X.env) :: starEach es X.env := by rfl) (hpl : (backTo pos (starEach es X.env)).any (·.1) = false := by rfl) : PE X (.Call (.Name x p) (e :: es) [] pos) (tCB r t) := by
  intro pins s σ H Q I h
  refine wpAny_Call_Name_kw (ld_blt I hg hm hv ?_ hn hdb)
  exact PyProof.Rows.callWith_type1 (thn (ha pos pins s σ H _ I h) fun us s1 ⟨vs, H1, I1, r1, q1⟩ => hc pins s1 σ H1 vs us Q I1 r1 q1) he hpl
end
end L2

namespace HT
open PySem PyProof.Rows

/-- t < u of tuples of ints -/
def lexLt : List Int → List Int → Bool
  | [], [] => false
  | [], _ :: _ => true
  | _ :: _, [] => false
  | x :: xs, y :: ys => if x = y then lexLt xs ys else decide (x < y)
section
open PySem.SeqAt
open PySem.AutoSeq1 (wpAny_loadPart')
open PySem.MeetsSeq PySem.MeetsSeq2 PySem.MeetsSeq3

end

section
variable {prog : Program} {w : World} {A : Around} {E : Value → Shared → Prop} {s : Shared}

/-! ### t[a:b], not the whole -/
/-- a slice's bound as a place among n (d where it is left out) -/
def sIx (n d : Nat) : Option Int → Nat
  | none => d
  | some v => if v < 0 then (v + (n : Int)).toNat else min v.toNat n
end
end HT

namespace L2
open PySem PySem.Spec PyProof.Rows

/-! ### the parts of a slice -/
abbrev TO := St → Hp → (Option Int → Hp → Prop) → Prop
/-- a slice's part (left out, or an int) -/
def PO (X : Cx) (e : Option Expr) (t : TO) : Prop :=
  ∀ (pins : List (Addr × Obj)) (s : Shared) (σ : St) (H : Hp) (Q : Option Int → Hp → Prop), Inv X pins σ H s → t σ H Q →
    wpAny (model X.prog X.w) X.A (evalPart e X.env) (fun u s' => ∃ o H', Inv X pins σ H' s' ∧ IsPart u o ∧ Q o H') X.xe s
def tNoPart : TO := fun _ H Q => Q none H
def tPart (t : TE) : TO := fun σ H Q => t σ H fun x H1 => ∃ i, x = .int i ∧ Q (some i) H1

theorem intsAre_of {ns : List Int} : ∀ {us : List Value}, Vals (ns.map V.int) us → IntsAre us ns := by
  induction ns with
  | nil => intro us r; rw [List.map_nil] at r; cases r; exact .nil
  | cons n ns ih =>
    intro us r
    rw [List.map_cons] at r
    cases r with
    | cons r1 r2 =>
      obtain ⟨t, e⟩ := r1
      subst e
      exact .cons n t (ih r2)

section
variable {X : Cx} {e : Expr} {te : TE} {lo hi : Option Expr} {tl th : TO} {pos p2 : Pos}

theorem po_none : PO X none tNoPart := by
  intro pins s σ H Q I h
  rw [evalPart_none]
  exact wpAny_pure ⟨none, H, I, .none, h⟩
theorem po_some (h : PE X e te) : PO X (some e) (tPart te) := by
  intro pins s σ H Q I hw
  rw [evalPart_some]
  refine thn (h pins s σ H _ I hw) fun u s1 ⟨x, H1, I1, r1, q1⟩ => ?_
  obtain ⟨i, rfl, q⟩ := q1
  obtain ⟨t, rfl⟩ := r1
  exact ⟨some i, H1, I1, .int i t, q⟩

/-- what a slice of a value is, by values: the slice object stands at sl -/
def SlR (X : Cx) (r : V → Option Int → Option Int → Hp → VK → Prop) : Prop :=
  ∀ (pins : List (Addr × Obj)) (s : Shared) (σ : St) (H : Hp) (x : V) (v vl vu : Value) (lo hi : Option Int) (sl : Addr) (Q : VK), Inv X pins σ H s → RelV x v → s.heap.IsSliceOf sl vl vu .none → IsPart vl lo → IsPart vu hi → r x lo hi H Q →
    ∃ T id, typeLookup (.type T) "__getitem__" = pure (some (.builtin id)) ∧ s.TypeIs v T ∧ wpAny (model X.prog X.w) X.A (getItem v (.ref sl)) (EP X pins σ Q) X.xe s
def tSl (r : V → Option Int → Option Int → Hp → VK → Prop) (te : TE) (tl th : TO) : TE := fun σ H Q => te σ H fun x H1 => tl σ H1 fun l H2 => th σ H2 fun u H3 => r x l u H3 Q
/-- a[lo:hi], any a -/
theorem pe_slice {r : V → Option Int → Option Int → Hp → VK → Prop} (hr : SlR X r) (he : PE X e te) (hl : PO X lo tl) (hu : PO X hi th) : PE X (.Subscript e (.Slice lo hi none p2) pos) (tSl r te tl th) := by
  intro pins s σ H Q I h
  refine Subscript_ (thn (he pins s σ H _ I h) fun v s1 ⟨x, H1, I1, r1, q1⟩ => ?_)
  refine wpAny_Slice (thn (hl pins s1 σ H1 _ I1 q1) fun vl s2 ⟨l, H2, I2, pl, q2⟩ => thn (hu pins s2 σ H2 _ I2 q2) fun vu s3 ⟨u, H3, I3, pu, q3⟩ => ?_)
  rw [evalPart_none]
  refine wpAny_pure ?_
  have I4 : Inv X pins σ H3 { s3 with heap := s3.heap.push { cls := .type "slice", data := .fields #[vl, vu, .none] } } := I3.kept (t' := s3.toks) fun b ob q => Heap.get?_push_of_some _ q
  obtain ⟨T, id, hT, ht, hg⟩ := hr pins { s3 with heap := s3.heap.push { cls := .type "slice", data := .fields #[vl, vu, .none] } } σ H3 x v vl vu l u s3.heap.objs.size Q I4 r1 (Heap.IsSliceOf.new ..) pl pu q3
  show wpAny (model X.prog X.w) X.A (subscriptTail e (.Slice lo hi none p2) v (.ref s3.heap.objs.size)) (EP X pins σ Q) X.xe { s3 with heap := s3.heap.push { cls := .type "slice", data := .fields #[vl, vu, .none] } }
  exact tail_any (ops := [.ref s3.heap.objs.size, v]) ht hT hg (by with_unfolding_all rfl)

/-- the items of xs[lo:hi] -/
def cutV (xs : List V) (lo hi : Option Int) : List V := (xs.drop (HT.sIx xs.length 0 lo)).take (HT.sIx xs.length xs.length hi - HT.sIx xs.length 0 lo)
theorem cutV_length (xs : List V) (lo hi : Option Int) : (cutV xs lo hi).length ≤ xs.length := by
  unfold cutV
  rw [List.length_take, List.length_drop]
  omega
/-- t[lo:hi], not the whole of it (the whole would be t itself) -/
def rSlT (K : PySem.W.Frag) : V → Option Int → Option Int → Hp → VK → Prop := fun x lo hi H Q => ∃ a xs, x = .ref a ∧ SqT K H a xs ∧
  ¬ (HT.sIx xs.length 0 lo = 0 ∧ HT.sIx xs.length xs.length hi = xs.length) ∧ ∀ p, H p = none → Q (.ref p) (upd H p (.tup (cutV xs lo hi)))
/-! ### t < u, t + u -/
def rLtT (K : PySem.W.Frag) : R2 := fun x y H Q => ∃ a b ns ms, x = .ref a ∧ y = .ref b ∧ SqT K H a (ns.map V.int) ∧ SqT K H b (ms.map V.int) ∧ Q (.bl (HT.lexLt ns ms)) H
/-- t + u, t not empty: u empty gives t itself -/
def rCatT (K : PySem.W.Frag) : R2 := fun x y H Q => ∃ a b xs ys, x = .ref a ∧ y = .ref b ∧ SqT K H a xs ∧ SqT K H b ys ∧ xs ≠ [] ∧ xs.length + ys.length ≤ sizeLine ∧
  (ys = [] → Q (.ref a) H) ∧ (ys ≠ [] → ∀ p, H p = none → Q (.ref p) (upd H p (.tup (xs ++ ys))))
end
end L2

namespace L2
open PySem PySem.Spec PyProof.Rows

/-! ### places -/
/-- the place that an index of any sign means -/
def ixN (n : Nat) (i : Int) : Option Nat := if 0 ≤ i then (if i < n then some i.toNat else none) else if -(n : Int) ≤ i then some (i + n).toNat else none
def atI {α : Type} (xs : List α) (i : Int) : Option α := (ixN xs.length i).bind fun j => xs[j]?
theorem ixN_seq {n : Nat} {i : Int} {j : Nat} (h : ixN n i = some j) : seqIndex? i n = some j ∧ j < n ∧ -(n : Int) ≤ i ∧ i < n := by
  unfold ixN at h
  by_cases h0 : 0 ≤ i
  · rw [if_pos h0] at h
    by_cases h1 : i < n
    · rw [if_pos h1] at h
      have e : i.toNat = j := Option.some.inj h
      exact ⟨by rw [seqIndex_of h0 h1, e], by omega, by omega, h1⟩
    · rw [if_neg h1] at h; cases h
  · rw [if_neg h0] at h
    by_cases h1 : -(n : Int) ≤ i
    · rw [if_pos h1] at h
      have e : (i + n).toNat = j := Option.some.inj h
      exact ⟨by rw [seqIndex_neg (by omega) h1, e], by omega, h1, by omega⟩
    · rw [if_neg h1] at h; cases h
theorem atI_get {α : Type} {xs : List α} {i : Int} {v : α} (h : atI xs i = some v) : ∃ j, seqIndex? i xs.length = some j ∧ xs[j]? = some v ∧ j < xs.length ∧ -(xs.length : Int) ≤ i ∧ i < xs.length := by
  unfold atI at h
  cases e : ixN xs.length i with
  | none => rw [e] at h; cases h
  | some j =>
    rw [e] at h
    obtain ⟨h1, h2, h3, h4⟩ := ixN_seq e
    exact ⟨j, h1, h, h2, h3, h4⟩
theorem atI_nat {α : Type} {xs : List α} {j : Nat} {v : α} (h : xs[j]? = some v) : atI xs (j : Int) = some v := by
  have hj : j < xs.length := (List.getElem?_eq_some_iff.mp h).1
  have e : ixN xs.length (j : Int) = some j := by
    unfold ixN
    rw [if_pos (by omega), if_pos (by omega)]; simp
  unfold atI; rw [e]; exact h
theorem atI_last {α : Type} (xs : List α) (v : α) : atI (xs ++ [v]) (-1) = some v := by
  have hl : (xs ++ [v]).length = xs.length + 1 := by simp
  have e : ixN (xs ++ [v]).length (-1) = some xs.length := by
    unfold ixN
    rw [hl, if_neg (by decide), if_pos (by omega)]
    congr 1
    omega
  unfold atI
  rw [e]
  show (xs ++ [v])[xs.length]? = some v
  simp

/-! ### what may be subscripted -/
/-- what stands as an index of a plain subscript -/
def PlainIx (b : Expr) : Prop := ∀ o i, subscripted b false o i = operate [o, i] (getItem o i)
/-- a subscript by values -/
def IxR (X : Cx) (r : R2) : Prop :=
  ∀ (value slice : Expr) (pins : List (Addr × Obj)) (s : Shared) (σ : St) (H : Hp) (x y : V) (v u : Value) (Q : VK), Inv X pins σ H s → RelV x v → RelV y u → r x y H Q →
    subscripted slice false v u = operate [v, u] (getItem v u) → wpAny (model X.prog X.w) X.A (subscriptTail value slice v u) (EP X pins σ Q) X.xe s
/-- a call of a builtin's method by values: the receiver, the arguments -/
def MtR (X : Cx) (id : String) (r : V → List V → Hp → VK → Prop) : Prop :=
  ∀ (pins : List (Addr × Obj)) (s : Shared) (σ : St) (H : Hp) (x : V) (xs : List V) (v : Value) (us : List Value) (Q : VK), Inv X pins σ H s → RelV x v → Vals xs us → r x xs H Q →
    wpAny (model X.prog X.w) X.A (call (.builtin id) (v :: us)) (EP X pins σ Q) X.xe s
section
variable {X : Cx} {a b : Expr} {ta tb : TE} {pos : Pos}
/-- a[b] -/
theorem pe_ix {r : R2} (hr : IxR X r) (ha : PE X a ta) (hb : PE X b tb) (hs : PlainIx b) : PE X (.Subscript a b pos) (tOp r ta tb) := by
  intro pins s σ H Q I h
  exact Subscript_ (binT ha hb I h fun v u s2 x y H2 I2 rx ry q => hr a b pins s2 σ H2 x y v u Q I2 rx ry q (hs _ _))

def rIxL (K : PySem.W.Frag) : R2 := fun x y H Q => ∃ p xs i v, x = .ref p ∧ y = .int i ∧ SqL K H p xs ∧ atI xs i = some v ∧ Q v H
def rIxT (K : PySem.W.Frag) : R2 := fun x y H Q => ∃ p xs i v, x = .ref p ∧ y = .int i ∧ SqT K H p xs ∧ atI xs i = some v ∧ Q v H
def rIxS : R2 := fun x y H Q => ∃ z i c, x = .str z ∧ y = .int i ∧ z.length ≤ sizeLine ∧ atI z.cps.toList i = some c ∧ Q (.str ⟨#[c]⟩) H
theorem ix_list : IxR X (rIxL X.K) := by
  intro value slice pins s σ H x y v u Q I rx ry h hs
  obtain ⟨p, xs, i, z, rfl, rfl, hq, he, q⟩ := h
  cases rx
  obtain ⟨t, rfl⟩ := ry
  obtain ⟨its, r, pl, hz⟩ := I.list hq
  obtain ⟨j, h1, h2, h3, h4, h5⟩ := atI_get he
  obtain ⟨w, ew, rw'⟩ := r.get h2
  have hl := r.length
  have hn := line63
  have fin : EP X pins σ Q w s := ⟨z, H, I, rw', q⟩
  by_cases h0 : 0 ≤ i
  · have hj : i.toNat = j := by
      rw [seqIndex_of h0 h5] at h1
      exact Option.some.inj h1
    exact item_listR pl.isList h0 (by omega) (by rw [hj]; simpa using ew) fin hs
  · have hj : (i + (its.toArray.size : Int)).toNat = j := by
      rw [seqIndex_neg (by omega) h4] at h1
      rw [List.size_toArray, ← hl]
      exact Option.some.inj h1
    exact subscriptTail_builtinR (x := w) pl.isList.typeIs slot_list_getitem.lookup
      (wpAny_getItem_list_neg (Q := fun r s' => r = w ∧ EP X pins σ Q r s') pl.isList (by omega) (by rw [List.size_toArray] <;> omega) (by omega) (by rw [hj]; simpa using ew) ⟨rfl, fin⟩) hs
/-- list, tuple or str -/
def rIx (K : PySem.W.Frag) : R2 := fun x y H Q => rIxL K x y H Q ∨ rIxT K x y H Q ∨ rIxS x y H Q
/-! ### xs[i] = v, any sign -/
def rSetL : V → V → V → Hp → (Hp → Prop) → Prop := fun o i v H Q => ∃ p xs k j, o = .ref p ∧ i = .int k ∧ H p = some (.lst xs) ∧ ixN xs.length k = some j ∧ Q (upd H p (.lst (xs.set j v)))
/-! ### slices -/
theorem slice_bounds (lo hi : Option Int) (n : Nat) : (sliceBounds lo hi none n).1 = ((HT.sIx n 0 lo : Nat) : Int) ∧ (sliceBounds lo hi none n).2.1 = ((HT.sIx n n hi : Nat) : Int) ∧ (sliceBounds lo hi none n).2.2 = 1 := by
  refine ⟨?_, ?_, rfl⟩
  · cases lo with
    | none => simp [sliceBounds, HT.sIx]
    | some i =>
      simp only [sliceBounds, HT.sIx, Option.getD_none, show (1 : Int) > 0 by decide, if_true]
      by_cases h : i < 0
      · simp only [h, if_true] <;> omega
      · simp only [h, if_false] <;> omega
  · cases hi with
    | none => simp [sliceBounds, HT.sIx]
    | some i =>
      simp only [sliceBounds, HT.sIx, Option.getD_none, show (1 : Int) > 0 by decide, if_true]
      by_cases h : i < 0
      · simp only [h, if_true] <;> omega
      · simp only [h, if_false] <;> omega
theorem slicePick_cut (its : List Value) (lo hi : Option Int) : slicePick its.toArray lo hi none = ((its.drop (HT.sIx its.length 0 lo)).take (HT.sIx its.length its.length hi - HT.sIx its.length 0 lo)).toArray := by
  obtain ⟨h1, h2, h3⟩ := slice_bounds lo hi its.toArray.size
  unfold slicePick
  rw [h1, h2, h3]
  simp only [sliceRange_one, pick_run, List.size_toArray] <;> rfl
/-- xs[lo:hi] of a list: a new list -/
def rSlL (K : PySem.W.Frag) : V → Option Int → Option Int → Hp → VK → Prop := fun x lo hi H Q => ∃ a xs, x = .ref a ∧ SqL K H a xs ∧ ∀ p, H p = none → Q (.ref p) (upd H p (.lst (cutV xs lo hi)))
theorem sl_list : SlR X (rSlL X.K) := by
  intro pins s σ H x v vl vu lo hi sl Q I rx hs pl pu h
  obtain ⟨a, xs, rfl, hx, q⟩ := h
  cases rx
  obtain ⟨its, r, ht, hz⟩ := I.list hx
  have hlen := r.length
  refine ⟨"list", _, slot_list_getitem.lookup, ht.isList.typeIs, ?_⟩
  refine wpAny_getItem_list_slice ht.isList hs pl pu .none (by simp) ?_ (by rw [List.size_toArray] <;> omega)
  rw [slicePick_cut, ← hlen]
  refine ⟨.ref s.heap.objs.size, _, I.laid (t' := s.toks) (o := .lst (cutV xs lo hi)) (fun b ob q => Heap.get?_push_of_some _ q) (Nat.le_refl _) ?_, rfl, q _ (I.hok.fresh (Nat.le_refl _))⟩
  exact ⟨Nat.le_trans (cutV_length xs lo hi) hz, _, 0, (r.drop (HT.sIx xs.length 0 lo)).take (HT.sIx xs.length xs.length hi - HT.sIx xs.length 0 lo), Heap.get?_push_size _ rfl⟩

/-! ### in, not in: flat items -/
def flatV : V → Bool
  | .non => true
  | .bl _ => true
  | .int _ => true
  | .str _ => true
  | _ => false
/-- == of flat values -/
def eqV : V → V → Bool
  | .non, .non => true
  | .bl a, .bl b => a == b
  | .bl a, .int b => (if a then 1 else 0) == b
  | .int a, .bl b => a == (if b then 1 else 0)
  | .int a, .int b => a == b
  | .str a, .str b => a == b
  | _, _ => false
theorem eqAt_V {A : Around} {s : Shared} {y x : V} {u v : Value} (ry : RelV y u) (rx : RelV x v) (fy : flatV y = true) (fx : flatV x = true) : SeqAt.EqAt A s u v (eqV y x) := by
  cases y with
  | non =>
    cases ry
    cases x with
    | non => cases rx; exact SeqAt.EqAt.same _
    | bl b => cases rx; exact SeqAt.EqAt.none_bool b
    | int b => obtain ⟨t, rfl⟩ := rx; exact SeqAt.EqAt.none_int b t
    | str b => obtain ⟨t, rfl⟩ := rx; exact SeqAt.EqAt.none_str b t
    | _ => exact absurd (show false = true from fx) Bool.false_ne_true
  | bl a =>
    cases ry
    cases x with
    | non => cases rx; exact SeqAt.EqAt.bool_none a
    | bl b => cases rx; exact SeqAt.EqAt.bool_bool a b
    | int b => obtain ⟨t, rfl⟩ := rx; exact SeqAt.EqAt.bool_int a b t
    | str b => obtain ⟨t, rfl⟩ := rx; exact SeqAt.EqAt.bool_str a b t
    | _ => exact absurd (show false = true from fx) Bool.false_ne_true
  | int a =>
    obtain ⟨t', rfl⟩ := ry
    cases x with
    | non => cases rx; exact SeqAt.EqAt.int_none a t'
    | bl b => cases rx; exact SeqAt.EqAt.int_bool a t' b
    | int b => obtain ⟨t, rfl⟩ := rx; exact SeqAt.EqAt.int_int a t' b t
    | str b => obtain ⟨t, rfl⟩ := rx; exact SeqAt.EqAt.int_str a t' b t
    | _ => exact absurd (show false = true from fx) Bool.false_ne_true
  | str a =>
    obtain ⟨t', rfl⟩ := ry
    cases x with
    | non => cases rx; exact SeqAt.EqAt.str_none a t'
    | bl b => cases rx; exact SeqAt.EqAt.str_bool a t' b
    | int b => obtain ⟨t, rfl⟩ := rx; exact SeqAt.EqAt.str_int a t' b t
    | str b => obtain ⟨t, rfl⟩ := rx; exact SeqAt.EqAt.str_str a t' b t
    | _ => exact absurd (show false = true from fx) Bool.false_ne_true
  | _ => exact absurd (show false = true from fy) Bool.false_ne_true
/-- the items' answers, read off the values (a value's own answer does not lean on its token) -/
def eqU (x : V) (u : Value) : Bool := match u with
  | .none => eqV .non x
  | .bool b => eqV (.bl b) x
  | .int i _ => eqV (.int i) x
  | .str z _ => eqV (.str z) x
  | _ => false
theorem eqU_of {x y : V} {u : Value} (r : RelV y u) (f : flatV y = true) : eqU x u = eqV y x := by
  cases y with
  | non => cases r; rfl
  | bl b => cases r; rfl
  | int i => obtain ⟨t, rfl⟩ := r; rfl
  | str z => obtain ⟨t, rfl⟩ := r; rfl
  | _ => exact absurd (show false = true from f) Bool.false_ne_true
theorem any_eqU {x : V} : ∀ {xs : List V} {us : List Value}, Vals xs us → xs.all flatV = true → us.any (eqU x) = xs.any fun y => eqV y x
  | _, _, .nil, _ => rfl
  | y :: xs, u :: us, .cons r t, f => by
    rw [List.all_cons, Bool.and_eq_true] at f
    rw [List.any_cons, List.any_cons, eqU_of r f.1, any_eqU t f.2]
theorem mem_eqAt {A : Around} {s : Shared} {x : V} {v : Value} (rx : RelV x v) (fx : flatV x = true) : ∀ {xs : List V} {us : List Value}, Vals xs us → xs.all flatV = true → ∀ u ∈ us, SeqAt.EqAt A s u v (eqU x u)
  | _, _, .nil, _ => fun u hu => by cases hu
  | y :: xs, u :: us, .cons r t, f => fun u' hu => by
    rw [List.all_cons, Bool.and_eq_true] at f
    rcases List.mem_cons.mp hu with rfl | hu
    · rw [eqU_of r f.1]; exact eqAt_V r rx f.1 fx
    · exact mem_eqAt rx fx t f.2 u' hu
def inV (x : V) (xs : List V) : Bool := xs.any fun y => eqV y x
/-- x in a list or tuple of flat items -/
def rIn (K : PySem.W.Frag) (neg : Bool) : R2 := fun x y H Q => ∃ p xs, y = .ref p ∧ (SqL K H p xs ∨ SqT K H p xs) ∧ flatV x = true ∧ xs.all flatV = true ∧ Q (.bl (if neg then !inV x xs else inV x xs)) H
theorem op_in_seq : OpR X (compareOp .In) (rIn X.K false) := by
  intro pins s σ H x y v u Q I rx ry h
  obtain ⟨p, xs, rfl, hq, fx, fs, q⟩ := h
  cases ry
  rcases hq with hq | hq
  · obtain ⟨its, r, pl, hz⟩ := I.list hq
    refine SeqAt.in_listAt (eqU x) pl.isList (fun w hw => mem_eqAt rx fx r fs w (by simpa using hw)) ⟨.bl _, H, I, rfl, ?_⟩
    rw [show its.toArray.any (eqU x) = its.any (eqU x) by simp, any_eqU r fs]
    exact q
  · obtain ⟨its, r, pl, hz⟩ := I.tuple hq
    refine SeqAt.in_tupleAt (eqU x) pl (fun w hw => mem_eqAt rx fx r fs w (by simpa using hw)) ⟨.bl _, H, I, rfl, ?_⟩
    rw [show its.toArray.any (eqU x) = its.any (eqU x) by simp, any_eqU r fs]
    exact q
/-! ### len, list(x), tuple(x) of any list or tuple that is read -/
theorem call_len_seq : CallR X (.builtin "len") (fun xs H Q => ∃ p ys, xs = [.ref p] ∧ (SqL X.K H p ys ∨ SqT X.K H p ys) ∧ Q (.int ys.length) H) := by
  intro pins s σ H xs us Q I r h
  obtain ⟨p, ys, rfl, hq, q⟩ := h
  obtain ⟨u, rfl, rx⟩ := vals1 r
  cases rx
  have hn := line63
  rcases hq with hq | hq
  · obtain ⟨its, r', pl, hz⟩ := I.list hq
    have hlen := r'.length
    exact Calls.call_len_list pl.isList (by simp only [List.size_toArray] <;> omega) ⟨.int ys.length, H, I.tok _, ⟨s.toks + 1, by rw [List.size_toArray, hlen]⟩, q⟩
  · obtain ⟨its, r', pl, hz⟩ := I.tuple hq
    have hlen := r'.length
    exact len_tuple pl (by simp only [List.size_toArray] <;> omega) ⟨.int ys.length, H, I.tok _, ⟨s.toks + 1, by rw [List.size_toArray, hlen]⟩, q⟩
/-! ### the call of a builtin's method: o.m(..) -/
/-- the value is of that builtin type -/
def tyV (K : PySem.W.Frag) (T : String) (x : V) (H : Hp) : Prop := match x with
  | .str _ => T = "str"
  | .int _ => T = "int"
  | .ref p => (T = "list" ∧ ∃ xs, SqL K H p xs) ∨ (T = "tuple" ∧ ∃ o, K.lookup p = some o ∧ o.cls = .type "tuple" ∧ o.dict = none) ∨
      (T = "dict" ∧ ((∃ kvs, H p = some (.dK kvs)) ∨ ∃ kvs, H p = some (.dT kvs))) ∨ (T = "set" ∧ ∃ S n, H p = some (.set S n))
  | _ => False
theorem tyV_is {pins : List (Addr × Obj)} {σ : St} {H : Hp} {s : Shared} {T : String} {x : V} {v : Value} (I : Inv X pins σ H s) (r : RelV x v) (ty : tyV X.K T x H) :
    s.TypeIs v T ∧ ∀ a, v = .ref a → ∃ ob, s.heap.get? a = some ob ∧ ob.dict = none := by
  cases x with
  | str z =>
    obtain ⟨t, rfl⟩ := r
    cases (show T = "str" from ty)
    exact ⟨typeIs_str s z t, fun _ e => nomatch e⟩
  | int i =>
    obtain ⟨t, rfl⟩ := r
    cases (show T = "int" from ty)
    exact ⟨typeIs_int s i t, fun _ e => nomatch e⟩
  | ref p =>
    cases r
    rcases ty with ⟨rfl, xs, hq⟩ | ⟨rfl, o, hk, hc, hd⟩ | ⟨rfl, hk⟩ | ⟨rfl, S, n, hk⟩
    · obtain ⟨its, _, pl, _⟩ := I.list hq
      refine ⟨pl.isList.typeIs, fun a e => ?_⟩
      cases e
      obtain ⟨o, n, e, c, hd, _⟩ := pl
      exact ⟨o, e, hd⟩
    · refine ⟨⟨o, I.kIn p o hk, hc⟩, fun a e => ?_⟩
      cases e
      exact ⟨o, I.kIn _ o hk, hd⟩
    · have z : ∃ o, s.heap.get? p = some o ∧ o.ExactDict := by
        rcases hk with ⟨kvs, hk⟩ | ⟨kvs, hk⟩
        · obtain ⟨_, _, _, _, o, _, _, e, ex, _⟩ := I.hok p _ hk
          exact ⟨o, e, ex⟩
        · obtain ⟨_, _, _, _, o, _, _, e, ex, _⟩ := I.hok p _ hk
          exact ⟨o, e, ex⟩
      obtain ⟨o, e, ex⟩ := z
      refine ⟨⟨o, e, ex.1⟩, fun a e2 => ?_⟩
      cases e2
      exact ⟨o, e, ex.2.1⟩
    · obtain ⟨o, _, _, _, e, ex, _⟩ := I.hok p _ hk
      refine ⟨⟨o, e, ex.1⟩, fun a e2 => ?_⟩
      cases e2
      exact ⟨o, e, ex.2.1⟩
  | _ => exact False.elim ty
def tBM0 (K : PySem.W.Frag) (T : String) (r : V → List V → Hp → VK → Prop) (to : TE) : TE := fun σ H Q => to σ H fun x H1 => tyV K T x H1 ∧ r x [] H1 Q
def tBM (K : PySem.W.Frag) (T : String) (r : V → List V → Hp → VK → Prop) (to : TE) (t : TA) : TE := fun σ H Q => to σ H fun x H1 => tyV K T x H1 ∧ t σ H1 fun xs H2 => r x xs H2 Q
variable {o e : Expr} {es : List Expr} {to : TE} {t : TA} {name : Str} {apos cpos : Pos} {T id : String} {r : V → List V → Hp → VK → Prop}
theorem pe_bm (pa : PlainAttrs T) (slot : Slot T name id) (hty : typeOf (.builtin id) = pure (.type "method_descriptor")) (hm : MtR X id r) (ho : PE X o to) (ha : PA X (e :: es) t)
    (hbase : attributeBase o name X.env (eval o X.env) = eval o X.env := by rfl)
    (hfew : ((backTo cpos (starEach (e :: es) X.env)).all (fun x => !x.1) && (backToKw cpos (keywordEach [] X.env)).all (fun x => x.1.isSome)
      && decide ((e :: es).length + ([] : List Keyword).length + (if ([] : List Keyword).isEmpty then 0 else 1) < 30)) = true := by rfl)
    (hline : (apos.endLine == cpos.line) = true := by rfl) (hs : starEach (e :: es) X.env = (false, eval e X.env) :: starEach es X.env := by rfl) (hplain : (backTo cpos (starEach es X.env)).any (·.1) = false := by rfl) :
    PE X (.Call (.Attribute o name apos) (e :: es) [] cpos) (tBM X.K T r to t) := by
  intro pins s σ H Q I h
  refine wpAny_Call_method_late hbase hfew hline rfl (thn (ho pins s σ H _ I h) fun v s1 ⟨x, H1, I1, r1, ty, q1⟩ => ?_)
  obtain ⟨h1, h2⟩ := tyV_is I1 r1 ty
  refine ⟨T, id, pa, slot, hty, h1, h2, ?_⟩
  have hA := ha cpos pins s1 σ H1 _ I1 q1
  rw [hs] at hA ⊢
  refine Calls.callWith_builtin (by show (false || (backTo cpos (starEach es X.env)).any (·.1)) = false; rw [hplain] <;> rfl) (Calls.evalArgs_plain ?_)
  exact thn hA fun us s2 ⟨vs, H2, I2, r2, q2⟩ => hm pins s2 σ H2 x vs v us Q I2 r1 r2 q2
/- xs.append(e), list.index on a module's tuple .. are MtR facts of 06m -/
end
end L2

namespace L2
open PySem PySem.Spec PyProof.Rows

def MtM (X : Cx) (id : String) (r : V → List V → Hp → VK → Prop) : Prop :=
  ∀ (pins : List (Addr × Obj)) (s : Shared) (σ : St) (H : Hp) (x : V) (xs : List V) (v : Value) (us : List Value) (Q : VK), Inv X pins σ H s → RelV x v → Vals xs us → r x xs H Q →
    wpAny (model X.prog X.w) X.A (call (.builtin id) (v :: us)) (EP X pins σ Q) X.xe s

/-! ### lists of values -/
theorem Vals.one : ∀ {x : V} {us : List Value}, Vals [x] us → ∃ u, us = [u] ∧ RelV x u
  | _, _, .cons r .nil => ⟨_, rfl, r⟩
section
variable {X : Cx} {pins : List (Addr × Obj)} {σ : St} {H : Hp} {s : Shared} {l b : Addr} {xs ys zs : List V}

/-! ### the two steps: a tracked list is rewritten, a new list is laid -/
theorem Inv.lset {its its' : List Value} {n : Nat} {f : Array Value → Array Value} {t' : Nat} (I : Inv X pins σ H s) (hH : H l = some (.lst xs))
    (e : s.heap.get? l = some { cls := .type "list", data := .seq its.toArray n }) (hf : f its.toArray = its'.toArray) (hv : Vals ys its') (hz : ys.length ≤ sizeLine) :
    Inv X pins σ (upd H l (.lst ys)) { s with heap := s.heap.update l (Obj.mapSeq f), toks := t' } := by
  have q := PySem.IsL.update e f
  rw [hf] at q
  refine I.write (x := l) (e := l) (by rw [hH]; exact trivial) (.inl rfl) (fun b' u hb hu => (Heap.get?_update_other s.heap (Obj.mapSeq f) (Ne.symm hb)).trans hu) ⟨_, q⟩ ?_
  exact ⟨hz, its', _, hv, q⟩
theorem Inv.lnew {its : List Value} {t' : Nat} (I : Inv X pins σ H s) (hv : Vals ys its) (hz : ys.length ≤ sizeLine) :
    Inv X pins σ (upd H s.heap.objs.size (.lst ys)) { s with heap := s.heap.push { cls := .type "list", data := .seq its.toArray }, toks := t' } :=
  I.laid (fun _ _ q => Heap.get?_push_of_some _ q) (Nat.le_refl _) ⟨hz, its, 0, hv, Heap.get?_push_size _ rfl⟩
theorem Inv.fresh (I : Inv X pins σ H s) : H s.heap.objs.size = none := I.hok.fresh (Nat.le_refl _)
theorem Inv.lstM (I : Inv X pins σ H s) (hH : H l = some (.lst xs)) : xs.length ≤ sizeLine ∧ ∃ (its : List Value) (n : Nat), Vals xs its ∧ xs.length = its.length ∧ s.heap.get? l = some { cls := .type "list", data := .seq its.toArray n } := by
  obtain ⟨z, its, n, r, e⟩ := I.hok l _ hH
  exact ⟨z, its, n, r, r.length, e⟩

theorem notLongL {n : Nat} (h : n ≤ sizeLine) : Builtin.List.listTooLong n = false := by
  unfold Builtin.List.listTooLong
  exact decide_eq_false (by omega)
end

section
variable {X : Cx}

/-! ### methods -/
def rAppend : V → List V → Hp → VK → Prop := fun x vs H Q => ∃ l xs y, x = .ref l ∧ vs = [y] ∧ H l = some (.lst xs) ∧ xs.length < sizeLine ∧ Q .non (upd H l (.lst (xs ++ [y])))
theorem mt_append : MtM X "list.append" rAppend := by
  intro pins s σ H x vs v us Q I rx rv h
  obtain ⟨l, xs, y, rfl, rfl, hH, hz, q⟩ := h
  cases rx
  obtain ⟨u, rfl, ru⟩ := rv.one
  obtain ⟨z, its, n, r, hl, e⟩ := I.lstM hH
  refine call_meets F.slot_list_append ⟨_, e, rfl⟩ F.entry_list_append (F.args_list_append_2 _ _) (PySem.list_append l its.toArray n u (by rw [List.size_toArray]; omega)) ⟨e, ?_⟩
  refine ⟨.non, _, I.lset (its' := its ++ [u]) hH e (by simp) (r.append (.cons ru .nil)) ?_, rfl, q⟩
  rw [List.length_append, List.length_singleton]
  omega

def rExtend : V → List V → Hp → VK → Prop := fun x vs H Q => ∃ l b xs zs, x = .ref l ∧ vs = [.ref b] ∧ H l = some (.lst xs) ∧ H b = some (.lst zs) ∧ xs.length + zs.length ≤ sizeLine ∧ Q .non (upd H l (.lst (xs ++ zs)))
theorem mt_extend : MtM X "list.extend" rExtend := by
  intro pins s σ H x vs v us Q I rx rv h
  obtain ⟨l, b, xs, zs, rfl, rfl, hH, hB, hz, q⟩ := h
  cases rx
  obtain ⟨u, rfl, ru⟩ := rv.one
  cases ru
  obtain ⟨z, its, n, r, hl, e⟩ := I.lstM hH
  obtain ⟨z2, its2, n2, r2, hl2, e2⟩ := I.lstM hB
  have hsz : its.toArray.size + its2.toArray.size ≤ sizeLine := by rw [List.size_toArray, List.size_toArray]; omega
  have hlong : ¬ (!its.toArray.isEmpty && Builtin.List.listTooLong (its.toArray.size + its2.toArray.size)) = true := by
    rw [notLongL hsz, Bool.and_false]
    exact Bool.false_ne_true
  refine call_meets F.slot_list_extend ⟨_, e, rfl⟩ F.entry_list_extend (F.args_list_extend_2 _ _)
    (AutoSeq1.list_extend_list_list_0 l its.toArray n b its2.toArray n2 hlong (by rw [List.size_toArray]; omega) (by omega)) ⟨e, e2, ?_⟩
  refine ⟨.non, _, I.lset (its' := its ++ its2) hH e (by simp) (r.append r2) ?_, rfl, q⟩
  rw [List.length_append]
  omega

def rPop : V → List V → Hp → VK → Prop := fun x vs H Q => ∃ l xs y, x = .ref l ∧ vs = [] ∧ H l = some (.lst xs) ∧ xs[xs.length - 1]? = some y ∧ Q y (upd H l (.lst xs.dropLast))
def rPopAt : V → List V → Hp → VK → Prop := fun x vs H Q => ∃ l xs i k y, x = .ref l ∧ vs = [.int i] ∧ H l = some (.lst xs) ∧ -(2 ^ 63) ≤ i ∧ i < 2 ^ 63 ∧ seqIndex? i xs.length = some k ∧ xs[k]? = some y ∧ Q y (upd H l (.lst (xs.eraseIdx k)))
def rReverse : V → List V → Hp → VK → Prop := fun x vs H Q => ∃ l xs, x = .ref l ∧ vs = [] ∧ H l = some (.lst xs) ∧ Q .non (upd H l (.lst xs.reverse))
def rClear : V → List V → Hp → VK → Prop := fun x vs H Q => ∃ l xs, x = .ref l ∧ vs = [] ∧ H l = some (.lst xs) ∧ Q .non (upd H l (.lst []))
/-! ### list + list, list += list, list * int -/
def rCat : R2 := fun x y H Q => ∃ l b xs zs, x = .ref l ∧ y = .ref b ∧ H l = some (.lst xs) ∧ H b = some (.lst zs) ∧ xs.length + zs.length ≤ sizeLine ∧ ∀ p, H p = none → Q (.ref p) (upd H p (.lst (xs ++ zs)))
theorem op_cat : OpR X (binaryOp .Add) rCat := by
  intro pins s σ H x y v u Q I rx ry h
  obtain ⟨l, b, xs, zs, rfl, rfl, hH, hB, hz, q⟩ := h
  cases rx
  cases ry
  obtain ⟨z, its, n, r, hl, e⟩ := I.lstM hH
  obtain ⟨z2, its2, n2, r2, hl2, e2⟩ := I.lstM hB
  refine PySem.P.add_list e e2 ?_ (by rw [List.size_toArray, List.size_toArray]; omega)
  have ea : its.toArray ++ its2.toArray = (its ++ its2).toArray := by simp
  rw [ea]
  exact ⟨.ref _, _, I.lnew (t' := s.toks) (r.append r2) (by rw [List.length_append]; omega), rfl, q _ I.fresh⟩
/-- a list times an int (a negative one is nothing) -/
def rRep : R2 := fun x y H Q => ∃ l k xs, x = .ref l ∧ y = .int k ∧ H l = some (.lst xs) ∧ -(2 ^ 63) ≤ k ∧ k < 2 ^ 63 ∧ xs.length * k.toNat ≤ sizeLine ∧
  ∀ p, H p = none → Q (.ref p) (upd H p (.lst (List.replicate k.toNat xs).flatten))
/-! ### del xs[i] -/
end

/-! ### xs[a:b] = ys -/
section
variable {prog : Program} {w : World} {A : Around} {E : Value → Shared → Prop} {s : Shared}
set_option maxRecDepth 100000 in
end

section
variable {X : Cx}
end
end L2

namespace L2
open PySem PySem.Spec PyProof.Rows

theorem vals_of_ints : ∀ {us : List Value} {ns : List Int}, IntsAre us ns → Vals (ns.map V.int) us
  | _, _, .nil => by rw [List.map_nil]; exact Paired.nil
  | _, _, .cons n t h => by rw [List.map_cons]; exact Paired.cons (show RelV (V.int n) (Value.int n t) from ⟨t, rfl⟩) (vals_of_ints h)
/-! ### the library's walks over a list of ints, kept objects alone -/
section
variable {prog : Program} {w : World} {A : Around} {E : Value → Shared → Prop} {s : Shared} {l : Addr} {its : List Value} {ns : List Int} {Q : Value → Shared → Prop}
end

/-! ### the calls, by values (CallR of 03t; MtR of 06l) -/
section
variable {X : Cx}
/-- sum(xs) of a list of ints -/
def rSum (K : PySem.W.Frag) : List V → Hp → VK → Prop := fun vs H Q => ∃ (a : Addr) (ns : List Int), vs = [V.ref a] ∧ SqL K H a (ns.map V.int) ∧ Q (.int ns.sum) H
/-- max(xs), min(xs) of a list of ints -/
def rMax (K : PySem.W.Frag) : List V → Hp → VK → Prop := fun vs H Q => ∃ (a : Addr) (ns : List Int), vs = [V.ref a] ∧ SqL K H a (ns.map V.int) ∧ 0 < ns.length ∧ ∀ m, m ∈ ns → (∀ y, y ∈ ns → y ≤ m) → Q (.int m) H
def rMin (K : PySem.W.Frag) : List V → Hp → VK → Prop := fun vs H Q => ∃ (a : Addr) (ns : List Int), vs = [V.ref a] ∧ SqL K H a (ns.map V.int) ∧ 0 < ns.length ∧ ∀ m, m ∈ ns → (∀ y, y ∈ ns → m ≤ y) → Q (.int m) H
/-! sorted, sort (fewer than 64 items: the library's own bound) -/
def rSorted (K : PySem.W.Frag) : List V → Hp → VK → Prop := fun vs H Q => ∃ (a : Addr) (ns : List Int), vs = [V.ref a] ∧ SqL K H a (ns.map V.int) ∧ ns.length < 64 ∧
  ∀ (ns' : List Int) (p : Addr), ns'.Perm ns → ns'.Pairwise (· ≤ ·) → H p = none → Q (.ref p) (upd H p (.lst (ns'.map V.int)))
def rSortedS (K : PySem.W.Frag) : List V → Hp → VK → Prop := fun vs H Q => ∃ (a : Addr) (xs : List Str), vs = [V.ref a] ∧ SqL K H a (xs.map V.str) ∧ xs.length < 64 ∧
  ∀ (ys : List Str) (p : Addr), ys.Perm xs → sortedS ys = true → H p = none → Q (.ref p) (upd H p (.lst (ys.map V.str)))
/-- xs.sort(), ints -/
def rSort : V → List V → Hp → VK → Prop := fun x xs H Q => ∃ (a : Addr) (ns : List Int), x = V.ref a ∧ xs = [] ∧ H a = some (.lst (ns.map V.int)) ∧ ns.length < 64 ∧
  ∀ ns' : List Int, ns'.Perm ns → ns'.Pairwise (· ≤ ·) → Q .non (upd H a (.lst (ns'.map V.int)))
end

/-! ### list.index, flat items -/
section
variable {X : Cx}
def rIndex (K : PySem.W.Frag) : V → List V → Hp → VK → Prop := fun x xs H Q => ∃ (a : Addr) (ys : List V) (y : V) (j : Nat) (z : V), x = V.ref a ∧ xs = [y] ∧ SqL K H a ys ∧ flatV y = true ∧ ys.all flatV = true ∧ ys[j]? = some z ∧ eqV z y = true ∧
  (∀ (m : Nat) (z' : V), m < j → ys[m]? = some z' → eqV z' y = false) ∧ Q (.int (j : Nat)) H
end

/-! ### type(x) of an own instance; is, is not of a module's class -/
section
variable {X : Cx}
end

/-! ### any(xs), all(xs) of a list of bools -/
section
variable {X : Cx}
def rAny (K : PySem.W.Frag) : List V → Hp → VK → Prop := fun vs H Q => ∃ (a : Addr) (bs : List Bool), vs = [V.ref a] ∧ SqL K H a (bs.map V.bl) ∧ Q (.bl (bs.any id)) H
def rAll (K : PySem.W.Frag) : List V → Hp → VK → Prop := fun vs H Q => ∃ (a : Addr) (bs : List Bool), vs = [V.ref a] ∧ SqL K H a (bs.map V.bl) ∧ Q (.bl (bs.all id)) H
end

/-! ### == and != of data at any depth: none, bools, ints, texts, lists, tuples -/
mutual
inductive Dp (K : PySem.W.Frag) (H : Hp) : V → PyData → Prop
  | non : Dp K H .non .none
  | bl (b : Bool) : Dp K H (.bl b) (.bool b)
  | int (i : Int) : Dp K H (.int i) (.int i)
  | str (x : Str) : Dp K H (.str x) (.str x)
  | lst {a : Addr} {xs : List V} {ds : List PyData} : SqL K H a xs → DpAll K H xs ds → Dp K H (.ref a) (.list ds)
  | tup {a : Addr} {xs : List V} {ds : List PyData} : SqT K H a xs → DpAll K H xs ds → Dp K H (.ref a) (.tuple ds)
inductive DpAll (K : PySem.W.Frag) (H : Hp) : List V → List PyData → Prop
  | nil : DpAll K H [] []
  | cons {v : V} {vs : List V} {d : PyData} {ds : List PyData} : Dp K H v d → DpAll K H vs ds → DpAll K H (v :: vs) (d :: ds)
end
section
variable {X : Cx} {pins : List (Addr × Obj)} {σ : St} {H : Hp} {s : Shared}
end
section
variable {X : Cx}
def rEqD (K : PySem.W.Frag) : R2 := fun x y H Q => ∃ d e, Dp K H x d ∧ Dp K H y e ∧ SeqAt.shaped d = true ∧ SeqAt.shaped e = true ∧ Q (.bl (PyData.eqv d e)) H
def rNeD (K : PySem.W.Frag) : R2 := fun x y H Q => ∃ d e, Dp K H x d ∧ Dp K H y e ∧ SeqAt.shaped d = true ∧ SeqAt.shaped e = true ∧ Q (.bl (!PyData.eqv d e)) H
end
end L2

namespace L2
open PySem PySem.Spec PyProof.Rows
abbrev CellAt (h : Heap) (c : Addr) (v : Option Value) : Prop := h.IsCell c v
def relS (scope sc : Scope) : Scope :=
  { scope with names := scope.names.map fun (n, k) => if (k == .free && sc.kind == .function && sc.names.lookup n == some .cell) then (n, .cell) else (n, k) }

def cloFrom (cells : List (Str × Addr)) : List (Str × NameKind) → List (Str × Addr) → List (Str × Addr)
  | [], acc => acc
  | (n, k) :: r, acc => if k == .free then cloFrom cells r ((n, (cells.lookup n).getD 0) :: acc) else cloFrom cells r acc

theorem closure_loop (env : Env) (f : Str × NameKind → List (Str × Addr) → Sem (ForInStep (List (Str × Addr))))
    (hf : ∀ n k c, f (n, k) c = if k == .free then (do let a ← cellOf env n; pure (.yield ((n, a) :: c))) else pure (.yield c)) :
    ∀ (names : List (Str × NameKind)) (acc : List (Str × Addr)), (∀ y ∈ names, y.2 = .free → ∃ c, env.cells.lookup y.1 = some c) → forIn names acc f = pure (cloFrom env.cells names acc)
  | [], acc, _ => by rw [List.forIn_nil]; rfl
  | (n, k) :: r, acc, h => by
    rw [List.forIn_cons, hf]
    have ih := fun acc => closure_loop env f hf r acc fun y hy => h y (List.mem_cons_of_mem _ hy)
    unfold cloFrom
    by_cases hk : (k == NameKind.free) = true
    · rw [if_pos hk, if_pos hk]
      obtain ⟨c, hc⟩ := h (n, k) List.mem_cons_self (by simpa using hk)
      have e : cellOf env n = pure c := by unfold cellOf; rw [hc]
      rw [e]
      have e2 : (env.cells.lookup n).getD 0 = c := by rw [hc]; rfl
      rw [e2]
      exact ih _
    · rw [if_neg hk, if_neg hk]
      exact ih _
theorem closure_ok {scope : Scope} {env : Env} (h : ∀ y ∈ scope.names, y.2 = .free → ∃ c, env.cells.lookup y.1 = some c) : closureFor scope env = pure (cloFrom env.cells scope.names []) := by
  simp only [closureFor]
  rw [closure_loop env _ (fun n k c => rfl) scope.names [] h]
  rfl

theorem mem_lookup {α : Type} : ∀ {l : List (Str × α)} {n : Str} {c : α}, (n, c) ∈ l → ∃ c', l.lookup n = some c'
  | (k, v) :: r, n, c, h => by
    rw [List.lookup_cons]
    cases hb : n == k with
    | true => exact ⟨_, rfl⟩
    | false =>
      rcases List.mem_cons.mp h with e | h
      · cases e; simp at hb
      · exact mem_lookup h

theorem cloFrom_mem {cells : List (Str × Addr)} : ∀ {names : List (Str × NameKind)} {acc : List (Str × Addr)} {n : Str} {c : Addr}, (n, c) ∈ cloFrom cells names acc → (n, c) ∈ acc ∨ ((n, .free) ∈ names ∧ c = (cells.lookup n).getD 0)
  | [], _, _, _, h => .inl h
  | (m, k) :: r, acc, n, c, h => by
    unfold cloFrom at h
    split at h
    · rename_i hk
      have hk : k = .free := by simpa using hk
      rcases cloFrom_mem h with h | ⟨h1, h2⟩
      · rcases List.mem_cons.mp h with e | h
        · cases e; exact .inr ⟨hk ▸ List.mem_cons_self, rfl⟩
        · exact .inl h
      · exact .inr ⟨List.mem_cons_of_mem _ h1, h2⟩
    · rcases cloFrom_mem h with h | ⟨h1, h2⟩
      · exact .inl h
      · exact .inr ⟨List.mem_cons_of_mem _ h1, h2⟩
theorem cloFrom_acc {cells : List (Str × Addr)} : ∀ {names : List (Str × NameKind)} {acc : List (Str × Addr)} {p : Str × Addr}, p ∈ acc → p ∈ cloFrom cells names acc
  | [], _, _, h => h
  | (m, k) :: r, acc, p, h => by
    unfold cloFrom
    split
    · exact cloFrom_acc (List.mem_cons_of_mem _ h)
    · exact cloFrom_acc h
theorem cloFrom_has {cells : List (Str × Addr)} : ∀ {names : List (Str × NameKind)} {acc : List (Str × Addr)} {n : Str}, (n, .free) ∈ names → (n, (cells.lookup n).getD 0) ∈ cloFrom cells names acc
  | (m, k) :: r, acc, n, h => by
    unfold cloFrom
    rcases List.mem_cons.mp h with e | h
    · cases e
      exact cloFrom_acc List.mem_cons_self
    · split
      · exact cloFrom_has h
      · exact cloFrom_has h

theorem cells_mem : ∀ {names : List (Str × NameKind)} {h : Heap} {acc : List (Str × Addr)} {x : Str} {c : Addr}, (x, c) ∈ cellsFrom h.objs.size names acc →
    (x, c) ∈ acc ∨ ((x, .cell) ∈ names ∧ h.objs.size ≤ c ∧ CellAt (pushCells h names) c none)
  | [], _, _, _, _, h => .inl h
  | (n, k) :: r, h, acc, x, c, hm => by
    unfold cellsFrom at hm
    unfold pushCells
    split at hm
    · rename_i hk
      rw [if_pos hk]
      have hk : k = .cell := by simpa using hk
      rw [← Heap.size_push h { cls := .type "cell", data := .cell none }] at hm
      rcases cells_mem hm with hm | ⟨h1, h2, h3⟩
      · rcases List.mem_cons.mp hm with e | hm
        · cases e
          exact .inr ⟨hk ▸ List.mem_cons_self, Nat.le_refl _, _, pushCells_keeps r _ _ _ (Heap.get?_push_size _ rfl), rfl⟩
        · exact .inl hm
      · rw [Heap.size_push] at h2
        exact .inr ⟨List.mem_cons_of_mem _ h1, Nat.le_of_succ_le h2, h3⟩
    · rename_i hk
      rw [if_neg hk]
      rcases cells_mem hm with hm | ⟨h1, h2, h3⟩
      · exact .inl hm
      · exact .inr ⟨List.mem_cons_of_mem _ h1, h2, h3⟩
theorem cells_acc : ∀ {names : List (Str × NameKind)} {n : Nat} {acc : List (Str × Addr)} {p : Str × Addr}, p ∈ acc → p ∈ cellsFrom n names acc
  | [], _, _, _, h => h
  | (m, k) :: r, n, acc, p, h => by
    unfold cellsFrom
    split
    · exact cells_acc (List.mem_cons_of_mem _ h)
    · exact cells_acc h
theorem cells_has : ∀ {names : List (Str × NameKind)} {n : Nat} {acc : List (Str × Addr)} {x : Str}, (x, .cell) ∈ names → ∃ c, (x, c) ∈ cellsFrom n names acc
  | (m, k) :: r, n, acc, x, h => by
    unfold cellsFrom
    rcases List.mem_cons.mp h with e | h
    · cases e
      exact ⟨n, cells_acc List.mem_cons_self⟩
    · split
      · exact cells_has h
      · exact cells_has h
theorem cells_inj : ∀ {names : List (Str × NameKind)} {h : Heap} {acc : List (Str × Addr)} {x y : Str} {c : Addr}, (∀ p ∈ acc, p.2 < h.objs.size) → (∀ x y c, (x, c) ∈ acc → (y, c) ∈ acc → x = y) →
    (x, c) ∈ cellsFrom h.objs.size names acc → (y, c) ∈ cellsFrom h.objs.size names acc → x = y
  | [], _, _, _, _, _, _, hi, h1, h2 => hi _ _ _ h1 h2
  | (n, k) :: r, h, acc, x, y, c, hl, hi, h1, h2 => by
    unfold cellsFrom at h1 h2
    split at h1
    · rename_i hk
      rw [if_pos hk] at h2
      rw [← Heap.size_push h { cls := .type "cell", data := .cell none }] at h1 h2
      refine cells_inj (h := h.push _) (fun p hp => ?_) (fun x y c a b => ?_) h1 h2
      · rw [Heap.size_push]
        rcases List.mem_cons.mp hp with rfl | hp
        · exact Nat.lt_succ_self _
        · exact Nat.lt_succ_of_lt (hl p hp)
      · rcases List.mem_cons.mp a with e | a <;> rcases List.mem_cons.mp b with e' | b
        · cases e; cases e'; rfl
        · cases e; exact absurd (hl _ b) (Nat.lt_irrefl _)
        · cases e'; exact absurd (hl _ a) (Nat.lt_irrefl _)
        · exact hi _ _ _ a b
    · rename_i hk
      rw [if_neg hk] at h2
      exact cells_inj hl hi h1 h2

theorem newEnv_comp {M : Model} {A : Around} {E : Value → Shared → Prop} {s : Shared} {scope : Scope} {globals : Addr} {closure : List (Str × Addr)} {qual : Str} {func : Option Addr} {code : Value} {around : Env} {builtins : Addr} {Q : Env → Shared → Prop}
    (h : Q (newEnv scope s.heap.objs.size globals (cellsFrom (s.heap.objs.size + 1) scope.names closure) qual func code (some around) builtins)
      { s with heap := pushCells (s.heap.push { cls := .type "dict", data := .dict #[] }) scope.names }) :
    wpAny M A (newFunctionEnv scope globals closure [] qual func code (some around) builtins) Q E s := by
  simp only [newFunctionEnv, Option.isSome_some, if_true]
  refine wpAny_bind (wpAny_alloc ?_)
  refine wpAny_bind (wpAny_layCells _ (fun n k c => rfl) scope.names closure _ _ ?_)
  rw [show ({ s with heap := s.heap.push { cls := .type "dict", data := .dict #[] } } : Shared).heap.objs.size = s.heap.objs.size + 1 from Heap.size_push ..]
  rw [List.forIn_nil]
  exact wpAny_bind (wpAny_pure (wpAny_pure h))

/-- every name of the written scope, in the scope that runs -/
theorem lookup_relS {sc : Scope} : ∀ {names : List (Str × NameKind)} {x : Str} {k : NameKind},
    (names.map fun (n, k) => if (k == NameKind.free && sc.kind == .function && sc.names.lookup n == some .cell) then (n, NameKind.cell) else (n, k)).lookup x = some k →
    ∃ k', names.lookup x = some k' ∧ (k = k' ∨ (k' = .free ∧ k = .cell))
  | [], _, _, h => by simp at h
  | (n, k₀) :: r, x, k, h => by
    have ih := @lookup_relS sc r x k
    have h' : List.lookup x ((if (k₀ == NameKind.free && sc.kind == .function && sc.names.lookup n == some .cell) = true then (n, NameKind.cell) else (n, k₀)) :: (r.map _)) = some k := h
    cases hx : x == n with
    | true =>
      simp only [List.lookup_cons, hx]
      by_cases hc : (k₀ == NameKind.free && sc.kind == .function && sc.names.lookup n == some .cell) = true
      · rw [if_pos hc] at h'
        simp only [List.lookup_cons, hx] at h'
        cases h'
        simp only [Bool.and_eq_true, beq_iff_eq] at hc
        exact ⟨k₀, rfl, .inr ⟨hc.1.1, rfl⟩⟩
      · rw [if_neg hc] at h'
        simp only [List.lookup_cons, hx] at h'
        cases h'
        exact ⟨_, rfl, .inl rfl⟩
    | false =>
      simp only [List.lookup_cons, hx]
      by_cases hc : (k₀ == NameKind.free && sc.kind == .function && sc.names.lookup n == some .cell) = true
      · rw [if_pos hc] at h'
        simp only [List.lookup_cons, hx] at h'
        exact ih h'
      · rw [if_neg hc] at h'
        simp only [List.lookup_cons, hx] at h'
        exact ih h'
/-- the names of a comprehension's block: its own (with their places in N), or captured -/
structure BlkOk (N : List Str) (sc scope : Scope) (own : List (Str × Nat)) : Prop where
  kind : scope.kind = .function
  uniq : ∀ y ∈ scope.names, scope.names.lookup y.1 = some y.2
  ix : ∀ p ∈ own, N[p.2]? = some p.1
  free : ∀ y ∈ scope.names, y.2 = .free → sc.names.lookup y.1 = some .cell ∨ sc.names.lookup y.1 = some .free
  own : ∀ y ∈ scope.names, y.2 = .local ∨ y.2 = .cell → y.1 ∈ own.map (·.1) ∨ y.1 ∉ N
/-- the slots of the block's own names forgotten -/
def wipe (σ : St) : List Nat → St
  | [] => σ
  | v :: vs => (wipe σ vs).set v none
theorem wipe_length (σ : St) : ∀ vs : List Nat, (wipe σ vs).length = σ.length
  | [] => rfl
  | v :: vs => by unfold wipe; rw [List.length_set, wipe_length σ vs]
theorem wipe_some {σ : St} {i : Nat} {x : V} : ∀ {vs : List Nat}, (wipe σ vs)[i]? = some (some x) → σ[i]? = some (some x) ∧ i ∉ vs
  | [], h => ⟨h, by simp⟩
  | v :: vs, h => by
    unfold wipe at h
    by_cases hi : v = i
    · subst hi
      by_cases hv : v < (wipe σ vs).length
      · rw [List.getElem?_set_self hv] at h; cases h
      · rw [List.getElem?_eq_none (by simpa using hv)] at h; cases h
    · rw [List.getElem?_set_ne hi] at h
      obtain ⟨h1, h2⟩ := wipe_some h
      exact ⟨h1, by simp only [List.mem_cons, not_or]; exact ⟨fun e => hi e.symm, h2⟩⟩

/-- the context of a block that starts at s, its iterator's objects at fp -/
abbrev Cx.blk (X : Cx) (s : Shared) (H : Hp) (scope : Scope) (cenv : Env) (fp : List Addr) : Cx := { X with s₀ := s, H₀ := H, env := cenv, outer := X.stack, ex := fp, fn := fun x => scope.names.lookup x == some .cell, pn := [], xe := fun _ _ => False }
section
variable {X : Cx} {pins : List (Addr × Obj)} {σ : St} {H : Hp} {s : Shared}
theorem block_start {scope : Scope} {own : List (Str × Nat)} {fp : List Addr} (I : Inv X pins σ H s) (ok : BlkOk X.N X.env.scope scope own) (hN : X.N.Nodup) (hfp : ∀ b ∈ fp, FpOk X pins H b ∧ b < s.heap.objs.size) :
    Inv (X.blk s H scope (compEnvC scope (cellsFrom (s.heap.objs.size + 1) scope.names (cloFrom X.env.cells scope.names [])) s.heap.objs.size X.env) fp) [] (wipe σ (own.map (·.2))) H { s with heap := pushCells (s.heap.push { cls := .type "dict", data := .dict #[] }) scope.names } := by
  have hfree : ∀ y ∈ scope.names, y.2 = .free → ∃ c, X.env.cells.lookup y.1 = some c := fun y hy e => by
    rcases ok.free y hy e with k | k
    · exact I.ok.has _ (.inl k)
    · exact I.ok.has _ (.inr k)
  generalize hcenv : compEnvC scope (cellsFrom (s.heap.objs.size + 1) scope.names (cloFrom X.env.cells scope.names [])) s.heap.objs.size X.env = cenv
  have kp : ∀ b o, s.heap.get? b = some o → (pushCells (s.heap.push { cls := .type "dict", data := .dict #[] }) scope.names).get? b = some o := fun b o e => pushCells_keeps _ _ _ _ (Heap.get?_push_of_some _ e)
  have hL : cenv.locals = s.heap.objs.size := by rw [← hcenv]; rfl
  have hcl : cenv.cells = cellsFrom (s.heap.objs.size + 1) scope.names (cloFrom X.env.cells scope.names []) := by rw [← hcenv]; rfl
  have hsc : cenv.scope = relS scope X.env.scope := by rw [← hcenv]; rfl
  rw [← Heap.size_push s.heap { cls := .type "dict", data := .dict #[] }] at hcl
  have cm : ∀ {y c}, (y, c) ∈ cloFrom X.env.cells scope.names [] → X.env.cells.lookup y = some c ∧ c < s.heap.objs.size := fun {y c} hm => by
    rcases cloFrom_mem hm with hm | ⟨h1, rfl⟩
    · cases hm
    · obtain ⟨c, hc⟩ := hfree _ h1 rfl
      rw [hc]
      obtain ⟨w, z⟩ := I.cell _ _ hc
      exact ⟨rfl, z.lt⟩
  have mem : ∀ {y c}, cenv.cells.lookup y = some c → (X.env.cells.lookup y = some c ∧ c < s.heap.objs.size) ∨ (s.heap.objs.size + 1 ≤ c ∧ CellAt (pushCells (s.heap.push { cls := .type "dict", data := .dict #[] }) scope.names) c none) := fun {y c} e => by
    rw [hcl] at e
    rcases cells_mem (PySem.mem_of_lookup e) with hm | ⟨_, h2, h3⟩
    · exact .inl (cm hm)
    · rw [Heap.size_push] at h2; exact .inr ⟨h2, h3⟩
  have look : ∀ {y}, scope.names.lookup y = some .free → ∃ c, cenv.cells.lookup y = some c ∧ X.env.cells.lookup y = some c := fun {y} hl => by
    have hy : (y, NameKind.free) ∈ scope.names := PySem.mem_of_lookup hl
    obtain ⟨c', e'⟩ := mem_lookup (cells_acc (names := scope.names) (n := (s.heap.push { cls := .type "dict", data := .dict #[] }).objs.size) (cloFrom_has (cells := X.env.cells) (acc := []) hy))
    rw [← hcl] at e'
    refine ⟨c', e', ?_⟩
    rw [hcl] at e'
    rcases cells_mem (PySem.mem_of_lookup e') with hm | ⟨h1, _, _⟩
    · exact (cm hm).1
    · have := ok.uniq _ h1
      rw [hl] at this; cases this
  have okB : (X.blk s H scope cenv fp).Ok := by
    refine ⟨I.ok.mod, by show cenv.scope.kind = _; rw [hsc]; exact ok.kind, by show cenv.globals = _; rw [← hcenv]; exact I.ok.glob, by show cenv.builtins = _; rw [← hcenv]; exact I.ok.blt, by show s.heap.objs.size ≤ cenv.locals; rw [hL]; exact Nat.le_refl _,
      fun y z c e1 e2 => ?_, fun y hy => ?_, fun y c z e => ?_, I.ok.hd, I.ok.frames, .inl rfl, fun b hb => ⟨?_, fun y c e z => ?_⟩, I.bs, Nat.le_trans I.ok.bsz I.sz, fun b o e hb => ?_, fun b hb z => ?_, I.stack, I.stkFree⟩
    · have e1 : cenv.cells.lookup y = some c := e1
      have e2 : cenv.cells.lookup z = some c := e2
      rw [hcl] at e1 e2
      refine cells_inj (fun p hp => ?_) (fun y z c a b => I.ok.inj y z c (cm a).1 (cm b).1) (PySem.mem_of_lookup e1) (PySem.mem_of_lookup e2)
      rw [Heap.size_push]
      exact Nat.lt_succ_of_lt (cm (y := p.1) (c := p.2) hp).2
    · show ∃ c, cenv.cells.lookup y = some c
      have key : ∀ k, cenv.kindOf y = some k → (k = .cell ∨ k = .free) → ∃ c, cenv.cells.lookup y = some c := fun k hk hk' => by
        unfold Env.kindOf at hk
        rw [hsc] at hk
        obtain ⟨k', e, r⟩ := lookup_relS hk
        have : k' = .cell ∨ k' = .free := by
          rcases r with rfl | ⟨rfl, _⟩
          · exact hk'
          · exact .inr rfl
        rcases this with rfl | rfl
        · obtain ⟨c, hm⟩ := cells_has (n := (s.heap.push { cls := .type "dict", data := .dict #[] }).objs.size) (acc := cloFrom X.env.cells scope.names []) (PySem.mem_of_lookup e)
          obtain ⟨c', e'⟩ := mem_lookup hm
          exact ⟨c', by rw [hcl]; exact e'⟩
        · obtain ⟨c, h1, _⟩ := look e
          exact ⟨c, h1⟩
      rcases hy with hy | hy
      · exact key _ hy (.inl rfl)
      · exact key _ hy (.inr rfl)
    · have z : (scope.names.lookup y == some NameKind.cell) = true := z
      have z : scope.names.lookup y = some .cell := by simpa using z
      have e : cenv.cells.lookup y = some c := e
      rw [hcl] at e
      rcases cells_mem (PySem.mem_of_lookup e) with hm | ⟨_, h2, _⟩
      · rcases cloFrom_mem hm with hm | ⟨h1, _⟩
        · cases hm
        · have q := ok.uniq _ h1
          rw [z] at q; cases q
      · rw [Heap.size_push] at h2
        exact Nat.le_of_succ_le h2
    · show b ≠ cenv.locals
      rw [hL]; exact Nat.ne_of_lt (hfp b hb).2
    · have e : cenv.cells.lookup y = some c := e
      rcases mem e with ⟨h1, _⟩ | ⟨h1, _⟩
      · exact (hfp b hb).1.2.2.2.2.1 y c h1 z
      · have h2 : s.heap.objs.size + 1 ≤ b := by rw [← z]; exact h1
        exact absurd (Nat.lt_of_lt_of_le (hfp b hb).2 (Nat.le_of_succ_le h2)) (Nat.lt_irrefl _)
    · rcases (hfp b hb).1.2.2.2.1 with z | z
      · exact I.ok.noex b o e z
      · exact absurd (Nat.lt_of_lt_of_le (Heap.lt_size e) (Nat.le_trans I.ok.bsz z)) (Nat.lt_irrefl _)
    · rcases List.mem_cons.mp (I.stkSub b z) with z | z
      · exact (hfp b hb).1.2.1 z
      · exact (hfp b hb).1.2.2.1 z
  refine ⟨okB, rfl, I.bare, Un.kept kp, ⟨fun _ => none, ?_, fun i y av e1 e2 e3 => ?_⟩, fun y c e => ?_, ?_, fun y c e => ?_, fun p hp => ?_, I.hok.kept kp, by rw [wipe_length]; exact I.len⟩
  · show Heap.Ns _ cenv.locals _
    rw [hL]
    exact Heap.Ns.keeps (Heap.Ns.new ..) fun b o e => pushCells_keeps _ _ _ _ e
  · obtain ⟨e2, hne⟩ := wipe_some e2
    have hfr : scope.names.lookup y = some .free ∧ (cenv.kindOf y = some .cell ∨ cenv.kindOf y = some .free) := by
      have key : ∀ k, cenv.scope.names.lookup y = some k → k = .local ∨ k = .cell ∨ k = .free → scope.names.lookup y = some .free ∧ (cenv.kindOf y = some .cell ∨ cenv.kindOf y = some .free) := fun k hk hk' => by
        have hk0 := hk
        rw [hsc] at hk
        obtain ⟨k', e, r⟩ := lookup_relS hk
        have no : ¬ (k' = .local ∨ k' = .cell) := fun hh => by
          rcases ok.own _ (PySem.mem_of_lookup e) hh with e' | e'
          · obtain ⟨p, hp, hpy⟩ := List.mem_map.mp e'
            have e3 := ok.ix p hp
            have : p.1 = y := hpy
            rw [this] at e3
            exact hne (List.mem_map.mpr ⟨p, hp, nodup_ix hN e3 e1⟩)
          · exact e' (List.mem_of_getElem? e1)
        rcases r with rfl | ⟨rfl, rfl⟩
        · rcases hk' with rfl | rfl | rfl
          · exact absurd (.inl rfl) no
          · exact absurd (.inr rfl) no
          · exact ⟨e, .inr hk0⟩
        · exact ⟨e, .inl hk0⟩
      have e3 : Vis cenv.scope y := e3
      rcases e3 with e3 | e3 | e3
      · exact key _ e3 (.inl rfl)
      · exact key _ e3 (.inr (.inl rfl))
      · exact key _ e3 (.inr (.inr rfl))
    obtain ⟨m, hn, hl⟩ := I.loc
    have hvis : Vis X.env.scope y := (ok.free _ (PySem.mem_of_lookup hfr.1) rfl).elim (fun k => .inr (.inl k)) (fun k => .inr (.inr k))
    obtain ⟨w, r, q⟩ := hl i y av e1 e2 hvis
    refine ⟨w, r, .inr ⟨hfr.2, ?_⟩⟩
    obtain ⟨c, h1, h2⟩ := look hfr.1
    rcases q with ⟨k, _⟩ | ⟨_, c', e', z⟩
    · have k : X.env.scope.names.lookup y = some .local := k
      rcases ok.free _ (PySem.mem_of_lookup hfr.1) rfl with k' | k' <;> rw [show X.env.scope.names.lookup y = _ from k'] at k <;> cases k
    · rw [h2] at e'; cases e'
      exact ⟨c, h1, z.keeps kp⟩
  · have e : cenv.cells.lookup y = some c := e
    rcases mem e with ⟨h1, _⟩ | ⟨_, z⟩
    · obtain ⟨w, z⟩ := I.cell y c h1
      exact ⟨w, z.keeps kp⟩
    · exact ⟨_, z⟩
  · show H cenv.locals = none
    rw [hL]; exact I.hok.fresh (Nat.le_refl _)
  · have e : cenv.cells.lookup y = some c := e
    rcases mem e with ⟨h1, _⟩ | ⟨h1, _⟩
    · exact I.freeC y c h1
    · exact I.hok.fresh (Nat.le_of_succ_le h1)
  · exact absurd (show p ∈ ([] : List (Addr × Obj)) ++ [] from hp) (by simp)

/-- an item appended to a tracked list -/
theorem app_ok {E : Value → Shared → Prop} {D : Addr} {xs : List V} {y : V} {v : Value} {Q : Value → Shared → Prop} (I : Inv X pins σ H s) (hD : H D = some (.lst xs)) (hz : xs.length < sizeLine) (r : RelV y v)
    (h : ∀ s', Inv X pins σ (upd H D (.lst (xs ++ [y]))) s' → Q .none s') : wpAny (model X.prog X.w) X.A (call (.builtin "list.append") [.ref D, v]) Q E s := by
  obtain ⟨hz', its, n, ri, e⟩ := I.hok D _ hD
  have hl := ri.length
  refine append_at (hsz := by rw [List.size_toArray]; omega) e fun h' sb ho' => ?_
  refine h { s with heap := h' } (I.write (t' := s.toks) (by rw [hD]; trivial) (.inl rfl) (fun b u hb q => (sb.2 b hb).trans q) ⟨_, ho'⟩ ⟨by rw [List.length_append]; exact hz, its ++ [v], n + 1, ri.append (.cons r .nil), ?_⟩)
  rw [ho']
  simp

/-- a clause's tests -/
def PTs (X : Cx) (ifs : List Expr) (t : TT) : Prop :=
  ∀ (pins : List (Addr × Obj)) (s : Shared) (σ : St) (H : Hp) (Q : Bool → Hp → Prop), Inv X pins σ H s → t σ H Q →
    wpAny (model X.prog X.w) X.A (forIn ifs true fun c r => if r = true then do let ok ← isTrue c X.env (eval c X.env); pure (ForInStep.yield ok) else pure (ForInStep.yield r)) (TP X pins σ Q) X.xe s
def tYes : TT := fun _ H Q => Q true H
theorem pts_nil : PTs X [] tYes := fun _ _ _ H _ I h => wpAny_tests_nil ⟨H, I, h⟩
theorem pts_one {c : Expr} {t : TT} (h : PT X c t) : PTs X [c] t := fun pins s σ H Q I hw => wpAny_tests_one (h pins s σ H Q I hw)
end

theorem thnF {α : Type} {t : Sem α} {Q Q' : α → Shared → Prop} {M : Model} {A : Around} {E : Value → Shared → Prop} {s : Shared} (h : wpAny M A t Q (fun _ _ => False) s) (hQ : ∀ a s, Q a s → Q' a s) : wpAny M A t Q' E s := wpAny_mono h hQ fun _ _ z => False.elim z

/-- the loop of a list comprehension's block, the target of any form (codeAny_compLoop_tests asks a target that no tuple goes to; statement and proof follow it, PyProof/CompMap.lean:41-61, with the step letOwnedTupleGo kept) -/
theorem compLoop_any {prog : Program} {w : World} {A : Around} {R : Result → Shared → Prop} {s : Shared} {elt target iter : Expr} {ifs : List Expr} {scope : Scope} {pos : Pos} {it acc : Value} {env : Env} (I : Nat → Shared → Prop)
    (turn : ∀ n s, I n s → wpAny (model prog w) A (pyNext it) (fun r s₁ => match r with
      | none => R (.ok .next) s₁
      | some v => wpAny (model prog w) A (letOwnedTupleGo target it v) (fun _ s₁' => wpAny (model prog w) A (assign target env v) (fun _ s₂ =>
          wpAny (model prog w) A (forIn ifs true fun c r => if r = true then do let ok ← isTrue c env (eval c env); pure (ForInStep.yield ok) else pure (ForInStep.yield r)) (fun ok s₃ =>
            if ok = true then wpAny (model prog w) A (eval elt env) (fun x s₄ =>
              wpAny (model prog w) A (call (.builtin "list.append") [acc, x]) (fun _ s₅ => ∃ m, m < n ∧ I m s₅) (notedBy (model prog w) A env fun e s' => R (.error e) s') s₄) (notedBy (model prog w) A env fun e s' => R (.error e) s') s₃
            else ∃ m, m < n ∧ I m s₃) (notedBy (model prog w) A env fun e s' => R (.error e) s') s₂) (notedBy (model prog w) A env fun e s' => R (.error e) s') s₁') (notedBy (model prog w) A env fun e s' => R (.error e) s') s₁) (notedBy (model prog w) A env fun e s' => R (.error e) s') s)
    (n : Nat) (h : I n s) :
    codeAny (model prog w) A (.compLoop (.ListComp elt [⟨target, iter, ifs, 0⟩] scope pos) 0 it acc env) R s := by
  refine codeAny_loop rfl I (fun n s hI => ?_) n h
  show wpAny _ A ((compTurn (.ListComp elt [⟨target, iter, ifs, 0⟩] scope pos) 0 it acc env).onRaise (fun x => do noteFrame x env; theTreesLotGoes x)) _ _ s
  refine wpAny_noted ?_
  rw [compTurn_list]
  refine wpAny_bind (wpAny_standAt (wpAny_bind (wpAny_mono (turn n s hI) (fun r s₁ h₁ => ?_) fun _ _ h' => h')))
  cases r with
  | none => exact wpAny_pure h₁
  | some v =>
    refine wpAny_bind (wpAny_mono h₁ (fun _ s₁' h₁' => ?_) fun _ _ h' => h')
    refine wpAny_bind (wpAny_mono h₁' (fun _ s₂ h₂ => wpAny_bind (wpAny_mono h₂ (fun ok s₃ h₃ => ?_) fun _ _ h' => h')) fun _ _ h' => h')
    cases ok with
    | false => exact wpAny_pure ⟨rfl, h₃⟩
    | true =>
      exact wpAny_bind (wpAny_bind (wpAny_mono h₃ (fun x s₄ h₄ => wpAny_bind (wpAny_mono h₄ (fun _ s₅ h₅ => wpAny_pure (wpAny_pure ⟨rfl, h₅⟩)) fun _ _ h' => h')) fun _ _ h' => h'))

section
variable {X : Cx}
/-- [elt for target in iter if ..]: D the new list; W by the turn and a measure, Nx what a turn is to reach -/
def tLc (wi : TI) (g : TG) (tt : TT) (te : TE) (vs : List Nat) : TE := fun σ H Q => wi σ H fun J H1 => ∀ D, H1 D = none → ∃ W : Nat → Nat → Hp → Prop, (∃ m, W 0 m (upd H1 D (.lst []))) ∧ ∀ i m H, W i m H →
  (J.stop i H ∧ Q (.ref D) H) ∨ (J.go i H ∧ ∃ Nx : Hp → Prop, (∀ H', Nx H' → ∃ m', m' < m ∧ W (i + 1) m' H') ∧ ∀ x H', J.yld i H x H' → g x (wipe σ vs) H' fun σ2 H2 => wipe σ2 vs = wipe σ vs ∧ tt σ2 H2 fun b H3 =>
    if b = true then te σ2 H3 fun y H4 => ∃ acc, H4 D = some (.lst acc) ∧ acc.length < sizeLine ∧ Nx (upd H4 D (.lst (acc ++ [y]))) else Nx H3)
theorem lc_core {pins : List (Addr × Obj)} {s : Shared} {σ : St} {H : Hp} {Q : VK} {elt tg iter : Expr} {ifs : List Expr} {scope : Scope} {own : List (Str × Nat)} {pos pos' : Pos} {wi : TI} {g : TG} {tt : TT} {te : TE} {use : Option (Value → Sem Unit)} {Qf : Value → Shared → Prop}
    (hc : X.calm = true) (hN : X.N.Nodup) (I : Inv X pins σ H s) (hi : PI X tg iter wi) (ok : BlkOk X.N X.env.scope scope own)
    (hg : ∀ (s : Shared) (H : Hp) (C : Addr) (cl : List (Str × Addr)) (fp : List Addr), PG (X.blk s H scope (compEnvC scope cl C X.env) fp) tg g) (ht : ∀ (s : Shared) (H : Hp) (C : Addr) (cl : List (Str × Addr)) (fp : List Addr), PTs (X.blk s H scope (compEnvC scope cl C X.env) fp) ifs tt)
    (he : ∀ (s : Shared) (H : Hp) (C : Addr) (cl : List (Str × Addr)) (fp : List Addr), PE (X.blk s H scope (compEnvC scope cl C X.env) fp) elt te) (hs : ∀ x, foldedSetIterable iter X.env x = pure x)
    (h : tLc wi g tt te (own.map (·.2)) σ H Q)
    (hRR : ∀ D C s' m H', Inv X pins σ H' s' → Q (.ref D) H' → s'.heap.Ns C m → FpOk X pins H' C → compPost (model X.prog X.w) X.A X.xe use Qf (.ref D) C (.ok .next) s') :
    wpAny (model X.prog X.w) X.A (comprehension (.ListComp elt [⟨tg, iter, ifs, 0⟩] scope pos) scope X.env pos' (newList []) false (eval iter X.env) use) Qf X.xe s := by
  have hfree : ∀ y ∈ scope.names, y.2 = .free → ∃ c, X.env.cells.lookup y.1 = some c := fun y hy e => by
    rcases ok.free y hy e with k | k
    · exact I.ok.has _ (.inl k)
    · exact I.ok.has _ (.inr k)
  refine wpAny_comprehension_free (use := use) rfl hs (closure_ok hfree) ok.kind (fun y hy e => by rw [ok.uniq y hy, e])
    (thn (hi pins s σ H _ I h) fun xv s1 hx => thn hx fun itv s2 h2 => ?_)
  obtain ⟨it, fp, tn, J, H2, e, I2, T, st2, f2, q⟩ := h2
  subst e
  refine wpAny_newObj_type (newEnv_comp ?_) (by show 0 ≤ sizeLine; decide)
  generalize hD : s2.heap.objs.size = D
  have hDn : H2 D = none := I2.hok.fresh (Nat.le_of_eq hD)
  obtain ⟨W, ⟨m0, w0⟩, turn⟩ := q D hDn
  -- the new list
  generalize hs3 : ({ s2 with heap := s2.heap.push { cls := .type "list", data := .seq ([] : List Value).toArray } } : Shared) = s3
  have I3 : Inv X pins σ (upd H2 D (.lst [])) s3 := by
    rw [← hs3]
    refine I2.laid (t' := s2.toks) (fun b o e => Heap.get?_push_of_some _ e) (Nat.le_of_eq hD) ⟨Nat.zero_le _, [], 0, .nil, ?_⟩
    rw [← hD]
    exact Heap.get?_push_size _ rfl
  have h3 : s3.heap = s2.heap.push { cls := .type "list", data := .seq ([] : List Value).toArray } := by rw [← hs3]
  have sz : ∀ b ∈ fp, b < s2.heap.objs.size := fun b hb => by
    obtain ⟨o, e, _⟩ := T.obj _ _ st2 b hb
    exact Heap.lt_size e
  have f3 : ∀ b ∈ fp, FpOk X pins (upd H2 D (.lst [])) b ∧ b < s3.heap.objs.size := fun b hb => by
    have hlt := sz b hb
    refine ⟨⟨?_, (f2 b hb).2⟩, by rw [h3, Heap.size_push]; exact Nat.lt_succ_of_lt hlt⟩
    rw [upd_ne (by rw [← hD]; exact Nat.ne_of_lt hlt)]
    exact (f2 b hb).1
  have st3 : tn 0 s3.heap := T.keep _ _ _ st2 fun b _ o e => by rw [h3]; exact Heap.get?_push_of_some _ e
  have I4 := block_start I3 ok hN f3
  have pg := hg s3 (upd H2 D (.lst [])) s3.heap.objs.size (cellsFrom (s3.heap.objs.size + 1) scope.names (cloFrom X.env.cells scope.names [])) fp
  have pt := ht s3 (upd H2 D (.lst [])) s3.heap.objs.size (cellsFrom (s3.heap.objs.size + 1) scope.names (cloFrom X.env.cells scope.names [])) fp
  have pe := he s3 (upd H2 D (.lst [])) s3.heap.objs.size (cellsFrom (s3.heap.objs.size + 1) scope.names (cloFrom X.env.cells scope.names [])) fp
  show codeAny _ _ (.compStart (.ListComp elt [⟨tg, iter, ifs, 0⟩] scope pos) 0 (.ref it) (.ref D) (compEnvC scope (cellsFrom (s3.heap.objs.size + 1) scope.names (cloFrom X.env.cells scope.names [])) s3.heap.objs.size X.env)) (compPost (model X.prog X.w) X.A X.xe use Qf (.ref D) s3.heap.objs.size) { s3 with heap := pushCells (s3.heap.push { cls := .type "dict", data := .dict #[] }) scope.names }
  have nfp : ∀ b ∈ fp, (upd H2 D (.lst [])) b = none := fun b hb => (f3 b hb).1.1
  generalize hce : compEnvC scope (cellsFrom (s3.heap.objs.size + 1) scope.names (cloFrom X.env.cells scope.names [])) s3.heap.objs.size X.env = ce at I4 pg pt pe ⊢
  have cL : ce.locals = s3.heap.objs.size := by subst hce; rfl
  generalize hH3 : upd H2 D (.lst []) = H3 at I3 I4 pg pt pe w0 nfp f3
  generalize hs4 : ({ s3 with heap := pushCells (s3.heap.push { cls := .type "dict", data := .dict #[] }) scope.names } : Shared) = s4 at I4 ⊢
  have st4 : tn 0 s4.heap := T.keep _ _ _ st3 fun b _ o e => by rw [← hs4]; exact pushCells_keeps _ _ _ _ (Heap.get?_push_of_some _ e)
  have stat : ∀ {σ' : St} {H' : Hp} {s' : Shared}, Inv (X.blk s3 H3 scope ce fp) [] σ' H' s' → (∀ b ∈ fp, H' b = none) → ∀ b ∈ fp, FpOk (X.blk s3 H3 scope ce fp) [] H' b := fun {σ' H' s'} I' hn b hb =>
    ⟨hn b hb, (I'.ok.exf b hb).1, I'.ok.exfs b hb, .inl hb, fun x c e => (I'.ok.exf b hb).2 x c e, fun p hp => absurd (show p ∈ ([] : List (Addr × Obj)) ++ [] from hp) (by simp)⟩
  have loop : codeAny (model X.prog X.w) X.A (.compLoop (.ListComp elt [⟨tg, iter, ifs, 0⟩] scope pos) 0 (.ref it) (.ref D) ce) (compPost (model X.prog X.w) X.A X.xe use Qf (.ref D) s3.heap.objs.size) s4 := by
    refine compLoop_any (fun n s' => ∃ i H', Inv (X.blk s3 H3 scope ce fp) [] (wipe σ (own.map (·.2))) H' s' ∧ tn i s'.heap ∧ (∀ b ∈ fp, H' b = none) ∧ W i n H') ?_ m0 ⟨0, H3, I4, st4, nfp, w0⟩
    rintro n s5 ⟨i, H5, I5, st5, n5, w5⟩
    rcases turn i n H5 w5 with ⟨stop, qq⟩ | ⟨go, Nx, hNx, step⟩
    · have td := T.done (X.blk s3 H3 scope ce fp) rfl rfl rfl hc i [] s5 _ H5 (fun _ _ => False) I5 (stat I5 n5) st5 stop
      refine thnF td fun r s6 ⟨hr, I6⟩ => ?_
      subst hr
      -- back in the def's context
      have I7 : Inv X pins σ H5 s6 := I3.call' (ch := fp) I6.os I6.base I6.hok I6.bare fun b hb => ⟨(f3 b hb).1.2.2.2.1, (f3 b hb).1.2.1, (f3 b hb).1.2.2.2.2.1, (f3 b hb).1.2.2.2.2.2⟩
      have nC : H5 s3.heap.objs.size = none := by
        have z : H5 ce.locals = none := I6.free
        rw [cL] at z
        exact z
      obtain ⟨m, hn, _⟩ := I6.loc
      have hn : s6.heap.Ns ce.locals m := hn
      rw [cL] at hn
      exact hRR D s3.heap.objs.size s6 m H5 I7 qq hn (I3.fpOk (Nat.le_refl _) nC)
    · have ti := T.item (X.blk s3 H3 scope ce fp) rfl rfl rfl hc i [] s5 _ H5 (fun _ _ => False) I5 (stat I5 n5) st5 go
      refine thnF ti fun r s6 ⟨u, hr, h6⟩ => ?_
      subst hr
      refine thnF h6 fun _ s7 ⟨x, H7, I7, r7, y7, st7, n7⟩ => ?_
      have I7' := I7.pinned (stat I7 n7) (T.obj _ _ st7)
      refine thnF (pg _ s7 _ H7 x u _ I7' r7 (step x H7 y7)) fun _ s8 ⟨σ8, H8, I8, hw8, q8⟩ => ?_
      refine thnF (pt _ s8 σ8 H8 _ I8 q8) fun b s9 ⟨H9, I9, q9⟩ => ?_
      -- the turn's end
      have fin : ∀ {s' : Shared} {H' : Hp}, Inv (X.blk s3 H3 scope ce fp) ([] ++ pinsAt fp s7.heap) σ8 H' s' → Nx H' → ∃ m, m < n ∧ ∃ i H', Inv (X.blk s3 H3 scope ce fp) [] (wipe σ (own.map (·.2))) H' s' ∧ tn i s'.heap ∧ (∀ b ∈ fp, H' b = none) ∧ W i m H' := fun {s' H'} I' nx => by
        obtain ⟨m', hm, w'⟩ := hNx H' nx
        have pin' : ∀ b ∈ fp, ∀ o, s7.heap.get? b = some o → s'.heap.get? b = some o ∧ H' b = none := fun b hb o e =>
          let z := I'.pin (b, o) (List.mem_append_right _ (List.mem_append_right _ (mem_pinsAt hb e)))
          ⟨z.1, z.2.1⟩
        have hl : (wipe σ (own.map (·.2))).length = σ8.length := by rw [← hw8, wipe_length]
        refine ⟨m', hm, i + 1, H', (I'.unpinned (pins := [])).weak hl (fun j v e => ?_), T.keep _ _ _ st7 fun b hb o e => (pin' b hb o e).1, fun b hb => ?_, w'⟩
        · rw [← hw8] at e
          exact (wipe_some e).1
        · obtain ⟨o, e, _⟩ := T.obj _ _ st7 b hb
          exact (pin' b hb o e).2
      cases b with
      | false =>
        simp only [Bool.false_eq_true, if_false] at q9 ⊢
        exact fin I9 q9
      | true =>
        simp only [if_true] at q9 ⊢
        refine thnF (pe _ s9 σ8 H9 _ I9 q9) fun z s10 ⟨yv, H10, I10, r10, acc, hD10, hz10, nx⟩ => ?_
        exact app_ok (X := X.blk s3 H3 scope ce fp) I10 hD10 hz10 r10 fun s11 I11 => fin I11 nx
  exact codeAny_compStart_list loop (T.self X.A 0 _ _ _ st4 loop)
/-- as a value -/
theorem pe_lc {elt tg iter : Expr} {ifs : List Expr} {scope : Scope} {own : List (Str × Nat)} {pos : Pos} {wi : TI} {g : TG} {tt : TT} {te : TE} (hc : X.calm = true) (hN : X.N.Nodup) (hi : PI X tg iter wi) (ok : BlkOk X.N X.env.scope scope own)
    (hg : ∀ (s : Shared) (H : Hp) (C : Addr) (cl : List (Str × Addr)) (fp : List Addr), PG (X.blk s H scope (compEnvC scope cl C X.env) fp) tg g) (ht : ∀ (s : Shared) (H : Hp) (C : Addr) (cl : List (Str × Addr)) (fp : List Addr), PTs (X.blk s H scope (compEnvC scope cl C X.env) fp) ifs tt)
    (he : ∀ (s : Shared) (H : Hp) (C : Addr) (cl : List (Str × Addr)) (fp : List Addr), PE (X.blk s H scope (compEnvC scope cl C X.env) fp) elt te) (hs : ∀ x, foldedSetIterable iter X.env x = pure x := by intro _; rfl) :
    PE X (.ListComp elt [⟨tg, iter, ifs, 0⟩] scope pos) (tLc wi g tt te (own.map (·.2))) := by
  intro pins s σ H Q I h
  rw [eval_ListComp]
  refine lc_core hc hN I hi ok hg ht he hs h fun D C s' m H' I' q hn f => ⟨m, hn, fun h'' sb => ?_⟩
  obtain ⟨f0, f1, f2, f3, f4, f5⟩ := f
  exact ⟨.ref D, H', I'.turned (t' := s'.toks) (fun b o hb e => (sb.2 b hb).trans e) f0 f1 f3 f4 f5, rfl, q⟩
end

/-! ### the forms one uses -/
/-- over a list that the block leaves as it is -/
theorem lc_list {K : PySem.W.Frag} {a : Addr} {xs : List V} {g : TG} {tt : TT} {te : TE} {vs : List Nat} {σ : St} {H1 : Hp} {D : Addr} {Qd : Hp → Prop} (Pv : Nat → Hp → Prop) (h0 : Pv 0 (upd H1 D (.lst []))) (hl : ∀ i H, i ≤ xs.length → Pv i H → SqL K H a xs)
    (hs : ∀ i x H, xs[i]? = some x → Pv i H → g x (wipe σ vs) H fun σ2 H2 => wipe σ2 vs = wipe σ vs ∧ tt σ2 H2 fun b H3 =>
      if b = true then te σ2 H3 fun y H4 => ∃ acc, H4 D = some (.lst acc) ∧ acc.length < sizeLine ∧ Pv (i + 1) (upd H4 D (.lst (acc ++ [y]))) else Pv (i + 1) H3) (hd : ∀ H, Pv xs.length H → Qd H) :
    ∃ W : Nat → Nat → Hp → Prop, (∃ m, W 0 m (upd H1 D (.lst []))) ∧ ∀ i m H, W i m H →
      ((Itl K a).stop i H ∧ Qd H) ∨ ((Itl K a).go i H ∧ ∃ Nx : Hp → Prop, (∀ H', Nx H' → ∃ m', m' < m ∧ W (i + 1) m' H') ∧ ∀ x H', (Itl K a).yld i H x H' → g x (wipe σ vs) H' fun σ2 H2 => wipe σ2 vs = wipe σ vs ∧ tt σ2 H2 fun b H3 =>
        if b = true then te σ2 H3 fun y H4 => ∃ acc, H4 D = some (.lst acc) ∧ acc.length < sizeLine ∧ Nx (upd H4 D (.lst (acc ++ [y]))) else Nx H3) := by
  refine ⟨fun i m H => m = xs.length - i ∧ i ≤ xs.length ∧ Pv i H, ⟨xs.length, by simp, Nat.zero_le _, h0⟩, ?_⟩
  rintro i m H ⟨rfl, hi, p⟩
  have q := hl i H hi p
  by_cases hlt : i < xs.length
  · refine .inr ⟨⟨xs, xs[i], q, by simp [hlt]⟩, Pv (i + 1), fun H' p' => ⟨xs.length - (i + 1), by omega, rfl, hlt, p'⟩, fun x H' y => ?_⟩
    obtain ⟨e, y⟩ := y
    subst e
    exact hs i x _ (y xs q) p
  · have e : i = xs.length := by omega
    subst e
    exact .inl ⟨⟨xs, q, Nat.le_refl _⟩, hd H p⟩
def blkC (N : List Str) (sc scope : Scope) (own : List (Str × Nat)) : Bool :=
  (match scope.kind with | .function => true | _ => false) && (scope.names.all fun y => decide (scope.names.lookup y.1 = some y.2)) && (own.all fun p => decide (N[p.2]? = some p.1)) &&
    (scope.names.all fun y => match y.2 with
      | .free => (match sc.names.lookup y.1 with | some .cell => true | some .free => true | _ => false)
      | .local => decide (y.1 ∈ own.map (·.1)) || decide (y.1 ∉ N)
      | .cell => decide (y.1 ∈ own.map (·.1)) || decide (y.1 ∉ N)
      | _ => true)
end L2

namespace L2
open PySem PySem.Spec PyProof.Rows

section
variable {prog : Program} {w : World} {A : Around} {R : Result → Shared → Prop} {s : Shared} {elt t0 i0 t1 i1 : Expr} {ifs0 ifs1 : List Expr} {scope : Scope} {pos : Pos} {it acc : Value} {env : Env}
end

section
variable {X : Cx}
/-- [elt for tg in iter if .. for tg1 in iter1 if ..]: behind the first clause's store and tests the second source's own loop, from which Nx is reached. vs: the block's names; vs1: those of the second target -/
def tLc2 (wi : TI) (g : TG) (tt : TT) (wi1 : TI) (g1 : TG) (tt1 : TT) (te : TE) (vs vs1 : List Nat) : TE := fun σ H Q => wi σ H fun J H1 => ∀ D, H1 D = none → ∃ W : Nat → Nat → Hp → Prop, (∃ m, W 0 m (upd H1 D (.lst []))) ∧ ∀ i m H, W i m H →
  (J.stop i H ∧ Q (.ref D) H) ∨ (J.go i H ∧ ∃ Nx : Hp → Prop, (∀ H', Nx H' → ∃ m', m' < m ∧ W (i + 1) m' H') ∧ ∀ x H', J.yld i H x H' → g x (wipe σ vs) H' fun σ2 H2 => wipe σ2 vs = wipe σ vs ∧ tt σ2 H2 fun b H3 =>
    if b = true then wi1 σ2 H3 fun J1 H4 => ∃ W1 : Nat → Nat → Hp → Prop, (∃ m, W1 0 m H4) ∧ ∀ j k H, W1 j k H →
      (J1.stop j H ∧ Nx H) ∨ (J1.go j H ∧ ∃ Nx1 : Hp → Prop, (∀ H', Nx1 H' → ∃ k', k' < k ∧ W1 (j + 1) k' H') ∧ ∀ x H', J1.yld j H x H' → g1 x (wipe σ2 vs1) H' fun σ3 H5 => wipe σ3 vs1 = wipe σ2 vs1 ∧ tt1 σ3 H5 fun b H6 =>
        if b = true then te σ3 H6 fun y H7 => ∃ acc, H7 D = some (.lst acc) ∧ acc.length < sizeLine ∧ Nx1 (upd H7 D (.lst (acc ++ [y]))) else Nx1 H6)
    else Nx H3)
end
end L2

namespace L2
open PySem PySem.Spec PyProof.Rows

/-! ### lists of pairs as tables -/
section
variable {κ : Type} [DecidableEq κ]
def valV (kvs : List (κ × V)) (k : κ) : Option V := (kvs.find? fun kv => decide (kv.1 = k)).map (·.2)
/-- in its place, or at the end -/
def putK (kvs : List (κ × V)) (k : κ) (v : V) : List (κ × V) :=
  if (kvs.any fun kv => decide (kv.1 = k)) = true then kvs.map (fun kv => if kv.1 = k then (kv.1, v) else kv) else kvs ++ [(k, v)]
def dropK (kvs : List (κ × V)) (k : κ) : List (κ × V) := kvs.filter fun kv => decide (kv.1 ≠ k)

end


/-! ### a tracked dict, its keys ints and texts or tuples of these -/
/-- raw entries of a dict with tuple keys -/
abbrev KT (H : Hp) : List (List Key × V) → List (List Key × Addr × Value) → Prop := Paired fun p q => p.1 = q.1 ∧ H q.2.1 = some (.tup (p.1.map kV)) ∧ RelV p.2 q.2.2
section
variable {P : Program} {w : World} {H : Hp} {h : Heap} {a : Addr}
end

/-- what the dict at a holds at the key y -/
def DGet (H : Hp) (a : Addr) (y : V) (r : Option V) : Prop :=
  (∃ kvs k, Rd H a (.dK kvs) ∧ y = kV k ∧ r = valV kvs k) ∨ ∃ kvs k b, Rd H a (.dT kvs) ∧ y = .ref b ∧ H b = some (.tup (k.map kV)) ∧ r = valV kvs k
/-- the heap behind a[y] = v -/
def DPut (H : Hp) (a : Addr) (y v : V) (H' : Hp) : Prop :=
  (∃ kvs k, H a = some (.dK kvs) ∧ y = kV k ∧ kvs.length < sizeLine ∧ H' = upd H a (.dK (putK kvs k v))) ∨
  ∃ kvs k b, H a = some (.dT kvs) ∧ y = .ref b ∧ H b = some (.tup (k.map kV)) ∧ kvs.length < sizeLine ∧ H' = upd H a (.dT (putK kvs k v))
section
variable {X : Cx} {pins : List (Addr × Obj)} {σ : St} {H : Hp} {s : Shared} {a : Addr} {y v : V} {u r : Value} {o : Option V} {A : Around} {E : Value → Shared → Prop}

end

section
variable {X : Cx} {pins : List (Addr × Obj)} {σ : St} {H : Hp} {s : Shared} {a : Addr} {kvs : List (Key × V)} {k : Key} {u : Value} {A : Around} {E : Value → Shared → Prop}
end


/-! ### readings and rules -/
/-- the element of a subscription, not a slice -/
def NoSl (i : Expr) : Prop := ∀ ov iv, subscripted i false ov iv = operate [ov, iv] (getItem ov iv)
/-- d[y] -/
def tDGet (td ty : TE) : TE := fun σ H Q => td σ H fun x H1 => ty σ H1 fun y H2 => ∃ a v, x = .ref a ∧ DGet H2 a y (some v) ∧ Q v H2
/-- y in d, y not in d -/
def tDIn (ty td : TE) : TE := fun σ H Q => ty σ H fun y H1 => td σ H1 fun x H2 => ∃ a o, x = .ref a ∧ DGet H2 a y o ∧ Q (.bl o.isSome) H2
def tDNotIn (ty td : TE) : TE := fun σ H Q => ty σ H fun y H1 => td σ H1 fun x H2 => ∃ a o, x = .ref a ∧ DGet H2 a y o ∧ Q (.bl (!o.isSome)) H2
/-- d[y] = v -/
def sDPut (td ty tv : TE) : TS := fun D σ H => tv σ H fun v H1 => td σ H1 fun x H2 => ty σ H2 fun y H3 => ∃ a H4, x = .ref a ∧ DPut H3 a y v H4 ∧ D.nx σ H4
/-- d[y] op= v -/
def sDAug (td ty tv : TE) (rd : V → V → Hp → VK → Prop) : TS := fun D σ H => td σ H fun x H1 => ty σ H1 fun y H2 => ∃ a v, x = .ref a ∧ DGet H2 a y (some v) ∧
  tv σ H2 fun y2 H3 => rd v y2 H3 fun z H4 => ∃ H5, DPut H4 a y z H5 ∧ D.nx σ H5
/-- del d[y] -/
def sDDel (td ty : TE) : TS := fun D σ H => td σ H fun x H1 => ty σ H1 fun y H2 => ∃ a kvs k, x = .ref a ∧ H2 a = some (.dK kvs) ∧ y = kV k ∧ (valV kvs k).isSome = true ∧ D.nx σ (upd H2 a (.dK (dropK kvs k)))

section
variable {X : Cx} {o i e value : Expr} {pos pos' tpos : Pos} {td ty tv : TE}
end


/-! ### displays -/
/-- {}, to be a dict of the kind that is wanted -/
def tDNewK : TE := fun _ H Q => ∀ p, H p = none → Q (.ref p) (upd H p (.dK []))
def tDNewT : TE := fun _ H Q => ∀ p, H p = none → Q (.ref p) (upd H p (.dT []))
section
variable {X : Cx} {pos : Pos}
end

/-- the pairs of a display, from the left -/
def tPairs : List (TE × TE) → St → Hp → (List (V × V) → Hp → Prop) → Prop
  | [], _, H, Q => Q [] H
  | (tk, tv) :: r, σ, H, Q => tk σ H fun x H1 => tv σ H1 fun y H2 => tPairs r σ H2 fun ps H3 => Q ((x, y) :: ps) H3
abbrev VV : List (V × V) → List (Value × Value) → Prop := Paired fun p q => RelV p.1 q.1 ∧ RelV p.2 q.2
def PPs (X : Cx) (pos : Pos) (keys : List (Option Expr)) (values : List Expr) (trs : List (TE × TE)) : Prop :=
  ∀ (pins : List (Addr × Obj)) (s : Shared) (σ : St) (H : Hp) (Q : List (V × V) → Hp → Prop), Inv X pins σ H s → tPairs trs σ H Q →
    wpAny (model X.prog X.w) X.A (evalPairs (pairTrees keys values X.env pos)) (fun vs s' => ∃ ps H', Inv X pins σ H' s' ∧ VV ps vs ∧ Q ps H') X.xe s
def mergeK (kvs more : List (Key × V)) : List (Key × V) := more.foldl (fun acc kv => putK acc kv.1 kv.2) kvs
/-- {k: v, ..} with keys ints and texts; the new dict stands empty while the pairs are made -/
def tDisp (trs : List (TE × TE)) : TE := fun σ H Q => ∀ p, H p = none → tPairs trs σ (upd H p (.dK [])) fun ps H2 => H2 p = some (.dK []) ∧ ∃ kvs : List (Key × V), ps = kvs.map (fun kv => (kV kv.1, kv.2)) ∧ kvs.length ≤ 15 ∧ Q (.ref p) (upd H2 p (.dK (mergeK [] kvs)))
/-! ### methods -/
/-- a method call o.m(e) of a built-in, with one argument: what must be seen of the text -/
structure M1 (X : Cx) (o : Expr) (m : Str) (apos : Pos) (e : Expr) (cpos : Pos) : Prop where
  base : attributeBase o m X.env (eval o X.env) = eval o X.env
  few : ((backTo cpos (starEach [e] X.env)).all (fun x => !x.1) && (backToKw cpos (keywordEach [] X.env)).all (fun x => x.1.isSome)
    && decide (([e] : List Expr).length + ([] : List Keyword).length + (if ([] : List Keyword).isEmpty then 0 else 1) < 30)) = true
  line : (apos.endLine == cpos.line) = true
  trees : backTo cpos (starEach [e] X.env) = [(false, eval e X.env)]
structure M2 (X : Cx) (o : Expr) (m : Str) (apos : Pos) (e f : Expr) (cpos : Pos) : Prop where
  base : attributeBase o m X.env (eval o X.env) = eval o X.env
  few : ((backTo cpos (starEach [e, f] X.env)).all (fun x => !x.1) && (backToKw cpos (keywordEach [] X.env)).all (fun x => x.1.isSome)
    && decide (([e, f] : List Expr).length + ([] : List Keyword).length + (if ([] : List Keyword).isEmpty then 0 else 1) < 30)) = true
  line : (apos.endLine == cpos.line) = true
  trees : backTo cpos (starEach [e, f] X.env) = [(false, eval e X.env), (false, eval f X.env)]

/-- a is a dict, whatever its keys -/
def IsD (H : Hp) (a : Addr) : Prop := (∃ kvs, Rd H a (.dK kvs)) ∨ ∃ kvs, Rd H a (.dT kvs)
section
variable {X : Cx} {pins : List (Addr × Obj)} {σ : St} {H : Hp} {s : Shared} {a : Addr} {y d : V} {u r : Value} {o : Option V} {A : Around} {E : Value → Shared → Prop}
end

def tDGet1 (td ty : TE) : TE := fun σ H Q => td σ H fun x H1 => ∃ a, x = .ref a ∧ IsD H1 a ∧ ty σ H1 fun y H2 => ∃ o, DGet H2 a y o ∧ Q (o.getD .non) H2
def tDGet2 (td ty tx : TE) : TE := fun σ H Q => td σ H fun x H1 => ∃ a, x = .ref a ∧ IsD H1 a ∧ ty σ H1 fun y H2 => tx σ H2 fun z H3 => ∃ o, DGet H3 a y o ∧ Q (o.getD z) H3
/-- d.pop(k): there; d.pop(k, x): there or not -/
def tDPop1 (td ty : TE) : TE := fun σ H Q => td σ H fun x H1 => ∃ a, x = .ref a ∧ IsD H1 a ∧ ty σ H1 fun y H2 => ∃ kvs k v, H2 a = some (.dK kvs) ∧ y = kV k ∧ valV kvs k = some v ∧ Q v (upd H2 a (.dK (dropK kvs k)))
def tDPop2 (td ty tx : TE) : TE := fun σ H Q => td σ H fun x H1 => ∃ a, x = .ref a ∧ IsD H1 a ∧ ty σ H1 fun y H2 => tx σ H2 fun z H3 => ∃ kvs k, H3 a = some (.dK kvs) ∧ y = kV k ∧
  (∀ v, valV kvs k = some v → Q v (upd H3 a (.dK (dropK kvs k)))) ∧ (valV kvs k = none → Q z H3)
section
variable {X : Cx} {o e f : Expr} {apos cpos : Pos} {td ty tx : TE}
end

/-! ### dict(d): a copy -/
section
variable {X : Cx} {pins : List (Addr × Obj)} {σ : St} {H : Hp} {s : Shared} {a : Addr} {kvs : List (Key × V)} {A : Around} {E : Value → Shared → Prop}
end


section
variable {X : Cx} {pins : List (Addr × Obj)} {σ : St} {H : Hp} {s : Shared} {a : Addr} {y : V} {u : Value} {A : Around} {E : Value → Shared → Prop}
end
end L2

namespace L2
open PySem PySem.Spec PyProof.Rows

section
variable {prog : Program} {w : World} {A : Around} {E : Value → Shared → Prop}
end

section
variable {X : Cx}
end
end L2

namespace L2
open PySem PySem.Spec PyProof.Rows

section
variable {X : Cx} {pins : List (Addr × Obj)} {σ : St} {H : Hp} {s : Shared} {h' : Heap}
/-! ### locking a thing while a statement runs -/
end
/-- the statement runs while the thing at d is locked (read, not written); d and what stands there are the reading's choice -/
def tLock (t : TS) : TS := fun D σ H => ∃ d u, H d = some u ∧ Mut (some u) ∧ ∀ od, t ⟨fun σ' H' => H' d = some (.frz od u) ∧ D.nx σ' (upd H' d u), fun v H' => H' d = some (.frz od u) ∧ D.rt v (upd H' d u), fun σ' H' => H' d = some (.frz od u) ∧ D.bk σ' (upd H' d u), fun σ' H' => H' d = some (.frz od u) ∧ D.ct σ' (upd H' d u)⟩ σ (upd H d (.frz od u))
def tLockE (t : TE) : TE := fun σ H Q => ∃ d u, H d = some u ∧ Mut (some u) ∧ ∀ od, t σ (upd H d (.frz od u)) fun v H' => H' d = some (.frz od u) ∧ Q v (upd H' d u)
section
variable {X : Cx}
/-! ### one iterator just laid -/
end

/-! ### range with a step -/
/-- lo, lo + c, .. (n of them) -/
def Itc (lo c : Int) (n : Nat) : It := ⟨fun i _ => i < n, fun i H x H' => H' = H ∧ x = .int (lo + (i : Nat) * c), fun i _ => n ≤ i⟩
/-- range(i, j, c): small bounds, n items -/
def RgC (i j c : Int) (n : Nat) : Prop := c ≠ 0 ∧ c.natAbs < 1073741824 ∧ Builtin.Range.small i j c = true ∧ Builtin.Range.rangeSize i j c = n
def iRng3 (ta : TA) : TI := fun σ H R => ta σ H fun vs H1 => ∃ (i j c : Int) (n : Nat), vs = [.int i, .int j, .int c] ∧ RgC i j c n ∧ R (Itc i c n) H1
section
variable {X : Cx} {tg : Expr}
end
/-! ### reversed(list) -/
/-- the list at a (n items at the start, which the loop leaves there), from its end -/
def Itv (K : PySem.W.Frag) (a : Addr) (n : Nat) : It :=
  ⟨fun i H => i < n ∧ ∃ (xs : List V) (x : V), SqL K H a xs ∧ xs[n - 1 - i]? = some x, fun i H x H' => H' = H ∧ ∀ xs, SqL K H a xs → xs[n - 1 - i]? = some x, fun i _ => n ≤ i⟩
def iRev (K : PySem.W.Frag) (ta : TA) : TI := fun σ H R => ta σ H fun vs H1 => ∃ (a : Addr) (xs : List V), vs = [.ref a] ∧ SqL K H1 a xs ∧ R (Itv K a xs.length) H1
section
variable {X : Cx} {tg : Expr}
end

/-! ### a str -/
def Its (x : Str) : It := ⟨fun i _ => i < x.cps.size, fun i H v H' => H' = H ∧ ∃ c, x.cps[i]? = some c ∧ v = .str ⟨#[c]⟩, fun i _ => x.cps.size ≤ i⟩
def iStr (te : TE) : TI := fun σ H R => te σ H fun v H1 => ∃ x, v = .str x ∧ R (Its x) H1
/-! ### a dict's keys: any dict's entries -/
section
variable {prog : Program} {w : World} {A : Around} {E : Value → Shared → Prop} {s : Shared}
end

/-! ### a locked dict -/
section
variable {X : Cx} {pins : List (Addr × Obj)} {σ : St} {H : Hp} {s : Shared} {d : Addr} {o : Obj}
end

/-- the keys of the locked dict at d, in their order -/
def Itk (d : Addr) (o : Obj) (kvs : List (Key × V)) : It :=
  ⟨fun i H => H d = some (.frz o (.dK kvs)) ∧ i < kvs.length, fun i H x H' => H' = H ∧ ∃ k v, kvs[i]? = some (k, v) ∧ x = kV k, fun i H => H d = some (.frz o (.dK kvs)) ∧ kvs.length ≤ i⟩
/-- .. of tuple keys: the key's own tuple -/
def Itkt (d : Addr) (o : Obj) (kvs : List (List Key × V)) : It :=
  ⟨fun i H => H d = some (.frz o (.dT kvs)) ∧ i < kvs.length, fun i H x H' => H' = H ∧ ∃ (k : List Key) (v : V) (q : Addr), kvs[i]? = some (k, v) ∧ x = .ref q ∧ H q = some (.tup (k.map kV)), fun i H => H d = some (.frz o (.dT kvs)) ∧ kvs.length ≤ i⟩
/-- the values -/
def Itd (d : Addr) (o : Obj) (kvs : List (Key × V)) : It :=
  ⟨fun i H => H d = some (.frz o (.dK kvs)) ∧ i < kvs.length, fun i H x H' => H' = H ∧ ∃ k, kvs[i]? = some (k, x), fun i H => H d = some (.frz o (.dK kvs)) ∧ kvs.length ≤ i⟩
/-- the pairs, each a new tuple -/
def Iti (d : Addr) (o : Obj) (kvs : List (Key × V)) : It :=
  ⟨fun i H => H d = some (.frz o (.dK kvs)) ∧ i < kvs.length, fun i H x H' => ∃ T k v, kvs[i]? = some (k, v) ∧ x = .ref T ∧ H T = none ∧ H' = upd H T (.tup [kV k, v]), fun i H => H d = some (.frz o (.dK kvs)) ∧ kvs.length ≤ i⟩
section
variable {P : Program} {w : World} {K : PySem.W.Frag} {tg : Expr} {d : Addr} {o : Obj} {es : Array DictEntry} {ep : Nat}
end

/-! ### for k in d, d.keys(), d.values(), d.items() -/
/-- the dict is locked (tLock, or by the caller) -/
def iKeys (td : TE) : TI := fun σ H R => td σ H fun x H1 => ∃ d o, x = .ref d ∧ ((∃ kvs, H1 d = some (.frz o (.dK kvs)) ∧ R (Itk d o kvs) H1) ∨ ∃ kvs, H1 d = some (.frz o (.dT kvs)) ∧ R (Itkt d o kvs) H1)
def iVals (td : TE) : TI := fun σ H R => td σ H fun x H1 => ∃ d o kvs, x = .ref d ∧ H1 d = some (.frz o (.dK kvs)) ∧ R (Itd d o kvs) H1
def iItems (td : TE) : TI := fun σ H R => td σ H fun x H1 => ∃ d o kvs, x = .ref d ∧ H1 d = some (.frz o (.dK kvs)) ∧ R (Iti d o kvs) H1
def iKeysM (td : TE) : TI := fun σ H R => td σ H fun x H1 => ∃ d o kvs, x = .ref d ∧ H1 d = some (.frz o (.dK kvs)) ∧ R (Itk d o kvs) H1
section
variable {X : Cx} {tg e : Expr} {td : TE} {apos cpos : Pos}
end

/-! ### enumerate(list) -/
/-- the list at a as it stands at each turn, each item in a new pair -/
def Ite (K : PySem.W.Frag) (a : Addr) : It :=
  ⟨fun i H => ∃ (xs : List V) (x : V), SqL K H a xs ∧ xs[i]? = some x, fun i H v H' => ∃ T x, v = .ref T ∧ H T = none ∧ H' = upd H T (.tup [.int (i : Nat), x]) ∧ ∀ xs, SqL K H a xs → xs[i]? = some x, fun i H => ∃ xs : List V, SqL K H a xs ∧ xs.length ≤ i⟩
def iEnum (K : PySem.W.Frag) (ta : TA) : TI := fun σ H R => ta σ H fun vs H1 => ∃ a xs, vs = [.ref a] ∧ SqL K H1 a xs ∧ R (Ite K a) H1
/-! ### zip(list, list) -/
/-- the lists at a and b as they stand at each turn, the items in new pairs -/
def Itz (K : PySem.W.Frag) (a b : Addr) : It :=
  ⟨fun i H => ∃ (xs ys : List V) (x y : V), SqL K H a xs ∧ SqL K H b ys ∧ xs[i]? = some x ∧ ys[i]? = some y,
    fun i H v H' => ∃ T x y, v = .ref T ∧ H T = none ∧ H' = upd H T (.tup [x, y]) ∧ (∀ xs, SqL K H a xs → xs[i]? = some x) ∧ ∀ ys, SqL K H b ys → ys[i]? = some y,
    fun i H => ∃ xs ys : List V, SqL K H a xs ∧ SqL K H b ys ∧ (xs.length ≤ i ∨ ys.length ≤ i)⟩
def iZip (K : PySem.W.Frag) (ta : TA) : TI := fun σ H R => ta σ H fun vs H1 => ∃ a b xs ys, vs = [.ref a, .ref b] ∧ SqL K H1 a xs ∧ SqL K H1 b ys ∧ R (Itz K a b) H1
end L2

section 
namespace Bits
open PySem PyProof.Rows

end Bits
end 

section 
namespace TL
open PySem PySem.Builtin PySem.Builtin.Str PySem.StrLaws

abbrev tl (x : Str) : List Nat := x.cps.toList
/-! ### the list functions -/
/-- S stands at the head of l -/
def pre (S l : List Nat) : Bool := l.take S.length == S
/-- l cut at each S from the left; k signs are still to be passed over -/
def spl (S : List Nat) : Nat → List Nat → List Nat → List (List Nat)
  | _, acc, [] => [acc]
  | 0, acc, c :: r => if pre S (c :: r) = true then acc :: spl S (S.length - 1) [] r else spl S 0 (acc ++ [c]) r
  | k + 1, acc, _ :: r => spl S k acc r
/-- what stands before the first S, and behind it -/
def par (S : List Nat) : List Nat → List Nat → Option (List Nat × List Nat)
  | _, [] => none
  | acc, c :: r => if pre S (c :: r) = true then some (acc, (c :: r).drop S.length) else par S (acc ++ [c]) r

/-! ### the model's split and partition are these -/
/-! ### computing spl and par -/
/-- joined lists -/
def joinL (S : List Nat) : List (List Nat) → List Nat
  | [] => []
  | [p] => p
  | p :: q :: r => p ++ (S ++ joinL S (q :: r))
/-! ### digits -/
/-- the signs of a number -/
def numL (n : Nat) : List Nat := (Nat.toDigits 10 n).map Char.toNat
/-! ### words: x.split() -/
def wstep (st : List (List Nat) × List Nat) (c : Nat) : List (List Nat) × List Nat :=
  if Unicode.isSpace c = true then (if st.2 = [] then st else (st.1 ++ [st.2], [])) else (st.1, st.2 ++ [c])
def wfin (st : List (List Nat) × List Nat) : List (List Nat) := if st.2 = [] then st.1 else st.1 ++ [st.2]
end TL
end 

namespace L2
open PySem PySem.Spec PyProof.Rows

/-- a new list of texts, tracked -/
def rNewStrs (ys : List Str) : Hp → VK → Prop := fun H Q => ∀ p, H p = none → Q (.ref p) (upd H p (.lst (ys.map V.str)))

section
variable {X : Cx} {pins : List (Addr × Obj)} {σ : St} {H : Hp} {s : Shared} {Q : VK}
end

section
variable {X : Cx}

/-! ### of a text alone -/
/-! ### of a text and a text -/
end

section
variable {X : Cx} {o e : Expr} {to te : TE}
def tM0 (r : V → List V → Hp → VK → Prop) (to : TE) : TE := fun σ H Q => to σ H fun x H1 => (∃ a, x = .str a) ∧ r x [] H1 Q
def tM1 (r : V → List V → Hp → VK → Prop) (to te : TE) : TE := fun σ H Q => to σ H fun x H1 => (∃ a, x = .str a) ∧ te σ H1 fun y H2 => r x [y] H2 Q
end
end L2

namespace L2
open PySem PySem.Spec PyProof.Rows

section
variable {X : Cx}
end

/-! ### slices of a text -/
/-- a part, clipped, as the text's slice reckons it -/
def clipS (n d : Nat) : Option Int → Int
  | none => (d : Int)
  | some i => max 0 (min (if i < 0 then i + (n : Int) else i) (n : Int))
/-- z[lo:hi] -/
def cutS (z : Str) (lo hi : Option Int) : Str :=
  ⟨((z.cps.toList.drop (HT.sIx z.length 0 lo)).take (HT.sIx z.length z.length hi - HT.sIx z.length 0 lo)).toArray⟩
def rSlS : V → Option Int → Option Int → Hp → VK → Prop := fun x lo hi H Q => ∃ z, x = .str z ∧ z.length ≤ sizeLine ∧ Q (.str (cutS z lo hi)) H
end L2

namespace Att
open PySem PySem.W PySem.Calls PyProof.Rows

/-! ### the script -/
theorem ints_of_wellAll {P : Params} {h : Heap} : ∀ (ns : List Int) (vs : List Value), WellAll P h vs (ns.map WData.int) → IntsAre vs ns := by
  intro ns
  induction ns with
  | nil =>
    intro vs w
    rw [List.map_nil] at w
    cases w
    exact .nil
  | cons n ns ih =>
    intro vs w
    rw [List.map_cons] at w
    cases w with
    | cons a b =>
      cases a
      exact .cons _ _ (ih _ b)

/-! ### the attachment: holds_open's last premise (the goal 'hc' behind k_head) from a wpAny of the law's body -/
/-! ### rules over ANY heap (no ledger) from facts about the written part K: the library's own take a ledger (News) for what they write -/
section
variable {prog : Program} {w : World} {A : Around} {E : Value → Shared → Prop} {s : Shared} {K : Frag}

/-! the whole heap as the ledger: makes every rule that writes through a ledger a rule over any heap -/
def noObjs (h : Heap) : Heap := { h with objs := #[] }
def ledger (h : Heap) (L d : Addr) : List (Addr × Obj) := (List.range h.objs.size).filterMap fun a => if a = L ∨ a = d then none else (h.get? a).map fun o => (a, o)
end
end Att

namespace L2
open PySem PySem.Spec PyProof.Rows

theorem vals_ints : ∀ {vs : List Value} {ns : List Int}, IntsAre vs ns → Vals (ns.map V.int) vs
  | _, _, .nil => .nil
  | _, _, .cons n t h => .cons ⟨t, rfl⟩ (vals_ints h)

/-- nothing is tracked but the script, known to the object (or it is an object of the module) -/
def Only (H : Hp) : Prop := ∀ b, H b = none ∨ ∃ o xs, H b = some (.frz o (.lst xs))

end L2

namespace L2
open PySem PySem.Spec PyProof.Rows

abbrev KOf {K : PySem.W.Frag} {h : Heap} (_ : K.In h) : PySem.W.Frag := K

end L2

/- THE LAST THEOREM (shape; LID, My.* are yours):
   My.Adr: a structure of the addresses that your layer names (classes, functions); My.Txt K t: a structure (Prop) of the equations over K;
   My.txt_mk : {K} {implicit addresses ..} (e1 : nsIn K mainGlobals "law" = some (some (.ref f))) (e2 : K.lookup f = some ⟨oc, od, .func (fnOf "law" "law" params body scope dV kV doc pm an cdv ct), sl⟩) (e3 : codeIn K cdv "law" = true) .. : ∃ t, My.Txt K t

set_option maxRecDepth 100000 in
set_option maxHeartbeats 0 in
theorem PySem.Challenge.cw_LID_holds : PySem.Challenge.rw_LID.Holds := by
  w_on; o_law; k_head; (case hw => w_witness2)
  k_fill
  refine L2.walk_of (l := PySem.Challenge.rw_LID) (n := 63) (k := 40) (x := "script") (CX := fun w => ..) (sp := fun _ => My.sp_law) rfl (by decide) rfl ⟨rfl, by decide, by decide⟩ (fun w h Y => PySem.W.kIn_of Y) ?F ?S ?C
  case F =>
    intro w mg fa h KX G hmg
    have T : ∃ t, My.Txt (L2.KOf KX) t := by
      dsimp only [L2.KOf]                          -- K must stand as «<heap const> w.params» for k_is
      refine' My.txt_mk ?e1 ?e2 ?e3 ..
      (case e1 => PySem.W.k_is)                    -- in the order: a name -> its address -> its object -> its parts
      (case e2 => PySem.W.k_is)
      ..
    obtain ⟨t, T⟩ := T
    have e0 := hmg.symm.trans (PySem.W.mg_of KX G T.law)
    cases e0                                       -- fa is the law's own address
    exact ⟨_, fun s u => .of_eq rfl, fun base kb nb => My.law_fn T kb nb⟩     -- if «.of_eq rfl» comes too early: refine' ⟨_, ?b, fun base kb nb => My.law_fn T kb nb⟩; exact fun s u => .of_eq rfl
  case S => exact fun w H a ns hl hO hS => ..
  case C => exact ..
(the tactic k_is has no namespace: write k_is) -/

/-! SHORT WORDS over the layer: a def of the text, its body, what a loop and a test want. -/
namespace L2
open PySem PySem.Spec PyProof.Rows

/-! ### the text by places -/
/-- the j-th statement of a class's body -/
def inClass (s : Stmt) (j : Nat) : Stmt := match s with
  | .ClassDef _ _ _ body _ _ _ _ _ _ _ => body.getD j (.Pass ⟨0, 0, 0, 0⟩)
  | _ => .Pass ⟨0, 0, 0, 0⟩
def defArgs (s : Stmt) : Arguments := match s with
  | .FunctionDef _ a _ _ _ _ _ _ _ _ => a
  | _ => { posonlyargs := [], args := [], vararg := none, kwonlyargs := [], kw_defaults := [], kwarg := none, defaults := [] }
def defBody (s : Stmt) : List Stmt := match s with
  | .FunctionDef _ _ b _ _ _ _ _ _ _ => b
  | _ => []
def defScope (s : Stmt) : Scope := match s with
  | .FunctionDef _ _ _ _ _ _ sc _ _ _ => sc
  | _ => { kind := .function, names := [], isGenerator := false, isCoroutine := false }

/-! ### no exception leaves a def -/
abbrev CX0 : CXT := fun _ _ _ _ _ _ => False
abbrev E0 : XK := fun _ _ _ => False
theorem pass0 {X : Cx} : Passes CX0 X E0 := fun _ _ _ _ _ _ _ h => h.elim

/-! ### a def (or method) of the text as it stands behind the top -/
structure Fun (K : PySem.W.Frag) (x qual : Str) (st : Stmt) (f : Addr) (fd : FuncData) : Prop where
  ex : ∃ (oc : Value) (od : Option Addr) (kV doc pm : Value) (an : Option Addr) (cdv ct : Value) (osl : Array (Option Value)),
    fd = PySem.W.fnOf x qual (defArgs st) (defBody st) (defScope st) .none kV doc pm an cdv ct ∧ K.lookup f = some ⟨oc, od, .func fd, osl⟩ ∧ PySem.W.codeIn K cdv qual = true
  kp : PySem.W.keepIn K (.ref f) = true
section
variable {P : Program} {w : World} {K : PySem.W.Frag} {mg : Str → Option Value} {base : Heap}
/-- THE RULE for a def: its body as a term of rules, and the reading of that term -/
theorem Fun.ok {x qual : Str} {st : Stmt} {f : Addr} {fd : FuncData} {N ps : List Str} {k : Nat} {sp : Sp} (F : Fun K x qual st f fd) (S : FnScope N ps (defScope st)) (len : ∀ vs H Q E, sp vs H Q E → vs.length = ps.length)
    (hbody : ∀ (cdv : Value) (A : Around) (outer : List Env) (s : Shared) (H : Hp) (vs : List V) (Q : VK) (E : XK), Room k (A.deeper (envOfC qual (defScope st) s.heap.objs.size f cdv)) → sp vs H Q E →
      ∃ t, PSs (cxOf CX0 P w K mg base N qual (defScope st) f cdv A outer s H E).nox (defBody st) t ∧ t { nx := fun _ H' => Q .non H', rt := Q } (start N vs) H) : FnOk P w K mg base CX0 (k + 1) f fd ps sp := by
  obtain ⟨oc, od, kV, doc, pm, an, cdv, ct, osl, rfl, lk, hcd⟩ := F.ex
  refine fn_of lk hcd S len fun A outer s H vs Q E hr hsp => ?_
  obtain ⟨t, h, q⟩ := hbody cdv A outer s H vs Q E hr hsp
  exact ⟨t, h.nox, q⟩
/-- how its arguments bind (no defaults): h is «fun _ _ _ _ _ _ us hl => match us, hl with | [_, _], _ => rfl», one _ a parameter -/
theorem Fun.binds {x qual : Str} {st : Stmt} {f : Addr} {fd : FuncData} {ps : List Str} (F : Fun K x qual st f fd)
    (h : ∀ (kV doc pm : Value) (an : Option Addr) (cdv ct : Value) (us : List Value), us.length = ps.length → bindArgs (PySem.W.fnOf x qual (defArgs st) (defBody st) (defScope st) .none kV doc pm an cdv ct) ⟨us, []⟩ = pure (ps.zip us)) : Binds K fd ps [] := by
  obtain ⟨oc, od, kV, doc, pm, an, cdv, ct, osl, rfl, lk, hcd⟩ := F.ex
  exact .all (h kV doc pm an cdv ct)
theorem fun_mk {x qual : Str} {st : Stmt} {f : Addr} {oc : Value} {od an : Option Addr} {osl : Array (Option Value)} {kV doc pm cdv ct : Value} (l : K.lookup f = some ⟨oc, od, .func (PySem.W.fnOf x qual (defArgs st) (defBody st) (defScope st) .none kV doc pm an cdv ct), osl⟩)
    (c : PySem.W.codeIn K cdv qual = true) (k : PySem.W.keepIn K (.ref f) = true) : Fun K x qual st f (PySem.W.fnOf x qual (defArgs st) (defBody st) (defScope st) .none kV doc pm an cdv ct) := ⟨⟨oc, od, kV, doc, pm, an, cdv, ct, osl, rfl, l, c⟩, k⟩
end
/-! ### expressions in short: the name that stands in the i-th slot -/
section
variable {X : Cx}
theorem pv (i : Nat) {x : Str} {pos : Pos} (hN : X.N[i]? = some x := by rfl) (hv : Vis X.env.scope x := by first | exact Or.inl rfl | exact Or.inr (Or.inl rfl) | exact Or.inr (Or.inr rfl)) (hd : (x == ("__debug__" : Str)) = false := by decide)
    (hcd : (x == ("__classdict__" : Str)) = false := by decide) : PE X (.Name x pos) (tVar i) := pe_var hN hv hd hcd
end

/-! ### tests -/
theorem iteF {A B : Prop} (h : B) : if false = true then A else B := by
  rw [if_neg Bool.false_ne_true]
  exact h
theorem iteT {A B : Prop} (h : A) : if true = true then A else B := by
  rw [if_pos rfl]
  exact h
theorem ite2 {c A B : Prop} [Decidable c] (h1 : c → A) (h2 : ¬ c → B) : if c then A else B := by
  by_cases h : c
  · rw [if_pos h]
    exact h1 h
  · rw [if_neg h]
    exact h2 h
/-! ### heaps -/
/-- all that was tracked is as it was -/
def Same (H H' : Hp) : Prop := ∀ b o, H b = some o → H' b = some o
theorem Same.refl (H : Hp) : Same H H := fun _ _ h => h
theorem Same.trans {H H1 H2 : Hp} (a : Same H H1) (b : Same H1 H2) : Same H H2 := fun c o h => b c o (a c o h)
theorem Same.free {H H' : Hp} (e : Same H H') {l : Addr} (h : H' l = Option.none) : H l = Option.none := by
  cases q : H l with
  | none => rfl
  | some o =>
    rw [e l o q] at h
    cases h
theorem Same.seq {K : PySem.W.Frag} {H H' : Hp} {a : Addr} {xs : List V} (e : Same H H') (h : SqL K H a xs) : SqL K H' a xs := by
  rcases h with (h | ⟨o, h⟩) | h
  · exact .inl (.inl (e _ _ h))
  · exact .inl (.inr ⟨o, e _ _ h⟩)
  · exact .inr h

/-! ### a dict's pairs: keys that differ -/
section
variable {κ : Type} [DecidableEq κ]
end
/-! ### lists -/
theorem at_of {xs : List V} {z : Int} {j : Nat} {v : V} (e : z = (j : Int)) (h : xs[j]? = some v) : atI xs z = some v := by
  rw [e]
  exact atI_nat h
/-- a new instance and its __init__ leave all that was tracked as it was -/
theorem Same.made {H H1 : Hp} {x dx C : Addr} (nx : H x = Option.none) (nd : H dx = Option.none) (k : ∀ b o, (upd (upd H dx (.own x)) x (.ins C dx [])) b = some o → b ≠ x → H1 b = some o) : Same H H1 := fun b o e =>
  k b o (by rw [upd_ne (ne_of_none e nx), upd_ne (ne_of_none e nd)]; exact e) (ne_of_none e nx)
end L2

set_option Elab.async false
namespace BlM
open Rd05

/-! ### signs -/
/-- the other sign of a letter -/
def othr (x : Nat) : Nat := if x % 2 = 0 then x + 1 else x - 1
theorem both_flip {n : Nat} {l : List Nat} (h : ∀ x ∈ l, x < 2 * n) : both n l = l.any fun x => l.contains (othr x) := by
  rw [Bool.eq_iff_iff]
  unfold both
  simp only [List.any_eq_true, Bool.and_eq_true, List.contains_iff_mem, List.mem_range]
  constructor
  · rintro ⟨x, _, h1, h2⟩
    refine ⟨2 * x, h1, ?_⟩
    have e : othr (2 * x) = 2 * x + 1 := by unfold othr; rw [if_pos (by omega)]
    rw [e]; exact h2
  · rintro ⟨x, h1, h2⟩
    have hx := h x h1
    refine ⟨x / 2, by omega, ?_⟩
    by_cases e : x % 2 = 0
    · have e1 : othr x = x + 1 := by unfold othr; rw [if_pos e]
      rw [e1] at h2
      have e2 : 2 * (x / 2) = x := by omega
      rw [e2]; exact ⟨h1, h2⟩
    · have e1 : othr x = x - 1 := by unfold othr; rw [if_neg e]
      rw [e1] at h2
      have e2 : 2 * (x / 2) = x - 1 := by omega
      have e3 : 2 * (x / 2) + 1 = x := by omega
      rw [e3, e2]; exact ⟨h2, h1⟩
theorem mem_canon {n y : Nat} {l : List Nat} : y ∈ canon n l ↔ y < 2 * n ∧ y ∈ l := by
  unfold canon
  rw [List.mem_filter, List.mem_range, List.contains_iff_mem]
theorem both_canon {n : Nat} {l : List Nat} : both n (canon n l) = both n l := by
  rw [Bool.eq_iff_iff]
  unfold both
  simp only [List.any_eq_true, Bool.and_eq_true, List.contains_iff_mem, List.mem_range, mem_canon]
  constructor
  · rintro ⟨x, hx, ⟨_, h1⟩, ⟨_, h2⟩⟩
    exact ⟨x, hx, h1, h2⟩
  · rintro ⟨x, hx, h1, h2⟩
    exact ⟨x, hx, ⟨by omega, h1⟩, ⟨by omega, h2⟩⟩
theorem canon_length (n : Nat) (l : List Nat) : (canon n l).length ≤ 2 * n := by
  unfold canon
  have h := List.length_filter_le (fun x => l.contains x) (List.range (2 * n))
  rw [List.length_range] at h
  exact h
theorem canon_sorted (n : Nat) (l : List Nat) : (canon n l).Pairwise (· < ·) := by
  unfold canon
  exact List.Pairwise.sublist List.filter_sublist List.pairwise_lt_range
/-- a list as whole numbers -/
def nzs (l : List Nat) : List Int := l.map fun (x : Nat) => (x : Int)
theorem mem_ints {l : List Nat} {z : Int} : z ∈ nzs l ↔ ∃ x : Nat, x ∈ l ∧ (x : Int) = z := by
  unfold nzs; rw [List.mem_map]
theorem ints_cast {l : List Nat} {x : Nat} : (x : Int) ∈ nzs l ↔ x ∈ l := by
  rw [mem_ints]
  constructor
  · rintro ⟨y, hy, e⟩
    have : y = x := by omega
    subst this; exact hy
  · intro h; exact ⟨x, h, rfl⟩
theorem ints_sorted {l : List Nat} (h : l.Pairwise (· < ·)) : (nzs l).Pairwise (· < ·) := by
  unfold nzs
  rw [List.pairwise_map]
  exact h.imp fun {a b} q => by omega
theorem ints_length (l : List Nat) : (nzs l).length = l.length := by unfold nzs; rw [List.length_map]
theorem ints_get {l : List Nat} {i : Nat} : (nzs l)[i]? = (l[i]?).map fun (x : Nat) => (x : Int) := by unfold nzs; rw [List.getElem?_map]
theorem ints_append (l m : List Nat) : nzs (l ++ m) = nzs l ++ nzs m := by unfold nzs; rw [List.map_append]
theorem ints_take (l : List Nat) (n : Nat) : (nzs l).take n = nzs (l.take n) := by unfold nzs; rw [List.map_take]
/-- two rising lists of the same members are one -/
theorem sorted_unique : ∀ {l m : List Int}, l.Pairwise (· < ·) → m.Pairwise (· < ·) → (∀ x, x ∈ l ↔ x ∈ m) → l = m
  | [], [], _, _, _ => rfl
  | [], b :: s, _, _, h => absurd ((h b).mpr List.mem_cons_self) (by simp)
  | a :: r, [], _, _, h => absurd ((h a).mp List.mem_cons_self) (by simp)
  | a :: r, b :: s, hl, hm, h => by
    obtain ⟨h1, h2⟩ := List.pairwise_cons.mp hl
    obtain ⟨g1, g2⟩ := List.pairwise_cons.mp hm
    have e : a = b := by
      rcases List.mem_cons.mp ((h a).mp List.mem_cons_self) with e | e
      · exact e
      · rcases List.mem_cons.mp ((h b).mpr List.mem_cons_self) with e' | e'
        · exact e'.symm
        · have q1 := g1 a e
          have q2 := h1 b e'
          omega
    subst e
    have t : r = s := sorted_unique h2 g2 fun x => by
      constructor
      · intro hx
        have q := h1 x hx
        rcases List.mem_cons.mp ((h x).mp (List.mem_cons_of_mem _ hx)) with e | e
        · omega
        · exact e
      · intro hx
        have q := g1 x hx
        rcases List.mem_cons.mp ((h x).mpr (List.mem_cons_of_mem _ hx)) with e | e
        · omega
        · exact e
    rw [t]
/-- what is kept of the signs l: the canon -/
theorem kept_canon {l : List Nat} (hl : ∀ x ∈ l, x < 48) {ns : List Int} (hs : ns.Pairwise (· < ·)) (hm : ∀ x, x ∈ ns ↔ x ∈ nzs l) : ns = nzs (canon 24 l) := by
  refine sorted_unique hs (ints_sorted (canon_sorted 24 l)) fun x => ?_
  rw [hm x, mem_ints, mem_ints]
  constructor
  · rintro ⟨y, hy, e⟩
    exact ⟨y, mem_canon.mpr ⟨by have := hl y hy; omega, hy⟩, e⟩
  · rintro ⟨y, hy, e⟩
    exact ⟨y, (mem_canon.mp hy).2, e⟩

/-! ### the state -/
def WhyOk (n k : Nat) : Why → Prop
  | .given s => s = 1 ∨ s = 2
  | .step i j x => i < k ∧ j < k ∧ x < n
structure LineOk (n k : Nat) (L : Line) : Prop where
  cl : ∀ x ∈ L.clause, x < 48
  len : L.clause.length ≤ 48
  why : WhyOk n k L.why
structure WF (S : Abs) : Prop where
  nl : S.sides.length ≤ 24
  sd : ∀ s ∈ S.sides, s ≤ 2
  ll : S.lines.length ≤ 256
  ln : ∀ (k : Nat) (L : Line), S.lines[k]? = some L → LineOk S.sides.length k L
theorem wf_start : WF {} := ⟨by decide, by simp, by decide, by intro k L h; simp at h⟩
theorem LineOk.mono {n m k : Nat} {L : Line} (h : LineOk n k L) (hn : n ≤ m) : LineOk m k L := by
  refine ⟨h.cl, h.len, ?_⟩
  have w := h.why
  cases e : L.why with
  | given s => rw [e] at w; exact w
  | step i j x =>
    rw [e] at w
    obtain ⟨a, b, c⟩ := w
    exact ⟨a, b, by omega⟩
theorem WF.letter {S : Abs} (h : WF S) {s : Nat} (hs : s ≤ 2) (hn : S.sides.length < 24) : WF { S with sides := S.sides ++ [s] } := by
  refine ⟨by simp; omega, ?_, h.ll, fun k L e => (h.ln k L e).mono (by simp)⟩
  intro x hx
  rcases List.mem_append.mp hx with q | q
  · exact h.sd x q
  · rw [List.mem_singleton.mp q]; exact hs
theorem WF.line {S : Abs} (h : WF S) {L : Line} (hL : LineOk S.sides.length S.lines.length L) (hn : S.lines.length < 256) : WF { S with lines := S.lines ++ [L] } := by
  refine ⟨h.nl, h.sd, by simp; omega, fun k M e => ?_⟩
  have e : (S.lines ++ [L])[k]? = some M := e
  show LineOk S.sides.length k M
  by_cases q : k < S.lines.length
  · rw [List.getElem?_append_left q] at e
    exact h.ln k M e
  · rw [List.getElem?_append_right (by omega)] at e
    have hk : k = S.lines.length := by
      cases r : k - S.lines.length with
      | zero => omega
      | succ n => rw [r] at e; simp at e
    subst hk
    simp at e
    subst e
    exact hL
theorem clause_lt {S : Abs} (h : WF S) (k : Nat) : ∀ x ∈ lineAt S.lines k, x < 48 := by
  intro x hx
  unfold lineAt at hx
  cases e : S.lines[k]? with
  | none => rw [e] at hx; simp at hx
  | some L => rw [e] at hx; exact (h.ln k L e).cl x hx
theorem clause_len {S : Abs} (h : WF S) (k : Nat) : (lineAt S.lines k).length ≤ 48 := by
  unfold lineAt
  cases e : S.lines[k]? with
  | none => simp
  | some L => exact (h.ln k L e).len
theorem below_iff {z : Int} {n : Nat} : below z n = true ↔ 0 ≤ z ∧ z < (n : Int) := by
  unfold below
  rw [Bool.and_eq_true, decide_eq_true_eq, decide_eq_true_eq]
theorem below_false {z : Int} {n : Nat} : below z n = false ↔ ¬ (0 ≤ z ∧ z < (n : Int)) := by
  rw [← below_iff, Bool.not_eq_true]
/-- what is left of two lines -/
def rawJoin (c d : List Nat) (x : Nat) : List Nat := c.filter (fun l => l != 2 * x) ++ d.filter fun l => l != 2 * x + 1
theorem rawJoin_lt {c d : List Nat} {x : Nat} (hc : ∀ y ∈ c, y < 48) (hd : ∀ y ∈ d, y < 48) : ∀ y ∈ rawJoin c d x, y < 48 := by
  intro y hy
  rcases List.mem_append.mp hy with q | q
  · exact hc y (List.mem_filter.mp q).1
  · exact hd y (List.mem_filter.mp q).1
theorem rawJoin_len {c d : List Nat} {x : Nat} (hc : c.length ≤ 48) (hd : d.length ≤ 48) : (rawJoin c d x).length ≤ 96 := by
  unfold rawJoin
  rw [List.length_append]
  have h1 := List.length_filter_le (fun l => l != 2 * x) c
  have h2 := List.length_filter_le (fun l => l != 2 * x + 1) d
  omega
theorem joined_eq (c d : List Nat) (x : Nat) : joined LETTERS c d x = canon 24 (rawJoin c d x) := rfl
theorem both_joined {c d : List Nat} {x : Nat} (hc : ∀ y ∈ c, y < 48) (hd : ∀ y ∈ d, y < 48) :
    both LETTERS (joined LETTERS c d x) = (rawJoin c d x).any fun y => (rawJoin c d x).contains (othr y) := by
  show both 24 (canon 24 (rawJoin c d x)) = _
  rw [both_canon]
  exact both_flip fun y hy => by have := rawJoin_lt hc hd y hy; omega
theorem canon_ok (l : List Nat) : (∀ x ∈ canon 24 l, x < 48) ∧ (canon 24 l).length ≤ 48 :=
  ⟨fun x hx => by have := (mem_canon.mp hx).1; omega, canon_length 24 l⟩

/-! ### the first line without signs -/
theorem empty_some {P : List Line} {i : Nat} {L : Line} (h : P[i]? = some L) (he : L.clause = []) (hb : ∀ (k : Nat) (M : Line), k < i → P[k]? = some M → M.clause ≠ []) : Rd05.empty P = some i := by
  unfold Rd05.empty
  rw [List.findIdx?_eq_some_iff_getElem]
  obtain ⟨hi, e⟩ := List.getElem?_eq_some_iff.mp h
  refine ⟨hi, by rw [e, he]; rfl, fun j hj => ?_⟩
  have q := hb j P[j] hj (List.getElem?_eq_getElem _)
  cases r : P[j].clause with
  | nil => exact absurd r q
  | cons a b => simp
theorem empty_none {P : List Line} (hb : ∀ (k : Nat) (M : Line), P[k]? = some M → M.clause ≠ []) : Rd05.empty P = none := by
  unfold Rd05.empty
  rw [List.findIdx?_eq_none_iff]
  intro M hM
  obtain ⟨k, hk, e⟩ := List.getElem_of_mem hM
  have q := hb k M (by rw [← e]; exact List.getElem?_eq_getElem _)
  cases r : M.clause with
  | nil => exact absurd r q
  | cons a b => rfl
theorem empty_lt {P : List Line} {k : Nat} (h : Rd05.empty P = some k) : k < P.length := by
  unfold Rd05.empty at h
  obtain ⟨hi, _⟩ := List.findIdx?_eq_some_iff_getElem.mp h
  exact hi

/-! ### the wrong line -/
theorem culprit_given {P : List Line} {v : Nat → Bool} {f k s : Nat} {L : Line} (h : P[k]? = some L) (hw : L.why = .given s) (hf : k < f) : culprit P v f k = k := by
  cases f with
  | zero => omega
  | succ f => unfold culprit; rw [h]; simp only [hw]
theorem culprit_step {P : List Line} {v : Nat → Bool} {f k i j x : Nat} {L : Line} (h : P[k]? = some L) (hw : L.why = .step i j x) (hf : k < f) :
    culprit P v f k = culprit P v (f - 1) (if v x = true then j else i) := by
  cases f with
  | zero => omega
  | succ f =>
    rw [culprit, h]
    simp only [hw, Nat.add_sub_cancel]
    by_cases e : v x = true
    · rw [if_pos e, if_pos e]
    · rw [if_neg e, if_neg e]

/-! ### the side that is blamed -/
theorem blamed_fuel {S : List Nat} {P : List Line} {v : Nat → Bool} (ok : ∀ (k : Nat) (L : Line), P[k]? = some L → ∀ i j x, L.why = .step i j x → i < k ∧ j < k) :
    ∀ (n k f g : Nat), k < n → k < f → k < g → blamed S P v f k = blamed S P v g k := by
  intro n
  induction n with
  | zero => intro k f g h; omega
  | succ n ih =>
    intro k f g hk hf hg
    cases f with
    | zero => omega
    | succ f =>
      cases g with
      | zero => omega
      | succ g =>
        rw [blamed, blamed]
        cases e : P[k]? with
        | none => rfl
        | some L =>
          cases w : L.why with
          | given s => simp only [w]
          | step i j x =>
            obtain ⟨hi, hj⟩ := ok k L e i j x w
            simp only [w]
            rw [ih i f g (by omega) (by omega) (by omega), ih j f g (by omega) (by omega) (by omega)]
/-- whom line k blames -/
def B (S : List Nat) (P : List Line) (v : Nat → Bool) (k : Nat) : Nat := blamed S P v (k + 1) k
theorem WF.steps {S : Abs} (h : WF S) : ∀ (k : Nat) (L : Line), S.lines[k]? = some L → ∀ i j x, L.why = .step i j x → i < k ∧ j < k := fun k L e i j x w => by
  have q := (h.ln k L e).why
  rw [w] at q
  exact ⟨q.1, q.2.1⟩
theorem blamed_B {S : Abs} (h : WF S) {v : Nat → Bool} {k f : Nat} (hf : k < f) : blamed S.sides S.lines v f k = B S.sides S.lines v k :=
  blamed_fuel h.steps (k + 1) k f (k + 1) (Nat.lt_succ_self _) hf (Nat.lt_succ_self _)
theorem B_given {S : List Nat} {P : List Line} {v : Nat → Bool} {k s : Nat} {L : Line} (h : P[k]? = some L) (hw : L.why = .given s) : B S P v k = s := by
  unfold B; rw [blamed, h]; simp only [hw]
theorem B_step {S : Abs} (h : WF S) {v : Nat → Bool} {k i j x : Nat} {L : Line} (e : S.lines[k]? = some L) (hw : L.why = .step i j x) :
    B S.sides S.lines v k = (if S.sides.getD x 0 = 1 then (if B S.sides S.lines v i = 2 ∨ B S.sides S.lines v j = 2 then 2 else 1)
      else if S.sides.getD x 0 = 2 then (if B S.sides S.lines v i = 2 ∧ B S.sides S.lines v j = 2 then 2 else 1)
      else if v x = true then B S.sides S.lines v j else B S.sides S.lines v i) := by
  obtain ⟨hi, hj⟩ := h.steps k L e i j x hw
  show blamed S.sides S.lines v (k + 1) k = _
  rw [blamed, e]
  simp only [hw]
  rw [blamed_B h hi, blamed_B h hj]
theorem B_range {S : Abs} (h : WF S) {v : Nat → Bool} : ∀ (n k : Nat), k < n → k < S.lines.length → B S.sides S.lines v k = 1 ∨ B S.sides S.lines v k = 2 := by
  intro n
  induction n with
  | zero => intro k hk; omega
  | succ n ih =>
    intro k hk hl
    have e : S.lines[k]? = some S.lines[k] := List.getElem?_eq_getElem hl
    have w := (h.ln k _ e).why
    cases q : S.lines[k].why with
    | given s =>
      rw [B_given e q]
      rw [q] at w
      exact w
    | step i j x =>
      rw [q] at w
      obtain ⟨hi, hj, _⟩ := w
      have b1 := ih i (by omega) (by omega)
      have b2 := ih j (by omega) (by omega)
      rw [B_step h e q]
      split
      · split
        · exact .inr rfl
        · exact .inl rfl
      · split
        · split
          · exact .inr rfl
          · exact .inl rfl
        · split
          · exact b2
          · exact b1

/-! ### the widest line -/
theorem foldl_max_ge : ∀ (l : List Nat) (a : Nat), a ≤ l.foldl max a
  | [], a => Nat.le_refl _
  | x :: r, a => Nat.le_trans (Nat.le_max_left a x) (foldl_max_ge r (max a x))
theorem foldl_max_mem : ∀ (l : List Nat) (a : Nat), l.foldl max a = a ∨ l.foldl max a ∈ l
  | [], _ => .inl rfl
  | x :: r, a => by
    rcases foldl_max_mem r (max a x) with h | h
    · rcases Nat.le_total a x with q | q
      · right
        show r.foldl max (max a x) ∈ x :: r
        rw [h, Nat.max_eq_right q]
        exact List.mem_cons_self
      · left
        show r.foldl max (max a x) = a
        rw [h, Nat.max_eq_left q]
    · exact .inr (List.mem_cons_of_mem _ h)
theorem foldl_max_all : ∀ (l : List Nat) (a : Nat), ∀ x ∈ l, x ≤ l.foldl max a
  | [], _, x, h => by simp at h
  | y :: r, a, x, h => by
    rcases List.mem_cons.mp h with e | e
    · subst e
      exact Nat.le_trans (Nat.le_max_right a x) (foldl_max_ge r (max a x))
    · exact foldl_max_all r (max a y) x e
theorem foldl_max_is {l : List Nat} {m : Nat} (h1 : m ∈ l) (h2 : ∀ x ∈ l, x ≤ m) : l.foldl max 0 = m := by
  have q1 := foldl_max_all l 0 m h1
  rcases foldl_max_mem l 0 with e | e
  · rw [e] at q1 ⊢; omega
  · have := h2 _ e; omega

/-! ### the calls in one list -/
inductive OneCall : List Int → List (List Int) → List Int → Prop
  | begin (t : List Int) : OneCall (0 :: t) [[0]] t
  | letter (a : Int) (t : List Int) : OneCall (1 :: a :: t) [[1, a]] t
  | given (a : Int) (row t : List Int) : OneCall (2 :: a :: (row.length : Int) :: (row ++ t)) [[2, a], row] t
  | step (i j x : Int) (t : List Int) : OneCall (3 :: i :: j :: x :: t) [[3, i, j, x]] t
  | line (k m : Int) (t : List Int) : OneCall (4 :: k :: m :: t) [[4, k, m]] t
  | width (t : List Int) : OneCall (5 :: t) [[5]] t
  | empty (t : List Int) : OneCall (6 :: t) [[6]] t
  | wrong (v : Int) (t : List Int) : OneCall (7 :: v :: t) [[7, v]] t
  | blame (v : Int) (t : List Int) : OneCall (8 :: v :: t) [[8, v]] t
theorem call_some {p : Int} {r t : List Int} {n k : Nat} {c : List (List Int)} (hs : PyRd05.shape p = some (n, k)) (h : PyFlat.call PyRd05.shape (p :: r) = some (c, t)) :
    n ≤ r.length ∧ ∃ xs, PyFlat.rows k (r.drop n) = some (xs, t) ∧ c = (p :: r.take n) :: xs := by
  unfold PyFlat.call at h
  simp only [hs] at h
  by_cases q : r.length < n
  · rw [if_pos q] at h; cases h
  · rw [if_neg q] at h
    cases e : PyFlat.rows k (r.drop n) with
    | none => rw [e] at h; cases h
    | some y =>
      obtain ⟨xs, t'⟩ := y
      rw [e] at h
      have h' : some ((p :: r.take n) :: xs, t') = some (c, t) := h
      have h'' := Option.some.inj h'
      have h1 : (p :: r.take n) :: xs = c := congrArg Prod.fst h''
      have h2 : t' = t := congrArg Prod.snd h''
      subst h2
      exact ⟨by omega, xs, rfl, h1.symm⟩
theorem rows0 {r : List Int} {xs : List (List Int)} {t : List Int} (h : PyFlat.rows 0 r = some (xs, t)) : xs = [] ∧ r = t := by
  have h' : some (([] : List (List Int)), r) = some (xs, t) := h
  have h'' := Option.some.inj h'
  exact ⟨(congrArg Prod.fst h'').symm, congrArg Prod.snd h''⟩
theorem row_some {l x t : List Int} (h : PyFlat.row l = some (x, t)) : l = (x.length : Int) :: (x ++ t) := by
  cases l with
  | nil => cases h
  | cons n r =>
    unfold PyFlat.row at h
    dsimp only at h
    by_cases q : 0 ≤ n ∧ n.toNat ≤ r.length
    · rw [if_pos q] at h
      have h'' := Option.some.inj h
      have h1 : r.take n.toNat = x := congrArg Prod.fst h''
      have h2 : r.drop n.toNat = t := congrArg Prod.snd h''
      subst h1; subst h2
      rw [List.take_append_drop, List.length_take, Nat.min_eq_left q.2]
      congr 1
      omega
    · rw [if_neg q] at h; cases h
theorem rows1 {r : List Int} {xs : List (List Int)} {t : List Int} (h : PyFlat.rows 1 r = some (xs, t)) : ∃ x, xs = [x] ∧ r = (x.length : Int) :: (x ++ t) := by
  unfold PyFlat.rows at h
  cases e : PyFlat.row r with
  | none => rw [e] at h; cases h
  | some y =>
    obtain ⟨x, s⟩ := y
    rw [e] at h
    have h' : (some (x :: [], s) : Option (List (List Int) × List Int)) = some (xs, t) := h
    have h'' := Option.some.inj h'
    have h1 : [x] = xs := congrArg Prod.fst h''
    have h2 : s = t := congrArg Prod.snd h''
    subst h2
    exact ⟨x, h1.symm, row_some e⟩
theorem oneCall_of {l t : List Int} {c : List (List Int)} (h : PyFlat.call PyRd05.shape l = some (c, t)) : OneCall l c t := by
  cases l with
  | nil => cases h
  | cons p r =>
    by_cases h0 : p = 0
    · subst h0
      obtain ⟨_, xs, e1, rfl⟩ := call_some (n := 0) (k := 0) rfl h
      obtain ⟨rfl, e⟩ := rows0 e1
      have e : r = t := e
      subst e
      exact .begin r
    by_cases h1 : p = 1
    · subst h1
      obtain ⟨hl, xs, e1, rfl⟩ := call_some (n := 1) (k := 0) rfl h
      obtain ⟨rfl, e⟩ := rows0 e1
      match r, hl, e with
      | a :: r, _, e =>
        have e : r = t := e
        subst e
        exact .letter a r
    by_cases h2 : p = 2
    · subst h2
      obtain ⟨hl, xs, e1, rfl⟩ := call_some (n := 1) (k := 1) rfl h
      obtain ⟨x, rfl, e⟩ := rows1 e1
      match r, hl, e with
      | a :: r, _, e =>
        have e : r = (x.length : Int) :: (x ++ t) := e
        subst e
        exact .given a x t
    by_cases h3 : p = 3
    · subst h3
      obtain ⟨hl, xs, e1, rfl⟩ := call_some (n := 3) (k := 0) rfl h
      obtain ⟨rfl, e⟩ := rows0 e1
      match r, hl, e with
      | a :: b :: d :: r, _, e =>
        have e : r = t := e
        subst e
        exact .step a b d r
    by_cases h4 : p = 4
    · subst h4
      obtain ⟨hl, xs, e1, rfl⟩ := call_some (n := 2) (k := 0) rfl h
      obtain ⟨rfl, e⟩ := rows0 e1
      match r, hl, e with
      | a :: b :: r, _, e =>
        have e : r = t := e
        subst e
        exact .line a b r
    by_cases h5 : p = 5
    · subst h5
      obtain ⟨_, xs, e1, rfl⟩ := call_some (n := 0) (k := 0) rfl h
      obtain ⟨rfl, e⟩ := rows0 e1
      have e : r = t := e
      subst e
      exact .width r
    by_cases h6 : p = 6
    · subst h6
      obtain ⟨_, xs, e1, rfl⟩ := call_some (n := 0) (k := 0) rfl h
      obtain ⟨rfl, e⟩ := rows0 e1
      have e : r = t := e
      subst e
      exact .empty r
    by_cases h7 : p = 7
    · subst h7
      obtain ⟨hl, xs, e1, rfl⟩ := call_some (n := 1) (k := 0) rfl h
      obtain ⟨rfl, e⟩ := rows0 e1
      match r, hl, e with
      | a :: r, _, e =>
        have e : r = t := e
        subst e
        exact .wrong a r
    by_cases h8 : p = 8
    · subst h8
      obtain ⟨hl, xs, e1, rfl⟩ := call_some (n := 1) (k := 0) rfl h
      obtain ⟨rfl, e⟩ := rows0 e1
      match r, hl, e with
      | a :: r, _, e =>
        have e : r = t := e
        subst e
        exact .blame a r
    exfalso
    have hs : PyRd05.shape p = none := by
      unfold PyRd05.shape
      rw [if_neg h0, if_neg h1, if_neg h2, if_neg h3, if_neg h4, if_neg h5, if_neg h6, if_neg h7, if_neg h8]
    unfold PyFlat.call at h
    simp only [hs] at h
    cases h

/-- what is left to do: the calls in the rest, each well asked, few -/
structure Left (rest : List Int) (cs : List (List (List Int))) : Prop where
  ex : ∃ f, PyFlat.calls PyRd05.shape f rest = some cs
  ask : ∀ c ∈ cs, Rd05Neutral.asked1 (PyRd05.whole c) = true
theorem Left.nil {cs : List (List (List Int))} (h : Left [] cs) : cs = [] := by
  obtain ⟨f, e⟩ := h.ex
  cases f with
  | zero => exact (Option.some.inj e).symm
  | succ f => exact (Option.some.inj e).symm
theorem Left.cons {p : Int} {r : List Int} {cs : List (List (List Int))} (h : Left (p :: r) cs) : ∃ c t cs', cs = c :: cs' ∧ OneCall (p :: r) c t ∧ Rd05Neutral.asked1 (PyRd05.whole c) = true ∧ Left t cs' := by
  obtain ⟨f, e⟩ := h.ex
  cases f with
  | zero => cases e
  | succ f =>
    unfold PyFlat.calls at e
    cases q : PyFlat.call PyRd05.shape (p :: r) with
    | none => rw [q] at e; cases e
    | some y =>
      obtain ⟨c, t⟩ := y
      simp only [q] at e
      cases q2 : PyFlat.calls PyRd05.shape f t with
      | none => rw [q2] at e; cases e
      | some cs' =>
        simp only [q2] at e
        have e' := Option.some.inj e
        subst e'
        exact ⟨c, t, cs', rfl, oneCall_of q, h.ask c List.mem_cons_self, ⟨f, q2⟩, fun d hd => h.ask d (List.mem_cons_of_mem _ hd)⟩
/-- what is answered from a state on -/
def due (S : Abs) (cs : List (List (List Int))) : List Int := PyFlat.told (PyFlat.played Rd05Neutral.step S (cs.map PyRd05.whole))
theorem due_nil (S : Abs) : due S [] = [] := rfl
theorem due_cons (S : Abs) (c : List (List Int)) (cs : List (List (List Int))) :
    due S (c :: cs) = (((Rd05Neutral.step S (PyRd05.whole c)).2.length : Int) :: (Rd05Neutral.step S (PyRd05.whole c)).2) ++ due (Rd05Neutral.step S (PyRd05.whole c)).1 cs := by
  unfold due PyFlat.told
  rw [List.map_cons, PyFlat.played, List.flatMap_cons]
theorem start_left {l : List Int} (h : PyRd05.answers_asked l = true) : ∃ cs, Left l cs ∧ cs.length ≤ 300 ∧ PyRd05.answers l = due {} cs := by
  unfold PyRd05.answers_asked at h
  unfold PyRd05.answers
  cases e : PyRd05.calls l with
  | none => rw [e] at h; cases h
  | some ws =>
    rw [e] at h
    have h : (PyFlat.atMost 300 ws && Rd05Neutral.asked ws) = true := h
    rw [Bool.and_eq_true] at h
    unfold PyRd05.calls at e
    cases q : PyFlat.calls PyRd05.shape l.length l with
    | none => rw [q] at e; cases e
    | some cs =>
      simp only [q] at e
      have e' := Option.some.inj e
      subst e'
      have h1 : (cs.map PyRd05.whole).length ≤ 300 := of_decide_eq_true h.1
      have h2 := h.2
      unfold Rd05Neutral.asked at h2
      rw [Bool.and_eq_true, List.all_eq_true] at h2
      refine ⟨cs, ⟨⟨_, q⟩, fun c hc => h2.1 _ (List.mem_map_of_mem hc)⟩, by rw [List.length_map] at h1; exact h1, rfl⟩

/-! ### one call's answer -/
/-- a given row: its signs -/
theorem given_ask {a : Int} {row : List Int} (h : Rd05Neutral.asked1 (PyRd05.whole [[2, a], row]) = true) : row.length ≤ 48 ∧ row = nzs (Rd05Neutral.natsOf row) ∧ ∀ x ∈ Rd05Neutral.natsOf row, x < 256 := by
  have h : Rd05Neutral.asked1 [[2, a, (row.length : Int)], row] = true := h
  have h : (Rd05Neutral.whole32 a && ((row.all (fun (z : Int) => Rd05Neutral.natural z 8) && Rd05Neutral.long row (row.length : Int) 1 48) && (Rd05Neutral.whole32 (row.length : Int)))) = true := h
  simp only [Bool.and_eq_true, List.all_eq_true] at h
  obtain ⟨_, ⟨h1, h2⟩, _⟩ := h
  have h1 : ∀ z ∈ row, 0 ≤ z ∧ z < 256 := fun z hz => by
    have q := h1 z hz
    unfold Rd05Neutral.natural at q
    rw [Bool.and_eq_true, decide_eq_true_eq, decide_eq_true_eq] at q
    exact ⟨q.1, by have := q.2; omega⟩
  refine ⟨?_, ?_, ?_⟩
  · unfold Rd05Neutral.long at h2
    have h2 := of_decide_eq_true h2
    split at h2 <;> omega
  · unfold nzs Rd05Neutral.natsOf
    rw [List.map_map]
    conv => lhs; rw [← List.map_id row]
    apply List.map_congr_left
    intro z hz
    have := h1 z hz
    show z = ((z.toNat : Nat) : Int)
    omega
  · intro x hx
    unfold Rd05Neutral.natsOf at hx
    obtain ⟨z, hz, e⟩ := List.mem_map.mp hx
    have := h1 z hz
    omega
/-- what is answered to a call of the document: the number, then what is told -/
def said (y : Ans) : List Int := y.value :: nzs y.numbers
theorem said_len {S : Abs} (h : WF S) (c : Call) : (said (does S c).2).length ≤ 25 := by
  have key : ∀ y : Ans, y.numbers.length ≤ 24 → (said y).length ≤ 25 := fun y hy => by
    unfold said; rw [List.length_cons, ints_length]; omega
  cases c with
  | init => exact key _ (by show ([] : List Nat).length ≤ 24; decide)
  | letter s =>
    unfold does
    dsimp only
    split
    · exact key _ (by show ([] : List Nat).length ≤ 24; decide)
    · split <;> exact key _ (by show ([] : List Nat).length ≤ 24; decide)
  | given s l n =>
    unfold does
    dsimp only
    split
    · split <;> exact key _ (by show ([] : List Nat).length ≤ 24; decide)
    · exact key _ (by show ([] : List Nat).length ≤ 24; decide)
  | step i j x =>
    unfold does
    dsimp only
    split
    · split
      · exact key _ (by show ([] : List Nat).length ≤ 24; decide)
      · split <;> exact key _ (by show ([] : List Nat).length ≤ 24; decide)
    · exact key _ (by show ([] : List Nat).length ≤ 24; decide)
  | line k m =>
    unfold does
    dsimp only
    split
    · refine key _ ?_
      show ((lineAt S.lines k.toNat).take (room_ m LETTERS)).length ≤ 24
      rw [List.length_take]
      have : room_ m LETTERS ≤ 24 := by
        unfold room_ LETTERS
        split <;> omega
      omega
    · exact key _ (by show ([] : List Nat).length ≤ 24; decide)
  | width => exact key _ (by show ([] : List Nat).length ≤ 24; decide)
  | empty =>
    unfold does
    dsimp only
    split <;> exact key _ (by show ([] : List Nat).length ≤ 24; decide)
  | wrong v =>
    unfold does
    dsimp only
    split
    · split <;> exact key _ (by show ([] : List Nat).length ≤ 24; decide)
    · exact key _ (by show ([] : List Nat).length ≤ 24; decide)
  | blame v =>
    unfold does
    dsimp only
    split
    · split <;> exact key _ (by show ([] : List Nat).length ≤ 24; decide)
    · exact key _ (by show ([] : List Nat).length ≤ 24; decide)
theorem step_begin (S : Abs) : Rd05Neutral.step S (PyRd05.whole [[0]]) = ((does S .init).1, said (does S .init).2) := rfl
theorem step_letter (S : Abs) (a : Int) : Rd05Neutral.step S (PyRd05.whole [[1, a]]) = ((does S (.letter a)).1, said (does S (.letter a)).2) := rfl
theorem step_given (S : Abs) (a : Int) (row : List Int) : Rd05Neutral.step S (PyRd05.whole [[2, a], row]) = ((does S (.given a (Rd05Neutral.natsOf row) (row.length : Int))).1, said (does S (.given a (Rd05Neutral.natsOf row) (row.length : Int))).2) := rfl
theorem step_step (S : Abs) (i j x : Int) : Rd05Neutral.step S (PyRd05.whole [[3, i, j, x]]) = ((does S (.step i j x)).1, said (does S (.step i j x)).2) := rfl
theorem step_line (S : Abs) (k m : Int) : Rd05Neutral.step S (PyRd05.whole [[4, k, m]]) = ((does S (.line k m)).1, said (does S (.line k m)).2) := rfl
theorem step_width (S : Abs) : Rd05Neutral.step S (PyRd05.whole [[5]]) = ((does S .width).1, said (does S .width).2) := rfl
theorem step_empty (S : Abs) : Rd05Neutral.step S (PyRd05.whole [[6]]) = ((does S .empty).1, said (does S .empty).2) := rfl
theorem step_wrong (S : Abs) (v : Int) : Rd05Neutral.step S (PyRd05.whole [[7, v]]) = ((does S (.wrong v)).1, said (does S (.wrong v)).2) := rfl
theorem step_blame (S : Abs) (v : Int) : Rd05Neutral.step S (PyRd05.whole [[8, v]]) = ((does S (.blame v)).1, said (does S (.blame v)).2) := rfl
end BlM
set_option Elab.async false
namespace BlT
open PySem

/-- the places rise -/
def Ris (t : SetTable) : Prop := t.place.toList.Pairwise (· < ·)
theorem ris_lt {xs : Array Nat} (h : xs.toList.Pairwise (· < ·)) {i k : Nat} (hik : i < k) (hk : k < xs.size) : xs.getD i 0 < xs.getD k 0 := by
  have q := List.pairwise_iff_getElem.mp h i k (by simp; omega) (by simpa using hk) hik
  have hi : i < xs.size := by omega
  simp only [Array.getD, hi, hk, dif_pos]
  simpa using q
theorem getD_any {xs : Array Nat} {i : Nat} (h : i < xs.size) (d e : Nat) : xs.getD i d = xs.getD i e := by
  simp only [Array.getD, h, dif_pos]
theorem go_spec {xs : Array Nat} (h : xs.toList.Pairwise (· < ·)) (j : Nat) : ∀ (fuel lo hi : Nat), hi - lo ≤ fuel → lo ≤ hi → hi ≤ xs.size → (∀ i, i < lo → xs.getD i 0 < j) → (∀ i, hi ≤ i → i < xs.size → j ≤ xs.getD i 0) →
    SetTable.below.go xs j fuel lo hi ≤ xs.size ∧ (∀ i, i < SetTable.below.go xs j fuel lo hi → xs.getD i 0 < j) ∧ (∀ i, SetTable.below.go xs j fuel lo hi ≤ i → i < xs.size → j ≤ xs.getD i 0) := by
  intro fuel
  induction fuel with
  | zero =>
    intro lo hi h1 h2 h3 h4 h5
    have e : hi = lo := by omega
    subst e
    exact ⟨h3, h4, h5⟩
  | succ n ih =>
    intro lo hi h1 h2 h3 h4 h5
    unfold SetTable.below.go
    by_cases q : lo < hi
    · rw [if_pos q]
      dsimp only
      have hm : (lo + hi) / 2 < xs.size := by omega
      rw [getD_any hm j 0]
      by_cases r : xs.getD ((lo + hi) / 2) 0 < j
      · rw [if_pos r]
        refine ih _ _ (by omega) (by omega) h3 (fun i hi' => ?_) h5
        by_cases e : i = (lo + hi) / 2
        · rw [e]; exact r
        · exact Nat.lt_trans (ris_lt h (by omega) hm) r
      · rw [if_neg r]
        refine ih _ _ (by omega) (by omega) (by omega) h4 (fun i hi' hs => ?_)
        by_cases e : i = (lo + hi) / 2
        · rw [e]; omega
        · have := ris_lt h (show (lo + hi) / 2 < i by omega) hs
          omega
    · rw [if_neg q]
      have e : hi = lo := by omega
      subst e
      exact ⟨h3, h4, h5⟩
theorem below_spec {xs : Array Nat} (h : xs.toList.Pairwise (· < ·)) (j : Nat) :
    SetTable.below xs j ≤ xs.size ∧ (∀ i, i < SetTable.below xs j → xs.getD i 0 < j) ∧ (∀ i, SetTable.below xs j ≤ i → i < xs.size → j ≤ xs.getD i 0) := by
  unfold SetTable.below
  exact go_spec h j xs.size 0 xs.size (by omega) (by omega) (Nat.le_refl _) (fun i hi => by omega) (fun i h1 h2 => by omega)
/-- the place behind an element's own -/
theorem below_next {xs : Array Nat} (h : xs.toList.Pairwise (· < ·)) {i : Nat} (hi : i < xs.size) : SetTable.below xs (xs.getD i 0 + 1) = i + 1 := by
  obtain ⟨h1, h2, h3⟩ := below_spec h (xs.getD i 0 + 1)
  rcases Nat.lt_trichotomy (SetTable.below xs (xs.getD i 0 + 1)) (i + 1) with q | q | q
  · have := h3 i (by omega) hi
    omega
  · exact q
  · have a := h2 (i + 1) q
    have b := ris_lt h (show i < i + 1 by omega) (show i + 1 < xs.size by omega)
    omega
theorem below_zero {xs : Array Nat} (h : xs.toList.Pairwise (· < ·)) : SetTable.below xs 0 = 0 := by
  obtain ⟨h1, h2, h3⟩ := below_spec h 0
  cases e : SetTable.below xs 0 with
  | zero => rfl
  | succ n => have := h2 0 (by omega); omega
theorem live_of_mem {t : SetTable} (h : Ris t) {j : Nat} (hj : j ∈ t.place.toList) : t.slot j = .live (SetTable.below t.place j) := by
  obtain ⟨k, hk, e⟩ := List.getElem_of_mem hj
  have hk' : k < t.place.size := by simpa using hk
  have ek : t.place.getD k 0 = j := by
    simp only [Array.getD, hk', dif_pos]
    simpa using e
  obtain ⟨h1, h2, h3⟩ := below_spec h j
  have er : SetTable.below t.place j = k := by
    rcases Nat.lt_trichotomy (SetTable.below t.place j) k with q | q | q
    · have a := h3 _ (Nat.le_refl _) (show SetTable.below t.place j < t.place.size by omega)
      have b := ris_lt h q hk'
      omega
    · exact q
    · have := h2 k q
      omega
  unfold SetTable.slot
  dsimp only
  rw [er, if_pos]
  simp only [hk', Array.getElem?_eq_getElem, beq_iff_eq, Option.some.injEq]
  simpa using e
theorem probe_free {t : SetTable} {f : Nat → Int} {h : Int} : ∀ (fuel : Nat) (p : SetTable.Probe) (j : Nat) (dm : Option Nat), (∀ d, p.dummy = some d → t.slot d = .dummy) →
    SetTable.probe.go t f h fuel p = some (.empty j dm) → t.slot j = .empty ∧ ∀ d, dm = some d → t.slot d = .dummy := by
  intro fuel
  induction fuel with
  | zero => intro p j dm _ e; unfold SetTable.probe.go at e; cases e
  | succ n ih =>
    intro p j dm hp e
    unfold SetTable.probe.go at e
    have adv : ∀ q : SetTable.Probe, (t.advance q).dummy = q.dummy := fun q => by
      unfold SetTable.advance
      split <;> rfl
    cases q : t.slot p.j with
    | empty =>
      rw [q] at e
      injection e with e
      injection e with e1 e2
      subst e1; subst e2
      exact ⟨q, hp⟩
    | dummy =>
      rw [q] at e
      refine ih _ j dm (fun d hd => ?_) e
      rw [adv] at hd
      have hd : some p.j = some d := hd
      have e3 := Option.some.inj hd
      rw [← e3]; exact q
    | live i =>
      rw [q] at e
      dsimp only at e
      split at e
      · injection e with e
        cases e
      · refine ih _ j dm (fun d hd => ?_) e
        rw [adv] at hd
        exact hp d hd
theorem free_not_mem {t : SetTable} (h : Ris t) {z : Int} {j : Nat} {b : Bool} (e : t.freeSlot z = some (j, b)) : j ∉ t.place.toList := by
  unfold SetTable.freeSlot at e
  cases q : t.probe (fun _ => z + 1) z (t.probeStart z) with
  | none => rw [q] at e; cases e
  | some m =>
    rw [q] at e
    cases m with
    | candidate a c d => cases e
    | empty k dm =>
      obtain ⟨h1, h2⟩ := probe_free _ _ k dm (fun d hd => by cases hd) q
      have e1 := Option.some.inj e
      have e2 : dm.getD k = j := congrArg Prod.fst e1
      intro hj
      have hl := live_of_mem h hj
      cases dm with
      | none =>
        have e2 : k = j := e2
        rw [← e2, h1] at hl; cases hl
      | some d =>
        have e2 : d = j := e2
        rw [← e2, h2 d rfl] at hl; cases hl
theorem put_ris {t : SetTable} (h : Ris t) {j : Nat} (hj : j ∉ t.place.toList) : Ris (t.put j).1 := by
  unfold SetTable.put
  show (SetTable.insertAt t.place (SetTable.below t.place j) j).toList.Pairwise (· < ·)
  rw [SetTable.toList_insertAt]
  obtain ⟨h1, h2, h3⟩ := below_spec h j
  have hl : t.place.toList.length = t.place.size := by simp
  have hget : ∀ (i : Nat) (hi : i < t.place.size), t.place.toList[i]'(by rw [hl]; exact hi) = t.place.getD i 0 := fun i hi => by
    simp only [Array.getD, hi, dif_pos]
    simp
  rw [List.pairwise_append]
  refine ⟨List.Pairwise.sublist (List.take_sublist _ _) h, List.pairwise_cons.mpr ⟨fun y hy => ?_, List.Pairwise.sublist (List.drop_sublist _ _) h⟩, fun y hy z hz => ?_⟩
  · obtain ⟨i, hi, e⟩ := List.getElem_of_mem hy
    rw [List.getElem_drop] at e
    rw [List.length_drop, hl] at hi
    have hi' : SetTable.below t.place j + i < t.place.size := by omega
    rw [hget _ hi'] at e
    have q := h3 _ (Nat.le_add_right _ i) hi'
    have ne : y ≠ j := fun z => hj (by rw [← z]; exact List.mem_of_mem_drop hy)
    omega
  · have hyj : y < j := by
      obtain ⟨i, hi, e⟩ := List.getElem_of_mem hy
      rw [List.getElem_take] at e
      rw [List.length_take, hl] at hi
      have hi' : i < t.place.size := by omega
      rw [hget _ hi'] at e
      have q := h2 i (by omega)
      omega
    rcases List.mem_cons.mp hz with e | e
    · rw [e]; exact hyj
    · obtain ⟨i, hi, e'⟩ := List.getElem_of_mem e
      rw [List.getElem_drop] at e'
      rw [List.length_drop, hl] at hi
      have hi' : SetTable.below t.place j + i < t.place.size := by omega
      rw [hget _ hi'] at e'
      have q := h3 _ (Nat.le_add_right _ i) hi'
      omega
theorem standIn_ris (t : SetTable) (n : Nat) : Ris (t.standIn n) := by
  show (Array.range n).toList.Pairwise (· < ·)
  rw [Array.toList_range]
  exact List.pairwise_lt_range
theorem orStandIn_ris {t : SetTable} (h : Ris t) (n : Nat) : Ris (t.orStandIn n) := by
  unfold SetTable.orStandIn
  split
  · exact h
  · exact standIn_ris t n
theorem orStandIn_led (t : SetTable) (n : Nat) : (t.orStandIn n).led = t.led := by
  unfold SetTable.orStandIn
  split <;> rfl
theorem layNew_ris {t : SetTable} (h : Ris t) (es : Array (Int × Value)) (z : Int) (x : Value) : Ris (layNew t es z x).2.1 := by
  unfold layNew
  cases q : t.freeSlot z with
  | none => exact standIn_ris t _
  | some y =>
    obtain ⟨j, b⟩ := y
    exact orStandIn_ris (put_ris h (free_not_mem h q)) _
theorem layNew_led (t : SetTable) (es : Array (Int × Value)) (z : Int) (x : Value) : (layNew t es z x).2.1.led = t.led := by
  unfold layNew
  cases q : t.freeSlot z with
  | none => rfl
  | some y =>
    obtain ⟨j, b⟩ := y
    exact orStandIn_led _ _
theorem laid_ris {mask finger moves : Nat} {led plain : Bool} {hs : Array Int} {t : SetTable} {o : Array Nat} (h : SetTable.laid mask finger moves led plain hs = some (t, o)) : Ris t ∧ t.led = led := by
  unfold SetTable.laid at h
  cases q : SetTable.layClean mask hs with
  | none => rw [q] at h; cases h
  | some ow =>
    rw [q] at h
    have h' := Option.some.inj h
    have e := congrArg Prod.fst h'
    have e : _ = t := e
    rw [← e]
    refine ⟨?_, rfl⟩
    show (((List.range (mask + 1)).filterMap fun j => (ow.getD j none).map (j, ·)).map (·.1)).toArray.toList.Pairwise (· < ·)
    simp only [List.pairwise_map, List.pairwise_filterMap]
    refine List.pairwise_lt_range.imp fun {a b} hab x hx y hy => ?_
    obtain ⟨u, _, rfl⟩ := Option.map_eq_some_iff.mp hx
    obtain ⟨u', _, rfl⟩ := Option.map_eq_some_iff.mp hy
    exact hab
theorem relayAll_ris (t : SetTable) (es : Array (Int × Value)) (wanted : Nat) : Ris (relayAll t es wanted).2.1 ∧ (relayAll t es wanted).2.1.led = t.led := by
  unfold relayAll
  cases q : t.relaid (es.map (·.1)) wanted with
  | none => exact ⟨standIn_ris t _, rfl⟩
  | some y =>
    obtain ⟨t', o⟩ := y
    dsimp only
    split
    · exact laid_ris q
    · exact ⟨standIn_ris t _, rfl⟩
end BlT
set_option Elab.async false
set_option maxRecDepth 100000
set_option maxHeartbeats 4000000
namespace BlS
open PySem

theorem slot_next : Slot "set_iterator" "__next__" "set_iterator.__next__" :=
  .of (owner := "set_iterator") (n := "__next__") (by rw [typeLookup_type, builtinLookup_eq_fast]; kernel_rfl) (by decide +kernel) (by decide +kernel) (by decide +kernel)
    (by first | exact .inl (by decide +kernel) | exact .inr (by decide +kernel)) (by rw [isSubtype_type]; kernel_rfl)
theorem entry_next : entryFor table "set_iterator.__next__" = some Builtin.«set_iterator.__next__» := entryFor_of_fast (by kernel_rfl)
theorem args_next (a : Value) : argsOk "set_iterator.__next__" ⟨[a], []⟩ := by unfold argsOk; kernel_rfl
theorem entry_iter : entryFor table "set.__iter__" = some Builtin.«frozenset.__iter__» :=
  entryFor_alias (id' := "frozenset.__iter__") (by kernel_rfl) (by first | rfl | decide +kernel) (by decide +kernel) (by kernel_rfl)
theorem slot_self : Slot "set_iterator" "__iter__" "set_iterator.__iter__" :=
  .of (owner := "set_iterator") (n := "__iter__") (by rw [typeLookup_type, builtinLookup_eq_fast]; kernel_rfl) (by decide +kernel) (by decide +kernel) (by decide +kernel)
    (by first | exact .inl (by decide +kernel) | exact .inr (by decide +kernel)) (by rw [isSubtype_type]; kernel_rfl)
theorem entry_self : entryFor table "set_iterator.__iter__" = some Builtin.«dict_keyiterator.__iter__» :=
  entryFor_alias (id' := "dict_keyiterator.__iter__") (by kernel_rfl) (by first | rfl | decide +kernel) (by decide +kernel) (by kernel_rfl)
theorem args_self (a : Value) : argsOk "set_iterator.__iter__" ⟨[a], []⟩ := by unfold argsOk; kernel_rfl

end BlS
set_option Elab.async false
set_option maxRecDepth 100000
set_option maxHeartbeats 4000000
namespace BlS
open PySem
/-- the iterator's object -/
abbrev itO (first : Value) (i : Nat) (a : Addr) (n ep : Nat) : Obj := { cls := .type "set_iterator", dict := none, data := .fields #[first, .int i 0, .ref a, .int n 0, .int ep 0], slots := #[] }
/-- the set as it stands -/
structure SetAt (h : Heap) (a : Addr) (es : Array (Int × Value)) (ep : Nat) (t : SetTable) : Prop where
  ex : ∃ o, h.get? a = some o ∧ o.ExactSet ∧ o.data = .set es ep t
  fits : t.fits es.size = true
theorem SetAt.keep {h h' : Heap} {a : Addr} {es : Array (Int × Value)} {ep : Nat} {t : SetTable} (x : SetAt h a es ep t) (k : ∀ o, h.get? a = some o → h'.get? a = some o) : SetAt h' a es ep t := by
  obtain ⟨⟨o, e, r⟩, f⟩ := x
  exact ⟨⟨o, k o e, r⟩, f⟩
theorem SetAt.type {s : Shared} {a : Addr} {es : Array (Int × Value)} {ep : Nat} {t : SetTable} (x : SetAt s.heap a es ep t) : s.TypeIs (.ref a) "set" := by
  obtain ⟨⟨o, e, r, _⟩, _⟩ := x
  exact ⟨o, e, r.1⟩
section
variable {prog : Program} {w : World} {A : Around} {E : Value → Shared → Prop} {s : Shared} {it a : Addr} {es : Array (Int × Value)} {ep i n : Nat} {t : SetTable} {Q : Option Value → Shared → Prop}

theorem wp_choose {src : Source} {k : Nat} {Q : Nat → Shared → Prop} (hk : k ≠ 0) (h : ∀ j, j < k → Q j { s with drawn := s.drawn.bump src }) : wpAny (model prog w) A (choose src k) Q E s :=
  fun _ _ _ => ⟨hk, h _ (Nat.mod_lt _ (Nat.pos_of_ne_zero hk))⟩

theorem next_item {sl nx : Nat} {x : Value} (hI : s.heap.get? it = some (itO (.int sl 0) i a n ep)) (S : SetAt s.heap a es ep t) (hn : es.size = n)
    (hnext : ∀ (A' : Around) (E' : Value → Shared → Prop) (Q' : Option (Value × Nat) → Shared → Prop), Q' (some (x, nx)) s → wpAny (model prog w) A' (setNext a sl i ep) Q' E' s)
    (hQ : ∀ h', h'.get? it = some (itO (.int nx 0) (i + 1) a n ep) → Heap.SameBut it s.heap h' → Q (some x) { s with heap := h' }) :
    wpAny (model prog w) A (pyNext (.ref it)) Q E s := by
  have hT : s.TypeIs (.ref it) "set_iterator" := ⟨_, hI, rfl⟩
  obtain ⟨o, ho, hex, hd⟩ := S.ex
  unfold pyNext
  refine wpAny_bind (wpAny_attempt (wpAny_callSpecial?_slot (name := Str.ofString "__next__") hT slot_next (wpAny_call_entry slot_next hT entry_next ?_ (args_next _))))
  show wpAny _ _ (fieldsOf (.ref it) >>= _) _ _ s
  refine wpAny_bind (wpAny_fieldsOf hI rfl ?_)
  show wpAny _ _ (setEntries a >>= _) _ _ s
  refine wpAny_bind (wpAny_setEntries_of ho hd S.fits ?_)
  rw [hn, bne_self_eq_false, if_neg Bool.false_ne_true]
  show wpAny _ _ (setNext a sl i ep >>= _) _ _ s
  refine wpAny_bind (hnext _ _ _ ?_)
  refine wpAny_bind (wpAny_setField_rec hI (by simp) fun h1 e1 b1 => ?_)
  refine wpAny_bind (wpAny_setField_rec (s := { s with heap := h1 }) e1 (by simp) fun h2 e2 b2 => ?_)
  refine wpAny_pure ⟨x, rfl, wpAny_pure (hQ h2 ?_ (b1.trans b2))⟩
  rw [e2]
  simp [itO, rawInt]
theorem next_end {sl : Nat} (hh : A.handled = none) (hI : s.heap.get? it = some (itO (.int sl 0) i a n ep)) (S : SetAt s.heap a es ep t) (hn : es.size = n)
    (hnext : ∀ (A' : Around) (E' : Value → Shared → Prop) (Q' : Option (Value × Nat) → Shared → Prop), Q' none s → wpAny (model prog w) A' (setNext a sl i ep) Q' E' s)
    (hQ : ∀ h', Heap.ExtBut it s.heap h' → Q none { s with heap := h' }) :
    wpAny (model prog w) A (pyNext (.ref it)) Q E s := by
  have hT : s.TypeIs (.ref it) "set_iterator" := ⟨_, hI, rfl⟩
  obtain ⟨o, ho, hex, hd⟩ := S.ex
  unfold pyNext
  refine wpAny_bind (wpAny_attempt (wpAny_callSpecial?_slot (name := Str.ofString "__next__") hT slot_next (wpAny_call_entry slot_next hT entry_next ?_ (args_next _))))
  show wpAny _ _ (fieldsOf (.ref it) >>= _) _ _ s
  refine wpAny_bind (wpAny_fieldsOf hI rfl ?_)
  show wpAny _ _ (setEntries a >>= _) _ _ s
  refine wpAny_bind (wpAny_setEntries_of ho hd S.fits ?_)
  rw [hn, bne_self_eq_false, if_neg Bool.false_ne_true]
  show wpAny _ _ (setNext a sl i ep >>= _) _ _ s
  refine wpAny_bind (hnext _ _ _ ?_)
  refine wpAny_bind (wpAny_setField_rec hI (by simp) fun h1 e1 b1 => ?_)
  refine wpAny_bind ?_
  simp only [newExc, newTuple]
  refine wpAny_bind (wpAny_newObj_type ?_ (by size_fits))
  refine wpAny_bind (m := firstArgMember _ _) (wpAny_of_eq (a := Value.none) (by first | rfl | (simp only [firstArgMember]; rfl)) ?_)
  refine wpAny_newObj_type ?_ (by size_fits)
  simp only [raiseNew]
  refine wpAny_bind (wpAny_handled ?_)
  rw [show A.in1.handled = none from hh]
  refine wpAny_bind (wpAny_pure (wpAny_throw ?_))
  refine wpAny_bind (wpAny_isInstance (T := "StopIteration") (b := true) ⟨_, Heap.get?_push_size _ rfl, rfl⟩ isSubtype_stop ?_)
  exact wpAny_pure (hQ _ ((b1.extBut.push _).push _))
/-- a drawn order: the places stand in a tuple -/
theorem next_itemT {tp : Addr} {ps : List Nat} {p : Nat} {y : Int × Value} (hI : s.heap.get? it = some (itO (.ref tp) i a n ep)) (S : SetAt s.heap a es ep t) (hn : es.size = n)
    (hT : ∃ ot k, s.heap.get? tp = some ot ∧ ot.data = .seq (ps.map fun (q : Nat) => rawInt q).toArray k) (hp : ps[i]? = some p) (hy : es[p]? = some y)
    (hQ : ∀ h', h'.get? it = some (itO (.ref tp) (i + 1) a n ep) → Heap.SameBut it s.heap h' → Q (some y.2) { s with heap := h' }) :
    wpAny (model prog w) A (pyNext (.ref it)) Q E s := by
  have hTy : s.TypeIs (.ref it) "set_iterator" := ⟨_, hI, rfl⟩
  obtain ⟨o, ho, hex, hd⟩ := S.ex
  obtain ⟨ot, k, hot, hdt⟩ := hT
  unfold pyNext
  refine wpAny_bind (wpAny_attempt (wpAny_callSpecial?_slot (name := Str.ofString "__next__") hTy slot_next (wpAny_call_entry slot_next hTy entry_next ?_ (args_next _))))
  show wpAny _ _ (fieldsOf (.ref it) >>= _) _ _ s
  refine wpAny_bind (wpAny_fieldsOf hI rfl ?_)
  show wpAny _ _ (setEntries a >>= _) _ _ s
  refine wpAny_bind (wpAny_setEntries_of ho hd S.fits ?_)
  rw [hn, bne_self_eq_false, if_neg Bool.false_ne_true]
  show wpAny _ _ (seqItems? (.ref tp) >>= _) _ _ s
  refine wpAny_bind (wpAny_seqItems hot hdt ?_)
  have e1 : (ps.map fun (q : Nat) => rawInt q).toArray[(i : Int).toNat]? = some (rawInt p) := by simp [hp]
  dsimp only
  rw [e1]
  show wpAny _ _ (setNextDrawn a p ep >>= _) _ _ s
  refine wpAny_bind ?_
  unfold setNextDrawn
  refine wpAny_bind (wpAny_setState_of ho hd S.fits ?_)
  dsimp only
  rw [bne_self_eq_false, if_neg Bool.false_ne_true, hy]
  refine wpAny_pure ?_
  refine wpAny_bind (wpAny_setField_rec hI (by simp) fun h1 e1 b1 => ?_)
  refine wpAny_pure ⟨y.2, rfl, wpAny_pure (hQ h1 ?_ b1)⟩
  rw [e1]
  simp [itO, rawInt]
theorem next_endT {tp : Addr} {ps : List Nat} (hh : A.handled = none) (hI : s.heap.get? it = some (itO (.ref tp) i a n ep)) (S : SetAt s.heap a es ep t) (hn : es.size = n)
    (hT : ∃ ot k, s.heap.get? tp = some ot ∧ ot.data = .seq (ps.map fun (q : Nat) => rawInt q).toArray k) (hp : ps[i]? = none)
    (hQ : ∀ h', Heap.ExtBut it s.heap h' → Q none { s with heap := h' }) :
    wpAny (model prog w) A (pyNext (.ref it)) Q E s := by
  have hTy : s.TypeIs (.ref it) "set_iterator" := ⟨_, hI, rfl⟩
  obtain ⟨o, ho, hex, hd⟩ := S.ex
  obtain ⟨ot, k, hot, hdt⟩ := hT
  unfold pyNext
  refine wpAny_bind (wpAny_attempt (wpAny_callSpecial?_slot (name := Str.ofString "__next__") hTy slot_next (wpAny_call_entry slot_next hTy entry_next ?_ (args_next _))))
  show wpAny _ _ (fieldsOf (.ref it) >>= _) _ _ s
  refine wpAny_bind (wpAny_fieldsOf hI rfl ?_)
  show wpAny _ _ (setEntries a >>= _) _ _ s
  refine wpAny_bind (wpAny_setEntries_of ho hd S.fits ?_)
  rw [hn, bne_self_eq_false, if_neg Bool.false_ne_true]
  show wpAny _ _ (seqItems? (.ref tp) >>= _) _ _ s
  refine wpAny_bind (wpAny_seqItems hot hdt ?_)
  have e1 : (ps.map fun (q : Nat) => rawInt q).toArray[(i : Int).toNat]? = none := by simp [hp] <;> (have := List.getElem?_eq_none_iff.mp hp; omega)
  dsimp only
  rw [e1]
  refine wpAny_bind (wpAny_setField_rec hI (by simp) fun h0 e0 b0 => ?_)
  refine wpAny_bind (wpAny_setField_rec (s := { s with heap := h0 }) e0 (by simp) fun h1 e1 b1 => ?_)
  refine wpAny_bind ?_
  simp only [newExc, newTuple]
  refine wpAny_bind (wpAny_newObj_type ?_ (by size_fits))
  refine wpAny_bind (m := firstArgMember _ _) (wpAny_of_eq (a := Value.none) (by first | rfl | (simp only [firstArgMember]; rfl)) ?_)
  refine wpAny_newObj_type ?_ (by size_fits)
  simp only [raiseNew]
  refine wpAny_bind (wpAny_handled ?_)
  rw [show A.in1.handled = none from hh]
  refine wpAny_bind (wpAny_pure (wpAny_throw ?_))
  refine wpAny_bind (wpAny_isInstance (T := "StopIteration") (b := true) ⟨_, Heap.get?_push_size _ rfl, rfl⟩ isSubtype_stop ?_)
  exact wpAny_pure (hQ _ (((b0.trans b1).extBut.push _).push _))
theorem iter_self {first : Value} {Q : Value → Shared → Prop} (hI : s.heap.get? it = some (itO first i a n ep)) (h : Q (.ref it) s) : wpAny (model prog w) A (pyIter (.ref it)) Q E s := by
  have hTy : s.TypeIs (.ref it) "set_iterator" := ⟨_, hI, rfl⟩
  refine wpAny_pyIter_slot hTy slot_self (wpAny_call_entry slot_self hTy entry_self ?_ (args_self _))
  show wpAny _ _ (ret (.ref it)) _ _ s
  exact wpAny_pure ⟨_, rfl, "set_iterator", _, hTy, slot_next.lookup, h⟩
end
end BlS
set_option Elab.async false
set_option maxRecDepth 100000
set_option maxHeartbeats 4000000
namespace BlS
open PySem

theorem erase_perm {α : Type} : ∀ {l : List α} {i : Nat} {x : α}, l[i]? = some x → (x :: l.eraseIdx i).Perm l
  | [], i, x, h => by simp at h
  | a :: r, 0, x, h => by
    have e : a = x := Option.some.inj h
    subst e
    exact List.Perm.refl _
  | a :: r, i + 1, x, h => by
    have ih := erase_perm (l := r) (i := i) (x := x) (by simpa using h)
    rw [List.eraseIdx_cons_succ]
    exact (List.Perm.swap a x _).trans (ih.cons a)
theorem erase_len {α : Type} {l : List α} {i : Nat} (h : i < l.length) : (l.eraseIdx i).length + 1 = l.length := by
  rw [List.length_eraseIdx, if_pos h]
  omega
theorem pick_go {α : Type} {next : Nat → Nat} : ∀ (fuel k : Nat) (left : List α) (out : Array α), fuel = left.length → (pickOrder.go next fuel k left out).toList.Perm (out.toList ++ left)
  | 0, k, left, out, h => by
    have e : left = [] := List.eq_nil_of_length_eq_zero h.symm
    subst e
    unfold pickOrder.go
    simp
  | fuel + 1, k, left, out, h => by
    unfold pickOrder.go
    have hl : 0 < left.length := by omega
    have hm : next k % left.length < left.length := Nat.mod_lt _ hl
    obtain ⟨x, hx⟩ : ∃ x, left[next k % left.length]? = some x := ⟨_, List.getElem?_eq_getElem hm⟩
    rw [hx]
    dsimp only
    refine (pick_go fuel (k + 1) _ _ (by have := erase_len hm; omega)).trans ?_
    rw [Array.toList_push, List.append_assoc]
    exact (erase_perm hx).append_left _
theorem pick_perm {α : Type} (next : Nat → Nat) (xs : Array α) : (pickOrder next xs).toList.Perm xs.toList := by
  have h := pick_go (next := next) xs.size 0 xs.toList #[] (by simp)
  simpa [pickOrder] using h
section
variable {prog : Program} {w : World} {A : Around} {E : Value → Shared → Prop}
theorem wp_drawOrder {α : Type} : ∀ (n : Nat) (xs : List α) (s : Shared) (Q : List α → Shared → Prop), n = xs.length → (∀ ys d, ys.Perm xs → Q ys { s with drawn := d }) → wpAny (model prog w) A (drawOrder n xs) Q E s
  | 0, xs, s, Q, hn, h => by
    have e : xs = [] := List.eq_nil_of_length_eq_zero hn.symm
    subst e
    unfold drawOrder
    exact wpAny_pure (h [] s.drawn (List.Perm.refl _))
  | n + 1, [], s, Q, hn, h => by simp at hn
  | n + 1, x :: r, s, Q, hn, h => by
    unfold drawOrder
    refine wpAny_bind (wp_choose (by simp) fun j hj => ?_)
    obtain ⟨y, hy⟩ : ∃ y, (x :: r)[j]? = some y := ⟨_, List.getElem?_eq_getElem hj⟩
    rw [hy]
    dsimp only
    refine wpAny_bind (wp_drawOrder n _ _ _ (by have := erase_len hj; omega) fun ys d p => ?_)
    exact wpAny_pure (h (y :: ys) d ((p.cons y).trans (erase_perm hy)))
end
section
variable {prog : Program} {w : World} {A : Around} {E : Value → Shared → Prop} {s : Shared} {a : Addr} {es : Array (Int × Value)} {ep : Nat} {t : SetTable}
/-- the next by the table: not by the text's order -/
theorem setNext_table {sl i : Nat} {Q : Option (Value × Nat) → Shared → Prop} (S : SetAt s.heap a es ep t) (hb : w.params.followText "set-order" = false) (hd : (!t.plain && decide (es.size > 1)) = false) (hl : t.led = true)
    (h : Q (match es[SetTable.below t.place sl]?, t.place[SetTable.below t.place sl]? with | some (_, x), some j => some (x, j + 1) | _, _ => none) s) : wpAny (model prog w) A (setNext a sl i ep) Q E s := by
  obtain ⟨o, ho, hex, hdat⟩ := S.ex
  unfold setNext
  refine wpAny_bind (wpAny_setState_of ho hdat S.fits ?_)
  dsimp only
  unfold setsByText
  refine wpAny_bind (wpAny_bind (wpAny_askSetting (wpAny_pure ?_)))
  show wpAny _ _ (if w.params.followText "set-order" = true then _ else _) _ _ s
  rw [hb, if_neg Bool.false_ne_true]
  show wpAny _ _ (if (!t.plain && decide (es.size > 1)) = true then _ else _) _ _ s
  rw [hd, if_neg Bool.false_ne_true]
  refine wpAny_bind ?_
  show wpAny _ _ (if (!t.led && !es.isEmpty) = true then _ else _) _ _ s
  rw [hl, if_neg (by simp)]
  exact wpAny_pure (wpAny_pure h)
/-- the next by the text's order -/
theorem setNext_text {sl i : Nat} {Q : Option (Value × Nat) → Shared → Prop} (S : SetAt s.heap a es ep t) (hb : w.params.followText "set-order" = true)
    (h : Q (((pickOrder (w.params.setOrder a ep) es)[i]?).map fun e => (e.2, sl)) s) : wpAny (model prog w) A (setNext a sl i ep) Q E s := by
  obtain ⟨o, ho, hex, hdat⟩ := S.ex
  unfold setNext
  refine wpAny_bind (wpAny_setState_of ho hdat S.fits ?_)
  dsimp only
  unfold setsByText
  refine wpAny_bind (wpAny_bind (wpAny_askSetting (wpAny_pure ?_)))
  show wpAny _ _ (if w.params.followText "set-order" = true then _ else _) _ _ s
  rw [hb, if_pos rfl, bne_self_eq_false, if_neg Bool.false_ne_true]
  refine wpAny_bind ?_
  unfold setWalk
  refine wpAny_bind (wpAny_setState_of ho hdat S.fits ?_)
  dsimp only
  unfold setsByText
  refine wpAny_bind (wpAny_bind (wpAny_askSetting (wpAny_pure ?_)))
  show wpAny _ _ (if w.params.followText "set-order" = true then _ else _) _ _ s
  rw [hb, if_pos rfl]
  exact wpAny_bind (wpAny_askSetting (wpAny_pure (wpAny_pure h)))
end
section
variable {prog : Program} {w : World} {A : Around} {es : Array (Int × Value)} {ep : Nat} {t : SetTable}
/-- by the text's order -/
theorem walks_text (hh : A.handled = none) (I a : Addr) (hne : a ≠ I) (hb : w.params.followText "set-order" = true) :
    Walks prog w A I [I, a] [I] es.size (fun i v => ((pickOrder (w.params.setOrder a ep) es).toList.map (·.2))[i]? = some v) (fun i h => h.get? I = some (itO (.int ((0 : Nat) : Int) 0) i a es.size ep) ∧ SetAt h a es ep t) where
  sub := fun b hb => by simp at hb; simp [hb]
  frame := fun _ _ _ st hk => ⟨hk I (by simp) _ st.1, st.2.keep fun o e => hk a (by simp) o e⟩
  item := fun i s Q E hi st hQ => by
    have hp := pick_perm (w.params.setOrder a ep) es
    have hl : i < (pickOrder (w.params.setOrder a ep) es).size := by
      have := hp.length_eq
      simp at this
      omega
    refine next_item st.1 st.2 rfl (x := ((pickOrder (w.params.setOrder a ep) es)[i]).2) (nx := 0) (fun A' E' Q' q => setNext_text st.2 hb (by rw [Array.getElem?_eq_getElem hl]; exact q)) fun h' e b => ?_
    refine hQ _ h' s.toks ?_ ⟨e, st.2.keep fun o q => (b.2 a hne).trans q⟩ fun c o hc q => (b.2 c (fun z => hc (by simp [z]))).trans q
    simp [hl]
  done := fun s Q E st hQ => by
    have hp := pick_perm (w.params.setOrder a ep) es
    have hl : (pickOrder (w.params.setOrder a ep) es).size = es.size := by
      have := hp.length_eq
      simpa using this
    refine next_end hh st.1 st.2 rfl (fun A' E' Q' q => setNext_text st.2 hb (by rw [Array.getElem?_eq_none (by omega)]; exact q)) fun h' e => ?_
    exact hQ h' s.toks fun c o hc q => e c o (fun z => hc (by simp [z])) q
  self := fun i s Q E st hQ => iter_self st.1 hQ
/-- the slot to go on from -/
def slotAt (t : SetTable) : Nat → Nat
  | 0 => 0
  | i + 1 => t.place.getD i 0 + 1
theorem slot_below (hr : BlT.Ris t) {i : Nat} (hi : i ≤ t.place.size) : SetTable.below t.place (slotAt t i) = i := by
  cases i with
  | zero => exact BlT.below_zero hr
  | succ i => exact BlT.below_next hr (by omega)
theorem fits_size {n : Nat} (h : t.fits n = true) : t.place.size = n := by
  simp only [SetTable.fits, Bool.and_eq_true, beq_iff_eq] at h
  exact h.1
theorem walks_table (hh : A.handled = none) (I a : Addr) (hne : a ≠ I) (hr : BlT.Ris t) (hb : w.params.followText "set-order" = false) (hd : (!t.plain && decide (es.size > 1)) = false) (hl : t.led = true) :
    Walks prog w A I [I, a] [I] es.size (fun i v => (es.toList.map (·.2))[i]? = some v) (fun i h => i ≤ es.size ∧ h.get? I = some (itO (.int (slotAt t i) 0) i a es.size ep) ∧ SetAt h a es ep t) where
  sub := fun b hb => by simp at hb; simp [hb]
  frame := fun _ _ _ st hk => ⟨st.1, hk I (by simp) _ st.2.1, st.2.2.keep fun o e => hk a (by simp) o e⟩
  item := fun i s Q E hi st hQ => by
    obtain ⟨_, st1, st2⟩ := st
    have hs := fits_size st2.fits
    have hp : i < t.place.size := by omega
    refine next_item st1 st2 rfl (x := (es[i]).2) (nx := slotAt t (i + 1)) (fun A' E' Q' q => setNext_table st2 hb hd hl ?_) fun h' e b => ?_
    · rw [slot_below hr (by omega), Array.getElem?_eq_getElem hi, Array.getElem?_eq_getElem hp]
      have e1 : t.place[i] = t.place.getD i 0 := by simp only [Array.getD, hp, dif_pos]; rfl
      show Q' (some (es[i].2, t.place[i] + 1)) s
      rw [e1]
      exact q
    · refine hQ _ h' s.toks ?_ ⟨hi, e, st2.keep fun o q => (b.2 a hne).trans q⟩ fun c o hc q => (b.2 c (fun z => hc (by simp [z]))).trans q
      simp [hi]
  done := fun s Q E st hQ => by
    obtain ⟨_, st1, st2⟩ := st
    have hs := fits_size st2.fits
    refine next_end hh st1 st2 rfl (fun A' E' Q' q => setNext_table st2 hb hd hl ?_) fun h' e => ?_
    · rw [slot_below hr (by omega), Array.getElem?_eq_none (Nat.le_refl _)]
      exact q
    · exact hQ h' s.toks fun c o hc q => e c o (fun z => hc (by simp [z])) q
  self := fun i s Q E st hQ => iter_self st.2.1 hQ
/-- in a drawn order -/
theorem walks_drawn (hh : A.handled = none) (I a tp : Addr) (hne : a ≠ I) (hne2 : tp ≠ I) {ps : List Nat} (hp : ps.Perm (List.range es.size)) :
    Walks prog w A I [I, a, tp] [I] es.size (fun i v => (ps.filterMap fun p => (es[p]?).map (·.2))[i]? = some v)
      (fun i h => h.get? I = some (itO (.ref tp) i a es.size ep) ∧ SetAt h a es ep t ∧ ∃ ot k, h.get? tp = some ot ∧ ot.data = .seq (ps.map fun (q : Nat) => rawInt q).toArray k) where
  sub := fun b hb => by simp at hb; simp [hb]
  frame := fun _ _ _ st hk => ⟨hk I (by simp) _ st.1, st.2.1.keep fun o e => hk a (by simp) o e, let ⟨ot, k, e, d⟩ := st.2.2; ⟨ot, k, hk tp (by simp) _ e, d⟩⟩
  item := fun i s Q E hi st hQ => by
    have hl := hp.length_eq
    rw [List.length_range] at hl
    have hi' : i < ps.length := by omega
    have hm : ps[i] < es.size := List.mem_range.mp (hp.mem_iff.mp (List.getElem_mem hi'))
    have all : ∀ (qs : List Nat) (k : Nat), (∀ q ∈ qs, q < es.size) → ∀ p, qs[k]? = some p → (qs.filterMap fun p => (es[p]?).map (·.2))[k]? = (es[p]?).map (·.2) := by
      intro qs
      induction qs with
      | nil => intro k _ p h; simp at h
      | cons q r ih =>
        intro k hq p h
        have hq1 := hq q List.mem_cons_self
        rw [List.filterMap_cons, Array.getElem?_eq_getElem hq1]
        cases k with
        | zero =>
          have e : q = p := Option.some.inj h
          subst e
          rw [Array.getElem?_eq_getElem hq1]
          rfl
        | succ k => exact ih k (fun y hy => hq y (List.mem_cons_of_mem _ hy)) p (by simpa using h)
    refine next_itemT st.1 st.2.1 rfl st.2.2 (p := ps[i]) (y := es[ps[i]]) (List.getElem?_eq_getElem hi') (Array.getElem?_eq_getElem hm) fun h' e b => ?_
    refine hQ _ h' s.toks ?_ ⟨e, st.2.1.keep fun o q => (b.2 a hne).trans q, let ⟨ot, k, e', d⟩ := st.2.2; ⟨ot, k, (b.2 tp hne2).trans e', d⟩⟩ fun c o hc q => (b.2 c (fun z => hc (by simp [z]))).trans q
    rw [all ps i (fun q hq => List.mem_range.mp (hp.mem_iff.mp hq)) ps[i] (List.getElem?_eq_getElem hi'), Array.getElem?_eq_getElem hm]
    rfl
  done := fun s Q E st hQ => by
    have hl := hp.length_eq
    rw [List.length_range] at hl
    refine next_endT hh st.1 st.2.1 rfl st.2.2 (List.getElem?_eq_none (by omega)) fun h' e => ?_
    exact hQ h' s.toks fun c o hc q => e c o (fun z => hc (by simp [z])) q
  self := fun i s Q E st hQ => iter_self st.1 hQ
theorem drawn_perm {ps : List Nat} (hp : ps.Perm (List.range es.size)) : (ps.filterMap fun p => (es[p]?).map (·.2)).Perm (es.toList.map (·.2)) := by
  refine (hp.filterMap _).trans ?_
  have e : (List.range es.size).filterMap (fun p => (es[p]?).map (·.2)) = ((List.range es.size).filterMap fun p => es[p]?).map (·.2) := by
    rw [List.map_filterMap]
  rw [e, filterMap_getElem?_range]
end
section
variable {prog : Program} {w : World} {A : Around} {E : Value → Shared → Prop} {s : Shared} {a : Addr} {es : Array (Int × Value)} {ep : Nat} {t : SetTable} {Q : Value → Shared → Prop}
/-- a set is walked: its elements, each once, in some order -/
theorem iter_set (hh : A.handled = none) (S : SetAt s.heap a es ep t) (hr : BlT.Ris t) (hl : t.led = !w.params.followText "set-order") (hz : es.size < scanBound)
    (hQ : ∀ (I : Addr) (s2 : Shared) (fp : List Addr) (vs : List Value) (St : Nat → Heap → Prop), s2.os = s.os → s2.gens = s.gens → (∀ b o, s.heap.get? b = some o → s2.heap.get? b = some o) →
      s.heap.objs.size ≤ I → (∀ b ∈ fp, b = a ∨ s.heap.objs.size ≤ b) → Walks prog w A I fp [I] es.size (fun i v => vs[i]? = some v) St → St 0 s2.heap → vs.Perm (es.toList.map (·.2)) → Q (.ref I) s2) :
    wpAny (model prog w) A (pyIter (.ref a)) Q E s := by
  obtain ⟨o, ho, hex, hdat⟩ := S.ex
  have hlt : a < s.heap.objs.size := Heap.lt_size ho
  refine wpAny_pyIter_slot S.type F.slot_set_iter (wpAny_call_entry F.slot_set_iter S.type entry_iter ?_ (F.args_set_iter_1 _))
  show wpAny _ _ ((Builtin.Frozenset.sizeOf a) >>= _) _ _ s
  refine wpAny_bind ?_
  unfold Builtin.Frozenset.sizeOf
  refine wpAny_bind (wpAny_setEntries_of ho hdat S.fits (wpAny_pure ?_))
  refine wpAny_bind ?_
  unfold setDrawn
  refine wpAny_bind (wpAny_setState_of ho hdat S.fits ?_)
  dsimp only
  unfold setsByText
  refine wpAny_bind (wpAny_bind (wpAny_askSetting (wpAny_pure (wpAny_pure ?_))))
  show wpAny _ _ (if (!w.params.followText "set-order" && (!t.plain && decide (es.size > 1))) = true then _ else _) _ _ s
  have fin : ∀ (first : Value) (s1 : Shared), SetAt s1.heap a es ep t → (Q (.ref s1.heap.objs.size) { s1 with heap := s1.heap.push (itO first 0 a es.size ep) }) →
      wpAny (model prog w) A.in1 (setEpoch a >>= fun e => newFields "set_iterator" [first, rawInt 0, .ref a, rawInt es.size, rawInt e] >>= fun v => ret v) (fun fin s' => ∃ v, fin = .done (.ret v) ∧ ∃ T' r, s'.TypeIs v T' ∧ typeLookup (.type T') "__next__" = pure (some r) ∧ Q v s') E s1 := by
    intro first s1 S1 q
    obtain ⟨o1, ho1, _, hd1⟩ := S1.ex
    refine wpAny_bind (wpAny_setEpoch_of ho1 hd1 S1.fits ?_)
    refine wpAny_bind (wpAny_newObj_type (wpAny_pure ⟨_, rfl, "set_iterator", _, ⟨_, Heap.get?_push_size _ rfl, rfl⟩, slot_next.lookup, ?_⟩))
    exact q
  cases hb : w.params.followText "set-order" with
  | true =>
    rw [if_neg (by simp)]
    refine wpAny_bind (wpAny_pure (fin _ s S ?_))
    refine hQ s.heap.objs.size _ [s.heap.objs.size, a] _ _ rfl rfl (fun b o e => Heap.get?_push_of_some _ e) (Nat.le_refl _) (fun b hb => ?_) (walks_text (t := t) (ep := ep) hh _ a (Nat.ne_of_lt hlt) hb) ⟨Heap.get?_push_size _ rfl, S.keep fun o e => Heap.get?_push_of_some _ e⟩ ?_
    · rcases List.mem_cons.mp hb with e | e
      · exact .inr (by rw [e]; exact Nat.le_refl _)
      · exact .inl (List.mem_singleton.mp e)
    · exact (pick_perm _ es).map _
  | false =>
    have hl : t.led = true := by rw [hl, hb]; rfl
    cases hd : (!t.plain && decide (es.size > 1)) with
    | false =>
      rw [if_neg (by simp)]
      refine wpAny_bind (wpAny_pure (fin _ s S ?_))
      refine hQ s.heap.objs.size _ [s.heap.objs.size, a] _ _ rfl rfl (fun b o e => Heap.get?_push_of_some _ e) (Nat.le_refl _) (fun b hb => ?_) (walks_table (t := t) (ep := ep) hh _ a (Nat.ne_of_lt hlt) hr hb hd hl) ⟨Nat.zero_le _, Heap.get?_push_size _ rfl, S.keep fun o e => Heap.get?_push_of_some _ e⟩ (List.Perm.refl _)
      rcases List.mem_cons.mp hb with e | e
      · exact .inr (by rw [e]; exact Nat.le_refl _)
      · exact .inl (List.mem_singleton.mp e)
    | true =>
      rw [if_pos (by simp)]
      refine wpAny_bind (wp_drawOrder _ _ _ _ (by simp) fun ps d hp => ?_)
      have hpl : ps.length = es.size := by have := hp.length_eq; simpa using this
      refine wpAny_bind ?_
      unfold newTuple
      refine wpAny_newObj_type ?_ (by show (ps.map fun (q : Nat) => rawInt q).toArray.size ≤ sizeLine; rw [List.size_toArray, List.length_map, hpl]; have h1 : scanBound = 4096 := rfl; rw [sizeLine_eq]; omega)
      refine fin _ _ (S.keep fun o e => Heap.get?_push_of_some _ e) ?_
      have hsz : (s.heap.push { cls := .type "tuple", data := .seq (ps.map fun (q : Nat) => rawInt q).toArray }).objs.size = s.heap.objs.size + 1 := Heap.size_push ..
      refine hQ (s.heap.push { cls := .type "tuple", data := .seq (ps.map fun (q : Nat) => rawInt q).toArray }).objs.size _ [(s.heap.push { cls := .type "tuple", data := .seq (ps.map fun (q : Nat) => rawInt q).toArray }).objs.size, a, s.heap.objs.size] _ _ rfl rfl (fun b o e => Heap.get?_push_of_some _ (Heap.get?_push_of_some _ e)) (by rw [hsz]; exact Nat.le_succ _) (fun b hb => ?_)
        (walks_drawn (t := t) (ep := ep) hh _ a s.heap.objs.size (by rw [hsz]; exact Nat.ne_of_lt (Nat.lt_succ_of_lt hlt)) (by rw [hsz]; exact Nat.ne_of_lt (Nat.lt_succ_self _)) hp)
        ⟨Heap.get?_push_size _ rfl, S.keep fun o e => Heap.get?_push_of_some _ (Heap.get?_push_of_some _ e), _, 0, Heap.get?_push_of_some _ (Heap.get?_push_size _ rfl), rfl⟩ (drawn_perm hp)
      rcases List.mem_cons.mp hb with e | e
      · exact .inr (by rw [e, hsz]; exact Nat.le_succ _)
      · rcases List.mem_cons.mp e with e | e
        · exact .inl e
        · exact .inr (by rw [List.mem_singleton.mp e]; exact Nat.le_refl _)
end
end BlS
set_option Elab.async false
set_option maxRecDepth 100000
set_option maxHeartbeats 4000000
namespace BlS
open PySem PyProof.Rows

def zOf : Value → Int
  | .int i _ => i
  | _ => 0
/-- the elements: whole numbers, each once, those of R -/
structure Elts (P : Program) (w : World) (l : List (Int × Value)) (R : List Int) : Prop where
  els : ElemsOf (intKind P w) l
  nd : (l.map fun e => zOf e.2).Nodup
  mem : ∀ k, k ∈ (l.map fun e => zOf e.2) ↔ k ∈ R
section
variable {prog : Program} {w : World}
theorem Elts.perm {l l' : List (Int × Value)} {R : List Int} (h : Elts prog w l R) (p : l'.Perm l) : Elts prog w l' R :=
  ⟨h.els.perm p, (p.map _).nodup_iff.mpr h.nd, fun k => ((p.map _).mem_iff).trans (h.mem k)⟩
theorem Elts.nil : Elts prog w [] [] := ⟨fun e he => by simp at he, by simp, fun k => by simp⟩
theorem is_z {k : Int} {v : Value} (h : (intKind prog w).is k v = true) : ∃ t, v = .int k t := Value.isInt_shape (k := k) (v := v) h
theorem Elts.push {l : List (Int × Value)} {R : List Int} (h : Elts prog w l R) {k : Int} {t : Tok} (hk : k ∉ R) : Elts prog w (l ++ [((intKind prog w).hash k, .int k t)]) (R ++ [k]) := by
  refine ⟨h.els.push (intKind_is _ _ _ _) rfl, ?_, fun z => ?_⟩
  · rw [List.map_append, List.nodup_append]
    refine ⟨h.nd, by simp, fun a ha b hb => ?_⟩
    have hb : b = k := by simpa [zOf] using hb
    subst hb
    intro e
    subst e
    exact hk ((h.mem a).mp ha)
  · rw [List.map_append, List.mem_append, List.mem_append, h.mem z]
    simp [zOf]
theorem Elts.again {l : List (Int × Value)} {R : List Int} (h : Elts prog w l R) {k : Int} (hk : k ∈ R) : Elts prog w l (R ++ [k]) := by
  refine ⟨h.els, h.nd, fun z => ?_⟩
  rw [h.mem z, List.mem_append, List.mem_singleton]
  constructor
  · exact .inl
  · rintro (q | q)
    · exact q
    · rw [q]; exact hk
theorem Elts.nzs {l : List (Int × Value)} {R : List Int} (h : Elts prog w l R) : IntsAre (l.map (·.2)) (l.map fun e => zOf e.2) := by
  have go : ∀ l : List (Int × Value), ElemsOf (intKind prog w) l → IntsAre (l.map (·.2)) (l.map fun e => zOf e.2) := by
    intro l
    induction l with
    | nil => intro _; exact .nil
    | cons e r ih =>
      intro he
      obtain ⟨⟨k, hk, _⟩, _⟩ := he.head
      obtain ⟨t, ht⟩ := is_z hk
      rw [List.map_cons, List.map_cons, ht]
      exact .cons k t (ih he.tail)
  exact go l h.els
end
/-- a set of the whole numbers R stands at a -/
structure SetZ (P : Program) (w : World) (h : Heap) (a : Addr) (R : List Int) (n : Nat) : Prop where
  ex : ∃ es ep t, SetAt h a es ep t ∧ Elts P w es.toList R ∧ es.size ≤ n ∧ BlT.Ris t ∧ t.led = !w.params.followText "set-order"
theorem SetZ.keep {P : Program} {w : World} {h h' : Heap} {a : Addr} {R : List Int} {n : Nat} (x : SetZ P w h a R n) (k : ∀ o, h.get? a = some o → h'.get? a = some o) : SetZ P w h' a R n := by
  obtain ⟨es, ep, t, S, r⟩ := x.ex
  exact ⟨es, ep, t, S.keep k, r⟩
section
variable {prog : Program} {w : World} {A : Around} {E : Value → Shared → Prop} {s : Shared} {a : Addr} {R : List Int} {n : Nat}
theorem store_z {h : Heap} {es es' : Array (Int × Value)} {ep : Nat} {t t' : SetTable} (S : SetAt h a es ep t) (hE : Elts prog w es'.toList R) (hn : es'.size ≤ n) (hf : t'.fits es'.size = true) (hr : BlT.Ris t') (hl : t'.led = !w.params.followText "set-order") :
    SetAt (h.update a (Obj.putSet es' t')) a es' (ep + 1) t' ∧ SetZ prog w (h.update a (Obj.putSet es' t')) a R n := by
  obtain ⟨o, ho, hex, hd⟩ := S.ex
  have hg : (h.update a (Obj.putSet es' t')).get? a = some { o with data := .set es' (ep + 1) t' } := by
    have q := Heap.get?_update_self (Obj.putSet es' t') ho (by rw [putSet_of es' t' hd]; rfl)
    rw [putSet_of es' t' hd] at q
    exact q
  have S' : SetAt (h.update a (Obj.putSet es' t')) a es' (ep + 1) t' := ⟨⟨_, hg, hex, rfl⟩, hf⟩
  exact ⟨S', ⟨es', ep + 1, t', S', hE, hn, hr, hl⟩⟩
/-- an element is put in -/
theorem add_z {k : Int} {tk : Tok} {Q : Bool → Shared → Prop} (hS : SetZ prog w s.heap a R n) (hroom : n + 1 < scanBound)
    (h : ∀ b h', Heap.SameBut a s.heap h' → SetZ prog w h' a (R ++ [k]) (n + 1) → Q b { s with heap := h' }) :
    wpAny (model prog w) A (setAddHashed a (.int k tk) ((intKind prog w).hash k)) Q E s := by
  obtain ⟨es, ep, t, S, hE, hn, hr, hl⟩ := hS.ex
  obtain ⟨o, ho, hex, hd⟩ := S.ex
  have hkey : (intKind prog w).is k (.int k tk) = true := intKind_is _ _ _ _
  unfold setAddHashed setAddHashedIn
  refine wpAny_holding (wpAny_bind (wpAny_setState_of ho hd S.fits ?_))
  dsimp only
  rw [byScan_of (knd := intKind prog w) (by rfl) (by omega) hE.els]
  simp only [↓reduceIte]
  unfold setAddByScan
  refine wpAny_bind ?_
  refine wpAny_bind (wpAny_rule ?_)
  refine wpAny_bind (wpAny_setScan_of hkey ho hd S.fits hE.els ?_)
  have hmem : k ∈ R ↔ ∃ e ∈ es.toList, (intKind prog w).is k e.2 = true := by
    rw [← hE.mem k, List.mem_map]
    constructor
    · rintro ⟨e, he, q⟩
      obtain ⟨⟨k', hk', _⟩, _⟩ := hE.els e he
      obtain ⟨t', ht'⟩ := is_z hk'
      refine ⟨e, he, ?_⟩
      rw [ht'] at q ⊢
      have q : k' = k := q
      rw [q]; exact intKind_is _ _ _ _
    · rintro ⟨e, he, q⟩
      obtain ⟨t', ht'⟩ := is_z q
      exact ⟨e, he, by rw [ht']; rfl⟩
  cases hq : List.findIdx? (fun e => (intKind prog w).is k e.2) es.toList with
  | some j =>
    dsimp only
    obtain ⟨hj, hpj, _⟩ := List.findIdx?_eq_some_iff_getElem.mp hq
    have hk : k ∈ R := hmem.mpr ⟨es.toList[j], List.getElem_mem hj, hpj⟩
    refine wpAny_pure (wpAny_pure ?_)
    exact h false s.heap (Heap.SameBut.refl a s.heap) ⟨es, ep, t, S, hE.again hk, by omega, hr, hl⟩
  | none =>
    dsimp only
    have hk : k ∉ R := fun q => by
      obtain ⟨e, he, hp⟩ := hmem.mp q
      have := List.findIdx?_eq_none_iff.mp hq e he
      rw [hp] at this
      cases this
    have hgw : ∀ (b : Bool) {s₁ : Shared} {Q' : Unit → Shared → Prop}, Q' () s₁ → wpAny (model prog w) A (match b with | true => rule "set.scan.the-table-gave-way" | false => pure ()) Q' E s₁ :=
      fun b s₁ Q' q => by cases b <;> first | exact wpAny_pure q | exact wpAny_rule q
    have hperm := layNew_perm t es ((intKind prog w).hash k) (.int k tk)
    have hfits := layNew_fits t es ((intKind prog w).hash k) (.int k tk)
    have hris := BlT.layNew_ris hr es ((intKind prog w).hash k) (.int k tk)
    have hled := BlT.layNew_led t es ((intKind prog w).hash k) (.int k tk)
    generalize hL : layNew t es ((intKind prog w).hash k) (.int k tk) = L at hperm hfits hris hled ⊢
    obtain ⟨es1, t1, wasDummy, gave⟩ := L
    dsimp only at hperm hfits hris hled ⊢
    rw [Array.toList_push] at hperm
    have hE1 : Elts prog w es1.toList (R ++ [k]) := (hE.push hk).perm hperm
    have hsz : es1.size = es.size + 1 := by rw [← Array.length_toList, hperm.length_eq, List.length_append, Array.length_toList]; rfl
    have hn1 : es1.size ≤ n + 1 := by omega
    refine wpAny_bind (hgw _ ?_)
    -- what follows once the table's plainness is settled
    have tail : ∀ t2 : SetTable, t2.fits es1.size = true → BlT.Ris t2 → t2.led = (!w.params.followText "set-order") → ∀ {Q' : Option Bool → Shared → Prop}, (∀ h', Heap.SameBut a s.heap h' → SetZ prog w h' a (R ++ [k]) (n + 1) → Q' (some true) { s with heap := h' }) →
        wpAny (model prog w) A (do
          storeSet a es1 t2
          if (!wasDummy && t2.tooFull) = true then do
              (match (relayAll t2 es1 (SetTable.grown es1.size)).2.2 with | true => rule "set.scan.the-table-gave-way" | false => pure ())
              storeSet a (relayAll t2 es1 (SetTable.grown es1.size)).1 (relayAll t2 es1 (SetTable.grown es1.size)).2.1
              pure (some true)
            else pure (some true)) Q' E s := by
      intro t2 hf2 hr2 hl2 Q' hQ'
      obtain ⟨S1, Z1⟩ := store_z (n := n + 1) S hE1 hn1 hf2 hr2 hl2
      refine wpAny_bind (wpAny_storeSet_of ho hd ?_ (by rw [sizeLine_eq]; have : scanBound = 4096 := rfl; omega))
      have hsb := Heap.SameBut.update s.heap a (Obj.putSet es1 t2)
      split
      · have hp := relayAll_perm t2 es1 (SetTable.grown es1.size)
        have hfr := relayAll_fits t2 es1 (SetTable.grown es1.size)
        have hrr := BlT.relayAll_ris t2 es1 (SetTable.grown es1.size)
        generalize hRl : relayAll t2 es1 (SetTable.grown es1.size) = Rl at hp hfr hrr ⊢
        obtain ⟨es2, t3, gave2⟩ := Rl
        dsimp only at hp hfr hrr ⊢
        have hsz2 : es2.size = es1.size := by rw [← Array.length_toList, hp.length_eq, Array.length_toList]
        obtain ⟨o1, ho1, hex1, hd1⟩ := S1.ex
        obtain ⟨S2, Z2⟩ := store_z (n := n + 1) S1 (hE1.perm hp) (by omega) hfr hrr.1 (hrr.2.trans hl2)
        refine wpAny_bind (hgw _ ?_)
        refine wpAny_bind (wpAny_storeSet_of (s := { s with heap := s.heap.update a (Obj.putSet es1 t2) }) ho1 hd1 ?_ (by rw [sizeLine_eq]; have : scanBound = 4096 := rfl; omega))
        exact wpAny_pure (hQ' _ (hsb.trans (Heap.SameBut.update _ a _)) Z2)
      · exact wpAny_pure (hQ' _ hsb Z1)
    split
    · refine wpAny_bind ?_
      rw [hashByValue_scannable 8 (show (Value.int k tk).scannable = true from rfl)]
      refine wpAny_pure ?_
      refine tail _ ?_ ?_ ?_ fun h' hsb Z => ?_
      · split
        · exact hfits
        · exact SetTable.fits_plain_off hfits
      · split
        · exact hris
        · exact hris
      · split
        · exact hled.trans hl
        · exact hled.trans hl
      · exact wpAny_pure (h true h' hsb Z)
    · refine wpAny_bind (wpAny_pure ?_)
      simp only [↓reduceIte]
      refine tail t1 hfits hris (hled.trans hl) fun h' hsb Z => ?_
      exact wpAny_pure (h true h' hsb Z)
end
end BlS
set_option Elab.async false
set_option maxRecDepth 100000
set_option maxHeartbeats 4000000
namespace BlS
open PySem PyProof.Rows
section
variable {prog : Program} {w : World} {A : Around} {R : Result → Shared → Prop} {I : Addr} {fp wr : List Addr} {n : Nat} {P : Nat → Value → Prop} {St : Nat → Heap → Prop}
theorem loop_z (W : Walks prog w A.in1 I fp wr n P St) (S : Addr) (hSf : S ∉ fp) (val : Nat → Int) (hval : ∀ i v, P i v → ∃ t, v = .int (val i) t) (hb : n + 1 < scanBound) :
    ∀ (k i : Nat) (s : Shared), n - i = k → i ≤ n → St i s.heap → SetZ prog w s.heap S ((List.range i).map val) i →
      (∀ h' tk, (∀ b o, b ∉ wr → b ≠ S → s.heap.get? b = some o → h'.get? b = some o) → SetZ prog w h' S ((List.range n).map val) n → R (.ok (.ret .none)) { s with heap := h', toks := tk }) →
      codeAny (model prog w) A (.builtin "set.update.loop" ⟨[.ref S, .ref I], []⟩) R s := by
  have hSw : S ∉ wr := fun h => hSf (W.sub _ h)
  intro k
  induction k with
  | zero =>
    intro i s hk hi hst hS hR
    have hin : i = n := by omega
    subst hin
    refine codeAny_builtin F.entry_set_update_loop ?_
    rw [Around.under_plainId F.plain_set_update_loop _]
    show wpAny _ A.in1 (pyNext (.ref I) >>= _) _ _ s
    refine wpAny_bind (W.done s _ _ hst fun h' tk hm => ?_)
    show wpAny _ A.in1 (ret Value.none) _ _ _
    exact wpAny_pure (hR h' tk (fun b o h1 _ e => hm b o h1 e) (hS.keep fun o e => hm S o hSw e))
  | succ k ih =>
    intro i s hk hi hst hS hR
    have hlt : i < n := by omega
    refine codeAny_builtin F.entry_set_update_loop ?_
    rw [Around.under_plainId F.plain_set_update_loop _]
    show wpAny _ A.in1 (pyNext (.ref I) >>= _) _ _ s
    refine wpAny_bind (W.item i s _ _ hlt hst fun v h1 tk hP hst' hm => ?_)
    obtain ⟨t, rfl⟩ := hval i v hP
    have hS' : SetZ prog w h1 S ((List.range i).map val) i := hS.keep fun o e => hm S o hSw e
    show wpAny _ A.in1 (holding [Value.int (val i) t] (setAdd S (.int (val i) t)) >>= _) _ _ _
    refine wpAny_bind (wpAny_holding ?_)
    unfold setAdd
    refine wpAny_holding ?_
    refine wpAny_bind ((intKind prog w).pyHash (k := val i) (intKind_is _ _ _ _) ?_)
    refine add_z (s := { s with heap := h1, toks := tk + 1 }) hS' (by omega) fun b h2 hsb hS2 => ?_
    have e : (List.range i).map val ++ [val i] = (List.range (i + 1)).map val := by rw [List.range_succ, List.map_append]; rfl
    rw [e] at hS2
    refine wpAny_pure ⟨plainId_quiet F.plain_set_update_loop _, ih (i + 1) _ (by omega) hlt (W.frame _ _ _ hst' fun c hc o q => ?_) hS2 fun h3 tk3 hk3 hS3 => ?_⟩
    · exact (hsb.2 c (fun z => hSf (by rw [← z]; exact hc))).trans q
    · exact hR h3 tk3 (fun c o c1 c2 q => hk3 c o c1 c2 ((hsb.2 c c2).trans (hm c o c1 q))) hS3
end
section
variable {prog : Program} {w : World} {A : Around} {E : Value → Shared → Prop} {s : Shared}
theorem new_z (a : Value) {Q₁ : Value → Shared → Prop}
    (h : Q₁ (.ref s.heap.objs.size) { s with heap := s.heap.push { cls := .type "set", dict := none, data := .set #[] 0 (.fresh 0 0 (!w.params.followText "set-order")) } }) :
    codeAny (model prog w) A (.call (.builtin "set.__new__") ⟨[.type "set", a], []⟩) (wants Q₁ E) s := by
  refine codeAny_of_tree ?_
  show wpAny _ A.in1 (do checkBuiltinCall "set.__new__" ⟨[.type "set", a], []⟩; again (.builtin "set.__new__" ⟨[.type "set", a], []⟩)) _ _ s
  refine wpAny_bind (wpAny_of_eq (PySem.F.newCall_set_1 a) (wpAny_pure ⟨plainId_quiet PySem.F.plain_set_new _, codeAny_builtin PySem.F.entry_set_new ?_⟩))
  rw [Around.under_plainId PySem.F.plain_set_new _]
  unfold Builtin.«set.__new__» Builtin.Frozenset.newClass
  have hsub := sub_set_self
  obtain ⟨hp, g, d, tk, os⟩ := s
  dsimp only
  wp_walk
  refine wpAny_askSetting (wpAny_pure ?_)
  dsimp only
  simp only [newObj]
  refine wpAny_bind (wpAny_alloc (wpAny_pure ?_))
  exact wpAny_pure h
set_option maxHeartbeats 8000000 in
/-- set(xs) of whole numbers -/
theorem call_z {l : Addr} {items : Array Value} {ns : List Int} {Q : Value → Shared → Prop}
    (hh : A.handled = none) (hl : s.heap.IsList l items) (hi : IntsAre items.toList ns) (hb : items.size + 1 < scanBound)
    (h : ∀ (h' : Heap) (tk : Nat), SetZ prog w h' s.heap.objs.size ns items.size →
      (∀ b o, b < s.heap.objs.size → s.heap.get? b = some o → h'.get? b = some o) → Q (.ref s.heap.objs.size) { s with heap := h', toks := tk }) :
    wpAny (model prog w) A (call (.type "set") [.ref l]) Q E s := by
  have hlen : ns.length = items.size := by have := IntsAre.length hi; simpa using this.symm
  have hall : (List.range items.size).map (fun i => ns.getD i 0) = ns := by
    apply List.ext_getElem
    · simp [hlen]
    · intro i h1 h2
      simp [List.getD_eq_getElem?_getD, h2]
  obtain ⟨c, tl, hmro⟩ := PySem.F.called_set.mro
  have hmade := PySem.F.called_set.made
  have hsub := PySem.F.called_set.sub
  refine wpAny_call (codeAny_of_tree ?_)
  show wpAny _ _ (callAny (.type "set") _) _ _ _
  refine wpAny_pure ⟨Code.quiet_builtin _ (by decide +kernel), codeAny_builtin PySem.F.entry_type_call ?_⟩
  rw [Around.under_plain (weight_type_call_type "set" [.ref l] []) rfl]
  have h1 := PySem.F.called_set.notType
  have h2 := PySem.F.called_set.canCreate
  have hct := PySem.F.typeCall_set_1 (.ref l)
  repeat (any_goals (first | assumption | wp_step))
  let O : Obj := { cls := .type "set", dict := none, data := .set #[] 0 (.fresh 0 0 (!w.params.followText "set-order")) }
  refine codeAny_mono (new_z (.ref l) (E := E) (Q₁ := fun obj s₁ => obj = .ref s.heap.objs.size ∧ s₁ = { s with heap := s.heap.push O }) ⟨rfl, rfl⟩) fun r s₁ hr => ?_
  cases r with
  | error e => exact hr
  | ok fl =>
    cases fl with
    | ret obj =>
      obtain ⟨rfl, rfl⟩ := hr
      have hS : (s.heap.push O).get? s.heap.objs.size = some O := Heap.get?_push_size _ rfl
      have hT : Shared.TypeIs { s with heap := s.heap.push O } (.ref s.heap.objs.size) "set" := ⟨_, hS, rfl⟩
      have hli := PySem.F.called_set.init.lookup
      have hbi := PySem.F.called_set.init.bind (.ref s.heap.objs.size)
      repeat (any_goals (first | assumption | wp_step))
      refine codeAny_mono (codeAny_call_builtin (R := wants (fun r s₂ => r = .none ∧ ∃ h' tk, s₂ = { s with heap := h', toks := tk } ∧ SetZ prog w h' s.heap.objs.size ns items.size ∧
          (∀ b o, b < s.heap.objs.size → s.heap.get? b = some o → h'.get? b = some o)) E) PySem.F.called_set.init.plain PySem.F.entry_set_init (check_set_init_1 hT ?_)) fun r₂ s₂ hr₂ => ?_
      · obtain ⟨ol, hol, hcl, nl, hdl⟩ := hl
        obtain ⟨ocls, odict, odata, oslots⟩ := ol
        simp only at hcl hdl
        subst hcl; subst hdl
        have hol' : (s.heap.push O).get? l = some { cls := .type "list", dict := odict, data := .seq items nl, slots := oslots } := Heap.get?_push_of_some _ hol
        have hsls := PySem.F.sub_list_set
        have hslf := PySem.F.sub_list_frozenset
        have hne : (Value.type "list" == Value.type "dict") = false := by decide
        have hl1 : (s.heap.push O).IsList l items := ⟨_, hol', rfl, nl, rfl⟩
        unfold Builtin.«set.__init__» noKeywords Builtin.Frozenset.updateFrom
        generalize hPI : pyIter = PI
        wp_walk
        subst hPI
        refine wpAny_pyIter_list hl1 ?_
        refine wpAny_bind (wpAny_runValue ?_)
        have hlS : l < s.heap.objs.size := Heap.lt_size hol
        have hh3 : A.in1.in1.in1.handled = none := by simp [hh]
        have hneI : l ≠ (s.heap.push O).objs.size := by
          rw [Heap.size_push]; exact Nat.ne_of_lt (Nat.lt_succ_of_lt hlS)
        have hSf : s.heap.objs.size ∉ [(s.heap.push O).objs.size, l] := by
          rw [Heap.size_push]; simp only [List.mem_cons, List.not_mem_nil, or_false, not_or]
          exact ⟨Nat.ne_of_lt (Nat.lt_succ_self _), Nat.ne_of_gt hlS⟩
        have hval : ∀ (i : Nat) (v : Value), items[i]? = some v → ∃ t, v = .int ((fun i => ns.getD i 0) i) t := fun i v hv =>
          IntsAre.int_at hi i v (by rw [Array.getElem?_toList]; exact hv)
        refine loop_z (Walks.list hh3 _ l hneI items) s.heap.objs.size hSf (fun i => ns.getD i 0) hval hb (items.size - 0) 0 _ (by omega) (Nat.zero_le _) ⟨⟨_, Heap.get?_push_size _ rfl, rfl, rfl⟩, (hl1.push _)⟩ ?hS0 ?hR
        case hS0 =>
          refine ⟨#[], 0, _, ⟨⟨_, Heap.get?_push_of_some _ hS, ⟨rfl, rfl, rfl⟩, rfl⟩, by rfl⟩, Elts.nil, Nat.le_refl _, ?_, rfl⟩
          show (#[] : Array Nat).toList.Pairwise (· < ·)
          simp
        case hR =>
          intro h' tk' hm hS'
          rw [hall] at hS'
          show wpAny _ _ _ _ _ _
          refine wpAny_pure ?_
          show wpAny _ _ (ret Value.none) _ _ _
          refine wpAny_pure ⟨rfl, h', tk', rfl, hS', fun b o hb e => ?_⟩
          have hb1 : b ≠ s.heap.objs.size := Nat.ne_of_lt hb
          have hb2 : b ≠ (s.heap.push O).objs.size := by
            rw [Heap.size_push]; exact Nat.ne_of_lt (Nat.lt_succ_of_lt hb)
          exact hm b o (fun z => hb2 (List.mem_singleton.mp z)) hb1 (Heap.get?_push_of_some _ (Heap.get?_push_of_some _ e))
      · cases r₂ with
        | error e => exact hr₂
        | ok fl₂ =>
          cases fl₂ with
          | ret r =>
            obtain ⟨rfl, h', tk, rfl, hS', hk'⟩ := hr₂
            repeat (any_goals (first | assumption | wp_step))
            exact h _ _ hS' hk'
          | _ => exact hr₂.elim
    | _ => exact hr.elim
end
end BlS
set_option Elab.async false
set_option maxRecDepth 100000
set_option maxHeartbeats 4000000
namespace BlS
open PySem PyProof.Rows
section
variable {prog : Program} {w : World} {A : Around} {E : Value → Shared → Prop} {s : Shared} {a : Addr} {Rz : List Int} {n : Nat}
theorem hint_z {Q : Bool → Shared → Prop} (hT : s.TypeIs (.ref a) "set") (h : Q false s) : wpAny (model prog w) A (Builtin.List.listLengthHint (.ref a)) Q E s := by
  unfold Builtin.List.listLengthHint
  refine wpAny_bind (wpAny_specialOf hT PySem.F.slot_set_len.lookup ?_)
  generalize hid : ("set.__len__" : String) = id0
  wp_delta
  rw [show splitId id0 = some ("set", "__len__") from by subst hid; decide +kernel]
  subst hid
  refine wpAny_bind (wpAny_isInstance (T := "set") (b := true) hT (by rw [isSubtype_type]; kernel_rfl) ?_)
  refine wpAny_ite_split (fun z => absurd z (by decide)) (fun _ => ?_)
  refine wpAny_ite_split (fun _ => ?_) (fun z => absurd (by decide +kernel) z)
  refine wpAny_bind (wpAny_typeOf hT ?_)
  exact wpAny_pure h
theorem ints_all : ∀ {vs : List Value}, (∀ v ∈ vs, ∃ k t, v = .int k t) → IntsAre vs (vs.map zOf)
  | [], _ => .nil
  | v :: r, h => by
    obtain ⟨k, t, rfl⟩ := h v List.mem_cons_self
    exact .cons k t (ints_all fun u hu => h u (List.mem_cons_of_mem _ hu))
/-- the elements of a set, gathered -/
theorem collect_z {R : List Value → Shared → Prop} (hh : A.handled = none) (Z : SetZ prog w s.heap a Rz n) (hn : n < scanBound)
    (h : ∀ (s2 : Shared) (vs : List Value) (ms : List Int), s.heap.objs.size < s2.heap.objs.size → s2.os = s.os → s2.gens = s.gens → (∀ b o, s.heap.get? b = some o → s2.heap.get? b = some o) → IntsAre vs ms → ms.Nodup → (∀ k, k ∈ ms ↔ k ∈ Rz) → vs.length ≤ n → R vs s2) :
    wpAny (model prog w) A (collect (.ref a)) R E s := by
  obtain ⟨es, ep, t, S, hE, hsz, hr, hl⟩ := Z.ex
  have hlt : a < s.heap.objs.size := by obtain ⟨o, ho, _⟩ := S.ex; exact Heap.lt_size ho
  have h16 : es.size ≤ sizeLine := by rw [sizeLine_eq]; have : scanBound = 4096 := rfl; omega
  unfold collect
  refine wpAny_bind (wpAny_runValue (codeAny_builtin entry_proto_collect' ?_))
  rw [Around.under_plainId PySem.F.plain_proto_collect _]
  show wpAny _ A.in1 (newList [] >>= fun l => again (.builtin "list.__iadd__" ⟨[l, .ref a], []⟩)) _ _ s
  refine wpAny_bind (wpAny_newObj_type ?_)
  refine wpAny_pure ⟨plainId_quiet PySem.F.plain_list_iadd _, codeAny_builtin entry_list_iadd' ?_⟩
  rw [Around.under_plainId PySem.F.plain_list_iadd _]
  have hS₁ : (s.heap.push { cls := .type "list", data := .seq ([] : List Value).toArray }).get? s.heap.objs.size = some { cls := .type "list", data := .seq #[] } := Heap.get?_push_size _ rfl
  have SA : SetAt (s.heap.push { cls := .type "list", data := .seq ([] : List Value).toArray }) a es ep t := S.keep fun o e => Heap.get?_push_of_some _ e
  show wpAny _ A.in1 (Builtin.List.listExtendWith (.ref s.heap.objs.size) (.ref a) (.ref s.heap.objs.size)) _ _ _
  unfold Builtin.List.listExtendWith
  refine wpAny_bind (wpAny_typeOf (T := "set") SA.type ?_)
  have hSr : s.heap.objs.size ≠ a := Nat.ne_of_gt hlt
  have e1 : Builtin.List.listSameRef (.ref s.heap.objs.size) (.ref a) = false := by simp [Builtin.List.listSameRef, hSr]
  have e2 : (Value.type "set" == Value.type "list") = false := by decide
  have e3 : (Value.type "set" == Value.type "tuple") = false := by decide
  simp only [e1, e2, e3, Bool.or_false, Bool.false_eq_true, if_false]
  refine wpAny_bind (iter_set (A := A.in1) hh SA hr hl (by omega) fun I s2 fp vs St ho hg hk hI hfp W st hp => ?_)
  have hSf : s.heap.objs.size ∉ fp := fun hm => by
    rcases hfp _ hm with z | z
    · exact hSr z
    · have z : (s.heap.push { cls := .type "list", data := .seq ([] : List Value).toArray }).objs.size ≤ s.heap.objs.size := z
      rw [Heap.size_push] at z
      omega
  have hSI : s.heap.objs.size ≠ I := fun z => by
    have hI : (s.heap.push { cls := .type "list", data := .seq ([] : List Value).toArray }).objs.size ≤ I := hI
    rw [Heap.size_push] at hI
    omega
  have hold : ∀ b o, s.heap.get? b = some o → s2.heap.get? b = some o := fun b o e => hk b o (Heap.get?_push_of_some _ e)
  have key : ∀ (h1 : Heap) (c₁ : Nat), St 0 h1 → (∀ b o, s.heap.get? b = some o → h1.get? b = some o) → h1.get? s.heap.objs.size = some { cls := .type "list", data := .seq #[] c₁ } →
      codeAny (model prog w) A (.builtin "list.extend.loop" ⟨[.ref s.heap.objs.size, .ref I, .ref s.heap.objs.size], []⟩)
        (fun r s' => ∃ v, r = .ok (.ret v) ∧ wpAny (model prog w) A (match v with
          | .ref b => (load b >>= fun o => match o.data with
            | .seq xs _ => (pure xs.toList : Sem (List Value))
            | _ => unsupported "internal:collect")
          | _ => unsupported "internal:collect") R E s') { s2 with heap := h1 } := by
    intro h1 c₁ st1 hk1 hS1
    refine codeAny_extend_loopS W.toS h16 _ hSf _ es.size 0 _ #[] c₁ rfl (Nat.zero_le _) st1 hS1 (ItemsOf.nil _) fun s' acc' c' hm hS' hacc => ⟨_, rfl, ?_⟩
    show wpAny _ A (load s.heap.objs.size >>= _) _ _ s'
    refine wpAny_bind (wpAny_load hS' (wpAny_pure ?_))
    have hvs : acc'.toList = vs := by
      have hvl : vs.length = es.size := by have := hp.length_eq; simpa using this
      apply List.ext_getElem?
      intro j
      by_cases q : j < es.size
      · have hj : j < acc'.size := by rw [hacc.1]; exact q
        rw [hacc.2 j acc'[j] (Array.getElem?_eq_getElem hj)]
        simp [hj]
      · rw [List.getElem?_eq_none (by rw [Array.length_toList, hacc.1]; omega), List.getElem?_eq_none (by omega)]
    rw [hvs]
    have hint : ∀ v ∈ vs, ∃ k t, v = Value.int k t := fun v hv => by
      obtain ⟨e, he, q⟩ := List.mem_map.mp (hp.mem_iff.mp hv)
      obtain ⟨⟨k, hk', _⟩, _⟩ := hE.els e he
      obtain ⟨t', ht'⟩ := is_z hk'
      exact ⟨k, t', by rw [← q]; exact ht'⟩
    have hpz : (vs.map zOf).Perm (es.toList.map fun e => zOf e.2) := by
      have q := hp.map zOf
      rw [List.map_map] at q
      exact q
    refine h s' vs (vs.map zOf) (Heap.lt_size hS') ?_ ?_ (fun b o e => ?_) (ints_all hint) (hpz.nodup_iff.mpr hE.nd) (fun k => hpz.mem_iff.trans (hE.mem k)) (by have := hp.length_eq; simp at this; omega)
    · exact hm.os.trans ho
    · exact (show s'.gens = s2.gens from hm.gens).trans hg
    · refine hm.heap b o (fun z => ?_) (hk1 b o e)
      rcases List.mem_cons.mp z with z | z
      · exact absurd (Heap.lt_size e) (by rw [z]; exact Nat.lt_irrefl _)
      · have hI : (s.heap.push { cls := .type "list", data := .seq ([] : List Value).toArray }).objs.size ≤ I := hI
        rw [Heap.size_push] at hI
        have q := Heap.lt_size e
        rw [List.mem_singleton.mp z] at q
        exact absurd (Nat.lt_of_lt_of_le q (Nat.le_of_succ_le hI)) (Nat.lt_irrefl _)
  have hS₂ : s2.heap.get? s.heap.objs.size = some { cls := .type "list", data := .seq #[] } := hk _ _ hS₁
  have conv : ∀ {c : Code} {s' : Shared}, codeAny (model prog w) A c
        (fun r s' => ∃ v, r = .ok (.ret v) ∧ wpAny (model prog w) A (match v with
          | .ref b => (load b >>= fun o => match o.data with
            | .seq xs _ => (pure xs.toList : Sem (List Value))
            | _ => unsupported "internal:collect")
          | _ => unsupported "internal:collect") R E s') s' →
      codeAny (model prog w) A c (wants (fun v s' => wpAny (model prog w) A (match v with
          | .ref b => (load b >>= fun o => match o.data with
            | .seq xs _ => (pure xs.toList : Sem (List Value))
            | _ => unsupported "internal:collect")
          | _ => unsupported "internal:collect") R E s') E) s' := fun {c s'} q => codeAny_mono q fun r s'' ⟨v, e, z⟩ => by subst e; exact z
  refine wpAny_bind (wpAny_holding (hint_z (show SetAt s2.heap a es ep t from S.keep fun o e => hold a o e).type ?_))
  refine wpAny_ite_split (fun _ => ?_) (fun _ => wpAny_pure ⟨plainId_quiet PySem.F.plain_extend_loop _, conv (key s2.heap 0 st hold hS₂)⟩)
  refine wpAny_bind (wpAny_rule ?_)
  refine wpAny_bind ?_
  show wpAny _ _ (updateSeq s.heap.objs.size (·.push .none) >>= fun _ => updateSeq s.heap.objs.size (·.pop)) _ _ _
  refine wpAny_bind (wpAny_updateSeq hS₂ rfl ?_)
  have hS₃ := Heap.get?_update_self (Obj.mapSeq (·.push Value.none)) hS₂ rfl
  refine wpAny_updateSeq (hz := by seq_fits) hS₃ rfl ?_
  have hS₄ := Heap.get?_update_self (Obj.mapSeq (·.pop)) hS₃ rfl
  have oth : ∀ b o, b ≠ s.heap.objs.size → s2.heap.get? b = some o →
      ((s2.heap.update s.heap.objs.size (Obj.mapSeq (·.push Value.none))).update s.heap.objs.size (Obj.mapSeq (·.pop))).get? b = some o :=
    fun b o hb e => (Heap.get?_update_other _ _ (Ne.symm hb)).trans ((Heap.get?_update_other _ _ (Ne.symm hb)).trans e)
  refine wpAny_pure ⟨plainId_quiet PySem.F.plain_extend_loop _, conv (key _ _ (W.frame 0 _ _ st fun b hb o e => oth b o (fun z => hSf (z ▸ hb)) e) (fun b o e => oth b o (Nat.ne_of_lt (Heap.lt_size e)) (hold b o e)) hS₄)⟩
/-- sorted(s) of a set of whole numbers -/
theorem sorted_z {Q : Value → Shared → Prop} (hh : A.handled = none) (Z : SetZ prog w s.heap a Rz n) (hn : n < scanBound)
    (h : ∀ (s2 : Shared) (D : Addr) (out : Array Value) (ns' : List Int) (c : Nat), s2.os = s.os → s2.gens = s.gens → (∀ b o, s.heap.get? b = some o → s2.heap.get? b = some o) → s.heap.objs.size ≤ D →
      s2.heap.get? D = some { cls := .type "list", data := .seq out c } → IntsAre out.toList ns' → ns'.Pairwise (· < ·) → (∀ k, k ∈ ns' ↔ k ∈ Rz) → ns'.length ≤ n → Q (.ref D) s2) :
    wpAny (model prog w) A (call (.builtin "sorted") [.ref a]) Q E s := by
  refine Calls.call_function_entry kind_sorted plain_sorted entry_sorted (args_sorted1 _) ?_
  unfold Builtin.«sorted»
  refine wpAny_bind (m := checkCount "sorted" 1 1 _) (wpAny_pure ?_)
  refine wpAny_bind (collect_z (A := A.in1) hh Z hn fun s2 vs ms hgr ho hg hk hI hnd hm hlen => ?_)
  have h16 : vs.length ≤ sizeLine := by rw [sizeLine_eq]; have : scanBound = 4096 := rfl; omega
  refine wpAny_bind (wpAny_newList ?_ h16)
  have hoL : (s2.heap.push (seqObj "list" vs.toArray 0)).get? s2.heap.objs.size = some (seqObj "list" vs.toArray 0) := Heap.get?_push_size _ rfl
  refine wpAny_bind (wpAny_holding (wpAny_call_entry slot_list_sort (s := { s2 with heap := s2.heap.push (seqObj "list" vs.toArray 0) }) ⟨_, hoL, rfl⟩ entry_list_sort (list_sort_treeAny hoL hI h16 fun out ns' a1 a2 a3 => ⟨_, rfl, ?_⟩) (args_list_sort _)))
  refine wpAny_pure ⟨_, rfl, ?_⟩
  have hlt : s2.heap.objs.size < (s2.heap.push (seqObj "list" vs.toArray 0)).objs.size := by rw [size_push']; exact Nat.lt_succ_self _
  have hoth : ∀ b o, b ≠ s2.heap.objs.size → (s2.heap.push (seqObj "list" vs.toArray 0)).get? b = some o → (sortedHeap (s2.heap.push (seqObj "list" vs.toArray 0)) s2.heap.objs.size vs out).get? b = some o := fun b o hb e => by
    unfold sortedHeap
    refine (Heap.get?_update_other _ _ (Ne.symm hb)).trans (Heap.get?_push_of_some _ (Heap.get?_push_of_some _ ((Heap.get?_update_other _ _ (Ne.symm hb)).trans e)))
  obtain ⟨c, hc⟩ : ∃ c, (sortedHeap (s2.heap.push (seqObj "list" vs.toArray 0)) s2.heap.objs.size vs out).get? s2.heap.objs.size = some (seqObj "list" out c) := by
    unfold sortedHeap
    exact ⟨_, get?_update_seq (Heap.get?_push_of_some _ (Heap.get?_push_of_some _ (get?_update_seq hoL (fun _ => #[])))) (fun _ => out)⟩
  have hnd' : ns'.Nodup := a2.nodup_iff.mpr hnd
  have hlt' : ns'.Pairwise (· < ·) := (List.Pairwise.and a3 hnd').imp fun {x y} q => by have h1 := q.1; have h2 : x ≠ y := q.2; omega
  have hml : ms.length = vs.length := (IntsAre.length hI).symm
  refine h _ s2.heap.objs.size out ns' c ho hg (fun b o e => ?_) ?_ hc a1 hlt' (fun k => a2.mem_iff.trans (hm k)) (by rw [a2.length_eq, hml]; exact hlen)
  · exact hoth b o (Nat.ne_of_lt (Heap.lt_size (hk b o e))) (Heap.get?_push_of_some _ (hk b o e))
  · exact Nat.le_of_lt hgr
end
end BlS
set_option Elab.async false
set_option maxRecDepth 100000
set_option maxHeartbeats 4000000
namespace BlX
open PySem PyProof.Rows
theorem args_max_dflt (a d : Value) : argsOk "max" ⟨[a], [(Str.ofString "default", d)]⟩ := by unfold argsOk; kernel_rfl
section
variable {prog : Program} {w : World} {A : Around} {E : Value → Shared → Prop} {s : Shared}
theorem call_tree_kw {id : String} {b : Builtin} {args : List Value} {kw : List (Str × Value)} {Q : Value → Shared → Prop} (hk : builtinKind id = none) (hp : plainId id = true) (hb : entryFor table id = some b) (ha : argsOk id ⟨args, kw⟩)
    (hc : wpAny (model prog w) A.in1 (b ⟨args, kw⟩) (fun fin s' => match fin with
      | .done f => (match (Except.ok f : Result) with | .ok (.ret v) => Q v s' | .ok _ => False | .error e => E e s')
      | .again c' => c'.quiet = true ∧ codeAny (model prog w) A c' (fun r s' => match r with | .ok (.ret v) => Q v s' | .ok _ => False | .error e => E e s') s') E s) :
    wpAny (model prog w) A (call (.builtin id) args kw) Q E s := by
  refine wpAny_call (codeAny_call_builtin hp hb ?_)
  simp only [checkBuiltinCall, hk]
  cases hsig : Manifest.signature? id with
  | none => exact wpAny_pure hc
  | some sig =>
    have h2 : Bind.checkArgs id sig ⟨args, kw⟩ = pure () := by simpa only [argsOk, hsig] using ha
    simp only [h2]
    exact wpAny_pure hc
theorem gt_ints {a b : Int} {t u : Tok} {Q : Value → Shared → Prop} (h : Q (.bool (decide (a > b))) s) : wpAny (model prog w) A (richCompare .Gt (.int a t) (.int b u)) Q E s :=
  richCompare_gives (op := .Gt) (typeIs_int s _ t) (typeIs_int s _ u) PySem.F.slot_int_gt PySem.F.entry_int_gt (PySem.F.args_int_gt_2 _ _) (gives_int_gt _ _ t u) (fun x => nomatch x) h
end
section
variable {prog : Program} {w : World} {A : Around} {R : Result → Shared → Prop} {I : Addr} {fp wr : List Addr} {n : Nat} {P : Nat → Value → Prop} {St : Nat → Heap → Prop}
theorem max_loop (W : Walks prog w A.in1 I fp wr n P St) (val : Nat → Int) (hval : ∀ i v, P i v → ∃ t, v = .int (val i) t) (S : Addr) (hSf : S ∉ fp) (kw : List (Str × Value)) :
    ∀ (k j : Nat) (s : Shared) (M : Int) (t : Tok) (c : Nat), n - (j + 1) = k → j + 1 ≤ n → St (j + 1) s.heap → (∃ i, i ≤ j ∧ val i = M) → (∀ i, i ≤ j → val i ≤ M) →
      s.heap.get? S = some { cls := .type "list", dict := none, data := .seq #[.int M t, .int M t] c, slots := #[] } →
      (∀ M' t' h' tk, (∃ i, i < n ∧ val i = M') → (∀ i, i < n → val i ≤ M') → (∀ b o, b ∉ wr → b ≠ S → s.heap.get? b = some o → h'.get? b = some o) → R (.ok (.ret (.int M' t'))) { s with heap := h', toks := tk }) →
      codeAny (model prog w) A (.builtin "max.loop" ⟨[.ref I, .none, .ref S], kw⟩) R s := by
  have hSw : S ∉ wr := fun h => hSf (W.sub _ h)
  have hname : (toString "max" ++ toString ".loop" : String) = "max.loop" := by decide
  intro k
  induction k with
  | zero =>
    intro j s M t c hk hj hst hM hle hS hR
    have hin : j + 1 = n := by omega
    refine codeAny_builtin PySem.F.entry_max_loop ?_
    rw [Around.under_plainId PySem.F.plain_max_loop _]
    show wpAny _ A.in1 (seqItems? (.ref S) >>= _) _ _ s
    refine wpAny_bind (wpAny_seqItems hS rfl ?_)
    show wpAny _ A.in1 (tryCatch (pyNext (.ref I)) _ >>= _) _ _ s
    refine wpAny_bind (wpAny_tryCatch (W.done s _ _ (hin ▸ hst) fun h' tk hk' => ?_))
    have hS' := hk' S _ hSw hS
    show wpAny _ A.in1 (updateSeq S (fun _ => #[]) >>= _) _ _ _
    refine wpAny_bind (wpAny_updateSeq hS' rfl (wpAny_bind (wpAny_letGo (wpAny_pure ?_))))
    obtain ⟨i, hi, e⟩ := hM
    exact hR M t _ tk ⟨i, by omega, e⟩ (fun i hi => hle i (by omega)) fun b o hbw hbS e => (Heap.get?_update_other _ _ (Ne.symm hbS)).trans (hk' b o hbw e)
  | succ k ih =>
    intro j s M t c hk hj hst hM hle hS hR
    have hlt : j + 1 < n := by omega
    refine codeAny_builtin PySem.F.entry_max_loop ?_
    rw [Around.under_plainId PySem.F.plain_max_loop _]
    show wpAny _ A.in1 (seqItems? (.ref S) >>= _) _ _ s
    refine wpAny_bind (wpAny_seqItems hS rfl ?_)
    show wpAny _ A.in1 (tryCatch (pyNext (.ref I)) _ >>= _) _ _ s
    refine wpAny_bind (wpAny_tryCatch (W.item (j + 1) s _ _ hlt hst fun v h' tk hP hst' hk' => ?_))
    have hS' := hk' S _ hSw hS
    obtain ⟨u, rfl⟩ := hval _ v hP
    show wpAny _ A.in1 (tryCatch (holding [Value.int (val (j + 1)) u, Value.int (val (j + 1)) u] (richCompare .Gt (.int (val (j + 1)) u) (.int M t) >>= _)) _ >>= _) _ _ _
    refine wpAny_bind (wpAny_tryCatch (wpAny_holding (wpAny_bind (gt_ints ?_))))
    refine wpAny_bind (wpAny_holding (wpAny_truthy_bool ?_))
    refine wpAny_bind (wpAny_letGo (wpAny_pure ?_))
    by_cases hb : val (j + 1) > M
    · rw [decide_eq_true hb]
      simp only [if_true]
      refine wpAny_bind ?_
      refine wpAny_updateSeq hS' rfl (wpAny_bind (wpAny_letGo ?_))
      rw [hname]
      refine wpAny_pure ⟨plainId_quiet PySem.F.plain_max_loop _, ih (j + 1) _ (val (j + 1)) u _ (by omega) hlt (W.frame _ _ _ hst' fun b hbf o e => ?_) ⟨j + 1, Nat.le_refl _, rfl⟩ (fun i hi => ?_) (Heap.get?_update_self _ hS' rfl) fun M' t' h'' tk'' e1 e2 hk'' => ?_⟩
      · exact (Heap.get?_update_other _ _ (fun z : S = b => hSf (by rw [z]; exact hbf))).trans e
      · by_cases e : i = j + 1
        · rw [e]; exact Int.le_refl _
        · have := hle i (by omega)
          omega
      · exact hR M' t' h'' tk'' e1 e2 fun b o hbw hbS e => hk'' b o hbw hbS ((Heap.get?_update_other _ _ (Ne.symm hbS)).trans (hk' b o hbw e))
    · rw [decide_eq_false hb]
      simp only [Bool.false_eq_true, if_false]
      refine wpAny_bind (wpAny_letGo ?_)
      rw [hname]
      refine wpAny_pure ⟨plainId_quiet PySem.F.plain_max_loop _, ih (j + 1) _ M t c (by omega) hlt hst' (by obtain ⟨i, hi, e⟩ := hM; exact ⟨i, by omega, e⟩) (fun i hi => ?_) hS' fun M' t' h'' tk'' e1 e2 hk'' => ?_⟩
      · by_cases e : i = j + 1
        · rw [e]; omega
        · exact hle i (by omega)
      · exact hR M' t' h'' tk'' e1 e2 fun b o hbw hbS e => hk'' b o hbw hbS (hk' b o hbw e)
end
section
variable {prog : Program} {w : World} {A : Around} {E : Value → Shared → Prop} {s : Shared}
/-- max(xs, default=d) of whole numbers -/
theorem max_dflt {l : Addr} {vs : List Value} {ns : List Int} {d : Value} {Q : Value → Shared → Prop} (hh : A.handled = none) (hl : s.heap.IsList l vs.toArray) (hi : IntsAre vs ns)
    (h0 : ns = [] → ∀ h' tk, (∀ b o, s.heap.get? b = some o → h'.get? b = some o) → Q d { s with heap := h', toks := tk })
    (h1 : ∀ M t h' tk, M ∈ ns → (∀ x ∈ ns, x ≤ M) → (∀ b o, s.heap.get? b = some o → h'.get? b = some o) → Q (.int M t) { s with heap := h', toks := tk }) :
    wpAny (model prog w) A (call (.builtin "max") [.ref l] [(Str.ofString "default", d)]) Q E s := by
  have hname : (toString "max" ++ toString ".loop" : String) = "max.loop" := by decide
  have hlt : l < s.heap.objs.size := by obtain ⟨_, e, _⟩ := hl; exact Heap.lt_size e
  refine call_tree_kw PySem.F.kind_max PySem.F.plain_max PySem.F.entry_max (args_max_dflt _ _) ?_
  show wpAny _ A.in1 (Builtin.Builtins.bindParams "max" ["key", "default"] 0 ⟨[], [(Str.ofString "default", d)]⟩ >>= _) _ _ s
  refine wpAny_bind (wpAny_of_eq (show Builtin.Builtins.bindParams "max" ["key", "default"] 0 ⟨[], [(Str.ofString "default", d)]⟩ = pure [none, some d] from rfl) ?_)
  refine wpAny_bind (wpAny_pure ?_)
  refine wpAny_bind (wpAny_pyIter_list hl ?_)
  refine wpAny_bind (wpAny_newObj_type ?_)
  rw [hname]
  refine wpAny_pure ⟨plainId_quiet PySem.F.plain_max_loop _, ?_⟩
  have hsz : (s.heap.push { cls := .type "list_iterator", data := .fields #[.ref l, .int 0 0] }).objs.size = s.heap.objs.size + 1 := Heap.size_push ..
  generalize hS : (s.heap.push { cls := .type "list_iterator", data := .fields #[.ref l, .int 0 0] }).objs.size = S
  rw [hS] at hsz
  have hlI : l ≠ s.heap.objs.size := Nat.ne_of_lt hlt
  have hSf : S ∉ [s.heap.objs.size, l] := by
    rw [hsz]
    simp only [List.mem_cons, List.not_mem_nil, or_false, not_or]
    exact ⟨Nat.ne_of_gt (Nat.lt_succ_self _), Nat.ne_of_gt (Nat.lt_succ_of_lt hlt)⟩
  have W := Walks.list (prog := prog) (w := w) (A := A.in1) hh s.heap.objs.size l hlI vs.toArray
  have hSw : S ∉ [s.heap.objs.size] := fun z => hSf (W.sub _ z)
  have gS : ((s.heap.push { cls := .type "list_iterator", data := .fields #[.ref l, .int 0 0] }).push { cls := .type "list", data := .seq ([] : List Value).toArray }).get? S = some { cls := .type "list", data := .seq #[] } := by
    rw [← hS]
    exact Heap.get?_push_size _ rfl
  have st : ((s.heap.push { cls := .type "list_iterator", data := .fields #[.ref l, .int 0 0] }).push { cls := .type "list", data := .seq ([] : List Value).toArray }).IsListIter s.heap.objs.size l 0 ∧
      ((s.heap.push { cls := .type "list_iterator", data := .fields #[.ref l, .int 0 0] }).push { cls := .type "list", data := .seq ([] : List Value).toArray }).IsList l vs.toArray :=
    ⟨⟨_, Heap.get?_push_of_some _ (Heap.get?_push_size _ rfl), rfl, rfl⟩, (hl.push _).push _⟩
  have old : ∀ b o, s.heap.get? b = some o → b ∉ [s.heap.objs.size] ∧ b ≠ S ∧ ((s.heap.push { cls := .type "list_iterator", data := .fields #[.ref l, .int 0 0] }).push { cls := .type "list", data := .seq ([] : List Value).toArray }).get? b = some o := fun b o e =>
    ⟨fun z => absurd (Heap.lt_size e) (by rw [List.mem_singleton.mp z]; exact Nat.lt_irrefl _), fun z => absurd (Heap.lt_size e) (by rw [z, hsz]; exact Nat.not_lt.mpr (Nat.le_succ _)), Heap.get?_push_of_some _ (Heap.get?_push_of_some _ e)⟩
  have hlen : vs.length = ns.length := IntsAre.length hi
  refine codeAny_builtin PySem.F.entry_max_loop ?_
  rw [Around.under_plainId PySem.F.plain_max_loop _]
  show wpAny _ A.in1 (seqItems? (.ref S) >>= _) _ _ _
  refine wpAny_bind (wpAny_seqItems gS rfl ?_)
  by_cases hn : ns = []
  · subst hn
    have e0 : vs = [] := List.eq_nil_of_length_eq_zero hlen
    subst e0
    show wpAny _ A.in1 (tryCatch (pyNext (.ref s.heap.objs.size)) _ >>= _) _ _ _
    refine wpAny_bind (wpAny_tryCatch (W.done _ _ _ st fun h' tk hk' => ?_))
    refine wpAny_bind (wpAny_rule (wpAny_pure ?_))
    exact h0 rfl h' tk fun b o e => hk' b o (old b o e).1 (old b o e).2.2
  · have hpos : 0 < vs.toArray.size := by
      rw [List.size_toArray, hlen]
      exact List.length_pos_iff.mpr hn
    show wpAny _ A.in1 (tryCatch (pyNext (.ref s.heap.objs.size)) _ >>= _) _ _ _
    refine wpAny_bind (wpAny_tryCatch (W.item 0 _ _ _ hpos st fun v h' tk hP hst' hk' => ?_))
    have hval : ∀ (i : Nat) (v : Value), vs.toArray[i]? = some v → ∃ t, v = .int (ns.getD i 0) t := fun i v hv => by
      exact IntsAre.int_at hi i v (by simpa using hv)
    obtain ⟨u, rfl⟩ := hval 0 v hP
    have hS' := hk' S _ hSw gS
    refine wpAny_bind (wpAny_pure ?_)
    refine wpAny_bind ?_
    refine wpAny_updateSeq hS' rfl ?_
    rw [hname]
    refine wpAny_pure ⟨plainId_quiet PySem.F.plain_max_loop _, max_loop W (fun i => ns.getD i 0) hval S hSf _ _ 0 _ _ u _ rfl hpos (W.frame _ _ _ hst' fun b hbf o e => ?_) ⟨0, Nat.le_refl _, rfl⟩ (fun i hi => by rw [Nat.le_zero.mp hi]; exact Int.le_refl _) (Heap.get?_update_self _ hS' rfl) fun M' t' h'' tk'' e1 e2 hk'' => ?_⟩
    · exact (Heap.get?_update_other _ _ (fun z : S = b => hSf (by rw [z]; exact hbf))).trans e
    · obtain ⟨i, hi', e⟩ := e1
      rw [List.size_toArray, hlen] at hi'
      refine h1 M' t' h'' tk'' ?_ (fun x hx => ?_) fun b o e => hk'' b o (old b o e).1 (old b o e).2.1 ((Heap.get?_update_other _ _ (Ne.symm (old b o e).2.1)).trans (hk' b o (old b o e).1 (old b o e).2.2))
      · rw [← e]
        simp [List.getD_eq_getElem?_getD, hi']
      · obtain ⟨k, hk, ek⟩ := List.getElem_of_mem hx
        have q := e2 k (by rw [List.size_toArray, hlen]; exact hk)
        simp [List.getD_eq_getElem?_getD, hk] at q
        rw [← ek]; exact q
end
end BlX
set_option Elab.async false
set_option maxRecDepth 100000
set_option maxHeartbeats 4000000
namespace BlX
open PySem PyProof.Rows
theorem range_any (bs : List Bool) : (List.range bs.length).any (fun i => bs.getD i false) = bs.any id := by
  rw [Bool.eq_iff_iff, List.any_eq_true, List.any_eq_true]
  constructor
  · rintro ⟨i, hi, e⟩
    have hi := List.mem_range.mp hi
    refine ⟨bs[i], List.getElem_mem hi, ?_⟩
    simpa [List.getD_eq_getElem?_getD, hi] using e
  · rintro ⟨b, hb, e⟩
    obtain ⟨i, hi, q⟩ := List.getElem_of_mem hb
    refine ⟨i, List.mem_range.mpr hi, ?_⟩
    simp [List.getD_eq_getElem?_getD, hi, q]
    exact e
theorem range_all (bs : List Bool) : (List.range bs.length).all (fun i => bs.getD i false) = bs.all id := by
  rw [Bool.eq_iff_iff, List.all_eq_true, List.all_eq_true]
  constructor
  · intro h b hb
    obtain ⟨i, hi, q⟩ := List.getElem_of_mem hb
    have e := h i (List.mem_range.mpr hi)
    simp [List.getD_eq_getElem?_getD, hi, q] at e
    exact e
  · intro h i hi
    have hi := List.mem_range.mp hi
    simp [List.getD_eq_getElem?_getD, hi]
    exact h _ (List.getElem_mem hi)
section
variable {prog : Program} {w : World} {A : Around} {E : Value → Shared → Prop} {s : Shared} {l : Addr} {bs : List Bool} {Q : Value → Shared → Prop}
theorem truth_at : TruthOf prog w A (fun i v => (bs.map Value.bool).toArray[i]? = some v) (fun i => bs.getD i false) := by
  intro i v s Q E hv h
  have hv : (bs.map Value.bool)[i]? = some v := by simpa using hv
  rw [List.getElem?_map] at hv
  cases e : bs[i]? with
  | none => rw [e] at hv; cases hv
  | some b =>
    rw [e] at hv
    have hv : Value.bool b = v := Option.some.inj hv
    subst hv
    refine wpAny_truthy_bool ?_
    have q : bs.getD i false = b := by rw [List.getD_eq_getElem?_getD, e]; rfl
    rw [← q]; exact h
theorem walk_open {R : Value → Shared → Prop} (hl : s.heap.IsList l (bs.map Value.bool).toArray) (hh : A.handled = none)
    (h : ∀ I fp wr n P St tr, Walks prog w A.in1 I fp wr n P St → n = bs.length → TruthOf prog w A.in1 P tr → tr = (fun i => bs.getD i false) →
      ∀ s2 : Shared, St 0 s2.heap → (∀ h' tk, (∀ b o, b ∉ wr → s2.heap.get? b = some o → h'.get? b = some o) → ∃ h2 tk2, ({ s2 with heap := h', toks := tk } : Shared) = { s with heap := h2, toks := tk2 } ∧ ∀ b o, s.heap.get? b = some o → h2.get? b = some o) → R (.ref I) s2) :
    wpAny (model prog w) A.in1 (pyIter (.ref l)) R E s := by
  have hlt : l < s.heap.objs.size := by obtain ⟨_, e, _⟩ := hl; exact Heap.lt_size e
  refine wpAny_pyIter_list hl ?_
  refine h s.heap.objs.size [s.heap.objs.size, l] [s.heap.objs.size] _ _ _ (fun i => bs.getD i false) (Walks.list (A := A.in1) hh s.heap.objs.size l (Nat.ne_of_lt hlt) (bs.map Value.bool).toArray) (by simp) truth_at rfl _ ⟨⟨_, Heap.get?_push_size _ rfl, rfl, rfl⟩, hl.push _⟩ fun h' tk hk => ⟨h', tk, rfl, fun b o e => hk b o (fun z => ?_) (Heap.get?_push_of_some _ e)⟩
  exact absurd (Heap.lt_size e) (by rw [List.mem_singleton.mp z]; exact Nat.lt_irrefl _)
theorem any_list (hh : A.handled = none) (hl : s.heap.IsList l (bs.map Value.bool).toArray) (h : ∀ h' tk, (∀ b o, s.heap.get? b = some o → h'.get? b = some o) → Q (.bool (bs.any id)) { s with heap := h', toks := tk }) :
    wpAny (model prog w) A (call (.builtin "any") [.ref l]) Q E s := by
  refine call_any_walk (walk_open hl hh fun I fp wr n P St tr W hn ht htr s2 st fin => ⟨I, fp, wr, n, P, St, tr, rfl, W, st, ht, fun h' tk hk => ?_⟩)
  obtain ⟨h2, tk2, e, hk2⟩ := fin h' tk hk
  rw [e, hn, htr, range_any]
  exact h h2 tk2 hk2
theorem all_list (hh : A.handled = none) (hl : s.heap.IsList l (bs.map Value.bool).toArray) (h : ∀ h' tk, (∀ b o, s.heap.get? b = some o → h'.get? b = some o) → Q (.bool (bs.all id)) { s with heap := h', toks := tk }) :
    wpAny (model prog w) A (call (.builtin "all") [.ref l]) Q E s := by
  refine call_all_walk (walk_open hl hh fun I fp wr n P St tr W hn ht htr s2 st fin => ⟨I, fp, wr, n, P, St, tr, rfl, W, st, ht, fun h' tk hk => ?_⟩)
  obtain ⟨h2, tk2, e, hk2⟩ := fin h' tk hk
  rw [e, hn, htr, range_all]
  exact h h2 tk2 hk2
end
end BlX
set_option Elab.async false
set_option linter.all false
set_option maxRecDepth 100000
set_option maxHeartbeats 4000000
namespace L2
open PySem PySem.Spec PyProof.Rows
section
variable {X : Cx}
/-- a set of the whole numbers ns stands at a -/
def SetO (P : Program) (w : World) (a : Addr) (ns : List Int) (n : Nat) : HO := .ext fun h => BlS.SetZ P w h a ns n
theorem call_setI (hc : X.calm = true) : CallR X (.type "set") (fun xs H Q => ∃ (p : Addr) (ns : List Int), xs = [.ref p] ∧ SqL X.K H p (ns.map V.int) ∧ ns.length ≤ 4000 ∧ ∀ l, H l = none → Q (.ref l) (upd H l (SetO X.prog X.w l ns ns.length))) := by
  intro pins s σ H xs us Q I r h
  obtain ⟨p, ns, rfl, hq, hz, q⟩ := h
  obtain ⟨u, rfl, ru⟩ := vals1 r
  cases ru
  obtain ⟨its, rv, pl, _⟩ := I.list hq
  have hi : IntsAre its.toArray.toList ns := intsAre_of rv
  have hlen : its.toArray.size = ns.length := by
    have e := rv.length
    rw [List.length_map] at e
    rw [List.size_toArray]
    exact e.symm
  refine BlS.call_z (I.ok.hd hc) pl.isList hi (by rw [hlen]; have : scanBound = 4096 := rfl; omega) fun h' tk Z k => ?_
  rw [hlen] at Z
  have kk : ∀ b o, s.heap.get? b = some o → h'.get? b = some o := fun b o e => k b o (Heap.lt_size e) e
  refine ⟨.ref s.heap.objs.size, _, I.laid (t' := tk) (o := SetO X.prog X.w s.heap.objs.size ns ns.length) kk (Nat.le_refl _) ?_, rfl, q _ (I.hok.fresh (Nat.le_refl _))⟩
  obtain ⟨es, ep, t, S, _⟩ := Z.ex
  obtain ⟨o, ho, _⟩ := S.ex
  exact ⟨Z, ⟨o, ho⟩, fun h1 h2 z k => BlS.SetZ.keep z k⟩
theorem call_sortedI (hc : X.calm = true) : CallR X (.builtin "sorted") (fun xs H Q => ∃ (p : Addr) (ns : List Int) (n : Nat), xs = [.ref p] ∧ H p = some (SetO X.prog X.w p ns n) ∧ n ≤ 4000 ∧
    ∀ (l : Addr) (ns' : List Int), H l = none → ns'.Pairwise (· < ·) → (∀ k, k ∈ ns' ↔ k ∈ ns) → Q (.ref l) (upd H l (.lst (ns'.map V.int)))) := by
  intro pins s σ H xs us Q I r h
  obtain ⟨p, ns, n, rfl, hp, hz, q⟩ := h
  obtain ⟨u, rfl, ru⟩ := vals1 r
  cases ru
  have Z : BlS.SetZ X.prog X.w s.heap p ns n := (I.hok p _ hp).1
  refine BlS.sorted_z (I.ok.hd hc) Z (by have : scanBound = 4096 := rfl; omega) fun s2 D out ns' c ho hg hk hD hget hI hs hm hl => ?_
  have hf : H D = none := I.hok.fresh hD
  have hn16 : n ≤ sizeLine := by rw [sizeLine_eq]; omega
  have new : ObjOk X.prog X.w (upd H D (.lst (ns'.map V.int))) s2.heap D (.lst (ns'.map V.int)) :=
    ⟨by rw [List.length_map]; exact Nat.le_trans hl hn16, out.toList, c, vals_ints hI, by simpa using hget⟩
  refine ⟨.ref D, upd H D (.lst (ns'.map V.int)), I.call' (ch := []) ho (Un.laid hk hD hf) (I.hok.laid hk hD new) (by rw [hg]; exact I.bare) (fun b z => absurd z (by simp)), rfl, q D ns' hf hs hm⟩
theorem vals_bools : ∀ {bs : List Bool} {us : List Value}, Vals (bs.map V.bl) us → us = bs.map Value.bool
  | [], us, r => by rw [List.map_nil] at r; cases r; rfl
  | b :: bs, us, r => by
    rw [List.map_cons] at r
    cases r with
    | cons r1 r2 =>
      cases r1
      rw [vals_bools r2]
      rfl
theorem call_anyB (hc : X.calm = true) : CallR X (.builtin "any") (fun xs H Q => ∃ (p : Addr) (bs : List Bool), xs = [.ref p] ∧ SqL X.K H p (bs.map V.bl) ∧ Q (.bl (bs.any id)) H) := by
  intro pins s σ H xs us Q I r h
  obtain ⟨p, bs, rfl, hq, q⟩ := h
  obtain ⟨u, rfl, ru⟩ := vals1 r
  cases ru
  obtain ⟨its, rv, pl, _⟩ := I.list hq
  have e := vals_bools rv
  subst e
  exact BlX.any_list (I.ok.hd hc) pl.isList fun h' tk k => ⟨.bl _, H, I.kept k, rfl, q⟩
theorem call_allB (hc : X.calm = true) : CallR X (.builtin "all") (fun xs H Q => ∃ (p : Addr) (bs : List Bool), xs = [.ref p] ∧ SqL X.K H p (bs.map V.bl) ∧ Q (.bl (bs.all id)) H) := by
  intro pins s σ H xs us Q I r h
  obtain ⟨p, bs, rfl, hq, q⟩ := h
  obtain ⟨u, rfl, ru⟩ := vals1 r
  cases ru
  obtain ⟨its, rv, pl, _⟩ := I.list hq
  have e := vals_bools rv
  subst e
  exact BlX.all_list (I.ok.hd hc) pl.isList fun h' tk k => ⟨.bl _, H, I.kept k, rfl, q⟩
/-- max(e, default=d) -/
def tMaxD (K : PySem.W.Frag) (d : Int) (t : TA) : TE := fun σ H Q => t σ H fun vs H1 => ∃ (l : Addr) (ns : List Int), vs = [.ref l] ∧ SqL K H1 l (ns.map V.int) ∧ (ns = [] → Q (.int d) H1) ∧ ∀ M, M ∈ ns → (∀ x ∈ ns, x ≤ M) → Q (.int M) H1
theorem pe_maxD {e : Expr} {t : TA} {p pos kp cp : Pos} {d : Int} {j : Nat} (hc : X.calm = true) (hg : Gl X "max") (hm : X.mg "max" = none) (ha : PA X [e] t)
    (he : backTo pos (starEach [e] X.env) = (false, eval e X.env) :: backTo pos (starEach [] X.env) := by rfl) (hpl : (backTo pos (starEach [e] X.env)).any (·.1) = false := by rfl) :
    PE X (.Call (.Name "max" p) [e] [⟨some "default", .Constant (.int d) j cp, kp⟩] pos) (tMaxD X.K d t) := by
  intro pins s σ H Q I h
  refine wpAny_Call_Name_kw (ld_blt I hg hm boot_max ?_)
  refine callWith_kw (thn (ha pos pins s σ H _ I h) fun us s1 ⟨vs, H1, I1, r1, q1⟩ => ?_) he hpl
  obtain ⟨l, ns, rfl, hq, q0, qM⟩ := q1
  obtain ⟨u, rfl, ru⟩ := vals1 r1
  cases ru
  refine kws_cons (wpAny_Constant_int (kws_nil ?_))
  have I2 := I1.tok (s1.toks + 1)
  obtain ⟨its, rv, pl, _⟩ := I2.list hq
  have hi : IntsAre its ns := intsAre_of rv
  refine BlX.max_dflt (s := { s1 with toks := s1.toks + 1 }) (I.ok.hd hc) pl.isList hi (fun e0 h' tk k => ⟨.int d, H1, I2.kept k, ⟨_, rfl⟩, q0 e0⟩) fun M t h' tk h1 h2 k => ⟨.int M, H1, I2.kept k, ⟨_, rfl⟩, qM M h1 h2⟩
theorem call_isi : CallR X (.builtin "isinstance") (fun xs H Q => ∃ (x : V) (C : Addr) (t : Value) (b : Bool), xs = [x, .ref C] ∧ TyOf X.K H x t ∧ PySem.W.kitOne X.K t (.ref C) = some b ∧ Q (.bl b) H) := by
  intro pins s σ H xs us Q I r h
  obtain ⟨x, C, t, b, rfl, ty, e, q⟩ := h
  obtain ⟨u, w', rfl, r1, r2⟩ := vals2 r
  cases r2
  exact isinst_ok I r1 ty e fun tk => ⟨.bl b, H, I.tok tk, rfl, q⟩
end
/-! fields, written out -/
theorem lk_hit {f : Str} {v : V} {r : List (Str × V)} : List.lookup f ((f, v) :: r) = some v := by simp [List.lookup]
theorem lk_miss {f g : Str} {v : V} {r : List (Str × V)} (h : ¬ f = g) : List.lookup f ((g, v) :: r) = List.lookup f r := by
  have hb : (f == g) = false := beq_eq_false_iff_ne.mpr h
  simp only [List.lookup, hb]
theorem put_hit {f : Str} {v x : V} {r : List (Str × V)} : putF f v ((f, x) :: r) = (f, v) :: r := by unfold putF; rw [if_pos rfl]
theorem put_miss {f g : Str} {v x : V} {r : List (Str × V)} (h : ¬ g = f) : putF f v ((g, x) :: r) = (g, x) :: putF f v r := by
  show (if g = f then (g, v) :: r else (g, x) :: putF f v r) = _
  rw [if_neg h]
theorem put_nil {f : Str} {v : V} : putF f v [] = [(f, v)] := rfl
end L2
set_option Elab.async false
set_option linter.all false
set_option maxRecDepth 100000
set_option maxHeartbeats 4000000
namespace BlD
open PySem L2
/-! the text by places -/
def top (i : Nat) : Stmt := PySem.Challenge.pw_blameline_s01_answers.main.body.getD i (.Pass ⟨0, 0, 0, 0⟩)
abbrev sHas : Stmt := top 1
abbrev sWo : Stmt := top 2
abbrev sTru : Stmt := top 3
abbrev sGi : Stmt := inClass (top 4) 0
abbrev sSi : Stmt := inClass (top 5) 0
abbrev sNx : Stmt := inClass (top 5) 1
abbrev sPi : Stmt := inClass (top 15) 0
abbrev sBg : Stmt := inClass (top 15) 1
abbrev sAl : Stmt := inClass (top 15) 2
abbrev sAg : Stmt := inClass (top 15) 3
abbrev sAs : Stmt := inClass (top 15) 4
abbrev sSl : Stmt := inClass (top 15) 5
abbrev sWd : Stmt := inClass (top 15) 6
abbrev sFe : Stmt := inClass (top 15) 7
abbrev sWg : Stmt := inClass (top 15) 8
abbrev sBs : Stmt := inClass (top 15) 9
abbrev sHl : Stmt := inClass (top 15) 10
abbrev sHn : Stmt := inClass (top 15) 11
abbrev sMs : Stmt := inClass (top 15) 12
abbrev sIs : Stmt := inClass (top 15) 13
abbrev sAn : Stmt := inClass (top 15) 14
abbrev sCt : Stmt := inClass (top 15) 15
abbrev sBb : Stmt := inClass (top 15) 16
abbrev sRi : Stmt := inClass (top 26) 0
abbrev sHm : Stmt := inClass (top 26) 1
abbrev sTk : Stmt := inClass (top 26) 2
abbrev sTr : Stmt := inClass (top 26) 3
abbrev sG : Stmt := top 27
abbrev sS : Stmt := top 28
abbrev sL : Stmt := top 29
abbrev sC : Stmt := top 30
abbrev sA : Stmt := top 31
/-- the addresses of the top's classes and defs -/
structure Ad where
  told : Addr
  cG : Addr
  cS : Addr
  cP : Addr
  cR : Addr
  aHas : Addr
  dHas : FuncData
  aWo : Addr
  dWo : FuncData
  aTru : Addr
  dTru : FuncData
  aGi : Addr
  dGi : FuncData
  aSi : Addr
  dSi : FuncData
  aNx : Addr
  dNx : FuncData
  aPi : Addr
  dPi : FuncData
  aBg : Addr
  dBg : FuncData
  aAl : Addr
  dAl : FuncData
  aAg : Addr
  dAg : FuncData
  aAs : Addr
  dAs : FuncData
  aSl : Addr
  dSl : FuncData
  aWd : Addr
  dWd : FuncData
  aFe : Addr
  dFe : FuncData
  aWg : Addr
  dWg : FuncData
  aBs : Addr
  dBs : FuncData
  aHl : Addr
  dHl : FuncData
  aHn : Addr
  dHn : FuncData
  aMs : Addr
  dMs : FuncData
  aIs : Addr
  dIs : FuncData
  aAn : Addr
  dAn : FuncData
  aCt : Addr
  dCt : FuncData
  aBb : Addr
  dBb : FuncData
  aRi : Addr
  dRi : FuncData
  aHm : Addr
  dHm : FuncData
  aTk : Addr
  dTk : FuncData
  aTr : Addr
  dTr : FuncData
  aG : Addr
  dG : FuncData
  aS : Addr
  dS : FuncData
  aL : Addr
  dL : FuncData
  aC : Addr
  dC : FuncData
  aA : Addr
  dA : FuncData
/-- what isinstance asks of a class -/
structure CF (K : PySem.W.Frag) (C : Addr) : Prop where
  ha : PySem.W.findIn K (.ref C) "__class__" = some (some (.builtin "object.__class__"))
  hn : PySem.W.specialIn K (.builtin "object.__class__") "__get__" = some (some (.builtin "getset_descriptor.__get__"))
  htk : PySem.W.takesIn K (.builtin "object.__class__") = some true
  hm : PySem.W.mroIn K C (.type "object") = some true
/-- what the top has written -/
structure Txt (K : PySem.W.Frag) (mg : Str → Option Value) (D : Ad) : Prop where
  clG : Cls K D.cG
  mgG : mg "Given" = some (.ref D.cG)
  mkG : Mk K D.cG D.aGi
  nG_side : NoAttr K D.cG "side"
  nG_signs : NoAttr K D.cG "signs"
  clS : Cls K D.cS
  mgS : mg "Step" = some (.ref D.cS)
  mkS : Mk K D.cS D.aSi
  nS_i : NoAttr K D.cS "i"
  nS_j : NoAttr K D.cS "j"
  nS_x : NoAttr K D.cS "x"
  nS_signs : NoAttr K D.cS "signs"
  clP : Cls K D.cP
  mgP : mg "Proof" = some (.ref D.cP)
  mkP : Mk K D.cP D.aPi
  nP_sides : NoAttr K D.cP "sides"
  nP_lines : NoAttr K D.cP "lines"
  clR : Cls K D.cR
  mgR : mg "Reader" = some (.ref D.cR)
  mkR : Mk K D.cR D.aRi
  nR_calls : NoAttr K D.cR "calls"
  nR_place : NoAttr K D.cR "place"
  cfG : CF K D.cG
  cfS : CF K D.cS
  kiGG : PySem.W.kitOne K (.ref D.cG) (.ref D.cG) = some true
  kiGS : PySem.W.kitOne K (.ref D.cG) (.ref D.cS) = some false
  kiSG : PySem.W.kitOne K (.ref D.cS) (.ref D.cG) = some false
  kiSS : PySem.W.kitOne K (.ref D.cS) (.ref D.cS) = some true
  b_any : mg "any" = none
  b_all : mg "all" = none
  b_sorted : mg "sorted" = none
  b_set : mg "set" = none
  b_len : mg "len" = none
  b_max : mg "max" = none
  b_min : mg "min" = none
  b_range : mg "range" = none
  b_isinstance : mg "isinstance" = none
  k_MOST_LETTERS : ∃ t, mg "MOST_LETTERS" = some (.int 24 t)
  k_MOST_LINES : ∃ t, mg "MOST_LINES" = some (.int 256 t)
  k_MOST_GIVEN_SIGNS : ∃ t, mg "MOST_GIVEN_SIGNS" = some (.int 48 t)
  k_MOST_SHOWN_SIGNS : ∃ t, mg "MOST_SHOWN_SIGNS" = some (.int 24 t)
  k_ALL_TRUE : ∃ t, mg "ALL_TRUE" = some (.int 16777215 t)
  k_REFUSED : ∃ t, mg "REFUSED" = some (.int (-1) t)
  k_FULL : ∃ t, mg "FULL" = some (.int (-2) t)
  k_CLASH : ∃ t, mg "CLASH" = some (.int (-3) t)
  k_BEGIN : ∃ t, mg "BEGIN" = some (.int 0 t)
  k_LETTER : ∃ t, mg "LETTER" = some (.int 1 t)
  k_GIVEN : ∃ t, mg "GIVEN" = some (.int 2 t)
  k_STEP : ∃ t, mg "STEP" = some (.int 3 t)
  k_LINE : ∃ t, mg "LINE" = some (.int 4 t)
  k_WIDTH : ∃ t, mg "WIDTH" = some (.int 5 t)
  k_EMPTY : ∃ t, mg "EMPTY" = some (.int 6 t)
  k_WRONG : ∃ t, mg "WRONG" = some (.int 7 t)
  k_BLAME : ∃ t, mg "BLAME" = some (.int 8 t)
  fHas : Fun K "has_both_signs" "has_both_signs" sHas D.aHas D.dHas
  bHas : Binds K D.dHas ["signs"] []
  gHas : mg "has_both_signs" = some (.ref D.aHas)
  fWo : Fun K "without" "without" sWo D.aWo D.dWo
  bWo : Binds K D.dWo ["signs", "left_out"] []
  gWo : mg "without" = some (.ref D.aWo)
  fTru : Fun K "is_true" "is_true" sTru D.aTru D.dTru
  bTru : Binds K D.dTru ["x", "v"] []
  gTru : mg "is_true" = some (.ref D.aTru)
  fGi : Fun K "__init__" "Given.__init__" sGi D.aGi D.dGi
  bGi : Binds K D.dGi ["self", "side", "signs"] []
  fSi : Fun K "__init__" "Step.__init__" sSi D.aSi D.dSi
  bSi : Binds K D.dSi ["self", "i", "j", "x", "signs"] []
  fNx : Fun K "next_line" "Step.next_line" sNx D.aNx D.dNx
  bNx : Binds K D.dNx ["self", "v"] []
  mNx : Meth K D.cS "next_line" D.aNx
  fPi : Fun K "__init__" "Proof.__init__" sPi D.aPi D.dPi
  bPi : Binds K D.dPi ["self"] []
  fBg : Fun K "begin" "Proof.begin" sBg D.aBg D.dBg
  bBg : Binds K D.dBg ["self"] []
  mBg : Meth K D.cP "begin" D.aBg
  fAl : Fun K "add_letter" "Proof.add_letter" sAl D.aAl D.dAl
  bAl : Binds K D.dAl ["self", "side"] []
  mAl : Meth K D.cP "add_letter" D.aAl
  fAg : Fun K "add_given" "Proof.add_given" sAg D.aAg D.dAg
  bAg : Binds K D.dAg ["self", "side", "signs"] []
  mAg : Meth K D.cP "add_given" D.aAg
  fAs : Fun K "add_step" "Proof.add_step" sAs D.aAs D.dAs
  bAs : Binds K D.dAs ["self", "i", "j", "x"] []
  mAs : Meth K D.cP "add_step" D.aAs
  fSl : Fun K "show_line" "Proof.show_line" sSl D.aSl D.dSl
  bSl : Binds K D.dSl ["self", "k", "most"] []
  mSl : Meth K D.cP "show_line" D.aSl
  fWd : Fun K "width" "Proof.width" sWd D.aWd D.dWd
  bWd : Binds K D.dWd ["self"] []
  mWd : Meth K D.cP "width" D.aWd
  fFe : Fun K "first_empty" "Proof.first_empty" sFe D.aFe D.dFe
  bFe : Binds K D.dFe ["self"] []
  mFe : Meth K D.cP "first_empty" D.aFe
  fWg : Fun K "wrong_given" "Proof.wrong_given" sWg D.aWg D.dWg
  bWg : Binds K D.dWg ["self", "v"] []
  mWg : Meth K D.cP "wrong_given" D.aWg
  fBs : Fun K "blamed_side" "Proof.blamed_side" sBs D.aBs D.dBs
  bBs : Binds K D.dBs ["self", "v"] []
  mBs : Meth K D.cP "blamed_side" D.aBs
  fHl : Fun K "has_letter" "Proof.has_letter" sHl D.aHl D.dHl
  bHl : Binds K D.dHl ["self", "x"] []
  mHl : Meth K D.cP "has_letter" D.aHl
  fHn : Fun K "has_line" "Proof.has_line" sHn D.aHn D.dHn
  bHn : Binds K D.dHn ["self", "k"] []
  mHn : Meth K D.cP "has_line" D.aHn
  fMs : Fun K "may_say" "Proof.may_say" sMs D.aMs D.dMs
  bMs : Binds K D.dMs ["self", "side", "sign"] []
  mMs : Meth K D.cP "may_say" D.aMs
  fIs : Fun K "is_step" "Proof.is_step" sIs D.aIs D.dIs
  bIs : Binds K D.dIs ["self", "i", "j", "x"] []
  mIs : Meth K D.cP "is_step" D.aIs
  fAn : Fun K "add_line" "Proof.add_line" sAn D.aAn D.dAn
  bAn : Binds K D.dAn ["self", "line"] []
  mAn : Meth K D.cP "add_line" D.aAn
  fCt : Fun K "can_tell" "Proof.can_tell" sCt D.aCt D.dCt
  bCt : Binds K D.dCt ["self", "v"] []
  mCt : Meth K D.cP "can_tell" D.aCt
  fBb : Fun K "blamed_by" "Proof.blamed_by" sBb D.aBb D.dBb
  bBb : Binds K D.dBb ["self", "line", "blamed", "v"] []
  mBb : Meth K D.cP "blamed_by" D.aBb
  fRi : Fun K "__init__" "Reader.__init__" sRi D.aRi D.dRi
  bRi : Binds K D.dRi ["self", "calls"] []
  fHm : Fun K "has_more" "Reader.has_more" sHm D.aHm D.dHm
  bHm : Binds K D.dHm ["self"] []
  mHm : Meth K D.cR "has_more" D.aHm
  fTk : Fun K "take" "Reader.take" sTk D.aTk D.dTk
  bTk : Binds K D.dTk ["self"] []
  mTk : Meth K D.cR "take" D.aTk
  fTr : Fun K "take_row" "Reader.take_row" sTr D.aTr D.dTr
  bTr : Binds K D.dTr ["self"] []
  mTr : Meth K D.cR "take_row" D.aTr
  fG : Fun K "answer_given" "answer_given" sG D.aG D.dG
  bG : Binds K D.dG ["proof", "reader"] []
  gG : mg "answer_given" = some (.ref D.aG)
  fS : Fun K "answer_step" "answer_step" sS D.aS D.dS
  bS : Binds K D.dS ["proof", "reader"] []
  gS : mg "answer_step" = some (.ref D.aS)
  fL : Fun K "answer_line" "answer_line" sL D.aL D.dL
  bL : Binds K D.dL ["proof", "reader"] []
  gL : mg "answer_line" = some (.ref D.aL)
  fC : Fun K "answer_call" "answer_call" sC D.aC D.dC
  bC : Binds K D.dC ["proof", "reader"] []
  gC : mg "answer_call" = some (.ref D.aC)
  fA : Fun K "answers" "answers" sA D.aA D.dA
  bA : Binds K D.dA ["calls"] []
  gA : mg "answers" = some (.ref D.aA)
end BlD
set_option Elab.async false
set_option linter.all false
set_option maxRecDepth 100000
set_option maxHeartbeats 4000000
namespace BlD
open PySem L2 BlM
open Rd05 (Abs Line Why)

abbrev NV (l : List Nat) : List V := (nzs l).map V.int
theorem NV_get {l : List Nat} {i : Nat} {x : V} (h : (NV l)[i]? = some x) : ∃ y : Nat, l[i]? = some y ∧ x = V.int (y : Int) := by
  unfold NV at h
  rw [List.getElem?_map, ints_get] at h
  cases e : l[i]? with
  | none => rw [e] at h; cases h
  | some y => rw [e] at h; exact ⟨y, rfl, (Option.some.inj h).symm⟩
theorem NV_at {l : List Nat} {i y : Nat} (h : l[i]? = some y) : (NV l)[i]? = some (V.int (y : Int)) := by
  unfold NV
  rw [List.getElem?_map, ints_get, h]
  rfl
theorem NV_length (l : List Nat) : (NV l).length = l.length := by unfold NV; rw [List.length_map, ints_length]
theorem NV_flat (l : List Nat) : (NV l).all flatV = true := by
  unfold NV
  rw [List.all_map, List.all_eq_true]
  intro x _
  rfl
theorem inV_int {l : List Nat} {z : Int} : inV (V.int z) (NV l) = decide (z ∈ nzs l) := by
  rw [Bool.eq_iff_iff, decide_eq_true_iff]
  unfold inV NV
  rw [List.any_map, List.any_eq_true]
  constructor
  · rintro ⟨y, hy, e⟩
    have e : (y == z) = true := e
    have e := beq_iff_eq.mp e
    subst e
    exact hy
  · intro h
    exact ⟨z, h, by show (z == z) = true; simp⟩
theorem inV_nat {l : List Nat} {y : Nat} : inV (V.int (y : Int)) (NV l) = l.contains y := by
  rw [inV_int, Bool.eq_iff_iff, decide_eq_true_iff, ints_cast, List.contains_iff_mem]
theorem xor_flip (y : Nat) : Builtin.bitXor (y : Int) 1 = ((othr y : Nat) : Int) := by
  rw [PyProof.Rows.bitXor_and, PyProof.Rows.bitAnd_m1]
  unfold othr
  split <;> omega
/-! fields -/
def gf (s : Nat) (c : Addr) : List (Str × V) := [("side", .int (s : Int)), ("signs", .ref c)]
def sf (i j x : Nat) (c : Addr) : List (Str × V) := [("i", .int (i : Int)), ("j", .int (j : Int)), ("x", .int (x : Int)), ("signs", .ref c)]
def pf (ls ll : Addr) : List (Str × V) := [("sides", .ref ls), ("lines", .ref ll)]
def rf (a : Addr) (pl : Nat) : List (Str × V) := [("calls", .ref a), ("place", .int (pl : Int))]
theorem gf_side (s : Nat) (c : Addr) : (gf s c).lookup ("side" : Str) = some (.int (s : Int)) := lk_hit
theorem gf_signs (s : Nat) (c : Addr) : (gf s c).lookup ("signs" : Str) = some (.ref c) := (lk_miss (by decide +kernel)).trans lk_hit
theorem sf_i (i j x : Nat) (c : Addr) : (sf i j x c).lookup ("i" : Str) = some (.int (i : Int)) := lk_hit
theorem sf_j (i j x : Nat) (c : Addr) : (sf i j x c).lookup ("j" : Str) = some (.int (j : Int)) := (lk_miss (by decide +kernel)).trans lk_hit
theorem sf_x (i j x : Nat) (c : Addr) : (sf i j x c).lookup ("x" : Str) = some (.int (x : Int)) := (lk_miss (by decide +kernel)).trans ((lk_miss (by decide +kernel)).trans lk_hit)
theorem sf_signs (i j x : Nat) (c : Addr) : (sf i j x c).lookup ("signs" : Str) = some (.ref c) := (lk_miss (by decide +kernel)).trans ((lk_miss (by decide +kernel)).trans ((lk_miss (by decide +kernel)).trans lk_hit))
theorem sf_no (i j x : Nat) (c : Addr) {m : Str} (h1 : ¬ m = ("i" : Str)) (h2 : ¬ m = ("j" : Str)) (h3 : ¬ m = ("x" : Str)) (h4 : ¬ m = ("signs" : Str)) : (sf i j x c).lookup m = none :=
  (lk_miss h1).trans ((lk_miss h2).trans ((lk_miss h3).trans ((lk_miss h4).trans rfl)))
theorem pf_sides (ls ll : Addr) : (pf ls ll).lookup ("sides" : Str) = some (.ref ls) := lk_hit
theorem pf_lines (ls ll : Addr) : (pf ls ll).lookup ("lines" : Str) = some (.ref ll) := (lk_miss (by decide +kernel)).trans lk_hit
theorem pf_no (ls ll : Addr) {m : Str} (h1 : ¬ m = ("sides" : Str)) (h2 : ¬ m = ("lines" : Str)) : (pf ls ll).lookup m = none := (lk_miss h1).trans ((lk_miss h2).trans rfl)
theorem rf_calls (a : Addr) (pl : Nat) : (rf a pl).lookup ("calls" : Str) = some (.ref a) := lk_hit
theorem rf_place (a : Addr) (pl : Nat) : (rf a pl).lookup ("place" : Str) = some (.int (pl : Int)) := (lk_miss (by decide +kernel)).trans lk_hit
theorem rf_no (a : Addr) (pl : Nat) {m : Str} (h1 : ¬ m = ("calls" : Str)) (h2 : ¬ m = ("place" : Str)) : (rf a pl).lookup m = none := (lk_miss h1).trans ((lk_miss h2).trans rfl)
theorem rf_put (a : Addr) (pl : Nat) : putF "place" (.int ((pl : Int) + 1)) (rf a pl) = rf a (pl + 1) := by
  unfold rf
  rw [put_miss (by decide +kernel), put_hit]
  rfl
theorem pf_put_sides (ls ll ls' : Addr) : putF "sides" (.ref ls') (pf ls ll) = pf ls' ll := by
  unfold pf
  rw [put_hit]
theorem pf_put_lines (ls ll ll' : Addr) : putF "lines" (.ref ll') (pf ls ll) = pf ls ll' := by
  unfold pf
  rw [put_miss (by decide +kernel), put_hit]
/-! what stands in the heap -/
def lcls (D : Ad) : Why → Addr
  | .given _ => D.cG
  | .step _ _ _ => D.cS
def lf (c : Addr) : Why → List (Str × V)
  | .given s => gf s c
  | .step i j x => sf i j x c
theorem lf_signs (c : Addr) (w : Why) : (lf c w).lookup ("signs" : Str) = some (.ref c) := by
  cases w with
  | given s => exact gf_signs s c
  | step i j x => exact sf_signs i j x c
structure LineAt (D : Ad) (H : Hp) (a c : Addr) (L : Line) : Prop where
  ob : ∃ dx, H a = some (.ins (lcls D L.why) dx (lf c L.why))
  cl : H c = some (.lst (NV L.clause))
structure PrAt (D : Ad) (H : Hp) (p ls ll : Addr) (S : Abs) : Prop where
  ob : ∃ dx, H p = some (.ins D.cP dx (pf ls ll))
  sd : H ls = some (.lst (NV S.sides))
  ln : ∃ as : List Addr, H ll = some (.lst (as.map V.ref)) ∧ as.length = S.lines.length ∧ ∀ (k : Nat) (a : Addr) (L : Line), as[k]? = some a → S.lines[k]? = some L → ∃ c, LineAt D H a c L ∧ c ≠ ls ∧ c ≠ ll ∧ c ≠ D.told
  ne : ls ≠ ll
def RdAt (D : Ad) (H : Hp) (r a : Addr) (pl : Nat) : Prop := ∃ dx, H r = some (.ins D.cR dx (rf a pl))
theorem LineAt.same {D : Ad} {H H' : Hp} {a c : Addr} {L : Line} (h : LineAt D H a c L) (s : Same H H') : LineAt D H' a c L := by
  obtain ⟨⟨dx, e⟩, q⟩ := h
  exact ⟨⟨dx, s _ _ e⟩, s _ _ q⟩
theorem PrAt.same {D : Ad} {H H' : Hp} {p ls ll : Addr} {S : Abs} (h : PrAt D H p ls ll S) (s : Same H H') : PrAt D H' p ls ll S := by
  obtain ⟨⟨dx, e⟩, q, ⟨as, e2, hl, ha⟩, ne⟩ := h
  refine ⟨⟨dx, s _ _ e⟩, s _ _ q, ⟨as, s _ _ e2, hl, fun k a L h1 h2 => ?_⟩, ne⟩
  obtain ⟨c, h3, h4⟩ := ha k a L h1 h2
  exact ⟨c, h3.same s, h4⟩
theorem Same.upd {H : Hp} {D : Addr} {o : HO} (h : H D = none) : Same H (upd H D o) := fun b u e => by rw [upd_ne (ne_of_none e h)]; exact e
theorem clL {K : PySem.W.Frag} {mg : Str → Option Value} {D : Ad} (T : Txt K mg D) (w : Why) : Cls K (lcls D w) := by
  cases w with
  | given s => exact T.clG
  | step i j x => exact T.clS
theorem nL {K : PySem.W.Frag} {mg : Str → Option Value} {D : Ad} (T : Txt K mg D) (w : Why) : NoAttr K (lcls D w) "signs" := by
  cases w with
  | given s => exact T.nG_signs
  | step i j x => exact T.nS_signs
/-! ### the promises of the plain defs -/
def spHas (K : PySem.W.Frag) : Sp := fun vs H Q _ => ∃ (a : Addr) (l : List Nat), vs = [.ref a] ∧ SqL K H a (NV l) ∧ l.length ≤ 1000 ∧ ∀ H', Same H H' → Q (.bl (l.any fun x => l.contains (othr x))) H'
def spWo (K : PySem.W.Frag) : Sp := fun vs H Q _ => ∃ (a : Addr) (l : List Nat) (m : Nat), vs = [.ref a, .int (m : Int)] ∧ SqL K H a (NV l) ∧ l.length ≤ 1000 ∧ ∀ E H', H E = none → H' E = some (.lst (NV (l.filter fun y => y != m))) → Same H H' → Q (.ref E) H'
def spTru : Sp := fun vs H Q _ => ∃ (x v : Nat), vs = [.int (x : Int), .int (v : Int)] ∧ Q (.bl (v.testBit x)) H
theorem bt_any : bootBuiltins "any" = some (.builtin "any") := by decide +kernel
def scp (names : List (Str × NameKind)) : Scope := { kind := .function, names := names, isGenerator := false, isCoroutine := false }
section
variable {P : Program} {w : World} {K : PySem.W.Frag} {mg : Str → Option Value} {base : Heap} {D : Ad}
theorem scHas : FnScope ["signs", "sign"] ["signs"] (defScope sHas) := ⟨rfl, rfl, rfl, by decide +kernel, rfl, by decide +kernel, by decide +kernel⟩
theorem blkHas : BlkOk ["signs", "sign"] (defScope sHas) (scp [(".0", .local), ("sign", .local), ("signs", .free)]) [("sign", 1)] := ⟨rfl, by decide +kernel, by decide +kernel, by decide +kernel, by decide +kernel⟩
theorem ok_has (T : Txt K mg D) : FnOk P w K mg base CX0 1 D.aHas D.dHas ["signs"] (spHas K) := by
  refine T.fHas.ok scHas (fun vs H Q E h => ?_) (fun cdv A outer s H vs Q E hr h => ?_)
  · obtain ⟨a, l, rfl, _⟩ := h
    rfl
  · obtain ⟨a, l, rfl, hS, hlen, k⟩ := h
    refine ⟨_, pss_one (ps_ret (pe_callB (call_anyB rfl) (by rfl) T.b_any bt_any (pa_cons (pe_lc rfl scHas.nd (pi_list (pv 0)) blkHas
      (fun _ _ _ _ _ => pg_name (i := 1) scHas.nd rfl (Or.inl rfl)) (fun _ _ _ _ _ => pts_nil) (fun _ _ _ _ _ => pe_cmpR (r := rIn K false) op_in_seq (pe_op op_xor (pv 1) pe_int) (pv 0) rfl)) pa_nil))), ?_⟩
    refine ⟨_, rfl, a, rfl, ⟨_, hS⟩, fun N hN => ?_⟩
    refine lc_list (K := K) (a := a) (xs := NV l) (fun i H2 => Same H H2 ∧ H2 N = some (.lst (((l.take i).map fun x => l.contains (othr x)).map V.bl))) ⟨Same.upd hN, upd_same⟩ (fun i H2 _ h => h.1.seq hS) ?_ ?_
    · rintro i x H2 hx ⟨s2, h2⟩
      obtain ⟨y, hy, rfl⟩ := NV_get hx
      have hi : i < l.length := (List.getElem?_eq_some_iff.mp hy).1
      refine ⟨rfl, _, rfl, _, _, rfl, rfl, _, rfl, a, _, rfl, .inl (s2.seq hS), rfl, NV_flat l, _, h2, ?_, ?_, ?_⟩
      · rw [List.length_map, List.length_map, List.length_take, sizeLine_eq]; omega
      · exact fun b o e => by rw [upd_ne (ne_of_none e hN)]; exact s2 b o e
      · rw [upd_same]
        have e1 : l.take (i + 1) = l.take i ++ [y] := by rw [List.take_succ, hy]; rfl
        rw [e1, List.map_append, List.map_append]
        show some (HO.lst (_ ++ [V.bl (inV (V.int (Builtin.bitXor (y : Int) 1)) (NV l))])) = _
        rw [xor_flip, inV_nat]
        rfl
    · rintro H2 ⟨s2, h2⟩
      rw [NV_length, List.take_length] at h2
      refine ⟨N, _, rfl, SqL.of h2, ?_⟩
      rw [List.any_map]
      exact k H2 s2
theorem scWo : FnScope ["signs", "left_out", "sign"] ["signs", "left_out"] (defScope sWo) := ⟨rfl, rfl, rfl, by decide +kernel, rfl, by decide +kernel, by decide +kernel⟩
theorem blkWo : BlkOk ["signs", "left_out", "sign"] (defScope sWo) (scp [(".0", .local), ("sign", .local), ("left_out", .free)]) [("sign", 2)] := ⟨rfl, by decide +kernel, by decide +kernel, by decide +kernel, by decide +kernel⟩
theorem ok_wo (T : Txt K mg D) : FnOk P w K mg base CX0 1 D.aWo D.dWo ["signs", "left_out"] (spWo K) := by
  refine T.fWo.ok scWo (fun vs H Q E h => ?_) (fun cdv A outer s H vs Q E hr h => ?_)
  · obtain ⟨a, l, m, rfl, _⟩ := h
    rfl
  · obtain ⟨a, l, m, rfl, hS, hlen, k⟩ := h
    refine ⟨_, pss_one (ps_ret (pe_lc rfl scWo.nd (pi_list (pv 0)) blkWo
      (fun _ _ _ _ _ => pg_name (i := 2) scWo.nd rfl (Or.inl rfl)) (fun _ _ _ _ _ => pts_one (pt_cmpR op_ne (pv 2) (pv 1) (nomark _))) (fun _ _ _ _ _ => pv 2))), ?_⟩
    refine ⟨_, rfl, a, rfl, ⟨_, hS⟩, fun N hN => ?_⟩
    refine lc_list (K := K) (a := a) (xs := NV l) (fun i H2 => Same H H2 ∧ H2 N = some (.lst (NV ((l.take i).filter fun y => y != m)))) ⟨Same.upd hN, upd_same⟩ (fun i H2 _ h => h.1.seq hS) ?_ ?_
    · rintro i x H2 hx ⟨s2, h2⟩
      obtain ⟨y, hy, rfl⟩ := NV_get hx
      have hi : i < l.length := (List.getElem?_eq_some_iff.mp hy).1
      have e1 : l.take (i + 1) = l.take i ++ [y] := by rw [List.take_succ, hy]; rfl
      refine ⟨rfl, _, rfl, _, rfl, rfl, _, rfl, ?_⟩
      by_cases e : y = m
      · have e2 : (!decide (V.int (y : Int) = V.int (m : Int))) = false := by rw [e]; simp
        rw [e2]
        refine iteF ⟨s2, ?_⟩
        rw [e1, List.filter_append, h2]
        have e3 : ([y].filter fun y => y != m) = [] := by simp [e]
        rw [e3, List.append_nil]
      · have e2 : (!decide (V.int (y : Int) = V.int (m : Int))) = true := by
          rw [decide_eq_false (fun z => e (by injection z with z; omega))]; rfl
        rw [e2]
        refine iteT ⟨_, rfl, _, h2, ?_, ?_, ?_⟩
        · rw [NV_length, sizeLine_eq]
          have := List.length_filter_le (fun y => y != m) (l.take i)
          rw [List.length_take] at this
          omega
        · exact fun b o e => by rw [upd_ne (ne_of_none e hN)]; exact s2 b o e
        · rw [upd_same, e1, List.filter_append]
          have e3 : ([y].filter fun y => y != m) = [y] := by simp [e]
          rw [e3]
          show some (HO.lst (NV _ ++ [V.int (y : Int)])) = some (HO.lst (NV _))
          unfold NV
          rw [ints_append, List.map_append]
          rfl
    · rintro H2 ⟨s2, h2⟩
      rw [NV_length, List.take_length] at h2
      exact k N H2 hN h2 s2
theorem scTru : FnScope ["x", "v"] ["x", "v"] (defScope sTru) := ⟨rfl, rfl, rfl, by decide +kernel, rfl, by decide +kernel, by decide +kernel⟩
theorem bit_is (v x : Nat) : decide (V.int (Builtin.bitAnd ((v : Int) / 2 ^ ((x : Int).toNat)) 1) = V.int 1) = v.testBit x := by
  rw [PyProof.Rows.bitAnd_m1, Int.toNat_natCast, Bool.eq_iff_iff, decide_eq_true_iff, Nat.testBit_eq_decide_div_mod_eq, decide_eq_true_iff]
  have e : ((v : Int) / 2 ^ x) % 2 = ((v / 2 ^ x % 2 : Nat) : Int) := by
    rw [Int.natCast_emod, Int.natCast_ediv, Int.natCast_pow]
    rfl
  rw [e]
  constructor
  · intro z; injection z with z; omega
  · intro z; rw [z]; rfl
theorem ok_tru (T : Txt K mg D) : FnOk P w K mg base CX0 1 D.aTru D.dTru ["x", "v"] spTru := by
  refine T.fTru.ok scTru (fun vs H Q E h => ?_) (fun cdv A outer s H vs Q E hr h => ?_)
  · obtain ⟨x, v, rfl, _⟩ := h
    rfl
  · obtain ⟨x, v, rfl, k⟩ := h
    refine ⟨_, pss_one (ps_ret (pe_cmpR op_eq (pe_op op_and (pe_op op_shr (pv 1) (pv 0)) pe_int) pe_int (nomark _))), ?_⟩
    refine ⟨_, rfl, _, rfl, _, _, rfl, rfl, Int.natCast_nonneg _, _, _, rfl, rfl, rfl, ?_⟩
    rw [bit_is]
    exact k
end
end BlD
set_option Elab.async false
set_option linter.all false
set_option maxRecDepth 100000
set_option maxHeartbeats 4000000
namespace BlD
open PySem L2 BlM
open Rd05 (Abs Line Why)
theorem bt_len : bootBuiltins "len" = some (.builtin "len") := by decide +kernel
theorem bt_set : bootBuiltins "set" = some (.type "set") := by decide +kernel
theorem bt_sorted : bootBuiltins "sorted" = some (.builtin "sorted") := by decide +kernel
theorem bt_all : bootBuiltins "all" = some (.builtin "all") := by decide +kernel
theorem bt_max : bootBuiltins "max" = some (.builtin "max") := by decide +kernel
theorem bt_min : bootBuiltins "min" = some (.builtin "min") := by decide +kernel
theorem bt_isi : bootBuiltins "isinstance" = some (.builtin "isinstance") := by decide +kernel
def spGi (D : Ad) (K : PySem.W.Frag) : Sp := fun vs H Q _ => ∃ (p dx a : Addr) (s : Nat) (l : List Nat), vs = [.ref p, .int (s : Int), .ref a] ∧ H p = some (.ins D.cG dx []) ∧ SqL K H a (NV l) ∧ a ≠ p ∧ (∀ x ∈ l, x < 48) ∧ l.length ≤ 1000 ∧
  ∀ c H', H c = none → H' p = some (.ins D.cG dx (gf s c)) → H' c = some (.lst (NV (Rd05.canon 24 l))) → (∀ b o, H b = some o → b ≠ p → H' b = some o) → Q .non H'
def spSi (D : Ad) (K : PySem.W.Frag) : Sp := fun vs H Q _ => ∃ (p dx a : Addr) (i j x : Nat) (l : List Nat), vs = [.ref p, .int (i : Int), .int (j : Int), .int (x : Int), .ref a] ∧ H p = some (.ins D.cS dx []) ∧ SqL K H a (NV l) ∧ a ≠ p ∧ (∀ x ∈ l, x < 48) ∧ l.length ≤ 1000 ∧
  ∀ c H', H c = none → H' p = some (.ins D.cS dx (sf i j x c)) → H' c = some (.lst (NV (Rd05.canon 24 l))) → (∀ b o, H b = some o → b ≠ p → H' b = some o) → Q .non H'
def spNx (D : Ad) : Sp := fun vs H Q _ => ∃ (p dx c : Addr) (i j x v : Nat), vs = [.ref p, .int (v : Int)] ∧ H p = some (.ins D.cS dx (sf i j x c)) ∧ Q (.int ((if v.testBit x = true then j else i : Nat) : Int)) H
theorem SqL.off {K : PySem.W.Frag} {H : Hp} {a p : Addr} {xs : List V} {o : HO} (h : SqL K H a xs) (ne : a ≠ p) : SqL K (upd H p o) a xs := by
  rcases h with (h | ⟨ob, h⟩) | h
  · exact .inl (.inl (by rw [upd_ne ne]; exact h))
  · exact .inl (.inr ⟨ob, by rw [upd_ne ne]; exact h⟩)
  · exact .inr h
section
variable {P : Program} {w : World} {K : PySem.W.Frag} {mg : Str → Option Value} {base : Heap} {D : Ad}
theorem scGi : FnScope ["self", "side", "signs"] ["self", "side", "signs"] (defScope sGi) := ⟨rfl, rfl, rfl, by decide +kernel, rfl, by decide +kernel, by decide +kernel⟩
theorem ok_gi (T : Txt K mg D) : FnOk P w K mg base CX0 1 D.aGi D.dGi ["self", "side", "signs"] (spGi D K) := by
  refine T.fGi.ok scGi (fun vs H Q E h => ?_) (fun cdv A outer s H vs Q E hr h => ?_)
  · obtain ⟨p, dx, a, s, l, rfl, _⟩ := h
    rfl
  · obtain ⟨p, dx, a, sd, l, rfl, hp, hS, nap, hl, hlen, k⟩ := h
    refine ⟨_, pss_cons (ps_fld (pv 0) (pv 1) rfl) (pss_one (ps_fld (pv 0) (pe_callB (call_sortedI rfl) (by rfl) T.b_sorted bt_sorted (pa_cons (pe_callTy (call_setI rfl) (by rfl) T.b_set bt_set (pa_cons (pv 2) pa_nil)) pa_nil)) rfl)), ?_⟩
    refine ⟨_, rfl, _, rfl, p, D.cG, dx, [], rfl, hp, T.clG, T.nG_side, (by decide), ?_⟩
    refine ⟨_, rfl, a, nzs l, rfl, SqL.off hS nap, (by rw [ints_length]; omega), fun z hz => ?_⟩
    refine ⟨z, nzs l, _, rfl, upd_same, (by rw [ints_length]; omega), fun c ns' hc hs hm => ?_⟩
    have npz : p ≠ z := ne_of_none upd_same hz
    have npc : p ≠ c := ne_of_none (by rw [upd_ne npz]; exact upd_same) hc
    have hHc : H c = none := by
      cases e : H c with
      | none => rfl
      | some o =>
        have e1 : upd H p (.ins D.cG dx (putF "side" (.int (sd : Int)) [])) c = some o := by rw [upd_ne npc.symm]; exact e
        rw [upd_ne (ne_of_none e1 hz)] at hc
        rw [e1] at hc
        cases hc
    refine ⟨_, rfl, p, D.cG, dx, _, rfl, (by rw [upd_ne npc, upd_ne npz]; exact upd_same), T.clG, T.nG_signs, (by show 1 < 1000; decide), ?_⟩
    have e := kept_canon hl hs hm
    subst e
    refine k c _ hHc upd_same ?_ fun b o e hb => ?_
    · rw [upd_ne npc.symm]; exact upd_same
    · have e1 : upd H p (.ins D.cG dx (putF "side" (.int (sd : Int)) [])) b = some o := by rw [upd_ne hb]; exact e
      have e2 := Same.upd (o := SetO P w z (nzs l) (nzs l).length) hz b o e1
      rw [upd_ne hb]
      exact Same.upd hc b o e2
theorem scSi : FnScope ["self", "i", "j", "x", "signs"] ["self", "i", "j", "x", "signs"] (defScope sSi) := ⟨rfl, rfl, rfl, by decide +kernel, rfl, by decide +kernel, by decide +kernel⟩
theorem ok_si (T : Txt K mg D) : FnOk P w K mg base CX0 1 D.aSi D.dSi ["self", "i", "j", "x", "signs"] (spSi D K) := by
  refine T.fSi.ok scSi (fun vs H Q E h => ?_) (fun cdv A outer s H vs Q E hr h => ?_)
  · obtain ⟨p, dx, a, i, j, x, l, rfl, _⟩ := h
    rfl
  · obtain ⟨p, dx, a, i, j, x, l, rfl, hp, hS, nap, hl, hlen, k⟩ := h
    refine ⟨_, pss_cons (ps_fld (pv 0) (pv 1) rfl) (pss_cons (ps_fld (pv 0) (pv 2) rfl) (pss_cons (ps_fld (pv 0) (pv 3) rfl) (pss_one (ps_fld (pv 0) (pe_callB (call_sortedI rfl) (by rfl) T.b_sorted bt_sorted (pa_cons (pe_callTy (call_setI rfl) (by rfl) T.b_set bt_set (pa_cons (pv 4) pa_nil)) pa_nil)) rfl)))), ?_⟩
    refine ⟨_, rfl, _, rfl, p, D.cS, dx, [], rfl, hp, T.clS, T.nS_i, (by decide), ?_⟩
    refine ⟨_, rfl, _, rfl, p, D.cS, dx, _, rfl, upd_same, T.clS, T.nS_j, (by show 1 < 1000; decide), ?_⟩
    have f2 : putF "j" (V.int (j : Int)) (putF "i" (V.int (i : Int)) []) = ([("i", V.int (i : Int)), ("j", V.int (j : Int))] : List (Str × V)) := by rw [put_nil, put_miss (by decide +kernel), put_nil]
    refine ⟨_, rfl, _, rfl, p, D.cS, dx, _, rfl, upd_same, T.clS, T.nS_x, (by rw [f2]; show 2 < 1000; decide), ?_⟩
    have f3 : putF "x" (V.int (x : Int)) (putF "j" (V.int (j : Int)) (putF "i" (V.int (i : Int)) [])) = ([("i", V.int (i : Int)), ("j", V.int (j : Int)), ("x", V.int (x : Int))] : List (Str × V)) := by rw [f2, put_miss (by decide +kernel), put_miss (by decide +kernel), put_nil]
    have f4 : ∀ c : Addr, putF "signs" (V.ref c) ([("i", V.int (i : Int)), ("j", V.int (j : Int)), ("x", V.int (x : Int))] : List (Str × V)) = sf i j x c := fun c => by rw [put_miss (by decide +kernel), put_miss (by decide +kernel), put_miss (by decide +kernel), put_nil]; rfl
    rw [f3]
    refine ⟨_, rfl, a, nzs l, rfl, SqL.off (SqL.off (SqL.off hS nap) nap) nap, (by rw [ints_length]; omega), fun z hz => ?_⟩
    refine ⟨z, nzs l, _, rfl, upd_same, (by rw [ints_length]; omega), fun c ns' hc hs hm => ?_⟩
    have npz : p ≠ z := ne_of_none upd_same hz
    have npc : p ≠ c := ne_of_none (by rw [upd_ne npz]; exact upd_same) hc
    have hHc : H c = none := by
      cases e : H c with
      | none => rfl
      | some o =>
        exfalso
        rw [upd_ne (fun q => ?_)] at hc
        · rw [upd_ne npc.symm, upd_ne npc.symm, upd_ne npc.symm, e] at hc
          cases hc
        · rw [← q, upd_ne npc.symm, upd_ne npc.symm, upd_ne npc.symm, e] at hz
          cases hz
    refine ⟨_, rfl, p, D.cS, dx, _, rfl, (by rw [upd_ne npc, upd_ne npz]; exact upd_same), T.clS, T.nS_signs, (by show 3 < 1000; decide), ?_⟩
    have e := kept_canon hl hs hm
    subst e
    refine k c _ hHc (by rw [f4]; exact upd_same) ?_ fun b o e hb => ?_
    · rw [upd_ne npc.symm]; exact upd_same
    · have nbz : b ≠ z := fun q => by
        rw [← q, upd_ne hb, upd_ne hb, upd_ne hb, e] at hz
        cases hz
      have nbc : b ≠ c := fun q => by
        rw [q, hHc] at e
        cases e
      rw [upd_ne hb, upd_ne nbc, upd_ne nbz, upd_ne hb, upd_ne hb, upd_ne hb]
      exact e
theorem scNx : FnScope ["self", "v"] ["self", "v"] (defScope sNx) := ⟨rfl, rfl, rfl, by decide +kernel, rfl, by decide +kernel, by decide +kernel⟩
theorem ok_nx (T : Txt K mg D) : FnOk P w K mg base CX0 2 D.aNx D.dNx ["self", "v"] (spNx D) := by
  refine T.fNx.ok scNx (fun vs H Q E h => ?_) (fun cdv A outer s H vs Q E hr h => ?_)
  · obtain ⟨p, dx, c, i, j, x, v, rfl, _⟩ := h
    rfl
  · obtain ⟨p, dx, c, i, j, x, v, rfl, hp, k⟩ := h
    refine ⟨_, pss_one (ps_ret (pe_ifExp (pt_val (pe_call (ok_tru T) hr rfl T.gTru T.fTru.kp T.bTru .nil pass0 (pa_cons (pe_fld (pv 0) rfl) (pa_cons (pv 1) pa_nil)))) (pe_fld (pv 0) rfl) (pe_fld (pv 0) rfl))), ?_⟩
    refine ⟨_, rfl, p, D.cS, dx, _, _, rfl, hp, T.clS, T.nS_x, sf_x _ _ _ _, _, rfl, x, v, rfl, _, rfl, ?_⟩
    refine ite2 (fun e => ?_) (fun e => ?_)
    · rw [if_pos e] at k
      exact ⟨_, rfl, p, D.cS, dx, _, _, rfl, hp, T.clS, T.nS_j, sf_j _ _ _ _, k⟩
    · rw [if_neg e] at k
      exact ⟨_, rfl, p, D.cS, dx, _, _, rfl, hp, T.clS, T.nS_i, sf_i _ _ _ _, k⟩
end
end BlD
set_option Elab.async false
set_option linter.all false
set_option maxRecDepth 100000
set_option maxHeartbeats 4000000
namespace BlD
open PySem L2 BlM
open Rd05 (Abs Line Why)
def spPi (D : Ad) : Sp := fun vs H Q _ => ∃ (p dx : Addr), vs = [.ref p] ∧ H p = some (.ins D.cP dx []) ∧
  ∀ ls ll H', H ls = none → H ll = none → PrAt D H' p ls ll {} → (∀ b o, H b = some o → b ≠ p → H' b = some o) → Q .non H'
def spBg (D : Ad) : Sp := fun vs H Q _ => ∃ (p ls ll : Addr) (S : Abs), vs = [.ref p] ∧ PrAt D H p ls ll S ∧
  ∀ ls' ll' H', H ls' = none → H ll' = none → PrAt D H' p ls' ll' {} → (∀ b o, H b = some o → b ≠ p → H' b = some o) → Q (.int 0) H'
def spAl (D : Ad) : Sp := fun vs H Q _ => ∃ (p ls ll : Addr) (S : Abs) (z : Int), vs = [.ref p, .int z] ∧ PrAt D H p ls ll S ∧ WF S ∧
  ∀ H', PrAt D H' p ls ll (Rd05.does S (.letter z)).1 → (∀ b o, H b = some o → b ≠ ls → H' b = some o) → Q (.int (Rd05.does S (.letter z)).2.value) H'
def spHl (D : Ad) : Sp := fun vs H Q _ => ∃ (p ls ll : Addr) (S : Abs) (z : Int), vs = [.ref p, .int z] ∧ PrAt D H p ls ll S ∧ Q (.bl (Rd05.below z S.sides.length)) H
def spHn (D : Ad) : Sp := fun vs H Q _ => ∃ (p ls ll : Addr) (S : Abs) (z : Int), vs = [.ref p, .int z] ∧ PrAt D H p ls ll S ∧ Q (.bl (Rd05.below z S.lines.length)) H
def mayV (S : Abs) (s y : Nat) : Bool := decide (y < 2 * S.sides.length) && (S.sides.getD (y / 2) 0 == 0 || S.sides.getD (y / 2) 0 == s)
def spMs (D : Ad) : Sp := fun vs H Q _ => ∃ (p ls ll : Addr) (S : Abs) (s y : Nat), vs = [.ref p, .int (s : Int), .int (y : Int)] ∧ PrAt D H p ls ll S ∧ ∀ H', Same H H' → Q (.bl (mayV S s y)) H'
def isV (S : Abs) (i j x : Int) : Bool := (Rd05.below i S.lines.length && (Rd05.below j S.lines.length && Rd05.below x S.sides.length)) &&
  ((Rd05.lineAt S.lines i.toNat).contains (2 * x.toNat) && (Rd05.lineAt S.lines j.toNat).contains (2 * x.toNat + 1))
def spIs (D : Ad) : Sp := fun vs H Q _ => ∃ (p ls ll : Addr) (S : Abs) (i j x : Int), vs = [.ref p, .int i, .int j, .int x] ∧ PrAt D H p ls ll S ∧ WF S ∧ Q (.bl (isV S i j x)) H
def spAn (D : Ad) : Sp := fun vs H Q _ => ∃ (p ls ll a c : Addr) (S : Abs) (L : Line), vs = [.ref p, .ref a] ∧ PrAt D H p ls ll S ∧ WF S ∧ LineAt D H a c L ∧ c ≠ ls ∧ c ≠ ll ∧ c ≠ D.told ∧
  (256 ≤ S.lines.length → Q (.int (-2)) H) ∧ (S.lines.length < 256 → ∀ H', PrAt D H' p ls ll { S with lines := S.lines ++ [L] } → (∀ b o, H b = some o → b ≠ ll → H' b = some o) → Q (.int (S.lines.length : Int)) H')
theorem pe_kc {X : Cx} {x : Str} {z : Int} {pos : Pos} (hg : Gl X x) (h : ∃ t, X.mg x = some (.int z t)) (hd : (x == ("__debug__" : Str)) = false := by decide) : PE X (.Name x pos) (tC (.int z)) := by
  obtain ⟨t, e⟩ := h
  exact pe_glob hg e (show RelV (.int z) (.int z t) from ⟨t, rfl⟩) hd
theorem ins_ne_lst {H : Hp} {a b C dx : Addr} {fs : List (Str × V)} {xs : List V} (h : H a = some (.ins C dx fs)) (g : H b = some (.lst xs)) : a ≠ b := ne_of h g (by intro z; cases z)
section
variable {P : Program} {w : World} {K : PySem.W.Frag} {mg : Str → Option Value} {base : Heap} {D : Ad}
theorem scPi : FnScope ["self"] ["self"] (defScope sPi) := ⟨rfl, rfl, rfl, by decide +kernel, rfl, by decide +kernel, by decide +kernel⟩
theorem ok_pi (T : Txt K mg D) : FnOk P w K mg base CX0 1 D.aPi D.dPi ["self"] (spPi D) := by
  refine T.fPi.ok scPi (fun vs H Q E h => ?_) (fun cdv A outer s H vs Q E hr h => ?_)
  · obtain ⟨p, dx, rfl, _⟩ := h
    rfl
  · obtain ⟨p, dx, rfl, hp, k⟩ := h
    refine ⟨_, pss_cons (ps_fld (pv 0) (pe_lst pa_nil) rfl) (pss_one (ps_fld (pv 0) (pe_lst pa_nil) rfl)), ?_⟩
    refine ⟨Nat.zero_le _, fun ls hls => ?_⟩
    have n1 : p ≠ ls := ne_of_none hp hls
    refine ⟨_, rfl, p, D.cP, dx, [], rfl, (by rw [upd_ne n1]; exact hp), T.clP, T.nP_sides, (by decide), ?_⟩
    refine ⟨Nat.zero_le _, fun ll hll => ?_⟩
    have n2 : p ≠ ll := ne_of_none upd_same hll
    have n3 : ls ≠ ll := ne_of_none (by rw [upd_ne n1.symm]; exact upd_same) hll
    refine ⟨_, rfl, p, D.cP, dx, _, rfl, (by rw [upd_ne n2]; exact upd_same), T.clP, T.nP_lines, (by show 1 < 1000; decide), ?_⟩
    have hHll : H ll = none := by
      rw [upd_ne n2.symm, upd_ne n3.symm] at hll
      exact hll
    refine k ls ll _ hls hHll ⟨⟨dx, upd_same⟩, ?_, ⟨[], ?_, rfl, fun k a L h => by simp at h⟩, n3⟩ fun b o e hb => ?_
    · rw [upd_ne n1.symm, upd_ne n3, upd_ne n1.symm]; exact upd_same
    · rw [upd_ne n2.symm]; exact upd_same
    · rw [upd_ne hb, upd_ne (ne_of_none e hHll), upd_ne hb, upd_ne (ne_of_none e hls)]
      exact e
theorem scBg : FnScope ["self"] ["self"] (defScope sBg) := ⟨rfl, rfl, rfl, by decide +kernel, rfl, by decide +kernel, by decide +kernel⟩
theorem ok_bg (T : Txt K mg D) : FnOk P w K mg base CX0 1 D.aBg D.dBg ["self"] (spBg D) := by
  refine T.fBg.ok scBg (fun vs H Q E h => ?_) (fun cdv A outer s H vs Q E hr h => ?_)
  · obtain ⟨p, ls, ll, S, rfl, _⟩ := h
    rfl
  · obtain ⟨p, ls0, ll0, S, rfl, R, k⟩ := h
    obtain ⟨dx, hp⟩ := R.ob
    refine ⟨_, pss_cons (ps_fld (pv 0) (pe_lst pa_nil) rfl) (pss_cons (ps_fld (pv 0) (pe_lst pa_nil) rfl) (pss_one (ps_ret pe_int))), ?_⟩
    refine ⟨Nat.zero_le _, fun ls hls => ?_⟩
    have n1 : p ≠ ls := ne_of_none hp hls
    refine ⟨_, rfl, p, D.cP, dx, _, rfl, (by rw [upd_ne n1]; exact hp), T.clP, T.nP_sides, (by show 2 < 1000; decide), ?_⟩
    rw [pf_put_sides]
    refine ⟨Nat.zero_le _, fun ll hll => ?_⟩
    have n2 : p ≠ ll := ne_of_none upd_same hll
    have n3 : ls ≠ ll := ne_of_none (by rw [upd_ne n1.symm]; exact upd_same) hll
    refine ⟨_, rfl, p, D.cP, dx, _, rfl, (by rw [upd_ne n2]; exact upd_same), T.clP, T.nP_lines, (by show 2 < 1000; decide), ?_⟩
    have hHll : H ll = none := by
      rw [upd_ne n2.symm, upd_ne n3.symm] at hll
      exact hll
    rw [pf_put_lines]
    refine k ls ll _ hls hHll ⟨⟨dx, upd_same⟩, ?_, ⟨[], ?_, rfl, fun k a L h => by simp at h⟩, n3⟩ fun b o e hb => ?_
    · rw [upd_ne n1.symm, upd_ne n3, upd_ne n1.symm]; exact upd_same
    · rw [upd_ne n2.symm]; exact upd_same
    · rw [upd_ne hb, upd_ne (ne_of_none e hHll), upd_ne hb, upd_ne (ne_of_none e hls)]
      exact e
theorem scAl : FnScope ["self", "side"] ["self", "side"] (defScope sAl) := ⟨rfl, rfl, rfl, by decide +kernel, rfl, by decide +kernel, by decide +kernel⟩
theorem ok_al (T : Txt K mg D) : FnOk P w K mg base CX0 1 D.aAl D.dAl ["self", "side"] (spAl D) := by
  refine T.fAl.ok scAl (fun vs H Q E h => ?_) (fun cdv A outer s H vs Q E hr h => ?_)
  · obtain ⟨p, ls, ll, S, z, rfl, _⟩ := h
    rfl
  · obtain ⟨p, ls, ll, S, z, rfl, R, W, k⟩ := h
    obtain ⟨⟨dx, hp⟩, hs, ⟨as, hL, hlen, hat⟩, ne⟩ := id R
    refine ⟨_, pss_cons (ps_if (pw_or (pt_cmpR op_lt (pv 1) pe_int (nomark _)) (pw_or1 (pt_cmpR op_gt (pv 1) pe_int (nomark _)))).pt (pss_one (ps_ret (pe_kc rfl T.k_REFUSED))) pss_nil)
      (pss_cons (ps_if (pt_cmpR op_eq (pe_callB call_len_seq (by rfl) T.b_len bt_len (pa_cons (pe_fld (pv 0) rfl) pa_nil)) (pe_kc rfl T.k_MOST_LETTERS) (nomark _)) (pss_one (ps_ret (pe_kc rfl T.k_FULL))) pss_nil)
      (pss_cons (ps_expr (pe_bm PySem.F.plainAttrs_list PySem.F.slot_list_append PySem.F.type_list_append mt_append (pe_fld (pv 0) rfl) (pa_cons (pv 1) pa_nil)))
      (pss_one (ps_ret (pe_op op_sub (pe_callB call_len_seq (by rfl) T.b_len bt_len (pa_cons (pe_fld (pv 0) rfl) pa_nil)) pe_int))))), ?_⟩
    have bad : ¬ (0 ≤ z ∧ z < 3) → Q (.int (-1)) H := fun e => by
      have q := k H
      have e' : Rd05.below z 3 = false := below_false.mpr e
      have ed : Rd05.does S (.letter z) = (S, Rd05.refused) := by unfold Rd05.does; simp only [e']; rfl
      rw [ed] at q
      exact q R fun b o e _ => e
    -- side < 0 or side > 2
    refine ⟨_, rfl, _, _, rfl, rfl, _, rfl, ite2 (fun e => iteT (bad (by have := of_decide_eq_true e; omega))) (fun e => ?_)⟩
    have e0 : ¬ z < 0 := fun q => e (decide_eq_true q)
    refine ⟨_, rfl, _, _, rfl, rfl, _, rfl, ite2 (fun e => bad (by have := of_decide_eq_true e; omega)) (fun e => ?_)⟩
    have e1 : ¬ 2 < z := fun q => e (decide_eq_true q)
    have hb : Rd05.below z 3 = true := below_iff.mpr ⟨by omega, by show z < 3; omega⟩
    -- len(self.sides) == MOST_LETTERS
    refine ⟨_, rfl, p, D.cP, dx, _, _, rfl, hp, T.clP, T.nP_sides, pf_sides _ _, ls, _, rfl, .inl (SqL.of hs), rfl, _, rfl, ?_⟩
    rw [NV_length]
    refine ite2 (fun e => ?_) (fun e => ?_)
    · have e2 : S.sides.length = 24 := by
        have q := of_decide_eq_true e
        injection q with q
        omega
      have q := k H
      have ed : Rd05.does S (.letter z) = (S, { value := -2 }) := by
        unfold Rd05.does
        simp only [hb]
        rw [if_neg (by decide), if_pos (show Rd05.LETTERS ≤ Rd05.many S by show 24 ≤ S.sides.length; omega)]
      rw [ed] at q
      exact q R fun b o e _ => e
    · have e2 : S.sides.length < 24 := by
        have q : ¬ S.sides.length = 24 := fun q => e (by rw [q]; rfl)
        have := W.nl
        omega
      -- self.sides.append(side); return len(self.sides) - 1
      have hz : ((z.toNat : Nat) : Int) = z := by omega
      have e3 : NV S.sides ++ [V.int z] = NV (S.sides ++ [z.toNat]) := by
        unfold NV
        rw [ints_append, List.map_append]
        show _ = _ ++ [V.int ((z.toNat : Nat) : Int)]
        rw [hz]
      have n1 : p ≠ ls := ins_ne_lst hp hs
      refine ⟨_, rfl, p, D.cP, dx, _, _, rfl, hp, T.clP, T.nP_sides, pf_sides _ _, .inl ⟨rfl, _, SqL.of hs⟩, _, rfl, ls, _, _, rfl, rfl, hs, (by rw [NV_length, sizeLine_eq]; omega), ?_⟩
      rw [e3]
      refine ⟨_, rfl, p, D.cP, dx, _, _, rfl, (by rw [upd_ne n1]; exact hp), T.clP, T.nP_sides, pf_sides _ _, ls, _, rfl, .inl (SqL.of upd_same), _, _, rfl, rfl, ?_⟩
      have ed : Rd05.does S (.letter z) = ({ S with sides := S.sides ++ [z.toNat] }, { value := (S.sides.length : Nat) }) := by
        unfold Rd05.does
        simp only [hb]
        rw [if_neg (by decide), if_neg (show ¬ Rd05.LETTERS ≤ Rd05.many S by show ¬ 24 ≤ S.sides.length; omega)]
        rfl
      have q := k (upd H ls (.lst (NV (S.sides ++ [z.toNat]))))
      rw [ed] at q
      have ev : (((NV (S.sides ++ [z.toNat])).length : Nat) : Int) - 1 = (S.sides.length : Int) := by
        rw [NV_length, List.length_append, List.length_singleton]
        omega
      show Q (V.int ((((NV (S.sides ++ [z.toNat])).length : Nat) : Int) - 1)) _
      rw [ev]
      refine q ⟨⟨dx, by rw [upd_ne n1]; exact hp⟩, upd_same, ⟨as, by rw [upd_ne ne.symm]; exact hL, hlen, fun k a L h1 h2 => ?_⟩, ne⟩ fun b o e hb => by rw [upd_ne hb]; exact e
      obtain ⟨c, ⟨⟨da, ha⟩, hc⟩, n2, n3⟩ := hat k a L h1 h2
      exact ⟨c, ⟨⟨da, by rw [upd_ne (ins_ne_lst ha hs)]; exact ha⟩, by rw [upd_ne n2]; exact hc⟩, n2, n3⟩
end
end BlD
set_option Elab.async false
set_option linter.all false
set_option maxRecDepth 100000
set_option maxHeartbeats 4000000
namespace BlD
open PySem L2 BlM
open Rd05 (Abs Line Why)
theorem PrAt.line {D : Ad} {H : Hp} {p ls ll : Addr} {S : Abs} (R : PrAt D H p ls ll S) : ∃ as : List Addr, H ll = some (.lst (as.map V.ref)) ∧ as.length = S.lines.length ∧
    ∀ (k : Nat), k < S.lines.length → ∃ (a c : Addr) (L : Line), as[k]? = some a ∧ S.lines[k]? = some L ∧ LineAt D H a c L ∧ Rd05.lineAt S.lines k = L.clause := by
  obtain ⟨as, hL, hlen, hat⟩ := R.ln
  refine ⟨as, hL, hlen, fun k hk => ?_⟩
  have h1 : as[k]? = some as[k] := List.getElem?_eq_getElem (by omega)
  have h2 : S.lines[k]? = some S.lines[k] := List.getElem?_eq_getElem hk
  obtain ⟨c, h3, _⟩ := hat k _ _ h1 h2
  exact ⟨_, c, _, h1, h2, h3, by unfold Rd05.lineAt; rw [h2]⟩
theorem ref_at {as : List Addr} {k : Nat} {a : Addr} {z : Int} (h : as[k]? = some a) (e : z = (k : Int)) : atI (as.map V.ref) z = some (V.ref a) := at_of e (by rw [List.getElem?_map, h]; rfl)
section
variable {P : Program} {w : World} {K : PySem.W.Frag} {mg : Str → Option Value} {base : Heap} {D : Ad}
theorem scHl : FnScope ["self", "x"] ["self", "x"] (defScope sHl) := ⟨rfl, rfl, rfl, by decide +kernel, rfl, by decide +kernel, by decide +kernel⟩
theorem ok_hl (T : Txt K mg D) : FnOk P w K mg base CX0 1 D.aHl D.dHl ["self", "x"] (spHl D) := by
  refine T.fHl.ok scHl (fun vs H Q E h => ?_) (fun cdv A outer s H vs Q E hr h => ?_)
  · obtain ⟨p, ls, ll, S, z, rfl, _⟩ := h
    rfl
  · obtain ⟨p, ls, ll, S, z, rfl, R, k⟩ := h
    obtain ⟨⟨dx, hp⟩, hs, _, ne⟩ := id R
    refine ⟨_, pss_one (ps_ret (pe_chain op_le op_lt pe_int (pv 1) (pe_callB call_len_seq (by rfl) T.b_len bt_len (pa_cons (pe_fld (pv 0) rfl) pa_nil)))), ?_⟩
    unfold Rd05.below at k
    refine ⟨_, rfl, _, _, rfl, rfl, _, rfl, ite2 (fun e => ?_) (fun e => ?_)⟩
    · rw [e] at k
      refine ⟨_, rfl, p, D.cP, dx, _, _, rfl, hp, T.clP, T.nP_sides, pf_sides _ _, ls, _, rfl, .inl (SqL.of hs), _, _, rfl, rfl, ?_⟩
      rw [NV_length]
      exact k
    · rw [Bool.not_eq_true] at e
      rw [e] at k
      exact k
theorem scHn : FnScope ["self", "k"] ["self", "k"] (defScope sHn) := ⟨rfl, rfl, rfl, by decide +kernel, rfl, by decide +kernel, by decide +kernel⟩
theorem ok_hn (T : Txt K mg D) : FnOk P w K mg base CX0 1 D.aHn D.dHn ["self", "k"] (spHn D) := by
  refine T.fHn.ok scHn (fun vs H Q E h => ?_) (fun cdv A outer s H vs Q E hr h => ?_)
  · obtain ⟨p, ls, ll, S, z, rfl, _⟩ := h
    rfl
  · obtain ⟨p, ls, ll, S, z, rfl, R, k⟩ := h
    obtain ⟨⟨dx, hp⟩, hs, ⟨as, hL, hlen, _⟩, ne⟩ := id R
    refine ⟨_, pss_one (ps_ret (pe_chain op_le op_lt pe_int (pv 1) (pe_callB call_len_seq (by rfl) T.b_len bt_len (pa_cons (pe_fld (pv 0) rfl) pa_nil)))), ?_⟩
    unfold Rd05.below at k
    refine ⟨_, rfl, _, _, rfl, rfl, _, rfl, ite2 (fun e => ?_) (fun e => ?_)⟩
    · rw [e] at k
      refine ⟨_, rfl, p, D.cP, dx, _, _, rfl, hp, T.clP, T.nP_lines, pf_lines _ _, ll, _, rfl, .inl (SqL.of hL), _, _, rfl, rfl, ?_⟩
      rw [List.length_map, hlen]
      exact k
    · rw [Bool.not_eq_true] at e
      rw [e] at k
      exact k
theorem scMs : FnScope ["self", "side", "sign", "x"] ["self", "side", "sign"] (defScope sMs) := ⟨rfl, rfl, rfl, by decide +kernel, rfl, by decide +kernel, by decide +kernel⟩
theorem ok_ms (T : Txt K mg D) : FnOk P w K mg base CX0 2 D.aMs D.dMs ["self", "side", "sign"] (spMs D) := by
  refine T.fMs.ok scMs (fun vs H Q E h => ?_) (fun cdv A outer s H vs Q E hr h => ?_)
  · obtain ⟨p, ls, ll, S, s, y, rfl, _⟩ := h
    rfl
  · obtain ⟨p, ls, ll, S, sd, y, rfl, R, k⟩ := h
    obtain ⟨⟨dx, hp⟩, hs, _, ne⟩ := id R
    refine ⟨_, pss_cons (ps_set (i := 3) scMs.nd rfl (Or.inl rfl) (pe_op op_fdiv (pv 2) pe_int))
      (pss_one (ps_ret (pe_and (pe_meth (pv 0) T.clP T.mHl (ok_hl T) hr T.bHl .nil pass0 (pa_cons (pv 3) pa_nil))
        (pe_one (pe_cmpR op_in_seq (pe_ix ix_list (pe_fld (pv 0) rfl) (pv 3) (fun _ _ => rfl)) (pe_tup (pa_cons pe_int (pa_cons (pv 1) pa_nil))) rfl))))), ?_⟩
    have e2 : ((y : Int) / 2) = ((y / 2 : Nat) : Int) := by omega
    refine ⟨_, rfl, _, _, rfl, rfl, ⟨by decide, by decide⟩, ?_⟩
    refine ⟨_, rfl, p, dx, _, rfl, hp, pf_no _ _ (by decide +kernel) (by decide +kernel), _, rfl, p, ls, ll, S, (y : Int) / 2, rfl, R, _, rfl, ?_⟩
    unfold mayV at k
    refine ite2 (fun e => ?_) (fun e => ?_)
    · have hb := below_iff.mp e
      have hlt : y / 2 < S.sides.length := by omega
      have hy : y < 2 * S.sides.length := by omega
      have hg : S.sides[y / 2]? = some S.sides[y / 2] := List.getElem?_eq_getElem hlt
      refine ⟨_, rfl, p, D.cP, dx, _, _, rfl, hp, T.clP, T.nP_sides, pf_sides _ _, _, rfl, ls, _, _, _, rfl, rfl, SqL.of hs, at_of e2 (NV_at hg), ?_⟩
      refine ⟨_, rfl, (by show 2 ≤ sizeLine; decide), fun q hq => ?_⟩
      refine ⟨q, _, rfl, .inr (SqT.of upd_same), rfl, rfl, ?_⟩
      have hv : inV (V.int (S.sides[y / 2] : Int)) [V.int 0, V.int (sd : Int)] = (decide (y < 2 * S.sides.length) && (S.sides.getD (y / 2) 0 == 0 || S.sides.getD (y / 2) 0 == sd)) := by
        rw [decide_eq_true hy, Bool.true_and]
        have e3 : S.sides.getD (y / 2) 0 = S.sides[y / 2] := by rw [List.getD_eq_getElem?_getD, hg]; rfl
        rw [e3]
        show ((0 : Int) == (S.sides[y / 2] : Int) || (((sd : Int) == (S.sides[y / 2] : Int)) || false)) = _
        rw [Bool.or_false, Bool.eq_iff_iff]
        simp only [Bool.or_eq_true, beq_iff_eq]
        constructor
        · rintro (q | q)
          · left; omega
          · right; omega
        · rintro (q | q)
          · left; omega
          · right; omega
      show Q (V.bl (inV (V.int (S.sides[y / 2] : Int)) [V.int 0, V.int (sd : Int)])) _
      rw [hv]
      exact k _ (Same.upd hq)
    · have hy : ¬ y < 2 * S.sides.length := fun q => e (below_iff.mpr ⟨by omega, by omega⟩)
      have q := k H (Same.refl H)
      rw [decide_eq_false hy, Bool.false_and] at q
      exact q
theorem scIs : FnScope ["self", "i", "j", "x"] ["self", "i", "j", "x"] (defScope sIs) := ⟨rfl, rfl, rfl, by decide +kernel, rfl, by decide +kernel, by decide +kernel⟩
theorem ok_is (T : Txt K mg D) : FnOk P w K mg base CX0 2 D.aIs D.dIs ["self", "i", "j", "x"] (spIs D) := by
  refine T.fIs.ok scIs (fun vs H Q E h => ?_) (fun cdv A outer s H vs Q E hr h => ?_)
  · obtain ⟨p, ls, ll, S, i, j, x, rfl, _⟩ := h
    rfl
  · obtain ⟨p, ls, ll, S, i, j, x, rfl, R, W, k⟩ := h
    obtain ⟨⟨dx, hp⟩, hs, _, ne⟩ := id R
    obtain ⟨as, hL, hlen, hat⟩ := R.line
    refine ⟨_, pss_cons (ps_if (pt_not (pw_and (pt_val (pe_meth (pv 0) T.clP T.mHn (ok_hn T) hr T.bHn .nil pass0 (pa_cons (pv 1) pa_nil)))
        (pw_and (pt_val (pe_meth (pv 0) T.clP T.mHn (ok_hn T) hr T.bHn .nil pass0 (pa_cons (pv 2) pa_nil))) (pw_and1 (pt_val (pe_meth (pv 0) T.clP T.mHl (ok_hl T) hr T.bHl .nil pass0 (pa_cons (pv 3) pa_nil)))))).pt) (pss_one (ps_ret pe_bl)) pss_nil)
      (pss_one (ps_ret (pe_and (pe_cmpR op_in_seq (pe_op op_mul pe_int (pv 3)) (pe_fld (pe_ix ix_list (pe_fld (pv 0) rfl) (pv 1) (fun _ _ => rfl)) rfl) rfl)
        (pe_one (pe_cmpR op_in_seq (pe_op op_add (pe_op op_mul pe_int (pv 3)) pe_int) (pe_fld (pe_ix ix_list (pe_fld (pv 0) rfl) (pv 2) (fun _ _ => rfl)) rfl) rfl))))), ?_⟩
    unfold isV at k
    refine ⟨_, rfl, p, dx, _, rfl, hp, pf_no _ _ (by decide +kernel) (by decide +kernel), _, rfl, p, ls, ll, S, i, rfl, R, _, rfl, ite2 (fun ei => ?_) (fun ei => ?_)⟩
    rotate_left
    · rw [Bool.not_eq_true] at ei
      rw [ei] at k
      exact k
    refine ⟨_, rfl, p, dx, _, rfl, hp, pf_no _ _ (by decide +kernel) (by decide +kernel), _, rfl, p, ls, ll, S, j, rfl, R, _, rfl, ite2 (fun ej => ?_) (fun ej => ?_)⟩
    rotate_left
    · rw [Bool.not_eq_true] at ej
      rw [ei, ej] at k
      exact k
    refine ⟨_, rfl, p, dx, _, rfl, hp, pf_no _ _ (by decide +kernel) (by decide +kernel), _, rfl, p, ls, ll, S, x, rfl, R, _, rfl, ?_⟩
    by_cases ex : Rd05.below x S.sides.length = true
    rotate_left
    · rw [Bool.not_eq_true] at ex
      rw [ei, ej, ex] at k
      rw [ex]
      exact k
    rw [ei, ej, ex] at k
    rw [ex]
    have hi := below_iff.mp ei
    have hj := below_iff.mp ej
    have hx := below_iff.mp ex
    have hnl := W.nl
    obtain ⟨ai, ci, Li, hai, _, ⟨⟨di, hoi⟩, hci⟩, eli⟩ := hat i.toNat (by omega)
    obtain ⟨aj, cj, Lj, haj, _, ⟨⟨dj, hoj⟩, hcj⟩, elj⟩ := hat j.toNat (by omega)
    have ex2 : 2 * x = ((2 * x.toNat : Nat) : Int) := by omega
    have ex3 : 2 * x + 1 = ((2 * x.toNat + 1 : Nat) : Int) := by omega
    rw [eli, elj] at k
    refine ⟨_, rfl, _, _, rfl, rfl, .inl ⟨by decide, by decide⟩, ?_⟩
    refine ⟨_, rfl, p, D.cP, dx, _, _, rfl, hp, T.clP, T.nP_lines, pf_lines _ _, _, rfl, ll, _, _, _, rfl, rfl, SqL.of hL, ref_at hai (by omega), ai, _, di, _, _, rfl, hoi, clL T _, nL T _, lf_signs _ _, ci, _, rfl, .inl (SqL.of hci), rfl, NV_flat _, _, rfl, ?_⟩
    have v1 : inV (V.int (2 * x)) (NV Li.clause) = Li.clause.contains (2 * x.toNat) := by rw [ex2, inV_nat]
    have v2 : inV (V.int (2 * x + 1)) (NV Lj.clause) = Lj.clause.contains (2 * x.toNat + 1) := by rw [ex3, inV_nat]
    refine ite2 (fun e => ?_) (fun e => ?_)
    · have e : inV (V.int (2 * x)) (NV Li.clause) = true := e
      rw [v1] at e
      rw [e] at k
      refine ⟨_, rfl, _, _, rfl, rfl, .inl ⟨by decide, by decide⟩, _, _, rfl, rfl, ?_⟩
      refine ⟨_, rfl, p, D.cP, dx, _, _, rfl, hp, T.clP, T.nP_lines, pf_lines _ _, _, rfl, ll, _, _, _, rfl, rfl, SqL.of hL, ref_at haj (by omega), aj, _, dj, _, _, rfl, hoj, clL T _, nL T _, lf_signs _ _, cj, _, rfl, .inl (SqL.of hcj), rfl, NV_flat _, ?_⟩
      show Q (V.bl (inV (V.int (2 * x + 1)) (NV Lj.clause))) _
      rw [v2]
      exact k
    · have e : ¬ inV (V.int (2 * x)) (NV Li.clause) = true := e
      rw [v1, Bool.not_eq_true] at e
      rw [e] at k
      exact k
end
end BlD
set_option Elab.async false
set_option linter.all false
set_option maxRecDepth 100000
set_option maxHeartbeats 4000000
namespace BlD
open PySem L2 BlM
open Rd05 (Abs Line Why)
def feV (S : Abs) : Int := match Rd05.empty S.lines with
  | some k => (k : Int)
  | none => -1
theorem feV_some {S : Abs} {k : Nat} (h : Rd05.empty S.lines = some k) : feV S = (k : Int) := by unfold feV; rw [h]
theorem feV_none {S : Abs} (h : Rd05.empty S.lines = none) : feV S = -1 := by unfold feV; rw [h]
def ctV (S : Abs) (v : Int) : Bool := (Rd05.empty S.lines).isSome && Rd05.below v (2 ^ Rd05.LETTERS)
def spFe (D : Ad) : Sp := fun vs H Q _ => ∃ (p ls ll : Addr) (S : Abs), vs = [.ref p] ∧ PrAt D H p ls ll S ∧ WF S ∧ Q (.int (feV S)) H
def spCt (D : Ad) : Sp := fun vs H Q _ => ∃ (p ls ll : Addr) (S : Abs) (v : Int), vs = [.ref p, .int v] ∧ PrAt D H p ls ll S ∧ WF S ∧ Q (.bl (ctV S v)) H
def spWd (D : Ad) : Sp := fun vs H Q _ => ∃ (p ls ll : Addr) (S : Abs), vs = [.ref p] ∧ PrAt D H p ls ll S ∧ WF S ∧ ∀ H', Same H H' → Q (.int ((Rd05.width (S.lines.map fun l => l.clause) : Nat) : Int)) H'
def spSl (D : Ad) : Sp := fun vs H Q _ => ∃ (p ls ll : Addr) (S : Abs) (z m : Int), vs = [.ref p, .int z, .int m] ∧ PrAt D H p ls ll S ∧ WF S ∧
  ∀ E H', H E = none → H' E = some (.lst ((said (Rd05.does S (.line z m)).2).map V.int)) → Same H H' → Q (.ref E) H'
section
variable {P : Program} {w : World} {K : PySem.W.Frag} {mg : Str → Option Value} {base : Heap} {D : Ad}
theorem scAn : FnScope ["self", "line"] ["self", "line"] (defScope sAn) := ⟨rfl, rfl, rfl, by decide +kernel, rfl, by decide +kernel, by decide +kernel⟩
theorem ok_an (T : Txt K mg D) : FnOk P w K mg base CX0 1 D.aAn D.dAn ["self", "line"] (spAn D) := by
  refine T.fAn.ok scAn (fun vs H Q E h => ?_) (fun cdv A outer s H vs Q E hr h => ?_)
  · obtain ⟨p, ls, ll, a, c, S, L, rfl, _⟩ := h
    rfl
  · obtain ⟨p, ls, ll, a, c, S, L, rfl, R, W, hA, nc1, nc2, nc3, k1, k2⟩ := h
    obtain ⟨⟨dx, hp⟩, hs, ⟨as, hL, hlen, hat⟩, ne⟩ := id R
    refine ⟨_, pss_cons (ps_if (pt_cmpR op_eq (pe_callB call_len_seq (by rfl) T.b_len bt_len (pa_cons (pe_fld (pv 0) rfl) pa_nil)) (pe_kc rfl T.k_MOST_LINES) (nomark _)) (pss_one (ps_ret (pe_kc rfl T.k_FULL))) pss_nil)
      (pss_cons (ps_expr (pe_bm PySem.F.plainAttrs_list PySem.F.slot_list_append PySem.F.type_list_append mt_append (pe_fld (pv 0) rfl) (pa_cons (pv 1) pa_nil)))
      (pss_one (ps_ret (pe_op op_sub (pe_callB call_len_seq (by rfl) T.b_len bt_len (pa_cons (pe_fld (pv 0) rfl) pa_nil)) pe_int)))), ?_⟩
    refine ⟨_, rfl, p, D.cP, dx, _, _, rfl, hp, T.clP, T.nP_lines, pf_lines _ _, ll, _, rfl, .inl (SqL.of hL), rfl, _, rfl, ?_⟩
    rw [List.length_map, hlen]
    refine ite2 (fun e => ?_) (fun e => ?_)
    · have e2 : S.lines.length = 256 := by
        have q := of_decide_eq_true e
        injection q with q
        omega
      exact k1 (by omega)
    · have e2 : S.lines.length < 256 := by
        have q : ¬ S.lines.length = 256 := fun q => e (by rw [q]; rfl)
        have := W.ll
        omega
      have n1 : p ≠ ll := ins_ne_lst hp hL
      have e3 : as.map V.ref ++ [V.ref a] = (as ++ [a]).map V.ref := by rw [List.map_append]; rfl
      refine ⟨_, rfl, p, D.cP, dx, _, _, rfl, hp, T.clP, T.nP_lines, pf_lines _ _, .inl ⟨rfl, _, SqL.of hL⟩, _, rfl, ll, _, _, rfl, rfl, hL, (by rw [List.length_map, hlen, sizeLine_eq]; omega), ?_⟩
      rw [e3]
      refine ⟨_, rfl, p, D.cP, dx, _, _, rfl, (by rw [upd_ne n1]; exact hp), T.clP, T.nP_lines, pf_lines _ _, ll, _, rfl, .inl (SqL.of upd_same), _, _, rfl, rfl, ?_⟩
      show Q (V.int (((((as ++ [a]).map V.ref).length : Nat) : Int) - 1)) _
      have ev : ((((as ++ [a]).map V.ref).length : Nat) : Int) - 1 = (S.lines.length : Int) := by
        rw [List.length_map, List.length_append, List.length_singleton, hlen]
        omega
      rw [ev]
      have up : ∀ (b : Addr) (o : HO), H b = some o → b ≠ ll → upd H ll (.lst ((as ++ [a]).map V.ref)) b = some o := fun b o e hb => by rw [upd_ne hb]; exact e
      refine k2 e2 _ ⟨⟨dx, up _ _ hp n1⟩, up _ _ hs ne, ⟨as ++ [a], upd_same, by simp [hlen], fun k b M h1 h2 => ?_⟩, ne⟩ up
      have keepL : ∀ {b d : Addr} {M : Line}, LineAt D H b d M → d ≠ ll → LineAt D (upd H ll (.lst ((as ++ [a]).map V.ref))) b d M := fun {b d M} h n => by
        obtain ⟨⟨da, ha⟩, hc⟩ := h
        exact ⟨⟨da, up _ _ ha (ins_ne_lst ha hL)⟩, up _ _ hc n⟩
      have h2 : (S.lines ++ [L])[k]? = some M := h2
      by_cases hk : k < S.lines.length
      · rw [List.getElem?_append_left (by omega)] at h1
        rw [List.getElem?_append_left hk] at h2
        obtain ⟨d, h3, h4, h5⟩ := hat k b M h1 h2
        exact ⟨d, keepL h3 h5.1, h4, h5⟩
      · have hk' : k = S.lines.length := by
          have := (List.getElem?_eq_some_iff.mp h2).1
          simp at this
          omega
        subst hk'
        rw [List.getElem?_append_right (Nat.le_refl _), Nat.sub_self] at h2
        rw [← hlen, List.getElem?_append_right (Nat.le_refl _), Nat.sub_self] at h1
        have e4 : a = b := Option.some.inj h1
        have e5 : L = M := Option.some.inj h2
        subst e4; subst e5
        exact ⟨c, keepL hA nc2, nc1, nc2, nc3⟩
theorem scFe : FnScope ["self", "k"] ["self"] (defScope sFe) := ⟨rfl, rfl, rfl, by decide +kernel, rfl, by decide +kernel, by decide +kernel⟩
theorem ok_fe (T : Txt K mg D) : FnOk P w K mg base CX0 1 D.aFe D.dFe ["self"] (spFe D) := by
  refine T.fFe.ok scFe (fun vs H Q E h => ?_) (fun cdv A outer s H vs Q E hr h => ?_)
  · obtain ⟨p, ls, ll, S, rfl, _⟩ := h
    rfl
  · obtain ⟨p, ls, ll, S, rfl, R, W, k⟩ := h
    obtain ⟨⟨dx, hp⟩, hs, _, ne⟩ := id R
    obtain ⟨as, hL, hlen, hat⟩ := R.line
    refine ⟨_, pss_cons (ps_for PassesOwn.never rfl (pi_range1 rfl T.b_range (pa_cons (pe_callB call_len_seq (by rfl) T.b_len bt_len (pa_cons (pe_fld (pv 0) rfl) pa_nil)) pa_nil)) (pg_name (i := 1) scFe.nd rfl (Or.inl rfl))
        (pss_one (ps_if (pt_cmpR op_eq (pe_callB call_len_seq (by rfl) T.b_len bt_len (pa_cons (pe_fld (pe_ix ix_list (pe_fld (pv 0) rfl) (pv 1) (fun _ _ => rfl)) rfl) pa_nil)) pe_int (nomark _)) (pss_one (ps_ret (pv 1))) pss_nil)))
      (pss_one (ps_ret (pe_kc rfl T.k_REFUSED))), ?_⟩
    have hll := W.ll
    refine ⟨_, rfl, p, D.cP, dx, _, _, rfl, hp, T.clP, T.nP_lines, pf_lines _ _, ll, _, rfl, .inl (SqL.of hL), ((S.lines.length : Nat) : Int), (by rw [List.length_map, hlen]), (by omega), (by omega), ?_⟩
    refine for_range (lo := 0) (n := S.lines.length) (fun i σ H2 => ∃ v : Option V, σ = [some (.ref p), v] ∧ H2 = H ∧ ∀ (k : Nat) (M : Line), k < i → S.lines[k]? = some M → M.clause ≠ []) ⟨none, rfl, rfl, fun k M h => by omega⟩ ?_ ?_
    · rintro i σ H2 hi ⟨v, rfl, rfl, hb⟩
      obtain ⟨a, c, L, ha, hLi, ⟨⟨da, ho⟩, hc⟩, el⟩ := hat i hi
      refine ⟨_, rfl, p, D.cP, dx, _, _, rfl, hp, T.clP, T.nP_lines, pf_lines _ _, _, rfl, ll, _, _, _, rfl, rfl, SqL.of hL, ref_at ha (Int.zero_add _), a, _, da, _, _, rfl, ho, clL T _, nL T _, lf_signs _ _, c, _, rfl, .inl (SqL.of hc), rfl, _, rfl, ?_⟩
      rw [NV_length]
      refine ite2 (fun e => ?_) (fun e => ?_)
      · have e2 : L.clause = [] := by
          have q := of_decide_eq_true e
          injection q with q
          exact List.eq_nil_of_length_eq_zero (by omega)
        refine ⟨_, rfl, ?_⟩
        rw [feV_some (empty_some hLi e2 hb)] at k
        show Q (V.int (0 + (i : Int))) H2
        rw [Int.zero_add]
        exact k
      · refine ⟨_, rfl, rfl, fun k M hk hM => ?_⟩
        by_cases q : k = i
        · subst q
          rw [hLi] at hM
          have e3 : L = M := Option.some.inj hM
          subst e3
          intro z
          exact e (by rw [z]; rfl)
        · exact hb k M (by omega) hM
    · rintro σ H2 ⟨v, rfl, rfl, hb⟩
      rw [feV_none (empty_none fun k M hM => hb k M (List.getElem?_eq_some_iff.mp hM).1 hM)] at k
      exact k
theorem scCt : FnScope ["self", "v"] ["self", "v"] (defScope sCt) := ⟨rfl, rfl, rfl, by decide +kernel, rfl, by decide +kernel, by decide +kernel⟩
theorem ok_ct (T : Txt K mg D) : FnOk P w K mg base CX0 2 D.aCt D.dCt ["self", "v"] (spCt D) := by
  refine T.fCt.ok scCt (fun vs H Q E h => ?_) (fun cdv A outer s H vs Q E hr h => ?_)
  · obtain ⟨p, ls, ll, S, v, rfl, _⟩ := h
    rfl
  · obtain ⟨p, ls, ll, S, v, rfl, R, W, k⟩ := h
    obtain ⟨⟨dx, hp⟩, hs, _, ne⟩ := id R
    refine ⟨_, pss_one (ps_ret (pe_and (pe_cmpR op_ne (pe_meth0 (pv 0) T.clP T.mFe (ok_fe T) hr T.bFe .nil pass0) (pe_kc rfl T.k_REFUSED) (nomark _)) (pe_one (pe_chain op_le op_le pe_int (pv 1) (pe_kc rfl T.k_ALL_TRUE))))), ?_⟩
    unfold ctV at k
    refine ⟨_, rfl, p, dx, _, rfl, hp, pf_no _ _ (by decide +kernel) (by decide +kernel), p, ls, ll, S, rfl, R, W, rfl, _, rfl, ?_⟩
    have hd : (!decide (V.int (feV S) = V.int (-1))) = (Rd05.empty S.lines).isSome := by
      cases e : Rd05.empty S.lines with
      | none => rw [feV_none e]; rfl
      | some n =>
        rw [feV_some e, decide_eq_false (fun z => by injection z with z; omega)]
        rfl
    rw [hd]
    refine ite2 (fun e => ?_) (fun e => ?_)
    · rw [e] at k
      have hb : Rd05.below v (2 ^ Rd05.LETTERS) = (decide (0 ≤ v) && decide (v ≤ 16777215)) := by
        unfold Rd05.below
        congr 1
        rw [Bool.eq_iff_iff, decide_eq_true_iff, decide_eq_true_iff]
        show v < ((2 ^ 24 : Nat) : Int) ↔ _
        omega
      rw [hb] at k
      refine ⟨_, rfl, _, _, rfl, rfl, _, rfl, ite2 (fun e => ?_) (fun e => ?_)⟩
      · rw [e] at k
        exact ⟨_, _, rfl, rfl, k⟩
      · rw [Bool.not_eq_true] at e
        rw [e] at k
        exact k
    · rw [Bool.not_eq_true] at e
      rw [e] at k
      exact k
theorem scWd : FnScope ["self", "line"] ["self"] (defScope sWd) := ⟨rfl, rfl, rfl, by decide +kernel, rfl, by decide +kernel, by decide +kernel⟩
theorem blkWd : BlkOk ["self", "line"] (defScope sWd) (scp [(".0", .local), ("line", .local), ("len", .globalImplicit)]) [("line", 1)] := ⟨rfl, by decide +kernel, by decide +kernel, by decide +kernel, by decide +kernel⟩
theorem ok_wd (T : Txt K mg D) : FnOk P w K mg base CX0 1 D.aWd D.dWd ["self"] (spWd D) := by
  refine T.fWd.ok scWd (fun vs H Q E h => ?_) (fun cdv A outer s H vs Q E hr h => ?_)
  · obtain ⟨p, ls, ll, S, rfl, _⟩ := h
    rfl
  · obtain ⟨p, ls, ll, S, rfl, R, W, k⟩ := h
    obtain ⟨⟨dx, hp⟩, hs, _, ne⟩ := id R
    obtain ⟨as, hL, hlen, hat⟩ := R.line
    refine ⟨_, pss_one (ps_ret (pe_maxD rfl rfl T.b_max (pa_cons (pe_lc rfl scWd.nd (pi_list (pe_fld (pv 0) rfl)) blkWd (fun _ _ _ _ _ => pg_name (i := 1) scWd.nd rfl (Or.inl rfl)) (fun _ _ _ _ _ => pts_nil)
      (fun _ _ _ _ _ => pe_callB (r := fun xs H Q => ∃ (p : Addr) (ys : List V), xs = [.ref p] ∧ (SqL K H p ys ∨ SqT K H p ys) ∧ Q (.int ys.length) H) call_len_seq (by rfl) T.b_len bt_len (pa_cons (te := tFld K (tVar 1) "signs") (pe_fld (pv 1) rfl) pa_nil))) pa_nil))), ?_⟩
    refine ⟨_, rfl, p, D.cP, dx, _, _, rfl, hp, T.clP, T.nP_lines, pf_lines _ _, ll, rfl, ⟨_, SqL.of hL⟩, fun N hN => ?_⟩
    refine lc_list (K := K) (a := ll) (xs := as.map V.ref) (fun i H2 => Same H H2 ∧ H2 N = some (.lst (NV ((S.lines.take i).map fun L => L.clause.length)))) ⟨Same.upd hN, upd_same⟩ (fun i H2 _ h => SqL.of (h.1 _ _ hL)) ?_ ?_
    · rintro i x H2 hx ⟨s2, h2⟩
      rw [List.getElem?_map] at hx
      have hi : i < as.length := by
        cases e : as[i]? with
        | none => rw [e] at hx; cases hx
        | some a => exact (List.getElem?_eq_some_iff.mp e).1
      obtain ⟨a, c, L, ha, hLi, ⟨⟨da, ho⟩, hc⟩, el⟩ := hat i (by omega)
      rw [ha] at hx
      have hx : V.ref a = x := Option.some.inj hx
      subst hx
      have e1 : S.lines.take (i + 1) = S.lines.take i ++ [L] := by rw [List.take_succ, hLi]; rfl
      have hll := W.ll
      refine ⟨rfl, _, rfl, a, _, da, _, _, rfl, s2 _ _ ho, clL T _, nL T _, lf_signs _ _, c, _, rfl, .inl (SqL.of (s2 _ _ hc)), _, h2, ?_, ?_, ?_⟩
      · rw [NV_length, List.length_map, List.length_take, sizeLine_eq]; omega
      · exact fun b o e => by rw [upd_ne (ne_of_none e hN)]; exact s2 b o e
      · rw [upd_same, e1, List.map_append]
        show some (HO.lst (NV _ ++ [V.int ((NV L.clause).length : Int)])) = some (HO.lst (NV _))
        rw [NV_length]
        unfold NV
        rw [ints_append, List.map_append]
        rfl
    · rintro H2 ⟨s2, h2⟩
      have e0 : S.lines.take (as.map V.ref).length = S.lines := by rw [List.length_map, hlen, List.take_length]
      rw [e0] at h2
      have kk := k H2 s2
      have ew : Rd05.width (S.lines.map fun l => l.clause) = (S.lines.map fun L => L.clause.length).foldl max 0 := by
        unfold Rd05.width
        rw [List.map_map]
        rfl
      rw [ew] at kk
      refine ⟨N, nzs (S.lines.map fun L => L.clause.length), rfl, SqL.of h2, fun e => ?_, fun M hM hle => ?_⟩
      · have e1 : (S.lines.map fun L => L.clause.length) = [] := List.eq_nil_of_length_eq_zero (by rw [← ints_length, e]; rfl)
        rw [e1] at kk
        exact kk
      · obtain ⟨m, hm, e⟩ := mem_ints.mp hM
        subst e
        rw [foldl_max_is hm fun x hx => by have := hle (x : Int) (ints_cast.mpr hx); omega] at kk
        exact kk
end
end BlD
set_option Elab.async false
set_option linter.all false
set_option maxRecDepth 100000
set_option maxHeartbeats 4000000
namespace BlD
open PySem L2 BlM
open Rd05 (Abs Line Why)
section
variable {P : Program} {w : World} {K : PySem.W.Frag} {mg : Str → Option Value} {base : Heap} {D : Ad}
theorem cut_most {l : List Nat} {m : Int} (h : 1 ≤ m) : cutV (NV l) none (some m) = NV (l.take m.toNat) := by
  unfold cutV HT.sIx
  dsimp only
  rw [if_neg (by omega), List.drop_zero, Nat.sub_zero, NV_length]
  unfold NV
  rw [← List.map_take, ints_take]
  congr 2
  by_cases q : m.toNat ≤ l.length
  · rw [Nat.min_eq_left q]
  · rw [Nat.min_eq_right (by omega), List.take_of_length_le (by omega), List.take_of_length_le (by omega)]
theorem scSl : FnScope ["self", "k", "most", "signs"] ["self", "k", "most"] (defScope sSl) := ⟨rfl, rfl, rfl, by decide +kernel, rfl, by decide +kernel, by decide +kernel⟩
theorem ok_sl (T : Txt K mg D) : FnOk P w K mg base CX0 2 D.aSl D.dSl ["self", "k", "most"] (spSl D) := by
  refine T.fSl.ok scSl (fun vs H Q E h => ?_) (fun cdv A outer s H vs Q E hr h => ?_)
  · obtain ⟨p, ls, ll, S, z, m, rfl, _⟩ := h
    rfl
  · obtain ⟨p, ls, ll, S, z, m, rfl, R, W, k⟩ := h
    obtain ⟨⟨dx, hp⟩, hs, _, ne⟩ := id R
    obtain ⟨as, hL, hlen, hat⟩ := R.line
    refine ⟨_, pss_cons (ps_if (pt_not (pt_val (pe_meth (pv 0) T.clP T.mHn (ok_hn T) hr T.bHn .nil pass0 (pa_cons (pv 1) pa_nil)))) (pss_one (ps_ret (pe_lst (pa_cons (pe_kc rfl T.k_REFUSED) pa_nil)))) pss_nil)
      (pss_cons (ps_set (i := 3) scSl.nd rfl (Or.inl rfl) (pe_fld (pe_ix ix_list (pe_fld (pv 0) rfl) (pv 1) (fun _ _ => rfl)) rfl))
      (pss_cons (ps_if (pw_or (pt_cmpR op_lt (pv 2) pe_int (nomark _)) (pw_or1 (pt_cmpR op_gt (pv 2) (pe_kc (by rfl) T.k_MOST_SHOWN_SIGNS) (nomark _)))).pt
          (pss_one (ps_ret (pe_lst (pa_cons (pe_callB call_len_seq (by rfl) T.b_len bt_len (pa_cons (pv 3) pa_nil)) pa_nil)))) pss_nil)
      (pss_one (ps_ret (pe_op op_cat (pe_lst (pa_cons (pe_callB call_len_seq (by rfl) T.b_len bt_len (pa_cons (pv 3) pa_nil)) pa_nil)) (pe_slice sl_list (pv 3) po_none (po_some (pv 2)))))))), ?_⟩
    refine ⟨_, rfl, p, dx, _, rfl, hp, pf_no _ _ (by decide +kernel) (by decide +kernel), _, rfl, p, ls, ll, S, z, rfl, R, _, rfl, ?_⟩
    by_cases eb : Rd05.below z S.lines.length = true
    rotate_left
    · have ed : Rd05.does S (.line z m) = (S, Rd05.refused) := by
        unfold Rd05.does
        dsimp only
        rw [if_neg eb]
      rw [ed] at k
      rw [Bool.not_eq_true] at eb
      rw [eb]
      refine ⟨by show 1 ≤ sizeLine; decide, fun N hN => ?_⟩
      exact k N _ hN upd_same (Same.upd hN)
    have ed : Rd05.does S (.line z m) = (S, { value := ((Rd05.lineAt S.lines z.toNat).length : Nat), numbers := (Rd05.lineAt S.lines z.toNat).take (Rd05.room_ m Rd05.LETTERS) }) := by
      unfold Rd05.does
      dsimp only
      rw [if_pos eb]
    rw [ed] at k
    have hb := below_iff.mp eb
    obtain ⟨a, c, L, ha, hLi, ⟨⟨da, ho⟩, hc⟩, el⟩ := hat z.toNat (by omega)
    rw [el] at k
    have hLl := (W.ln _ _ hLi).len
    rw [eb]
    refine ⟨_, rfl, p, D.cP, dx, _, _, rfl, hp, T.clP, T.nP_lines, pf_lines _ _, _, rfl, ll, _, _, _, rfl, rfl, SqL.of hL, ref_at ha (by omega), a, _, da, _, _, rfl, ho, clL T _, nL T _, lf_signs _ _, ?_⟩
    -- most < 1 or most > MOST_SHOWN_SIGNS
    have short : Rd05.room_ m Rd05.LETTERS = 0 → ∀ N, H N = none → Q (.ref N) (upd H N (.lst [V.int ((NV L.clause).length : Int)])) := fun e0 N hN => by
      have q := k N (upd H N (.lst [V.int ((NV L.clause).length : Int)])) hN
      rw [e0, List.take_zero] at q
      refine q ?_ (Same.upd hN)
      rw [upd_same, NV_length]
      rfl
    have room0 : ¬ (1 ≤ m ∧ m ≤ 24) → Rd05.room_ m Rd05.LETTERS = 0 := fun e => by
      unfold Rd05.room_
      rw [if_neg]
      exact e
    refine ⟨_, rfl, _, _, rfl, rfl, _, rfl, ite2 (fun e => ?_) (fun e => ?_)⟩
    · have e := of_decide_eq_true e
      refine ⟨_, rfl, c, _, rfl, .inl (SqL.of hc), by show 1 ≤ sizeLine; decide, fun N hN => short (room0 (by omega)) N hN⟩
    have e0 : ¬ m < 1 := fun q => e (decide_eq_true q)
    refine ⟨_, rfl, _, _, rfl, rfl, _, rfl, ite2 (fun e => ?_) (fun e => ?_)⟩
    · have e := of_decide_eq_true e
      refine ⟨_, rfl, c, _, rfl, .inl (SqL.of hc), by show 1 ≤ sizeLine; decide, fun N hN => short (room0 (by omega)) N hN⟩
    have e1 : ¬ 24 < m := fun q => e (decide_eq_true q)
    have hroom : Rd05.room_ m Rd05.LETTERS = m.toNat := by
      unfold Rd05.room_
      rw [if_pos]
      exact ⟨by omega, by show m ≤ 24; omega⟩
    rw [hroom] at k
    refine ⟨_, rfl, c, _, rfl, .inl (SqL.of hc), by show 1 ≤ sizeLine; decide, fun N hN => ?_⟩
    have s1 : Same H (upd H N (.lst [V.int ((NV L.clause).length : Int)])) := Same.upd hN
    refine ⟨_, rfl, _, rfl, _, rfl, c, _, rfl, SqL.of (s1 _ _ hc), fun M hM => ?_⟩
    rw [cut_most (by omega)]
    have nNM : N ≠ M := ne_of_none upd_same hM
    refine ⟨N, M, _, _, rfl, rfl, (by rw [upd_ne nNM]; exact upd_same), upd_same, ?_, fun F hF => ?_⟩
    · have h1 : (NV (L.clause.take m.toNat)).length ≤ 48 := by rw [NV_length, List.length_take]; omega
      rw [sizeLine_eq]
      show 1 + (NV (L.clause.take m.toNat)).length ≤ _
      omega
    · have s2 := s1.trans (Same.upd (o := .lst (NV (L.clause.take m.toNat))) hM)
      refine k F _ (s2.free hF) ?_ (s2.trans (Same.upd hF))
      rw [upd_same]
      show some (HO.lst (V.int ((NV L.clause).length : Int) :: NV (L.clause.take m.toNat))) = some (HO.lst (V.int ((L.clause.length : Nat) : Int) :: _))
      rw [NV_length]
end
end BlD
set_option Elab.async false
set_option linter.all false
set_option maxRecDepth 100000
set_option maxHeartbeats 4000000
namespace BlD
open PySem L2 BlM
open Rd05 (Abs Line Why)
def spAg (D : Ad) : Sp := fun vs H Q _ => ∃ (p ls ll a : Addr) (S : Abs) (z : Int) (l : List Nat), vs = [.ref p, .int z, .ref a] ∧ PrAt D H p ls ll S ∧ WF S ∧ (∃ xs, H D.told = some (.lst xs)) ∧ H a = some (.lst (NV l)) ∧ l.length ≤ 48 ∧
  ∀ H', PrAt D H' p ls ll (Rd05.does S (.given z l (l.length : Int))).1 → (∀ b o, H b = some o → b ≠ ll → H' b = some o) → Q (.int (Rd05.does S (.given z l (l.length : Int))).2.value) H'
def spAs (D : Ad) : Sp := fun vs H Q _ => ∃ (p ls ll : Addr) (S : Abs) (i j x : Int), vs = [.ref p, .int i, .int j, .int x] ∧ PrAt D H p ls ll S ∧ WF S ∧ (∃ xs, H D.told = some (.lst xs)) ∧
  ∀ H', PrAt D H' p ls ll (Rd05.does S (.step i j x)).1 → (∀ b o, H b = some o → b ≠ ll → H' b = some o) → Q (.int (Rd05.does S (.step i j x)).2.value) H'
theorem ofSide_may (S : Abs) (s : Nat) (l : List Nat) : Rd05.ofSide S s l = l.all (mayV S s) := rfl
section
variable {P : Program} {w : World} {K : PySem.W.Frag} {mg : Str → Option Value} {base : Heap} {D : Ad}
theorem scAg : FnScope ["self", "side", "signs", "sign"] ["self", "side", "signs"] (defScope sAg) := ⟨rfl, rfl, rfl, by decide +kernel, rfl, by decide +kernel, by decide +kernel⟩
theorem blkAg : BlkOk ["self", "side", "signs", "sign"] (defScope sAg) (scp [(".0", .local), ("sign", .local), ("self", .free), ("side", .free)]) [("sign", 3)] := ⟨rfl, by decide +kernel, by decide +kernel, by decide +kernel, by decide +kernel⟩
theorem ok_ag (T : Txt K mg D) : FnOk P w K mg base CX0 3 D.aAg D.dAg ["self", "side", "signs"] (spAg D) := by
  refine T.fAg.ok scAg (fun vs H Q E h => ?_) (fun cdv A outer s H vs Q E hr h => ?_)
  · obtain ⟨p, ls, ll, a, S, z, l, rfl, _⟩ := h
    rfl
  · obtain ⟨p, ls, ll, a, S, z, l, rfl, R, W, ⟨tx, hT⟩, ha, hlen, k⟩ := h
    obtain ⟨⟨dx, hp⟩, hs, ⟨as, hL, _, _⟩, ne⟩ := id R
    refine ⟨_, pss_cons (ps_if (pw_and (pt_cmpR op_ne (pv 1) pe_int (nomark _)) (pw_and1 (pt_cmpR op_ne (pv 1) pe_int (nomark _)))).pt (pss_one (ps_ret (pe_kc rfl T.k_REFUSED))) pss_nil)
      (pss_cons (ps_if (pt_cmpR op_gt (pe_callB call_len_seq (by rfl) T.b_len bt_len (pa_cons (pv 2) pa_nil)) (pe_kc rfl T.k_MOST_GIVEN_SIGNS) (nomark _)) (pss_one (ps_ret (pe_kc rfl T.k_REFUSED))) pss_nil)
      (pss_cons (ps_if (pt_not (pt_val (pe_callB (call_allB rfl) (by rfl) T.b_all bt_all (pa_cons (pe_lc rfl scAg.nd (pi_list (pv 2)) blkAg (fun _ _ _ _ _ => pg_name (i := 3) scAg.nd rfl (Or.inl rfl)) (fun _ _ _ _ _ => pts_nil)
          (fun _ _ _ _ _ => pe_meth (pv 0) T.clP T.mMs (ok_ms T) hr T.bMs .nil pass0 (pa_cons (pv 1) (pa_cons (pv 3) pa_nil)))) pa_nil)))) (pss_one (ps_ret (pe_kc rfl T.k_REFUSED))) pss_nil)
      (pss_cons (ps_if (pt_val (pe_call (ok_has T) (hr.mono (by decide)) rfl T.gHas T.fHas.kp T.bHas .nil pass0 (pa_cons (pv 2) pa_nil))) (pss_one (ps_ret (pe_kc rfl T.k_REFUSED))) pss_nil)
      (pss_one (ps_ret (pe_meth (pv 0) T.clP T.mAn (ok_an T) (hr.mono (by decide)) T.bAn .nil pass0 (pa_cons (pe_make T.mkG (ok_gi T) hr rfl T.mgG T.bGi .nil pass0 (pa_cons (pv 1) (pa_cons (pv 2) pa_nil))) pa_nil))))))), ?_⟩
    have bad : ¬ ((z = 1 ∨ z = 2) ∧ Rd05.below (l.length : Int) 49 = true ∧ l.length = (l.length : Int).toNat ∧ Rd05.ofSide S z.toNat l = true ∧ Rd05.both (Rd05.many S) l = false) → ∀ H', Same H H' → Q (.int (-1)) H' := fun e H' s' => by
      have q := k H'
      have ed : Rd05.does S (.given z l (l.length : Int)) = (S, Rd05.refused) := by
        unfold Rd05.does
        dsimp only
        rw [if_neg e]
      rw [ed] at q
      exact q (R.same s') fun b o e _ => s' b o e
    by_cases hz : z = 1 ∨ z = 2
    rotate_left
    · have e1 : (!decide (V.int z = V.int 1)) = true := by rw [decide_eq_false (fun q => hz (by injection q with q; exact .inl q))]; rfl
      have e2 : (!decide (V.int z = V.int 2)) = true := by rw [decide_eq_false (fun q => hz (by injection q with q; exact .inr q))]; rfl
      refine ⟨_, rfl, rfl, _, rfl, ite2 (fun _ => ⟨_, rfl, rfl, _, rfl, ite2 (fun _ => bad (fun q => hz q.1) H (Same.refl H)) (fun q => absurd e2 q)⟩) (fun q => absurd e1 q)⟩
    obtain ⟨sd, hsd, rfl⟩ : ∃ sd : Nat, (sd = 1 ∨ sd = 2) ∧ z = (sd : Int) := by
      rcases hz with e | e
      · exact ⟨1, .inl rfl, e⟩
      · exact ⟨2, .inr rfl, e⟩
    refine ⟨_, rfl, rfl, _, rfl, ?_⟩
    refine (fun r => ite2 (fun e1 => ⟨_, rfl, rfl, _, rfl, ite2 (fun e2 => ?no) (fun _ => r)⟩) (fun _ => iteF r)) ?_
    case no =>
      exfalso
      rcases hsd with e | e
      · rw [e] at e1; exact absurd e1 (by decide)
      · rw [e] at e2; exact absurd e2 (by decide)
    -- len(signs) > MOST_GIVEN_SIGNS
    refine ⟨_, rfl, a, _, rfl, .inl (SqL.of ha), _, _, rfl, rfl, _, rfl, ?_⟩
    rw [NV_length]
    refine ite2 (fun e => absurd (of_decide_eq_true e) (by omega)) (fun _ => ?_)
    have cb : Rd05.below (l.length : Int) 49 = true := below_iff.mpr ⟨by omega, by show (l.length : Int) < 49; omega⟩
    -- all([...])
    refine ⟨_, rfl, a, rfl, ⟨_, SqL.of ha⟩, fun N hN => ?_⟩
    refine lc_list (K := K) (a := a) (xs := NV l) (fun i H2 => Same H H2 ∧ H2 N = some (.lst (((l.take i).map (mayV S sd)).map V.bl))) ⟨Same.upd hN, upd_same⟩ (fun i H2 _ h => SqL.of (h.1 _ _ ha)) ?_ ?_
    · rintro i x H2 hx ⟨s2, h2⟩
      obtain ⟨y, hy, rfl⟩ := NV_get hx
      have hi : i < l.length := (List.getElem?_eq_some_iff.mp hy).1
      have e1 : l.take (i + 1) = l.take i ++ [y] := by rw [List.take_succ, hy]; rfl
      refine ⟨rfl, _, rfl, p, dx, _, rfl, s2 _ _ hp, pf_no _ _ (by decide +kernel) (by decide +kernel), _, rfl, _, rfl, p, ls, ll, S, sd, y, rfl, R.same s2, fun H3 s3 => ⟨_, s3 _ _ h2, ?_, ?_, ?_⟩⟩
      · rw [List.length_map, List.length_map, List.length_take, sizeLine_eq]; omega
      · exact fun b o e => by rw [upd_ne (ne_of_none e hN)]; exact s3 b o (s2 b o e)
      · rw [upd_same, e1, List.map_append, List.map_append]
        rfl
    rintro H2 ⟨s2, h2⟩
    rw [NV_length, List.take_length] at h2
    refine ⟨N, _, rfl, SqL.of h2, _, rfl, ?_⟩
    rw [List.all_map]
    by_cases eo : Rd05.ofSide S sd l = true
    rotate_left
    · have eo' : (l.all (mayV S sd)) = false := by rw [Bool.not_eq_true] at eo; exact eo
      show if (!(l.all (mayV S sd))) = true then _ else _
      rw [eo']
      exact bad (fun q => eo q.2.2.2.1) H2 s2
    have eo' : (l.all (mayV S sd)) = true := eo
    show if (!(l.all (mayV S sd))) = true then _ else _
    rw [eo']
    -- has_both_signs(signs)
    have hlt : ∀ y ∈ l, y < 2 * S.sides.length := fun y hy => by
      have q := List.all_eq_true.mp eo' y hy
      unfold mayV at q
      rw [Bool.and_eq_true] at q
      exact of_decide_eq_true q.1
    have hnl := W.nl
    have hlt48 : ∀ y ∈ l, y < 48 := fun y hy => by have := hlt y hy; omega
    refine ⟨_, rfl, a, l, rfl, SqL.of (s2 _ _ ha), by omega, fun H3 s3 => ⟨_, rfl, ?_⟩⟩
    have s13 : Same H H3 := s2.trans s3
    have eb : Rd05.both (Rd05.many S) l = l.any fun x => l.contains (othr x) := both_flip hlt
    refine ite2 (fun e => ?_) (fun e => ?_)
    · exact bad (fun q => by have q5 := q.2.2.2.2; rw [eb, e] at q5; cases q5) H3 s13
    rw [Bool.not_eq_true] at e
    have cond : (((sd : Int) = 1 ∨ (sd : Int) = 2) ∧ Rd05.below (l.length : Int) 49 = true ∧ l.length = (l.length : Int).toNat ∧ Rd05.ofSide S (sd : Int).toNat l = true ∧ Rd05.both (Rd05.many S) l = false) :=
      ⟨by omega, cb, by omega, eo, by rw [eb]; exact e⟩
    -- self.add_line(Given(side, signs))
    refine ⟨_, rfl, p, dx, _, rfl, s13 _ _ hp, pf_no _ _ (by decide +kernel) (by decide +kernel), _, rfl, _, rfl, ?_⟩
    intro x dy nx ny nxy
    refine ⟨x, dy, a, sd, l, rfl, upd_same, ?_, ne_of_none (s13 _ _ ha) nx, hlt48, by omega, fun c H' hc hx hcl keep => ⟨rfl, ?_⟩⟩
    · refine SqL.of ?_
      rw [upd_ne (ne_of_none (s13 _ _ ha) nx), upd_ne (ne_of_none (s13 _ _ ha) ny)]
      exact s13 _ _ ha
    have s4 : Same H3 H' := Same.made nx ny keep
    have s14 : Same H H' := s13.trans s4
    have old : ∀ {b : Addr} {o : HO}, H b = some o → b ≠ c := fun {b o} e q => by
      rw [← q, upd_ne (ne_of_none (s13 _ _ e) nx), upd_ne (ne_of_none (s13 _ _ e) ny), s13 _ _ e] at hc
      cases hc
    refine ⟨p, ls, ll, x, c, S, ⟨.given sd, Rd05.canon 24 l⟩, rfl, R.same s14, W, ⟨⟨dy, hx⟩, hcl⟩, (old hs).symm, (old hL).symm, (old hT).symm, fun e => ?_, fun e H5 R5 k5 => ?_⟩
    · have q := k H'
      have ed : Rd05.does S (.given (sd : Int) l (l.length : Int)) = (S, { value := -2 }) := by
        unfold Rd05.does
        dsimp only
        rw [if_pos cond, if_pos (show Rd05.LINES ≤ S.lines.length from e)]
      rw [ed] at q
      exact q (R.same s14) fun b o e _ => s14 b o e
    · have q := k H5
      have ed : Rd05.does S (.given (sd : Int) l (l.length : Int)) = ({ S with lines := S.lines ++ [⟨.given sd, Rd05.canon 24 l⟩] }, { value := (S.lines.length : Nat) }) := by
        unfold Rd05.does
        dsimp only
        rw [if_pos cond, if_neg (show ¬ Rd05.LINES ≤ S.lines.length by show ¬ 256 ≤ _; omega)]
        rfl
      rw [ed] at q
      exact q R5 fun b o e n => k5 b o (s14 b o e) n
end
end BlD
set_option Elab.async false
set_option linter.all false
set_option maxRecDepth 100000
set_option maxHeartbeats 4000000
namespace BlD
open PySem L2 BlM
open Rd05 (Abs Line Why)
section
variable {P : Program} {w : World} {K : PySem.W.Frag} {mg : Str → Option Value} {base : Heap} {D : Ad}
theorem scAs : FnScope ["self", "i", "j", "x", "signs"] ["self", "i", "j", "x"] (defScope sAs) := ⟨rfl, rfl, rfl, by decide +kernel, rfl, by decide +kernel, by decide +kernel⟩
theorem ok_as (T : Txt K mg D) : FnOk P w K mg base CX0 3 D.aAs D.dAs ["self", "i", "j", "x"] (spAs D) := by
  refine T.fAs.ok scAs (fun vs H Q E h => ?_) (fun cdv A outer s H vs Q E hr h => ?_)
  · obtain ⟨p, ls, ll, S, i, j, x, rfl, _⟩ := h
    rfl
  · obtain ⟨p, ls, ll, S, i, j, x, rfl, R, W, ⟨tx, hT⟩, k⟩ := h
    obtain ⟨⟨dx, hp⟩, hs, _, ne⟩ := id R
    obtain ⟨as, hL, hlen, hat⟩ := R.line
    have hr1 : Room 1 _ := hr.mono (by decide)
    refine ⟨_, pss_cons (ps_if (pt_not (pt_val (pe_meth (pv 0) T.clP T.mIs (ok_is T) hr T.bIs .nil pass0 (pa_cons (pv 1) (pa_cons (pv 2) (pa_cons (pv 3) pa_nil)))))) (pss_one (ps_ret (pe_kc rfl T.k_REFUSED))) pss_nil)
      (pss_cons (ps_set (i := 4) scAs.nd rfl (Or.inl rfl) (pe_op op_cat
        (pe_call (ok_wo T) hr1 rfl T.gWo T.fWo.kp T.bWo .nil pass0 (pa_cons (pe_fld (pe_ix ix_list (pe_fld (pv 0) rfl) (pv 1) (fun _ _ => rfl)) rfl) (pa_cons (pe_op op_mul pe_int (pv 3)) pa_nil)))
        (pe_call (ok_wo T) hr1 rfl T.gWo T.fWo.kp T.bWo .nil pass0 (pa_cons (pe_fld (pe_ix ix_list (pe_fld (pv 0) rfl) (pv 2) (fun _ _ => rfl)) rfl) (pa_cons (pe_op op_add (pe_op op_mul pe_int (pv 3)) pe_int) pa_nil)))))
      (pss_cons (ps_if (pt_val (pe_call (ok_has T) hr1 rfl T.gHas T.fHas.kp T.bHas .nil pass0 (pa_cons (pv 4) pa_nil))) (pss_one (ps_ret (pe_kc rfl T.k_CLASH))) pss_nil)
      (pss_one (ps_ret (pe_meth (pv 0) T.clP T.mAn (ok_an T) hr1 T.bAn .nil pass0 (pa_cons (pe_make T.mkS (ok_si T) hr rfl T.mgS T.bSi .nil pass0 (pa_cons (pv 1) (pa_cons (pv 2) (pa_cons (pv 3) (pa_cons (pv 4) pa_nil))))) pa_nil)))))), ?_⟩
    refine ⟨_, rfl, p, dx, _, rfl, hp, pf_no _ _ (by decide +kernel) (by decide +kernel), _, rfl, _, rfl, _, rfl, p, ls, ll, S, i, j, x, rfl, R, W, _, rfl, ?_⟩
    by_cases eV : isV S i j x = true
    rotate_left
    · have nc : ¬ ((Rd05.below i S.lines.length && (Rd05.below j S.lines.length && Rd05.below x (Rd05.many S))) = true ∧ (Rd05.lineAt S.lines i.toNat).contains (2 * x.toNat) = true ∧ (Rd05.lineAt S.lines j.toNat).contains (2 * x.toNat + 1) = true) := fun q => eV (by
        exact Bool.and_eq_true_iff.mpr ⟨q.1, Bool.and_eq_true_iff.mpr q.2⟩)
      have q := k H
      have ed : Rd05.does S (.step i j x) = (S, Rd05.refused) := by
        unfold Rd05.does
        dsimp only
        rw [if_neg nc]
      rw [ed] at q
      rw [Bool.not_eq_true] at eV
      rw [eV]
      exact q R fun b o e _ => e
    have cond : (Rd05.below i S.lines.length && (Rd05.below j S.lines.length && Rd05.below x (Rd05.many S))) = true ∧ (Rd05.lineAt S.lines i.toNat).contains (2 * x.toNat) = true ∧ (Rd05.lineAt S.lines j.toNat).contains (2 * x.toNat + 1) = true := by
      have q := Bool.and_eq_true_iff.mp eV
      exact ⟨q.1, Bool.and_eq_true_iff.mp q.2⟩
    rw [eV]
    have hbl := cond.1
    rw [Bool.and_eq_true, Bool.and_eq_true] at hbl
    have hi := below_iff.mp hbl.1
    have hj := below_iff.mp hbl.2.1
    have hx := below_iff.mp hbl.2.2
    have hx' : x < (S.sides.length : Int) := hx.2
    have hnl := W.nl
    obtain ⟨ni, rfl⟩ : ∃ n : Nat, i = (n : Int) := ⟨i.toNat, by omega⟩
    obtain ⟨nj, rfl⟩ : ∃ n : Nat, j = (n : Int) := ⟨j.toNat, by omega⟩
    obtain ⟨nx, rfl⟩ : ∃ n : Nat, x = (n : Int) := ⟨x.toNat, by omega⟩
    rw [Int.toNat_natCast, Int.toNat_natCast, Int.toNat_natCast] at cond
    obtain ⟨ai, ci, Li, hai, hLi, ⟨⟨di, hoi⟩, hci⟩, eli⟩ := hat ni (by omega)
    obtain ⟨aj, cj, Lj, haj, hLj, ⟨⟨dj, hoj⟩, hcj⟩, elj⟩ := hat nj (by omega)
    have hli := (W.ln _ _ hLi).len
    have hlj := (W.ln _ _ hLj).len
    have ltI := (W.ln _ _ hLi).cl
    have ltJ := (W.ln _ _ hLj).cl
    have ex2 : 2 * (nx : Int) = ((2 * nx : Nat) : Int) := by omega
    have ex3 : 2 * (nx : Int) + 1 = ((2 * nx + 1 : Nat) : Int) := by omega
    -- signs = without(..) + without(..)
    refine ⟨_, rfl, p, D.cP, dx, _, _, rfl, hp, T.clP, T.nP_lines, pf_lines _ _, _, rfl, ll, _, _, _, rfl, rfl, SqL.of hL, ref_at hai rfl, ai, _, di, _, _, rfl, hoi, clL T _, nL T _, lf_signs _ _, _, rfl, _, _, rfl, rfl, .inl ⟨by decide, by decide⟩, ?_⟩
    refine ⟨ci, Li.clause, 2 * nx, (by rw [← ex2]; rfl), SqL.of hci, by omega, fun N1 H1 hN1 h1 s1 => ?_⟩
    refine ⟨_, rfl, p, D.cP, dx, _, _, rfl, s1 _ _ hp, T.clP, T.nP_lines, pf_lines _ _, _, rfl, ll, _, _, _, rfl, rfl, SqL.of (s1 _ _ hL), ref_at haj rfl, aj, _, dj, _, _, rfl, s1 _ _ hoj, clL T _, nL T _, lf_signs _ _, _, rfl, _, _, rfl, rfl, .inl ⟨by decide, by decide⟩, _, _, rfl, rfl, ?_⟩
    refine ⟨cj, Lj.clause, 2 * nx + 1, (by rw [← ex3]; rfl), SqL.of (s1 _ _ hcj), by omega, fun N2 H2 hN2 h2 s2 => ?_⟩
    have jl := rawJoin_len (x := nx) hli hlj
    have ej : NV (Li.clause.filter fun y => y != 2 * nx) ++ NV (Lj.clause.filter fun y => y != 2 * nx + 1) = NV (rawJoin Li.clause Lj.clause nx) := by
      unfold NV rawJoin
      rw [ints_append, List.map_append]
    refine ⟨N1, N2, _, _, rfl, rfl, s2 _ _ h1, h2, ?_, fun N3 hN3 => ?_⟩
    · have e := congrArg List.length ej
      rw [List.length_append, NV_length (rawJoin _ _ _)] at e
      rw [sizeLine_eq]
      omega
    rw [ej]
    have s12 : Same H H2 := s1.trans s2
    have s3 : Same H (upd H2 N3 (.lst (NV (rawJoin Li.clause Lj.clause nx)))) := s12.trans (Same.upd hN3)
    -- has_both_signs(signs)
    refine ⟨_, rfl, N3, _, rfl, SqL.of upd_same, by omega, fun H4 s4 => ⟨_, rfl, ?_⟩⟩
    have s14 : Same H H4 := s3.trans s4
    have hN : H4 N3 = some (.lst (NV (rawJoin Li.clause Lj.clause nx))) := s4 _ _ upd_same
    have eb : Rd05.both Rd05.LETTERS (Rd05.joined Rd05.LETTERS (Rd05.lineAt S.lines ni) (Rd05.lineAt S.lines nj) nx) = (rawJoin Li.clause Lj.clause nx).any fun y => (rawJoin Li.clause Lj.clause nx).contains (othr y) := by
      rw [eli, elj]
      exact both_joined ltI ltJ
    refine ite2 (fun e => ?_) (fun e => ?_)
    · have q := k H4
      have ed : Rd05.does S (.step (ni : Int) (nj : Int) (nx : Int)) = (S, { value := -3 }) := by
        unfold Rd05.does
        dsimp only
        rw [Int.toNat_natCast, Int.toNat_natCast, Int.toNat_natCast, if_pos cond, if_pos (by rw [eb]; exact e)]
      rw [ed] at q
      exact q (R.same s14) fun b o e _ => s14 b o e
    -- self.add_line(Step(i, j, x, signs))
    refine ⟨_, rfl, p, dx, _, rfl, s14 _ _ hp, pf_no _ _ (by decide +kernel) (by decide +kernel), _, rfl, _, rfl, _, rfl, _, rfl, ?_⟩
    intro o dy no ny noy
    refine ⟨o, dy, N3, ni, nj, nx, rawJoin Li.clause Lj.clause nx, rfl, upd_same, ?_, ne_of_none hN no, rawJoin_lt ltI ltJ, by omega, fun c H' hc ho hcl keep => ⟨rfl, ?_⟩⟩
    · refine SqL.of ?_
      rw [upd_ne (ne_of_none hN no), upd_ne (ne_of_none hN ny)]
      exact hN
    have s5 : Same H4 H' := Same.made no ny keep
    have s15 : Same H H' := s14.trans s5
    have old : ∀ {b : Addr} {u : HO}, H b = some u → b ≠ c := fun {b u} e q => by
      rw [← q, upd_ne (ne_of_none (s14 _ _ e) no), upd_ne (ne_of_none (s14 _ _ e) ny), s14 _ _ e] at hc
      cases hc
    have ec : Rd05.joined Rd05.LETTERS (Rd05.lineAt S.lines ni) (Rd05.lineAt S.lines nj) nx = Rd05.canon 24 (rawJoin Li.clause Lj.clause nx) := by rw [eli, elj]; rfl
    refine ⟨p, ls, ll, o, c, S, ⟨.step ni nj nx, Rd05.canon 24 (rawJoin Li.clause Lj.clause nx)⟩, rfl, R.same s15, W, ⟨⟨dy, ho⟩, hcl⟩, (old hs).symm, (old hL).symm, (old hT).symm, fun e6 => ?_, fun e6 H5 R5 k5 => ?_⟩
    · have q := k H'
      have ed : Rd05.does S (.step (ni : Int) (nj : Int) (nx : Int)) = (S, { value := -2 }) := by
        unfold Rd05.does
        dsimp only
        rw [Int.toNat_natCast, Int.toNat_natCast, Int.toNat_natCast, if_pos cond, if_neg (by rw [eb]; exact e), if_pos (show Rd05.LINES ≤ S.lines.length from e6)]
      rw [ed] at q
      exact q (R.same s15) fun b o e _ => s15 b o e
    · have q := k H5
      have ed : Rd05.does S (.step (ni : Int) (nj : Int) (nx : Int)) = ({ S with lines := S.lines ++ [⟨.step ni nj nx, Rd05.canon 24 (rawJoin Li.clause Lj.clause nx)⟩] }, { value := (S.lines.length : Nat) }) := by
        unfold Rd05.does
        dsimp only
        rw [Int.toNat_natCast, Int.toNat_natCast, Int.toNat_natCast, if_pos cond, if_neg (by rw [eb]; exact e), if_neg (show ¬ Rd05.LINES ≤ S.lines.length by show ¬ 256 ≤ _; omega), ec]
      rw [ed] at q
      exact q R5 fun b o e n => k5 b o (s15 b o e) n
end
end BlD
set_option Elab.async false
set_option linter.all false
set_option maxRecDepth 100000
set_option maxHeartbeats 4000000
namespace BlD
open PySem L2 BlM
open Rd05 (Abs Line Why)
def isStep : Why → Bool
  | .given _ => false
  | .step _ _ _ => true
def spWg (D : Ad) : Sp := fun vs H Q _ => ∃ (p ls ll : Addr) (S : Abs) (v : Int), vs = [.ref p, .int v] ∧ PrAt D H p ls ll S ∧ WF S ∧ Q (.int (Rd05.does S (.wrong v)).2.value) H
def spBb (D : Ad) : Sp := fun vs H Q _ => ∃ (p ls ll a c bl : Addr) (S : Abs) (L : Line) (k v : Nat) (bs : List Nat), vs = [.ref p, .ref a, .ref bl, .int (v : Int)] ∧ PrAt D H p ls ll S ∧ WF S ∧ LineAt D H a c L ∧ S.lines[k]? = some L ∧ H bl = some (.lst (NV bs)) ∧
  (∀ n, n < k → bs[n]? = some (B S.sides S.lines (fun x => v.testBit x) n)) ∧ Q (.int ((B S.sides S.lines (fun x => v.testBit x) k : Nat) : Int)) H
def spBs (D : Ad) : Sp := fun vs H Q _ => ∃ (p ls ll : Addr) (S : Abs) (v : Int), vs = [.ref p, .int v] ∧ PrAt D H p ls ll S ∧ WF S ∧ ∀ H', Same H H' → Q (.int (Rd05.does S (.blame v)).2.value) H'
section
variable {P : Program} {w : World} {K : PySem.W.Frag} {mg : Str → Option Value} {base : Heap} {D : Ad}
theorem tyL (T : Txt K mg D) {H : Hp} {a dx : Addr} {fs : List (Str × V)} {y : Why} (h : H a = some (.ins (lcls D y) dx fs)) : TyOf K H (.ref a) (.ref (lcls D y)) := by
  cases y with
  | given s => exact .ins h T.clG T.cfG.ha T.cfG.hn T.cfG.htk T.cfG.hm
  | step i j x => exact .ins h T.clS T.cfS.ha T.cfS.hn T.cfS.htk T.cfS.hm
theorem kitS (T : Txt K mg D) (y : Why) : PySem.W.kitOne K (.ref (lcls D y)) (.ref D.cS) = some (isStep y) := by
  cases y with
  | given s => exact T.kiGS
  | step i j x => exact T.kiSS
theorem kitG (T : Txt K mg D) (y : Why) : PySem.W.kitOne K (.ref (lcls D y)) (.ref D.cG) = some (!isStep y) := by
  cases y with
  | given s => exact T.kiGG
  | step i j x => exact T.kiSG
theorem scWg : FnScope ["self", "v", "k"] ["self", "v"] (defScope sWg) := ⟨rfl, rfl, rfl, by decide +kernel, rfl, by decide +kernel, by decide +kernel⟩
theorem ok_wg (T : Txt K mg D) : FnOk P w K mg base CX0 3 D.aWg D.dWg ["self", "v"] (spWg D) := by
  refine T.fWg.ok scWg (fun vs H Q E h => ?_) (fun cdv A outer s H vs Q E hr h => ?_)
  · obtain ⟨p, ls, ll, S, v, rfl, _⟩ := h
    rfl
  · obtain ⟨p, ls, ll, S, v, rfl, R, W, k⟩ := h
    obtain ⟨⟨dx, hp⟩, hs, _, ne⟩ := id R
    obtain ⟨as, hL, hlen, hat⟩ := R.line
    have hr1 : Room 1 _ := hr.mono (by decide)
    refine ⟨_, pss_cons (ps_if (pt_not (pt_val (pe_meth (pv 0) T.clP T.mCt (ok_ct T) hr T.bCt .nil pass0 (pa_cons (pv 1) pa_nil)))) (pss_one (ps_ret (pe_kc rfl T.k_REFUSED))) pss_nil)
      (pss_cons (ps_set (i := 2) scWg.nd rfl (Or.inl rfl) (pe_meth0 (pv 0) T.clP T.mFe (ok_fe T) hr1 T.bFe .nil pass0))
      (pss_cons (ps_while PassesOwn.never (pt_val (pe_callB call_isi (by rfl) T.b_isinstance bt_isi (pa_cons (pe_ix ix_list (pe_fld (pv 0) rfl) (pv 2) (fun _ _ => rfl)) (pa_cons (pe_glob (v := .ref D.cS) rfl T.mgS rfl) pa_nil))))
        (pss_one (ps_set (i := 2) scWg.nd rfl (Or.inl rfl) (pe_meth (pe_ix ix_list (pe_fld (pv 0) rfl) (pv 2) (fun _ _ => rfl)) T.clS T.mNx (ok_nx T) hr T.bNx .nil pass0 (pa_cons (pv 1) pa_nil)))))
      (pss_one (ps_ret (pv 2))))), ?_⟩
    refine ⟨_, rfl, p, dx, _, rfl, hp, pf_no _ _ (by decide +kernel) (by decide +kernel), _, rfl, p, ls, ll, S, v, rfl, R, W, _, rfl, ?_⟩
    by_cases ec : ctV S v = true
    rotate_left
    · have ed : Rd05.does S (.wrong v) = (S, Rd05.refused) := by
        unfold Rd05.does
        dsimp only
        cases e : Rd05.empty S.lines with
        | none => rfl
        | some n =>
          dsimp only
          rw [if_neg (fun q => ec (by unfold ctV; rw [e, q]; rfl))]
      rw [ed] at k
      rw [Bool.not_eq_true] at ec
      rw [ec]
      exact k
    rw [ec]
    obtain ⟨e, he, hb⟩ : ∃ e, Rd05.empty S.lines = some e ∧ Rd05.below v (2 ^ Rd05.LETTERS) = true := by
      unfold ctV at ec
      rw [Bool.and_eq_true] at ec
      obtain ⟨e, he⟩ := Option.isSome_iff_exists.mp ec.1
      exact ⟨e, he, ec.2⟩
    have ed : Rd05.does S (.wrong v) = (S, { value := (Rd05.culprit S.lines (Rd05.bits v) S.lines.length e : Nat) }) := by
      unfold Rd05.does
      dsimp only
      rw [he]
      dsimp only
      rw [if_pos hb]
    rw [ed] at k
    have hel := empty_lt he
    have hv := (below_iff.mp hb).1
    obtain ⟨nv, rfl⟩ : ∃ n : Nat, v = (n : Int) := ⟨v.toNat, by omega⟩
    have hbits : Rd05.bits (nv : Int) = fun x => nv.testBit x := by unfold Rd05.bits; rw [Int.toNat_natCast]
    -- k = self.first_empty()
    refine ⟨_, rfl, p, dx, _, rfl, hp, pf_no _ _ (by decide +kernel) (by decide +kernel), p, ls, ll, S, rfl, R, W, ?_⟩
    rw [feV_some he]
    -- while isinstance(self.lines[k], Step)
    refine ⟨fun m σ H2 => ∃ (n f : Nat), σ = [some (.ref p), some (.int (nv : Int)), some (.int (n : Int))] ∧ H2 = H ∧ n < S.lines.length ∧ n < f ∧ Rd05.culprit S.lines (Rd05.bits (nv : Int)) f n = Rd05.culprit S.lines (Rd05.bits (nv : Int)) S.lines.length e ∧ m = n,
      ⟨e, e, S.lines.length, rfl, rfl, hel, hel, rfl, rfl⟩, ?_⟩
    rintro m σ H2 ⟨n, f, rfl, rfl, hn, hf, hc, rfl⟩
    obtain ⟨a, c, L, ha, hLn, ⟨⟨da, ho⟩, hcl⟩, el⟩ := hat m hn
    refine ⟨_, rfl, p, D.cP, dx, _, _, rfl, hp, T.clP, T.nP_lines, pf_lines _ _, _, rfl, ll, _, _, _, rfl, rfl, SqL.of hL, ref_at ha rfl, .ref a, D.cS, _, _, rfl, tyL T ho, kitS T _, _, rfl, ?_⟩
    have wy := (W.ln _ _ hLn).why
    cases ey : L.why with
    | given sd =>
      refine ⟨_, rfl, ?_⟩
      rw [← hc, culprit_given hLn ey hf] at k
      exact k
    | step i j x =>
      rw [ey] at wy ho
      obtain ⟨hi, hj, hx⟩ := wy
      have hnx : (if nv.testBit x = true then j else i) < m := by split <;> assumption
      refine ⟨fun σ' H' => ∃ (n f : Nat), σ' = [some (.ref p), some (.int (nv : Int)), some (.int (n : Int))] ∧ H' = H2 ∧ n < S.lines.length ∧ n < f ∧ Rd05.culprit S.lines (Rd05.bits (nv : Int)) f n = Rd05.culprit S.lines (Rd05.bits (nv : Int)) S.lines.length e ∧ n < m,
        fun σ' H' ⟨n, f, e1, e2, h1, h2, h3, h4⟩ => ⟨n, h4, n, f, e1, e2, h1, h2, h3, rfl⟩, ?_⟩
      refine ⟨_, rfl, p, D.cP, dx, _, _, rfl, hp, T.clP, T.nP_lines, pf_lines _ _, _, rfl, ll, _, _, _, rfl, rfl, SqL.of hL, ref_at ha rfl, a, da, _, rfl, ho, sf_no _ _ _ _ (by decide +kernel) (by decide +kernel) (by decide +kernel) (by decide +kernel), _, rfl, a, da, c, i, j, x, nv, rfl, ho, ?_⟩
      refine ⟨_, f - 1, rfl, rfl, by omega, by omega, ?_, hnx⟩
      rw [culprit_step hLn ey hf, hbits] at hc
      rw [hbits]
      exact hc
theorem scBb : FnScope ["self", "line", "blamed", "v"] ["self", "line", "blamed", "v"] (defScope sBb) := ⟨rfl, rfl, rfl, by decide +kernel, rfl, by decide +kernel, by decide +kernel⟩
theorem ok_bb (T : Txt K mg D) : FnOk P w K mg base CX0 3 D.aBb D.dBb ["self", "line", "blamed", "v"] (spBb D) := by
  refine T.fBb.ok scBb (fun vs H Q E h => ?_) (fun cdv A outer s H vs Q E hr h => ?_)
  · obtain ⟨p, ls, ll, a, c, bl, S, L, k, v, bs, rfl, _⟩ := h
    rfl
  · obtain ⟨p, ls, ll, a, c, bl, S, L, n, v, bs, rfl, R, W, ⟨⟨da, ho⟩, hc⟩, hLn, hB, hbs, k⟩ := h
    obtain ⟨⟨dx, hp⟩, hs, _, ne⟩ := id R
    refine ⟨_, pss_cons (ps_if (pt_val (pe_callB call_isi (by rfl) T.b_isinstance bt_isi (pa_cons (pv 1) (pa_cons (pe_glob (v := .ref D.cG) rfl T.mgG rfl) pa_nil)))) (pss_one (ps_ret (pe_fld (pv 1) rfl))) pss_nil)
      (pss_cons (ps_if (pt_cmpR op_eq (pe_ix ix_list (pe_fld (pv 0) rfl) (pe_fld (pv 1) rfl) (fun _ _ => rfl)) pe_int (nomark _)) (pss_one (ps_ret (pe_ix ix_list (pv 2) (pe_meth (pv 1) T.clS T.mNx (ok_nx T) hr T.bNx .nil pass0 (pa_cons (pv 3) pa_nil)) (fun _ _ => rfl)))) pss_nil)
      (pss_cons (ps_if (pt_cmpR op_eq (pe_ix ix_list (pe_fld (pv 0) rfl) (pe_fld (pv 1) rfl) (fun _ _ => rfl)) pe_int (nomark _))
        (pss_one (ps_ret (pe_callB (call_max2 rfl) (by rfl) T.b_max bt_max (pa_cons (pe_ix ix_list (pv 2) (pe_fld (pv 1) rfl) (fun _ _ => rfl)) (pa_cons (pe_ix ix_list (pv 2) (pe_fld (pv 1) rfl) (fun _ _ => rfl)) pa_nil))))) pss_nil)
      (pss_one (ps_ret (pe_callB (call_min2 rfl) (by rfl) T.b_min bt_min (pa_cons (pe_ix ix_list (pv 2) (pe_fld (pv 1) rfl) (fun _ _ => rfl)) (pa_cons (pe_ix ix_list (pv 2) (pe_fld (pv 1) rfl) (fun _ _ => rfl)) pa_nil))))))), ?_⟩
    refine ⟨_, rfl, .ref a, D.cG, _, _, rfl, tyL T ho, kitG T _, _, rfl, ?_⟩
    have wy := (W.ln _ _ hLn).why
    have hnl := (List.getElem?_eq_some_iff.mp hLn).1
    cases ey : L.why with
    | given sd =>
      rw [ey] at ho
      rw [B_given hLn ey] at k
      exact ⟨_, rfl, a, D.cG, da, _, _, rfl, ho, T.clG, T.nG_side, gf_side _ _, k⟩
    | step i j x =>
      rw [ey] at wy ho
      obtain ⟨hi, hj, hx⟩ := wy
      have hg : S.sides[x]? = some S.sides[x] := List.getElem?_eq_getElem hx
      have egd : S.sides.getD x 0 = S.sides[x] := by rw [List.getD_eq_getElem?_getD, hg]; rfl
      have hs2 := W.sd _ (List.getElem_mem hx)
      rw [B_step W hLn ey, egd] at k
      have bi := B_range W (v := fun x => v.testBit x) (i + 1) i (Nat.lt_succ_self _) (by omega)
      have bj := B_range W (v := fun x => v.testBit x) (j + 1) j (Nat.lt_succ_self _) (by omega)
      have atN : ∀ {m : Nat}, m < n → atI (NV bs) (m : Int) = some (V.int ((B S.sides S.lines (fun x => v.testBit x) m : Nat) : Int)) := fun {m} hm => at_of rfl (NV_at (hbs m hm))
      refine ⟨_, rfl, p, D.cP, dx, _, _, rfl, hp, T.clP, T.nP_sides, pf_sides _ _, _, rfl, a, D.cS, da, _, _, rfl, ho, T.clS, T.nS_x, sf_x _ _ _ _, ls, _, _, _, rfl, rfl, SqL.of hs, at_of rfl (NV_at hg), rfl, _, rfl, ite2 (fun e0 => ?_) (fun e0 => ?_)⟩
      · have e0 : S.sides[x] = 0 := by
          have q := of_decide_eq_true e0
          injection q with q
          omega
        rw [if_neg (by omega), if_neg (by omega)] at k
        refine ⟨_, rfl, _, rfl, a, da, _, rfl, ho, sf_no _ _ _ _ (by decide +kernel) (by decide +kernel) (by decide +kernel) (by decide +kernel), _, rfl, a, da, c, i, j, x, v, rfl, ho, bl, _, _, _, rfl, rfl, SqL.of hB, atN (by split <;> assumption), ?_⟩
        by_cases q : v.testBit x = true
        · rw [if_pos q] at k ⊢
          exact k
        · rw [if_neg q] at k ⊢
          exact k
      have e0 : ¬ S.sides[x] = 0 := fun q => e0 (by rw [q]; rfl)
      refine ⟨_, rfl, p, D.cP, dx, _, _, rfl, hp, T.clP, T.nP_sides, pf_sides _ _, _, rfl, a, D.cS, da, _, _, rfl, ho, T.clS, T.nS_x, sf_x _ _ _ _, ls, _, _, _, rfl, rfl, SqL.of hs, at_of rfl (NV_at hg), rfl, _, rfl, ite2 (fun e1 => ?_) (fun e1 => ?_)⟩
      · have e1 : S.sides[x] = 1 := by
          have q := of_decide_eq_true e1
          injection q with q
          omega
        rw [if_pos e1] at k
        refine ⟨_, rfl, _, rfl, a, D.cS, da, _, _, rfl, ho, T.clS, T.nS_i, sf_i _ _ _ _, bl, _, _, _, rfl, rfl, SqL.of hB, atN hi, _, rfl, _, rfl, a, D.cS, da, _, _, rfl, ho, T.clS, T.nS_j, sf_j _ _ _ _, bl, _, _, _, rfl, rfl, SqL.of hB, atN hj, _, _, rfl, ?_⟩
        rcases bi with ei | ei <;> rcases bj with ej | ej <;> (rw [ei, ej] at k ⊢; exact k)
      · have e1 : ¬ S.sides[x] = 1 := fun q => e1 (by rw [q]; rfl)
        rw [if_neg e1, if_pos (by omega)] at k
        refine ⟨_, rfl, _, rfl, a, D.cS, da, _, _, rfl, ho, T.clS, T.nS_i, sf_i _ _ _ _, bl, _, _, _, rfl, rfl, SqL.of hB, atN hi, _, rfl, _, rfl, a, D.cS, da, _, _, rfl, ho, T.clS, T.nS_j, sf_j _ _ _ _, bl, _, _, _, rfl, rfl, SqL.of hB, atN hj, _, _, rfl, ?_⟩
        rcases bi with ei | ei <;> rcases bj with ej | ej <;> (rw [ei, ej] at k ⊢; exact k)
end
end BlD
set_option Elab.async false
set_option linter.all false
set_option maxRecDepth 100000
set_option maxHeartbeats 4000000
namespace BlD
open PySem L2 BlM
open Rd05 (Abs Line Why)
theorem cut_nat {xs : List V} (n : Nat) : cutV xs none (some (n : Int)) = xs.take n := by
  unfold cutV HT.sIx
  dsimp only
  rw [if_neg (by omega), List.drop_zero, Nat.sub_zero, Int.toNat_natCast]
  by_cases q : n ≤ xs.length
  · rw [Nat.min_eq_left q]
  · rw [Nat.min_eq_right (by omega), List.take_of_length_le (Nat.le_refl _), List.take_of_length_le (by omega)]
theorem SqL.keep {K : PySem.W.Frag} {H H' : Hp} {a r C dx : Addr} {fs : List (Str × V)} {xs : List V} (h : SqL K H a xs) (hr : H r = some (.ins C dx fs)) (k : ∀ b o, H b = some o → b ≠ r → H' b = some o) : SqL K H' a xs := by
  rcases h with (h | ⟨ob, h⟩) | h
  · exact .inl (.inl (k _ _ h (ne_of h hr (by intro z; cases z))))
  · exact .inl (.inr ⟨ob, k _ _ h (ne_of h hr (by intro z; cases z))⟩)
  · exact .inr h
def spRi (D : Ad) : Sp := fun vs H Q _ => ∃ (r dx a : Addr), vs = [.ref r, .ref a] ∧ H r = some (.ins D.cR dx []) ∧ ∀ H', H' r = some (.ins D.cR dx (rf a 0)) → (∀ b o, H b = some o → b ≠ r → H' b = some o) → Q .non H'
def spHm (D : Ad) (K : PySem.W.Frag) : Sp := fun vs H Q _ => ∃ (r a : Addr) (pl : Nat) (ns : List Int), vs = [.ref r] ∧ RdAt D H r a pl ∧ SqL K H a (ns.map V.int) ∧ Q (.bl (decide ((pl : Int) < (ns.length : Int)))) H
def spTk (D : Ad) (K : PySem.W.Frag) : Sp := fun vs H Q _ => ∃ (r a dx : Addr) (pl : Nat) (ns : List Int) (z : Int), vs = [.ref r] ∧ H r = some (.ins D.cR dx (rf a pl)) ∧ SqL K H a (ns.map V.int) ∧ ns[pl]? = some z ∧ Q (.int z) (upd H r (.ins D.cR dx (rf a (pl + 1))))
def spTr (D : Ad) (K : PySem.W.Frag) : Sp := fun vs H Q _ => ∃ (r a dx : Addr) (pl : Nat) (ns row t : List Int), vs = [.ref r] ∧ H r = some (.ins D.cR dx (rf a pl)) ∧ SqL K H a (ns.map V.int) ∧ ns.drop pl = (row.length : Int) :: (row ++ t) ∧ row.length ≤ 1000 ∧
  ∀ E H', H E = none → H' E = some (.lst (row.map V.int)) → H' r = some (.ins D.cR dx (rf a (pl + 1 + row.length))) → (∀ b o, H b = some o → b ≠ r → H' b = some o) → Q (.ref E) H'
theorem drop_at {ns : List Int} {pl : Nat} {z : Int} {t : List Int} (h : ns.drop pl = z :: t) : ns[pl]? = some z ∧ ns.drop (pl + 1) = t := by
  have h1 : (ns.drop pl)[0]? = some z := by rw [h]; rfl
  rw [List.getElem?_drop] at h1
  refine ⟨h1, ?_⟩
  rw [← List.drop_drop, h]
  rfl
section
variable {P : Program} {w : World} {K : PySem.W.Frag} {mg : Str → Option Value} {base : Heap} {D : Ad}
theorem scBs : FnScope ["self", "v", "blamed", "line"] ["self", "v"] (defScope sBs) := ⟨rfl, rfl, rfl, by decide +kernel, rfl, by decide +kernel, by decide +kernel⟩
theorem ok_bs (T : Txt K mg D) : FnOk P w K mg base CX0 4 D.aBs D.dBs ["self", "v"] (spBs D) := by
  refine T.fBs.ok scBs (fun vs H Q E h => ?_) (fun cdv A outer s H vs Q E hr h => ?_)
  · obtain ⟨p, ls, ll, S, v, rfl, _⟩ := h
    rfl
  · obtain ⟨p, ls, ll, S, v, rfl, R, W, k⟩ := h
    obtain ⟨⟨dx, hp⟩, hs, _, ne⟩ := id R
    obtain ⟨as, hL, hlen, hat⟩ := R.line
    have hr1 : Room 1 _ := hr.mono (by decide)
    have hr2 : Room 2 _ := hr.mono (by decide)
    refine ⟨_, pss_cons (ps_if (pt_not (pt_val (pe_meth (pv 0) T.clP T.mCt (ok_ct T) hr2 T.bCt .nil pass0 (pa_cons (pv 1) pa_nil)))) (pss_one (ps_ret (pe_kc rfl T.k_REFUSED))) pss_nil)
      (pss_cons (ps_set (i := 2) scBs.nd rfl (Or.inl rfl) (pe_lst pa_nil))
      (pss_cons (ps_for PassesOwn.never rfl (pi_list (pe_slice sl_list (pe_fld (pv 0) rfl) po_none (po_some (pe_op op_add (pe_meth0 (pv 0) T.clP T.mFe (ok_fe T) hr1 T.bFe .nil pass0) pe_int)))) (pg_name (i := 3) scBs.nd rfl (Or.inl rfl))
        (pss_one (ps_expr (pe_bm PySem.F.plainAttrs_list PySem.F.slot_list_append PySem.F.type_list_append mt_append (pv 2) (pa_cons (pe_meth (pv 0) T.clP T.mBb (ok_bb T) hr T.bBb .nil pass0 (pa_cons (pv 3) (pa_cons (pv 2) (pa_cons (pv 1) pa_nil)))) pa_nil)))))
      (pss_one (ps_ret (pe_ix ix_list (pv 2) (pe_un un_neg pe_int) (fun _ _ => rfl)))))), ?_⟩
    refine ⟨_, rfl, p, dx, _, rfl, hp, pf_no _ _ (by decide +kernel) (by decide +kernel), _, rfl, p, ls, ll, S, v, rfl, R, W, _, rfl, ?_⟩
    by_cases ec : ctV S v = true
    rotate_left
    · have ed : Rd05.does S (.blame v) = (S, Rd05.refused) := by
        unfold Rd05.does
        dsimp only
        cases e : Rd05.empty S.lines with
        | none => rfl
        | some n =>
          dsimp only
          rw [if_neg (fun q => ec (by unfold ctV; rw [e, q]; rfl))]
      have q := k H (Same.refl H)
      rw [ed] at q
      rw [Bool.not_eq_true] at ec
      rw [ec]
      exact q
    rw [ec]
    obtain ⟨e, he, hb⟩ : ∃ e, Rd05.empty S.lines = some e ∧ Rd05.below v (2 ^ Rd05.LETTERS) = true := by
      unfold ctV at ec
      rw [Bool.and_eq_true] at ec
      obtain ⟨e, he⟩ := Option.isSome_iff_exists.mp ec.1
      exact ⟨e, he, ec.2⟩
    have hel := empty_lt he
    have hll := W.ll
    have hv := (below_iff.mp hb).1
    obtain ⟨nv, rfl⟩ : ∃ n : Nat, v = (n : Int) := ⟨v.toNat, by omega⟩
    have hbits : Rd05.bits (nv : Int) = fun x => nv.testBit x := by unfold Rd05.bits; rw [Int.toNat_natCast]
    have ed : Rd05.does S (.blame (nv : Int)) = (S, { value := (B S.sides S.lines (fun x => nv.testBit x) e : Nat) }) := by
      unfold Rd05.does
      dsimp only
      rw [he]
      dsimp only
      rw [if_pos hb, hbits, blamed_B W (by omega)]
    rw [ed] at k
    -- blamed = []
    refine ⟨Nat.zero_le _, fun bl hbl => ?_⟩
    have s1 : Same H (upd H bl (.lst [])) := Same.upd hbl
    -- for line in self.lines[:self.first_empty() + 1]
    refine ⟨_, rfl, p, D.cP, dx, _, _, rfl, s1 _ _ hp, T.clP, T.nP_lines, pf_lines _ _, _, rfl, p, dx, _, rfl, s1 _ _ hp, pf_no _ _ (by decide +kernel) (by decide +kernel), p, ls, ll, S, rfl, R.same s1, W, _, _, rfl, rfl, _, rfl, ll, _, rfl, SqL.of (s1 _ _ hL), fun q hq => ?_⟩
    rw [feV_some he, show (e : Int) + 1 = ((e + 1 : Nat) : Int) from rfl, cut_nat, ← List.map_take]
    have nbq : bl ≠ q := ne_of_none upd_same hq
    refine ⟨q, rfl, ⟨_, SqL.of upd_same⟩, ?_⟩
    refine for_list (K := K) (a := q) (xs := (as.take (e + 1)).map V.ref) (fun i σ H2 => ∃ lv : Option V, σ = [some (.ref p), some (.int (nv : Int)), some (.ref bl), lv] ∧ Same H H2 ∧ H2 q = some (.lst ((as.take (e + 1)).map V.ref)) ∧ H2 bl = some (.lst (NV ((List.range i).map (B S.sides S.lines fun x => nv.testBit x)))))
      ⟨none, rfl, s1.trans (Same.upd hq), upd_same, (by rw [upd_ne nbq]; exact upd_same)⟩ (fun i σ H2 _ ⟨_, _, _, h, _⟩ => SqL.of h) ?_ ?_
    · rintro i y σ H2 hi ⟨lv, rfl, s2, h2q, h2b⟩
      have hil : i < e + 1 := by
        have := (List.getElem?_eq_some_iff.mp hi).1
        rw [List.length_map, List.length_take] at this
        omega
      obtain ⟨a, c, L, ha, hLi, hA, el⟩ := hat i (by omega)
      rw [List.getElem?_map, List.getElem?_take_of_lt hil, ha] at hi
      have hi : V.ref a = y := Option.some.inj hi
      subst hi
      refine ⟨_, rfl, .inl ⟨rfl, _, SqL.of h2b⟩, _, rfl, p, dx, _, rfl, s2 _ _ hp, pf_no _ _ (by decide +kernel) (by decide +kernel), _, rfl, _, rfl, _, rfl, p, ls, ll, a, c, bl, S, L, i, nv, _, rfl, R.same s2, W, hA.same s2, hLi, h2b, fun n hn => ?_, bl, _, _, rfl, rfl, h2b, ?_, ?_⟩
      · rw [List.getElem?_map, List.getElem?_range hn]
        rfl
      · rw [NV_length, List.length_map, List.length_range, sizeLine_eq]
        omega
      · refine ⟨_, rfl, fun b o q => ?_, ?_, ?_⟩
        · rw [upd_ne (ne_of_none q hbl)]
          exact s2 b o q
        · rw [upd_ne nbq.symm]
          exact h2q
        · rw [upd_same, List.range_succ, List.map_append]
          unfold NV
          rw [ints_append, List.map_append]
          rfl
    · rintro σ H2 ⟨lv, rfl, s2, h2q, h2b⟩
      have e1 : ((as.take (e + 1)).map V.ref).length = e + 1 := by
        rw [List.length_map, List.length_take]
        omega
      rw [e1, List.range_succ, List.map_append] at h2b
      have e2 : NV ((List.range e).map (B S.sides S.lines fun x => nv.testBit x) ++ [e].map (B S.sides S.lines fun x => nv.testBit x)) = NV ((List.range e).map (B S.sides S.lines fun x => nv.testBit x)) ++ [V.int ((B S.sides S.lines (fun x => nv.testBit x) e : Nat) : Int)] := by
        unfold NV
        rw [ints_append, List.map_append]
        rfl
      rw [e2] at h2b
      exact ⟨_, rfl, _, rfl, bl, _, _, _, rfl, rfl, SqL.of h2b, atI_last _ _, k H2 s2⟩
theorem scRi : FnScope ["self", "calls"] ["self", "calls"] (defScope sRi) := ⟨rfl, rfl, rfl, by decide +kernel, rfl, by decide +kernel, by decide +kernel⟩
theorem ok_ri (T : Txt K mg D) : FnOk P w K mg base CX0 1 D.aRi D.dRi ["self", "calls"] (spRi D) := by
  refine T.fRi.ok scRi (fun vs H Q E h => ?_) (fun cdv A outer s H vs Q E hr h => ?_)
  · obtain ⟨r, dx, a, rfl, _⟩ := h
    rfl
  · obtain ⟨r, dx, a, rfl, hr', k⟩ := h
    refine ⟨_, pss_cons (ps_fld (pv 0) (pv 1) rfl) (pss_one (ps_fld (pv 0) pe_int rfl)), ?_⟩
    refine ⟨_, rfl, _, rfl, r, D.cR, dx, [], rfl, hr', T.clR, T.nR_calls, (by decide), ?_⟩
    refine ⟨_, rfl, r, D.cR, dx, _, rfl, upd_same, T.clR, T.nR_place, (by show 1 < 1000; decide), ?_⟩
    refine k _ upd_same fun b o e hb => ?_
    rw [upd_ne hb, upd_ne hb]
    exact e
theorem scHm : FnScope ["self"] ["self"] (defScope sHm) := ⟨rfl, rfl, rfl, by decide +kernel, rfl, by decide +kernel, by decide +kernel⟩
theorem ok_hm (T : Txt K mg D) : FnOk P w K mg base CX0 1 D.aHm D.dHm ["self"] (spHm D K) := by
  refine T.fHm.ok scHm (fun vs H Q E h => ?_) (fun cdv A outer s H vs Q E hr h => ?_)
  · obtain ⟨r, a, pl, ns, rfl, _⟩ := h
    rfl
  · obtain ⟨r, a, pl, ns, rfl, ⟨dx, hr'⟩, hS, k⟩ := h
    refine ⟨_, pss_one (ps_ret (pe_cmpR op_lt (pe_fld (pv 0) rfl) (pe_callB call_len_seq (by rfl) T.b_len bt_len (pa_cons (pe_fld (pv 0) rfl) pa_nil)) (nomark _))), ?_⟩
    refine ⟨_, rfl, r, D.cR, dx, _, _, rfl, hr', T.clR, T.nR_place, rf_place _ _, _, rfl, r, D.cR, dx, _, _, rfl, hr', T.clR, T.nR_calls, rf_calls _ _, a, _, rfl, .inl hS, _, _, rfl, rfl, ?_⟩
    rw [List.length_map]
    exact k
theorem scTk : FnScope ["self", "number"] ["self"] (defScope sTk) := ⟨rfl, rfl, rfl, by decide +kernel, rfl, by decide +kernel, by decide +kernel⟩
theorem ok_tk (T : Txt K mg D) : FnOk P w K mg base CX0 1 D.aTk D.dTk ["self"] (spTk D K) := by
  refine T.fTk.ok scTk (fun vs H Q E h => ?_) (fun cdv A outer s H vs Q E hr h => ?_)
  · obtain ⟨r, a, dx, pl, ns, z, rfl, _⟩ := h
    rfl
  · obtain ⟨r, a, dx, pl, ns, z, rfl, hr', hS, hz, k⟩ := h
    refine ⟨_, pss_cons (ps_set (i := 1) scTk.nd rfl (Or.inl rfl) (pe_ix ix_list (pe_fld (pv 0) rfl) (pe_fld (pv 0) rfl) (fun _ _ => rfl))) (pss_cons (ps_fldaug (pv 0) pe_int in_add) (pss_one (ps_ret (pv 1)))), ?_⟩
    refine ⟨_, rfl, r, D.cR, dx, _, _, rfl, hr', T.clR, T.nR_calls, rf_calls _ _, _, rfl, r, D.cR, dx, _, _, rfl, hr', T.clR, T.nR_place, rf_place _ _, a, _, _, _, rfl, rfl, hS, at_of rfl (by rw [List.getElem?_map, hz]; rfl), ?_⟩
    refine ⟨_, rfl, r, D.cR, dx, _, _, rfl, hr', T.clR, T.nR_place, rf_place _ _, _, _, rfl, rfl, dx, _, hr', (by show 2 < 1000; decide), _, rfl, ?_⟩
    have e : putF "place" (V.int ((pl : Int) + 1)) (rf a pl) = rf a (pl + 1) := rf_put a pl
    rw [e]
    exact k
theorem scTr : FnScope ["self", "row", "turn"] ["self"] (defScope sTr) := ⟨rfl, rfl, rfl, by decide +kernel, rfl, by decide +kernel, by decide +kernel⟩
theorem ok_tr (T : Txt K mg D) : FnOk P w K mg base CX0 2 D.aTr D.dTr ["self"] (spTr D K) := by
  refine T.fTr.ok scTr (fun vs H Q E h => ?_) (fun cdv A outer s H vs Q E hr h => ?_)
  · obtain ⟨r, a, dx, pl, ns, row, t, rfl, _⟩ := h
    rfl
  · obtain ⟨r, a, dx, pl, ns, row, t, rfl, hr', hS, hd, hrow, k⟩ := h
    obtain ⟨h0, h1⟩ := drop_at hd
    refine ⟨_, pss_cons (ps_set (i := 1) scTr.nd rfl (Or.inl rfl) (pe_lst pa_nil))
      (pss_cons (ps_for PassesOwn.never rfl (pi_range1 rfl T.b_range (pa_cons (pe_meth0 (pv 0) T.clR T.mTk (ok_tk T) hr T.bTk .nil pass0) pa_nil)) (pg_name (i := 2) scTr.nd rfl (Or.inl rfl))
        (pss_one (ps_expr (pe_bm PySem.F.plainAttrs_list PySem.F.slot_list_append PySem.F.type_list_append mt_append (pv 1) (pa_cons (pe_meth0 (pv 0) T.clR T.mTk (ok_tk T) hr T.bTk .nil pass0) pa_nil)))))
      (pss_one (ps_ret (pv 1)))), ?_⟩
    refine ⟨Nat.zero_le _, fun N hN => ?_⟩
    have nrN : r ≠ N := ne_of_none hr' hN
    have s1 : Same H (upd H N (.lst [])) := Same.upd hN
    refine ⟨_, rfl, r, dx, _, rfl, s1 _ _ hr', rf_no _ _ (by decide +kernel) (by decide +kernel), r, a, dx, pl, ns, _, rfl, s1 _ _ hr', s1.seq hS, h0, _, rfl, (by omega), (by omega), ?_⟩
    refine for_range (lo := 0) (n := row.length) (fun i σ H2 => ∃ v : Option V, σ = [some (.ref r), some (.ref N), v] ∧ H2 r = some (.ins D.cR dx (rf a (pl + 1 + i))) ∧ H2 N = some (.lst ((row.take i).map V.int)) ∧ ∀ b o, H b = some o → b ≠ r → H2 b = some o)
      ⟨none, rfl, upd_same, (by rw [upd_ne nrN.symm]; exact upd_same), fun b o e hb => by rw [upd_ne hb]; exact s1 b o e⟩ ?_ ?_
    · rintro i σ H2 hi ⟨v, rfl, h2r, h2N, keep⟩
      have hri : row[i]? = some row[i] := List.getElem?_eq_getElem hi
      have hni : ns[pl + 1 + i]? = some row[i] := by
        have e := congrArg (fun l => l[i]?) h1
        simp only [List.getElem?_drop] at e
        rw [e, List.getElem?_append_left hi, hri]
      refine ⟨_, rfl, .inl ⟨rfl, _, SqL.of h2N⟩, _, rfl, r, dx, _, rfl, h2r, rf_no _ _ (by decide +kernel) (by decide +kernel), r, a, dx, pl + 1 + i, ns, _, rfl, h2r, SqL.keep hS hr' keep, hni, N, _, _, rfl, rfl, (by rw [upd_ne nrN.symm]; exact h2N), ?_, ?_⟩
      · rw [List.length_map, List.length_take, sizeLine_eq]
        omega
      · refine ⟨_, rfl, ?_, ?_, fun b o e hb => ?_⟩
        · rw [upd_ne nrN]; exact upd_same
        · rw [upd_same, List.take_succ, hri, List.map_append]
          rfl
        · rw [upd_ne (ne_of_none e hN), upd_ne hb]
          exact keep b o e hb
    · rintro σ H2 ⟨v, rfl, h2r, h2N, keep⟩
      rw [List.take_length] at h2N
      exact ⟨_, rfl, k N H2 hN h2N h2r keep⟩
end
end BlD
set_option Elab.async false
set_option linter.all false
set_option maxRecDepth 100000
set_option maxHeartbeats 4000000
namespace BlM
open Rd05
theorem does_wf {S : Abs} (h : WF S) (c : Call) : WF (does S c).1 := by
  cases c with
  | init => exact wf_start
  | letter s =>
    unfold does
    dsimp only
    split
    · exact h
    · split
      · exact h
      · rename_i h1 h2
        have hb : below s 3 = true := by
          cases q : below s 3 with
          | true => rfl
          | false => exact absurd q h1
        have hz := below_iff.mp hb
        refine h.letter (by have : s < 3 := hz.2; omega) ?_
        have h2 : ¬ 24 ≤ S.sides.length := h2
        omega
  | given s l n =>
    unfold does
    dsimp only
    split
    · split
      · exact h
      · rename_i h1 h2
        have h2 : ¬ 256 ≤ S.lines.length := h2
        refine h.line ⟨(canon_ok l).1, (canon_ok l).2, ?_⟩ (by omega)
        show s.toNat = 1 ∨ s.toNat = 2
        have := h1.1
        omega
    · exact h
  | step i j x =>
    unfold does
    dsimp only
    split
    · split
      · exact h
      · split
        · exact h
        · rename_i h1 h2 h3
          have h3 : ¬ 256 ≤ S.lines.length := h3
          have hb := h1.1
          rw [Bool.and_eq_true, Bool.and_eq_true] at hb
          have hi := below_iff.mp hb.1
          have hj := below_iff.mp hb.2.1
          have hx := below_iff.mp hb.2.2
          have hx' : x < (S.sides.length : Int) := hx.2
          refine h.line ⟨(canon_ok _).1, (canon_ok _).2, ?_⟩ (by omega)
          show i.toNat < S.lines.length ∧ j.toNat < S.lines.length ∧ x.toNat < S.sides.length
          omega
    · exact h
  | line k m =>
    unfold does
    dsimp only
    split <;> exact h
  | width => exact h
  | empty =>
    unfold does
    dsimp only
    split <;> exact h
  | wrong v =>
    unfold does
    dsimp only
    split
    · split <;> exact h
    · exact h
  | blame v =>
    unfold does
    dsimp only
    split
    · split <;> exact h
    · exact h
/-- a call that answers a number alone -/
def plainC : Call → Bool
  | .line _ _ => false
  | _ => true
theorem said_one (S : Abs) (c : Call) (hc : plainC c = true) : said (does S c).2 = [(does S c).2.value] := by
  have key : ∀ y : Ans, y.numbers = [] → said y = [y.value] := fun y hy => by unfold said; rw [hy]; rfl
  refine key _ ?_
  cases c with
  | init => rfl
  | letter s =>
    unfold does
    dsimp only
    split
    · rfl
    · split <;> rfl
  | given s l n =>
    unfold does
    dsimp only
    split
    · split <;> rfl
    · rfl
  | step i j x =>
    unfold does
    dsimp only
    split
    · split
      · rfl
      · split <;> rfl
    · rfl
  | line k m => cases hc
  | width => rfl
  | empty =>
    unfold does
    dsimp only
    split <;> rfl
  | wrong v =>
    unfold does
    dsimp only
    split
    · split <;> rfl
    · rfl
  | blame v =>
    unfold does
    dsimp only
    split
    · split <;> rfl
    · rfl
theorem does_same (S : Abs) (c : Call) (hc : match c with | .line _ _ => True | .width => True | .empty => True | .wrong _ => True | .blame _ => True | _ => False) : (does S c).1 = S := by
  cases c with
  | init => exact hc.elim
  | letter s => exact hc.elim
  | given s l n => exact hc.elim
  | step i j x => exact hc.elim
  | line k m =>
    unfold does
    dsimp only
    split <;> rfl
  | width => rfl
  | empty =>
    unfold does
    dsimp only
    split <;> rfl
  | wrong v =>
    unfold does
    dsimp only
    split
    · split <;> rfl
    · rfl
  | blame v =>
    unfold does
    dsimp only
    split
    · split <;> rfl
    · rfl
end BlM
namespace BlD
open PySem L2 BlM
open Rd05 (Abs Line Why)
/-- what was tracked is tracked -/
def Grows (H H' : Hp) : Prop := ∀ b o, H b = some o → ∃ o', H' b = some o'
theorem Grows.free {H H' : Hp} (g : Grows H H') {E : Addr} (h : H' E = none) : H E = none := by
  cases e : H E with
  | none => rfl
  | some o =>
    obtain ⟨o', q⟩ := g E o e
    rw [h] at q
    cases q
theorem Grows.trans {H H1 H2 : Hp} (a : Grows H H1) (b : Grows H1 H2) : Grows H H2 := fun c o e => by
  obtain ⟨o', q⟩ := a c o e
  exact b c o' q
theorem Grows.of {H H' : Hp} (s : Same H H') : Grows H H' := fun b o e => ⟨o, s b o e⟩
theorem Grows.but {H H' : Hp} {r : Addr} {u : HO} (hr : H' r = some u) (k : ∀ b o, H b = some o → b ≠ r → H' b = some o) : Grows H H' := fun b o e => by
  by_cases q : b = r
  · exact ⟨u, by rw [q]; exact hr⟩
  · exact ⟨o, k b o e q⟩
theorem pf_ne_rf {ls ll a : Addr} {pl : Nat} : pf ls ll ≠ rf a pl := by
  intro z
  unfold pf rf at z
  injection z with z _
  injection z with z _
  exact absurd z (by decide +kernel)
theorem lf_ne_rf {c a : Addr} {pl : Nat} {y : Why} : lf c y ≠ rf a pl := by
  cases y with
  | given s =>
    intro z
    unfold lf gf rf at z
    injection z with z _
    injection z with z _
    exact absurd z (by decide +kernel)
  | step i j x =>
    intro z
    unfold lf sf rf at z
    injection z with z _
    injection z with z _
    exact absurd z (by decide +kernel)
theorem ins_ne {H : Hp} {a b C C' dx dy : Addr} {fs gs : List (Str × V)} (h : H a = some (.ins C dx fs)) (g : H b = some (.ins C' dy gs)) (n : fs ≠ gs) : a ≠ b := ne_of h g (by intro z; injection z with _ _ z; exact n z)
/-- the proof stays where the reader alone turns -/
theorem PrAt.off {D : Ad} {H H' : Hp} {p ls ll r a C dr : Addr} {pl : Nat} {S : Abs} (R : PrAt D H p ls ll S) (hr : H r = some (.ins C dr (rf a pl))) (k : ∀ b o, H b = some o → b ≠ r → H' b = some o) : PrAt D H' p ls ll S := by
  obtain ⟨⟨dx, hp⟩, hs, ⟨as, hL, hlen, hat⟩, ne⟩ := R
  have nl : ∀ {b : Addr} {xs : List V}, H b = some (.lst xs) → b ≠ r := fun h => (ins_ne_lst hr h).symm
  refine ⟨⟨dx, k _ _ hp (ins_ne hp hr pf_ne_rf)⟩, k _ _ hs (nl hs), ⟨as, k _ _ hL (nl hL), hlen, fun n b L h1 h2 => ?_⟩, ne⟩
  obtain ⟨c, ⟨⟨db, hb⟩, hc⟩, h3⟩ := hat n b L h1 h2
  exact ⟨c, ⟨⟨db, k _ _ hb (ins_ne hb hr lf_ne_rf)⟩, k _ _ hc (nl hc)⟩, h3⟩
/-- what a call's answering leaves -/
def After (D : Ad) (H : Hp) (p r a ls ll : Addr) (S' : Abs) (ans : List Int) (pl' : Nat) (Q : VK) : Prop :=
  ∀ (E : Addr) (H' : Hp) (ls' ll' : Addr), H E = none → H' E = some (.lst (ans.map V.int)) → PrAt D H' p ls' ll' S' → RdAt D H' r a pl' → (ls' = ls ∨ H ls' = none) → (ll' = ll ∨ H ll' = none) →
    (∀ b o, H b = some o → b ≠ p → b ≠ ls → b ≠ ll → b ≠ r → H' b = some o) → Q (.ref E) H'
/-- the answer's list is made last, the proof's lists are the same ones -/
theorem After.one {D : Ad} {H H1 : Hp} {p r a ls ll E dr : Addr} {S' : Abs} {ans : List Int} {pl' : Nat} {Q : VK} (A : After D H p r a ls ll S' ans pl' Q) (hE : H1 E = none) (R : PrAt D H1 p ls ll S') (hr : H1 r = some (.ins D.cR dr (rf a pl')))
    (k : ∀ b o, H b = some o → b ≠ ls → b ≠ ll → b ≠ r → H1 b = some o) : Q (.ref E) (upd H1 E (.lst (ans.map V.int))) := by
  have s : Same H1 (upd H1 E (.lst (ans.map V.int))) := Same.upd hE
  obtain ⟨dx, hp⟩ := R.ob
  obtain ⟨as, hL, _⟩ := R.ln
  have g : Grows H H1 := fun b o e => by
    by_cases q1 : b = ls
    · exact ⟨_, by rw [q1]; exact R.sd⟩
    by_cases q2 : b = ll
    · exact ⟨_, by rw [q2]; exact hL⟩
    by_cases q3 : b = r
    · exact ⟨_, by rw [q3]; exact hr⟩
    exact ⟨o, k b o e q1 q2 q3⟩
  exact A E _ ls ll (g.free hE) upd_same (R.same s) ⟨dr, s _ _ hr⟩ (.inl rfl) (.inl rfl) fun b o e _ h2 h3 h4 => s b o (k b o e h2 h3 h4)
def spG (D : Ad) (K : PySem.W.Frag) : Sp := fun vs H Q _ => ∃ (p r a ls ll : Addr) (S : Abs) (pl : Nat) (ns : List Int) (z : Int) (l : List Nat) (t : List Int), vs = [.ref p, .ref r] ∧ PrAt D H p ls ll S ∧ WF S ∧ (∃ xs, H D.told = some (.lst xs)) ∧ RdAt D H r a pl ∧ SqL K H a (ns.map V.int) ∧
  ns.drop pl = z :: (l.length : Int) :: (nzs l ++ t) ∧ l.length ≤ 48 ∧ ∀ pl', ns.drop pl' = t → After D H p r a ls ll (Rd05.does S (.given z l (l.length : Int))).1 (said (Rd05.does S (.given z l (l.length : Int))).2) pl' Q
def spS (D : Ad) (K : PySem.W.Frag) : Sp := fun vs H Q _ => ∃ (p r a ls ll : Addr) (S : Abs) (pl : Nat) (ns : List Int) (i j x : Int) (t : List Int), vs = [.ref p, .ref r] ∧ PrAt D H p ls ll S ∧ WF S ∧ (∃ xs, H D.told = some (.lst xs)) ∧ RdAt D H r a pl ∧ SqL K H a (ns.map V.int) ∧
  ns.drop pl = i :: j :: x :: t ∧ ∀ pl', ns.drop pl' = t → After D H p r a ls ll (Rd05.does S (.step i j x)).1 (said (Rd05.does S (.step i j x)).2) pl' Q
def spL (D : Ad) (K : PySem.W.Frag) : Sp := fun vs H Q _ => ∃ (p r a ls ll : Addr) (S : Abs) (pl : Nat) (ns : List Int) (z m : Int) (t : List Int), vs = [.ref p, .ref r] ∧ PrAt D H p ls ll S ∧ WF S ∧ RdAt D H r a pl ∧ SqL K H a (ns.map V.int) ∧
  ns.drop pl = z :: m :: t ∧ ∀ pl', ns.drop pl' = t → After D H p r a ls ll (Rd05.does S (.line z m)).1 (said (Rd05.does S (.line z m)).2) pl' Q
section
variable {P : Program} {w : World} {K : PySem.W.Frag} {mg : Str → Option Value} {base : Heap} {D : Ad}
theorem upd_keep {H : Hp} {r : Addr} {u : HO} : ∀ b o, H b = some o → b ≠ r → upd H r u b = some o := fun b o e hb => by rw [upd_ne hb]; exact e
theorem scG : FnScope ["proof", "reader", "side", "signs"] ["proof", "reader"] (defScope sG) := ⟨rfl, rfl, rfl, by decide +kernel, rfl, by decide +kernel, by decide +kernel⟩
theorem ok_g (T : Txt K mg D) : FnOk P w K mg base CX0 4 D.aG D.dG ["proof", "reader"] (spG D K) := by
  refine T.fG.ok scG (fun vs H Q E h => ?_) (fun cdv A outer s H vs Q E hr h => ?_)
  · obtain ⟨p, r, a, ls, ll, S, pl, ns, z, l, t, rfl, _⟩ := h
    rfl
  · obtain ⟨p, r, a, ls, ll, S, pl, ns, z, l, t, rfl, R, W, ⟨tx, hT⟩, ⟨dr, hrd⟩, hS, hd, hlen, k⟩ := h
    obtain ⟨d1, d2⟩ := drop_at hd
    have d2' : ns.drop (pl + 1) = (((nzs l).length : Nat) : Int) :: (nzs l ++ t) := by rw [ints_length]; exact d2
    refine ⟨_, pss_cons (ps_set (i := 2) scG.nd rfl (Or.inl rfl) (pe_meth0 (pv 1) T.clR T.mTk (ok_tk T) (hr.mono (by decide)) T.bTk .nil pass0))
      (pss_cons (ps_set (i := 3) scG.nd rfl (Or.inl rfl) (pe_meth0 (pv 1) T.clR T.mTr (ok_tr T) (hr.mono (by decide)) T.bTr .nil pass0))
      (pss_one (ps_ret (pe_lst (pa_cons (pe_meth (pv 0) T.clP T.mAg (ok_ag T) hr T.bAg .nil pass0 (pa_cons (pv 2) (pa_cons (pv 3) pa_nil))) pa_nil))))), ?_⟩
    refine ⟨_, rfl, r, dr, _, rfl, hrd, rf_no _ _ (by decide +kernel) (by decide +kernel), r, a, dr, pl, ns, z, rfl, hrd, hS, d1, ?_⟩
    have S1 : SqL K (upd H r (.ins D.cR dr (rf a (pl + 1)))) a (ns.map V.int) := SqL.keep hS hrd upd_keep
    refine ⟨_, rfl, r, dr, _, rfl, upd_same, rf_no _ _ (by decide +kernel) (by decide +kernel), r, a, dr, pl + 1, ns, nzs l, t, rfl, upd_same, S1, d2', (by rw [ints_length]; omega), fun N H2 hN h2N h2r keep => ?_⟩
    have k2 : ∀ b o, H b = some o → b ≠ r → H2 b = some o := fun b o e hb => keep b o (upd_keep b o e hb) hb
    have R2 : PrAt D H2 p ls ll S := R.off hrd k2
    obtain ⟨dx, hp⟩ := R2.ob
    obtain ⟨as, hL2, _⟩ := R2.ln
    have hHN : H N = none := (Grows.but upd_same upd_keep).free hN
    refine ⟨_, rfl, p, dx, _, rfl, hp, pf_no _ _ (by decide +kernel) (by decide +kernel), _, rfl, _, rfl, p, ls, ll, N, S, z, l, rfl, R2, W, ⟨tx, k2 _ _ hT (ins_ne_lst hrd hT).symm⟩, h2N, hlen, fun H3 R3 k3 => ⟨by show 1 ≤ sizeLine; decide, fun E' hE => ?_⟩⟩
    have hrl : r ≠ ll := ins_ne_lst h2r hL2
    have e1 := said_one S (.given z l (l.length : Int)) rfl
    have A := k (pl + 1 + 1 + (nzs l).length) (by
      rw [show pl + 1 + 1 + (nzs l).length = (pl + 1) + (1 + (nzs l).length) by omega, ← List.drop_drop, d2', ← List.drop_drop]
      show (nzs l ++ t).drop (nzs l).length = t
      rw [List.drop_left])
    rw [e1] at A
    exact A.one hE R3 (k3 _ _ h2r hrl) fun b o e h1 h2 h3 => k3 b o (k2 b o e h3) h2
theorem scS : FnScope ["proof", "reader", "i", "j", "x"] ["proof", "reader"] (defScope sS) := ⟨rfl, rfl, rfl, by decide +kernel, rfl, by decide +kernel, by decide +kernel⟩
theorem ok_s (T : Txt K mg D) : FnOk P w K mg base CX0 4 D.aS D.dS ["proof", "reader"] (spS D K) := by
  refine T.fS.ok scS (fun vs H Q E h => ?_) (fun cdv A outer s H vs Q E hr h => ?_)
  · obtain ⟨p, r, a, ls, ll, S, pl, ns, i, j, x, t, rfl, _⟩ := h
    rfl
  · obtain ⟨p, r, a, ls, ll, S, pl, ns, i, j, x, t, rfl, R, W, ⟨tx, hT⟩, ⟨dr, hrd⟩, hS, hd, k⟩ := h
    obtain ⟨d1, e1⟩ := drop_at hd
    obtain ⟨d2, e2⟩ := drop_at e1
    obtain ⟨d3, e3⟩ := drop_at e2
    have hr1 : Room 1 _ := hr.mono (by decide)
    refine ⟨_, pss_cons (ps_set (i := 2) scS.nd rfl (Or.inl rfl) (pe_meth0 (pv 1) T.clR T.mTk (ok_tk T) hr1 T.bTk .nil pass0))
      (pss_cons (ps_set (i := 3) scS.nd rfl (Or.inl rfl) (pe_meth0 (pv 1) T.clR T.mTk (ok_tk T) hr1 T.bTk .nil pass0))
      (pss_cons (ps_set (i := 4) scS.nd rfl (Or.inl rfl) (pe_meth0 (pv 1) T.clR T.mTk (ok_tk T) hr1 T.bTk .nil pass0))
      (pss_one (ps_ret (pe_lst (pa_cons (pe_meth (pv 0) T.clP T.mAs (ok_as T) hr T.bAs .nil pass0 (pa_cons (pv 2) (pa_cons (pv 3) (pa_cons (pv 4) pa_nil)))) pa_nil)))))), ?_⟩
    have no : ∀ n : Nat, (rf a n).lookup ("take" : Str) = none := fun n => rf_no _ _ (by decide +kernel) (by decide +kernel)
    refine ⟨_, rfl, r, dr, _, rfl, hrd, no _, r, a, dr, pl, ns, i, rfl, hrd, hS, d1, ?_⟩
    have S1 : SqL K (upd H r (.ins D.cR dr (rf a (pl + 1)))) a (ns.map V.int) := SqL.keep hS hrd upd_keep
    refine ⟨_, rfl, r, dr, _, rfl, upd_same, no _, r, a, dr, pl + 1, ns, j, rfl, upd_same, S1, d2, ?_⟩
    have S2 : SqL K (upd (upd H r (.ins D.cR dr (rf a (pl + 1)))) r (.ins D.cR dr (rf a (pl + 1 + 1)))) a (ns.map V.int) := SqL.keep S1 upd_same upd_keep
    refine ⟨_, rfl, r, dr, _, rfl, upd_same, no _, r, a, dr, pl + 1 + 1, ns, x, rfl, upd_same, S2, d3, ?_⟩
    have k2 : ∀ b o, H b = some o → b ≠ r → upd (upd (upd H r (.ins D.cR dr (rf a (pl + 1)))) r (.ins D.cR dr (rf a (pl + 1 + 1)))) r (.ins D.cR dr (rf a (pl + 1 + 1 + 1))) b = some o := fun b o e hb => upd_keep b o (upd_keep b o (upd_keep b o e hb) hb) hb
    have R2 := R.off hrd k2
    obtain ⟨dx, hp⟩ := R2.ob
    obtain ⟨as, hL2, _⟩ := R2.ln
    refine ⟨_, rfl, p, dx, _, rfl, hp, pf_no _ _ (by decide +kernel) (by decide +kernel), _, rfl, _, rfl, _, rfl, p, ls, ll, S, i, j, x, rfl, R2, W, ⟨tx, k2 _ _ hT (ins_ne_lst hrd hT).symm⟩, fun H3 R3 k3 => ⟨by show 1 ≤ sizeLine; decide, fun E' hE => ?_⟩⟩
    have hrl : r ≠ ll := ins_ne_lst upd_same hL2
    have A := k (pl + 1 + 1 + 1) e3
    rw [said_one S (.step i j x) rfl] at A
    exact A.one hE R3 (k3 _ _ upd_same hrl) fun b o e h1 h2 h3 => k3 b o (k2 b o e h3) h2
theorem scL : FnScope ["proof", "reader", "k", "most"] ["proof", "reader"] (defScope sL) := ⟨rfl, rfl, rfl, by decide +kernel, rfl, by decide +kernel, by decide +kernel⟩
theorem ok_l (T : Txt K mg D) : FnOk P w K mg base CX0 3 D.aL D.dL ["proof", "reader"] (spL D K) := by
  refine T.fL.ok scL (fun vs H Q E h => ?_) (fun cdv A outer s H vs Q E hr h => ?_)
  · obtain ⟨p, r, a, ls, ll, S, pl, ns, z, m, t, rfl, _⟩ := h
    rfl
  · obtain ⟨p, r, a, ls, ll, S, pl, ns, z, m, t, rfl, R, W, ⟨dr, hrd⟩, hS, hd, k⟩ := h
    obtain ⟨d1, e1⟩ := drop_at hd
    obtain ⟨d2, e2⟩ := drop_at e1
    have hr1 : Room 1 _ := hr.mono (by decide)
    refine ⟨_, pss_cons (ps_set (i := 2) scL.nd rfl (Or.inl rfl) (pe_meth0 (pv 1) T.clR T.mTk (ok_tk T) hr1 T.bTk .nil pass0))
      (pss_cons (ps_set (i := 3) scL.nd rfl (Or.inl rfl) (pe_meth0 (pv 1) T.clR T.mTk (ok_tk T) hr1 T.bTk .nil pass0))
      (pss_one (ps_ret (pe_meth (pv 0) T.clP T.mSl (ok_sl T) hr T.bSl .nil pass0 (pa_cons (pv 2) (pa_cons (pv 3) pa_nil)))))), ?_⟩
    have no : ∀ n : Nat, (rf a n).lookup ("take" : Str) = none := fun n => rf_no _ _ (by decide +kernel) (by decide +kernel)
    refine ⟨_, rfl, r, dr, _, rfl, hrd, no _, r, a, dr, pl, ns, z, rfl, hrd, hS, d1, ?_⟩
    have S1 : SqL K (upd H r (.ins D.cR dr (rf a (pl + 1)))) a (ns.map V.int) := SqL.keep hS hrd upd_keep
    refine ⟨_, rfl, r, dr, _, rfl, upd_same, no _, r, a, dr, pl + 1, ns, m, rfl, upd_same, S1, d2, ?_⟩
    have k2 : ∀ b o, H b = some o → b ≠ r → upd (upd H r (.ins D.cR dr (rf a (pl + 1)))) r (.ins D.cR dr (rf a (pl + 1 + 1))) b = some o := fun b o e hb => upd_keep b o (upd_keep b o e hb) hb
    have R2 := R.off hrd k2
    obtain ⟨dx, hp⟩ := R2.ob
    have A := k (pl + 1 + 1) e2
    rw [does_same S (.line z m) trivial] at A
    refine ⟨_, rfl, p, dx, _, rfl, hp, pf_no _ _ (by decide +kernel) (by decide +kernel), _, rfl, _, rfl, p, ls, ll, S, z, m, rfl, R2, W, fun E' H3 hE h3 s3 => ?_⟩
    exact A E' H3 ls ll ((Grows.but upd_same k2).free hE) h3 (R2.same s3) ⟨dr, s3 _ _ upd_same⟩ (.inl rfl) (.inl rfl) fun b o e _ _ _ h4 => s3 b o (k2 b o e h4)
end
end BlD
set_option Elab.async false
set_option linter.all false
set_option maxRecDepth 100000
set_option maxHeartbeats 4000000
namespace BlD
open PySem L2 BlM
open Rd05 (Abs Line Why)
theorem After.shift {D : Ad} {H H1 : Hp} {p r a ls ll : Addr} {S' : Abs} {ans : List Int} {pl' : Nat} {Q : VK} {u : HO} (A : After D H p r a ls ll S' ans pl' Q) (hr : H1 r = some u) (k : ∀ b o, H b = some o → b ≠ r → H1 b = some o) : After D H1 p r a ls ll S' ans pl' Q := by
  intro E H' ls' ll' hE h1 R Rd h2 h3 keep
  have g := Grows.but hr k
  exact A E H' ls' ll' (g.free hE) h1 R Rd (h2.imp id g.free) (h3.imp id g.free) fun b o e n1 n2 n3 n4 => keep b o (k b o e n4) n1 n2 n3 n4
theorem iteN {z v : Int} (h : z ≠ v) {A B : Prop} (b : B) : if decide (V.int z = V.int v) = true then A else B := by
  rw [decide_eq_false (fun q => h (by injection q))]
  exact iteF b
theorem iteY {z : Int} {A B : Prop} (a : A) : if decide (V.int z = V.int z) = true then A else B := by
  rw [decide_eq_true rfl]
  exact iteT a
theorem empty_value (S : Abs) : (Rd05.does S .empty).2.value = feV S := by
  unfold Rd05.does feV
  dsimp only
  cases Rd05.empty S.lines with
  | none => rfl
  | some k => rfl
def spC (D : Ad) (K : PySem.W.Frag) : Sp := fun vs H Q _ => ∃ (p r a ls ll : Addr) (S : Abs) (pl : Nat) (ns : List Int) (c : List (List Int)) (t : List Int), vs = [.ref p, .ref r] ∧ PrAt D H p ls ll S ∧ WF S ∧ (∃ xs, H D.told = some (.lst xs)) ∧ RdAt D H r a pl ∧ SqL K H a (ns.map V.int) ∧
  OneCall (ns.drop pl) c t ∧ Rd05Neutral.asked1 (PyRd05.whole c) = true ∧ ∀ pl', ns.drop pl' = t → After D H p r a ls ll (Rd05Neutral.step S (PyRd05.whole c)).1 (Rd05Neutral.step S (PyRd05.whole c)).2 pl' Q
section
variable {P : Program} {w : World} {K : PySem.W.Frag} {mg : Str → Option Value} {base : Heap} {D : Ad}
theorem scC : FnScope ["proof", "reader", "call"] ["proof", "reader"] (defScope sC) := ⟨rfl, rfl, rfl, by decide +kernel, rfl, by decide +kernel, by decide +kernel⟩
theorem ok_c (T : Txt K mg D) : FnOk P w K mg base CX0 5 D.aC D.dC ["proof", "reader"] (spC D K) := by
  refine T.fC.ok scC (fun vs H Q E h => ?_) (fun cdv A outer s H vs Q E hr h => ?_)
  · obtain ⟨p, r, a, ls, ll, S, pl, ns, c, t, rfl, _⟩ := h
    rfl
  · obtain ⟨p, r, a, ls, ll, S, pl, ns, c, t, rfl, R, W, ⟨tx, hT⟩, ⟨dr, hrd⟩, hS, hO, ask, k⟩ := h
    have hr1 : Room 1 _ := hr.mono (by decide)
    have hr3 : Room 3 _ := hr.mono (by decide)
    refine ⟨_, pss_cons (ps_set (i := 2) scC.nd rfl (Or.inl rfl) (pe_meth0 (pv 1) T.clR T.mTk (ok_tk T) hr1 T.bTk .nil pass0))
      (pss_cons (ps_if (pt_cmpR op_eq (pv 2) (pe_kc rfl T.k_BEGIN) (nomark _)) (pss_one (ps_ret (pe_lst (pa_cons (pe_meth0 (pv 0) T.clP T.mBg (ok_bg T) hr1 T.bBg .nil pass0) pa_nil)))) pss_nil)
      (pss_cons (ps_if (pt_cmpR op_eq (pv 2) (pe_kc rfl T.k_LETTER) (nomark _)) (pss_one (ps_ret (pe_lst (pa_cons (pe_meth (pv 0) T.clP T.mAl (ok_al T) hr1 T.bAl .nil pass0 (pa_cons (pe_meth0 (pv 1) T.clR T.mTk (ok_tk T) hr1 T.bTk .nil pass0) pa_nil)) pa_nil)))) pss_nil)
      (pss_cons (ps_if (pt_cmpR op_eq (pv 2) (pe_kc rfl T.k_GIVEN) (nomark _)) (pss_one (ps_ret (pe_call (ok_g T) hr rfl T.gG T.fG.kp T.bG .nil pass0 (pa_cons (pv 0) (pa_cons (pv 1) pa_nil))))) pss_nil)
      (pss_cons (ps_if (pt_cmpR op_eq (pv 2) (pe_kc rfl T.k_STEP) (nomark _)) (pss_one (ps_ret (pe_call (ok_s T) hr rfl T.gS T.fS.kp T.bS .nil pass0 (pa_cons (pv 0) (pa_cons (pv 1) pa_nil))))) pss_nil)
      (pss_cons (ps_if (pt_cmpR op_eq (pv 2) (pe_kc rfl T.k_LINE) (nomark _)) (pss_one (ps_ret (pe_call (ok_l T) hr3 rfl T.gL T.fL.kp T.bL .nil pass0 (pa_cons (pv 0) (pa_cons (pv 1) pa_nil))))) pss_nil)
      (pss_cons (ps_if (pt_cmpR op_eq (pv 2) (pe_kc rfl T.k_WIDTH) (nomark _)) (pss_one (ps_ret (pe_lst (pa_cons (pe_meth0 (pv 0) T.clP T.mWd (ok_wd T) hr1 T.bWd .nil pass0) pa_nil)))) pss_nil)
      (pss_cons (ps_if (pt_cmpR op_eq (pv 2) (pe_kc rfl T.k_EMPTY) (nomark _)) (pss_one (ps_ret (pe_lst (pa_cons (pe_meth0 (pv 0) T.clP T.mFe (ok_fe T) hr1 T.bFe .nil pass0) pa_nil)))) pss_nil)
      (pss_cons (ps_if (pt_cmpR op_eq (pv 2) (pe_kc rfl T.k_WRONG) (nomark _)) (pss_one (ps_ret (pe_lst (pa_cons (pe_meth (pv 0) T.clP T.mWg (ok_wg T) hr3 T.bWg .nil pass0 (pa_cons (pe_meth0 (pv 1) T.clR T.mTk (ok_tk T) hr1 T.bTk .nil pass0) pa_nil)) pa_nil)))) pss_nil)
      (pss_cons (ps_if (pt_cmpR op_eq (pv 2) (pe_kc rfl T.k_BLAME) (nomark _)) (pss_one (ps_ret (pe_lst (pa_cons (pe_meth (pv 0) T.clP T.mBs (ok_bs T) hr T.bBs .nil pass0 (pa_cons (pe_meth0 (pv 1) T.clR T.mTk (ok_tk T) hr1 T.bTk .nil pass0) pa_nil)) pa_nil)))) pss_nil)
      (pss_one ps_never)))))))))), ?_⟩
    have no : ∀ n : Nat, (rf a n).lookup ("take" : Str) = none := fun n => rf_no _ _ (by decide +kernel) (by decide +kernel)
    have S1 : SqL K (upd H r (.ins D.cR dr (rf a (pl + 1)))) a (ns.map V.int) := SqL.keep hS hrd upd_keep
    have R1 : PrAt D (upd H r (.ins D.cR dr (rf a (pl + 1)))) p ls ll S := R.off hrd upd_keep
    have hT1 : upd H r (.ins D.cR dr (rf a (pl + 1))) D.told = some (.lst tx) := upd_keep _ _ hT (ins_ne_lst hrd hT).symm
    have k2 : ∀ b o, H b = some o → b ≠ r → upd (upd H r (.ins D.cR dr (rf a (pl + 1)))) r (.ins D.cR dr (rf a (pl + 1 + 1))) b = some o := fun b o e hb => upd_keep b o (upd_keep b o e hb) hb
    have R2 : PrAt D (upd (upd H r (.ins D.cR dr (rf a (pl + 1)))) r (.ins D.cR dr (rf a (pl + 1 + 1)))) p ls ll S := R.off hrd k2
    obtain ⟨dx, hp⟩ := R1.ob
    obtain ⟨as, hL1, _⟩ := R1.ln
    have hs1 := R1.sd
    have nrs : r ≠ ls := ins_ne_lst upd_same hs1
    have nrl : r ≠ ll := ins_ne_lst upd_same hL1
    generalize hd : ns.drop pl = rest at hO
    cases hO with
    | begin t =>
      obtain ⟨d1, e1⟩ := drop_at hd
      refine ⟨_, rfl, r, dr, _, rfl, hrd, no _, r, a, dr, pl, ns, 0, rfl, hrd, hS, d1, ?_⟩
      refine ⟨_, rfl, rfl, _, rfl, iteY ?_⟩
      refine ⟨_, rfl, p, dx, _, rfl, hp, pf_no _ _ (by decide +kernel) (by decide +kernel), p, ls, ll, S, rfl, R1, fun ls' ll' H2 h1 h2 R2 keep => ⟨by show 1 ≤ sizeLine; decide, fun E' hE => ?_⟩⟩
      have g1 : Grows H (upd H r (.ins D.cR dr (rf a (pl + 1)))) := Grows.but upd_same upd_keep
      obtain ⟨dx2, hp2⟩ := R2.ob
      have g2 : Grows (upd H r (.ins D.cR dr (rf a (pl + 1)))) H2 := Grows.but hp2 keep
      have npr : p ≠ r := ins_ne hp upd_same pf_ne_rf
      have A := k (pl + 1) e1
      rw [step_begin] at A
      have s2 : Same H2 (upd H2 E' (.lst [V.int 0])) := Same.upd hE
      exact A E' _ ls' ll' ((g1.trans g2).free hE) upd_same (R2.same s2) ⟨dr, s2 _ _ (keep _ _ upd_same npr.symm)⟩ (.inr (g1.free h1)) (.inr (g1.free h2)) fun b o e n1 _ _ n4 => s2 b o (keep b o (upd_keep b o e n4) n1)
    | letter z t =>
      obtain ⟨d1, e1⟩ := drop_at hd
      obtain ⟨d2, e2⟩ := drop_at e1
      refine ⟨_, rfl, r, dr, _, rfl, hrd, no _, r, a, dr, pl, ns, 1, rfl, hrd, hS, d1, ?_⟩
      refine ⟨_, rfl, rfl, _, rfl, iteN (by decide) ?_⟩
      refine ⟨_, rfl, rfl, _, rfl, iteY ?_⟩
      refine ⟨_, rfl, p, dx, _, rfl, hp, pf_no _ _ (by decide +kernel) (by decide +kernel), _, rfl, r, dr, _, rfl, upd_same, no _, r, a, dr, pl + 1, ns, z, rfl, upd_same, S1, d2, p, ls, ll, S, z, rfl, R2, W, fun H3 R3 k3 => ⟨by show 1 ≤ sizeLine; decide, fun E' hE => ?_⟩⟩
      have A := k (pl + 1 + 1) e2
      rw [step_letter, said_one S (.letter z) rfl] at A
      exact A.one hE R3 (k3 _ _ upd_same nrs) fun b o e n1 n2 n3 => k3 b o (k2 b o e n3) n1
    | given z row t =>
      obtain ⟨d1, e1⟩ := drop_at hd
      obtain ⟨hl, hrow, _⟩ := given_ask ask
      have hll : row.length = (Rd05Neutral.natsOf row).length := by unfold Rd05Neutral.natsOf; rw [List.length_map]
      refine ⟨_, rfl, r, dr, _, rfl, hrd, no _, r, a, dr, pl, ns, 2, rfl, hrd, hS, d1, ?_⟩
      iterate 2 (refine ⟨_, rfl, rfl, _, rfl, iteN (by decide) ?_⟩)
      refine ⟨_, rfl, rfl, _, rfl, iteY ?_⟩
      refine ⟨_, rfl, _, rfl, p, r, a, ls, ll, S, pl + 1, ns, z, Rd05Neutral.natsOf row, t, rfl, R1, W, ⟨tx, hT1⟩, ⟨dr, upd_same⟩, S1, ?_, by omega, fun pl' h => ?_⟩
      · rw [e1, ← hll, ← hrow]
      · have A := k pl' h
        rw [step_given, hll] at A
        exact A.shift upd_same upd_keep
    | step i j x t =>
      obtain ⟨d1, e1⟩ := drop_at hd
      refine ⟨_, rfl, r, dr, _, rfl, hrd, no _, r, a, dr, pl, ns, 3, rfl, hrd, hS, d1, ?_⟩
      iterate 3 (refine ⟨_, rfl, rfl, _, rfl, iteN (by decide) ?_⟩)
      refine ⟨_, rfl, rfl, _, rfl, iteY ?_⟩
      refine ⟨_, rfl, _, rfl, p, r, a, ls, ll, S, pl + 1, ns, i, j, x, t, rfl, R1, W, ⟨tx, hT1⟩, ⟨dr, upd_same⟩, S1, e1, fun pl' h => ?_⟩
      have A := k pl' h
      rw [step_step] at A
      exact A.shift upd_same upd_keep
    | line z m t =>
      obtain ⟨d1, e1⟩ := drop_at hd
      refine ⟨_, rfl, r, dr, _, rfl, hrd, no _, r, a, dr, pl, ns, 4, rfl, hrd, hS, d1, ?_⟩
      iterate 4 (refine ⟨_, rfl, rfl, _, rfl, iteN (by decide) ?_⟩)
      refine ⟨_, rfl, rfl, _, rfl, iteY ?_⟩
      refine ⟨_, rfl, _, rfl, p, r, a, ls, ll, S, pl + 1, ns, z, m, t, rfl, R1, W, ⟨dr, upd_same⟩, S1, e1, fun pl' h => ?_⟩
      have A := k pl' h
      rw [step_line] at A
      exact A.shift upd_same upd_keep
    | width t =>
      obtain ⟨d1, e1⟩ := drop_at hd
      refine ⟨_, rfl, r, dr, _, rfl, hrd, no _, r, a, dr, pl, ns, 5, rfl, hrd, hS, d1, ?_⟩
      iterate 5 (refine ⟨_, rfl, rfl, _, rfl, iteN (by decide) ?_⟩)
      refine ⟨_, rfl, rfl, _, rfl, iteY ?_⟩
      refine ⟨_, rfl, p, dx, _, rfl, hp, pf_no _ _ (by decide +kernel) (by decide +kernel), p, ls, ll, S, rfl, R1, W, fun H3 s3 => ⟨by show 1 ≤ sizeLine; decide, fun E' hE => ?_⟩⟩
      have A := k (pl + 1) e1
      rw [step_width, said_one S .width rfl, does_same S .width trivial] at A
      exact A.one hE (R1.same s3) (s3 _ _ upd_same) fun b o e n1 n2 n3 => s3 b o (upd_keep b o e n3)
    | empty t =>
      obtain ⟨d1, e1⟩ := drop_at hd
      refine ⟨_, rfl, r, dr, _, rfl, hrd, no _, r, a, dr, pl, ns, 6, rfl, hrd, hS, d1, ?_⟩
      iterate 6 (refine ⟨_, rfl, rfl, _, rfl, iteN (by decide) ?_⟩)
      refine ⟨_, rfl, rfl, _, rfl, iteY ?_⟩
      refine ⟨_, rfl, p, dx, _, rfl, hp, pf_no _ _ (by decide +kernel) (by decide +kernel), p, ls, ll, S, rfl, R1, W, by show 1 ≤ sizeLine; decide, fun E' hE => ?_⟩
      have A := k (pl + 1) e1
      rw [step_empty, said_one S .empty rfl, does_same S .empty trivial, empty_value] at A
      exact A.one hE R1 upd_same fun b o e n1 n2 n3 => upd_keep b o e n3
    | wrong v t =>
      obtain ⟨d1, e1⟩ := drop_at hd
      obtain ⟨d2, e2⟩ := drop_at e1
      refine ⟨_, rfl, r, dr, _, rfl, hrd, no _, r, a, dr, pl, ns, 7, rfl, hrd, hS, d1, ?_⟩
      iterate 7 (refine ⟨_, rfl, rfl, _, rfl, iteN (by decide) ?_⟩)
      refine ⟨_, rfl, rfl, _, rfl, iteY ?_⟩
      refine ⟨_, rfl, p, dx, _, rfl, hp, pf_no _ _ (by decide +kernel) (by decide +kernel), _, rfl, r, dr, _, rfl, upd_same, no _, r, a, dr, pl + 1, ns, v, rfl, upd_same, S1, d2, p, ls, ll, S, v, rfl, R2, W, by show 1 ≤ sizeLine; decide, fun E' hE => ?_⟩
      have A := k (pl + 1 + 1) e2
      rw [step_wrong, said_one S (.wrong v) rfl, does_same S (.wrong v) trivial] at A
      exact A.one hE R2 upd_same fun b o e n1 n2 n3 => k2 b o e n3
    | blame v t =>
      obtain ⟨d1, e1⟩ := drop_at hd
      obtain ⟨d2, e2⟩ := drop_at e1
      refine ⟨_, rfl, r, dr, _, rfl, hrd, no _, r, a, dr, pl, ns, 8, rfl, hrd, hS, d1, ?_⟩
      iterate 8 (refine ⟨_, rfl, rfl, _, rfl, iteN (by decide) ?_⟩)
      refine ⟨_, rfl, rfl, _, rfl, iteY ?_⟩
      refine ⟨_, rfl, p, dx, _, rfl, hp, pf_no _ _ (by decide +kernel) (by decide +kernel), _, rfl, r, dr, _, rfl, upd_same, no _, r, a, dr, pl + 1, ns, v, rfl, upd_same, S1, d2, p, ls, ll, S, v, rfl, R2, W, fun H3 s3 => ⟨by show 1 ≤ sizeLine; decide, fun E' hE => ?_⟩⟩
      have A := k (pl + 1 + 1) e2
      rw [step_blame, said_one S (.blame v) rfl, does_same S (.blame v) trivial] at A
      exact A.one hE (R2.same s3) (s3 _ _ upd_same) fun b o e n1 n2 n3 => s3 b o (k2 b o e n3)
end
end BlD
set_option Elab.async false
set_option linter.all false
set_option maxRecDepth 100000
set_option maxHeartbeats 4000000
namespace BlM
open Rd05
theorem step_good {S : Abs} (h : WF S) {l t : List Int} {c : List (List Int)} (o : OneCall l c t) : (Rd05Neutral.step S (PyRd05.whole c)).2.length ≤ 25 ∧ WF (Rd05Neutral.step S (PyRd05.whole c)).1 := by
  cases o with
  | begin t => rw [step_begin]; exact ⟨said_len h _, does_wf h _⟩
  | letter z t => rw [step_letter]; exact ⟨said_len h _, does_wf h _⟩
  | given z row t => rw [step_given]; exact ⟨said_len h _, does_wf h _⟩
  | step i j x t => rw [step_step]; exact ⟨said_len h _, does_wf h _⟩
  | line k m t => rw [step_line]; exact ⟨said_len h _, does_wf h _⟩
  | width t => rw [step_width]; exact ⟨said_len h _, does_wf h _⟩
  | empty t => rw [step_empty]; exact ⟨said_len h _, does_wf h _⟩
  | wrong v t => rw [step_wrong]; exact ⟨said_len h _, does_wf h _⟩
  | blame v t => rw [step_blame]; exact ⟨said_len h _, does_wf h _⟩
end BlM
namespace BlD
open PySem L2 BlM
open Rd05 (Abs Line Why)
abbrev Ad.at (D : Ad) (e : Addr) : Ad := { D with told := e }
theorem Txt.at {K : PySem.W.Frag} {mg : Str → Option Value} {D : Ad} (T : Txt K mg D) (e : Addr) : Txt K mg (D.at e) := ⟨T.clG, T.mgG, T.mkG, T.nG_side, T.nG_signs, T.clS, T.mgS, T.mkS, T.nS_i, T.nS_j, T.nS_x, T.nS_signs, T.clP, T.mgP, T.mkP, T.nP_sides, T.nP_lines, T.clR, T.mgR, T.mkR, T.nR_calls, T.nR_place, T.cfG, T.cfS, T.kiGG, T.kiGS, T.kiSG, T.kiSS, T.b_any, T.b_all, T.b_sorted, T.b_set, T.b_len, T.b_max, T.b_min, T.b_range, T.b_isinstance, T.k_MOST_LETTERS, T.k_MOST_LINES, T.k_MOST_GIVEN_SIGNS, T.k_MOST_SHOWN_SIGNS, T.k_ALL_TRUE, T.k_REFUSED, T.k_FULL, T.k_CLASH, T.k_BEGIN, T.k_LETTER, T.k_GIVEN, T.k_STEP, T.k_LINE, T.k_WIDTH, T.k_EMPTY, T.k_WRONG, T.k_BLAME, T.fHas, T.bHas, T.gHas, T.fWo, T.bWo, T.gWo, T.fTru, T.bTru, T.gTru, T.fGi, T.bGi, T.fSi, T.bSi, T.fNx, T.bNx, T.mNx, T.fPi, T.bPi, T.fBg, T.bBg, T.mBg, T.fAl, T.bAl, T.mAl, T.fAg, T.bAg, T.mAg, T.fAs, T.bAs, T.mAs, T.fSl, T.bSl, T.mSl, T.fWd, T.bWd, T.mWd, T.fFe, T.bFe, T.mFe, T.fWg, T.bWg, T.mWg, T.fBs, T.bBs, T.mBs, T.fHl, T.bHl, T.mHl, T.fHn, T.bHn, T.mHn, T.fMs, T.bMs, T.mMs, T.fIs, T.bIs, T.mIs, T.fAn, T.bAn, T.mAn, T.fCt, T.bCt, T.mCt, T.fBb, T.bBb, T.mBb, T.fRi, T.bRi, T.fHm, T.bHm, T.mHm, T.fTk, T.bTk, T.mTk, T.fTr, T.bTr, T.mTr, T.fG, T.bG, T.gG, T.fS, T.bS, T.gS, T.fL, T.bL, T.gL, T.fC, T.bC, T.gC, T.fA, T.bA, T.gA⟩
theorem FnOk.ex {ι : Type} {P : Program} {w : World} {K : PySem.W.Frag} {mg : Str → Option Value} {base : Heap} {CX : CXT} {k : Nat} {f : Addr} {fd : FuncData} {ps : List Str} {sp : ι → Sp} (F : ∀ i, FnOk P w K mg base CX k f fd ps (sp i)) :
    FnOk P w K mg base CX k f fd ps (fun vs H Q E => ∃ i, sp i vs H Q E) :=
  ⟨fun vs H Q E ⟨i, q⟩ => (F i).len vs H Q E q, fun A outer s H args us vs Q E hr he hb hv ⟨i, q⟩ => (F i).run A outer s H args us vs Q E hr he hb hv q⟩
/-- the list of calls: not to be written -/
def FzL (K : PySem.W.Frag) (H : Hp) (a : Addr) (xs : List V) : Prop := (∃ ob, H a = some (.frz ob (.lst xs))) ∨ ∀ H2, SqL K H2 a xs
theorem FzL.to {K : PySem.W.Frag} {H : Hp} {a : Addr} {xs : List V} (h : FzL K H a xs) : SqL K H a xs := by
  rcases h with h | h
  · exact .inl (.inr h)
  · exact h H
theorem FzL.keep {K : PySem.W.Frag} {H H' : Hp} {a : Addr} {xs : List V} (h : FzL K H a xs) (k : ∀ ob, H a = some (.frz ob (.lst xs)) → H' a = some (.frz ob (.lst xs))) : FzL K H' a xs := by
  rcases h with ⟨ob, h⟩ | h
  · exact .inl ⟨ob, k ob h⟩
  · exact .inr h
theorem frz_ne_ins {H : Hp} {a b C dx : Addr} {fs : List (Str × V)} {ob : Obj} {u : HO} (h : H a = some (.frz ob u)) (g : H b = some (.ins C dx fs)) : a ≠ b := ne_of h g (by intro z; cases z)
theorem frz_ne_lst {H : Hp} {a b : Addr} {xs : List V} {ob : Obj} {u : HO} (h : H a = some (.frz ob u)) (g : H b = some (.lst xs)) : a ≠ b := ne_of h g (by intro z; cases z)
theorem PrAt.at0 {D : Ad} {H : Hp} {p ls ll : Addr} (R : PrAt D H p ls ll {}) (e : Addr) : PrAt (D.at e) H p ls ll {} := by
  obtain ⟨ob, sd, ⟨as, h1, h2, _⟩, ne⟩ := R
  exact ⟨ob, sd, ⟨as, h1, h2, fun k a L _ h => by simp at h⟩, ne⟩
theorem PrAt.tell {D : Ad} {H : Hp} {p ls ll : Addr} {S : Abs} {xs ys : List V} (R : PrAt D H p ls ll S) (ht : H D.told = some (.lst xs)) (n1 : D.told ≠ ls) (n2 : D.told ≠ ll) : PrAt D (upd H D.told (.lst ys)) p ls ll S := by
  obtain ⟨⟨dx, hp⟩, sd, ⟨as, h1, h2, h3⟩, ne⟩ := R
  refine ⟨⟨dx, by rw [upd_ne (ins_ne_lst hp ht)]; exact hp⟩, by rw [upd_ne n1.symm]; exact sd, ⟨as, by rw [upd_ne n2.symm]; exact h1, h2, fun k a L q1 q2 => ?_⟩, ne⟩
  obtain ⟨c, ⟨⟨da, ho⟩, hc⟩, c1, c2, c3⟩ := h3 k a L q1 q2
  exact ⟨c, ⟨⟨da, by rw [upd_ne (ins_ne_lst ho ht)]; exact ho⟩, by rw [upd_ne c3]; exact hc⟩, c1, c2, c3⟩
/-- the loop over the calls -/
structure WA (D : Ad) (K : PySem.W.Frag) (ns : List Int) (a p r E0 : Addr) (av : Option V) (ls ll : Addr) (S : Abs) (pl : Nat) (cs : List (List (List Int))) (Tl : List Int) (m : Nat) (σ : St) (H : Hp) : Prop where
  st : σ = [some (.ref a), some (.ref p), some (.ref r), some (.ref E0), av]
  pr : PrAt (D.at E0) H p ls ll S
  wf : WF S
  rd : RdAt D H r a pl
  sc : FzL K H a (ns.map V.int)
  tl : H E0 = some (.lst (Tl.map V.int))
  n1 : E0 ≠ ls
  n2 : E0 ≠ ll
  lf : Left (ns.drop pl) cs
  eq : Tl ++ due S cs = PyRd05.answers ns
  few : Tl.length + 26 * cs.length ≤ 7800
  me : m = cs.length
def spA (K : PySem.W.Frag) : Sp := fun vs H Q _ => ∃ (a : Addr) (ns : List Int), vs = [.ref a] ∧ FzL K H a (ns.map V.int) ∧ PyRd05.answers_asked ns = true ∧
  ∀ E H', H' E = some (.lst ((PyRd05.answers ns).map V.int)) → Q (.ref E) H'
section
variable {P : Program} {w : World} {K : PySem.W.Frag} {mg : Str → Option Value} {base : Heap} {D : Ad}
theorem ok_cx (T : Txt K mg D) : FnOk P w K mg base CX0 5 D.aC D.dC ["proof", "reader"] (fun vs H Q E => ∃ e : Addr, spC (D.at e) K vs H Q E) :=
  FnOk.ex fun e => ok_c (T.at e)
theorem scA : FnScope ["calls", "proof", "reader", "told", "answer"] ["calls"] (defScope sA) := ⟨rfl, rfl, rfl, by decide +kernel, rfl, by decide +kernel, by decide +kernel⟩
theorem ok_a (T : Txt K mg D) : FnOk P w K mg base CX0 6 D.aA D.dA ["calls"] (spA K) := by
  refine T.fA.ok scA (fun vs H Q E h => ?_) (fun cdv A outer s H vs Q E hr h => ?_)
  · obtain ⟨a, ns, rfl, _⟩ := h
    rfl
  · obtain ⟨a, ns, rfl, hS, ask, k⟩ := h
    have hr1 : Room 1 _ := hr.mono (by decide)
    have hr2 : Room 2 _ := hr.mono (by decide)
    refine ⟨_, pss_cons (ps_set (i := 1) scA.nd rfl (Or.inl rfl) (pe_make0 T.mkP (ok_pi T) hr2 rfl T.mgP T.bPi .nil pass0))
      (pss_cons (ps_set (i := 2) scA.nd rfl (Or.inl rfl) (pe_make T.mkR (ok_ri T) hr2 rfl T.mgR T.bRi .nil pass0 (pa_cons (pv 0) pa_nil)))
      (pss_cons (ps_set (i := 3) scA.nd rfl (Or.inl rfl) (pe_lst pa_nil))
      (pss_cons (ps_while PassesOwn.never (pt_val (pe_meth0 (pv 2) T.clR T.mHm (ok_hm T) hr1 T.bHm .nil pass0))
        (pss_cons (ps_set (i := 4) scA.nd rfl (Or.inl rfl) (pe_call (ok_cx T) hr rfl T.gC T.fC.kp T.bC .nil pass0 (pa_cons (pv 1) (pa_cons (pv 2) pa_nil))))
        (pss_cons (ps_expr (pe_bm PySem.F.plainAttrs_list PySem.F.slot_list_append PySem.F.type_list_append mt_append (pv 3) (pa_cons (pe_callB call_len_seq (by rfl) T.b_len bt_len (pa_cons (pv 4) pa_nil)) pa_nil)))
        (pss_one (ps_expr (pe_bm PySem.F.plainAttrs_list PySem.F.slot_list_extend PySem.F.type_list_extend mt_extend (pv 3) (pa_cons (pv 4) pa_nil)))))))
      (pss_one (ps_ret (pv 3)))))), ?_⟩
    -- proof = Proof()
    intro p dp np ndp nep
    refine ⟨p, dp, rfl, upd_same, fun ls ll H1 hls hll R1 keep1 => ⟨rfl, ?_⟩⟩
    have s1 : Same H H1 := Same.made np ndp keep1
    -- reader = Reader(calls)
    refine ⟨_, rfl, ?_⟩
    intro r dr nr ndr ner
    refine ⟨r, dr, a, rfl, upd_same, fun H2 hrd keep2 => ⟨rfl, ?_⟩⟩
    have s2 : Same H1 H2 := Same.made nr ndr keep2
    -- told = []
    refine ⟨Nat.zero_le _, fun E0 hE0 => ?_⟩
    have s3 : Same H2 (upd H2 E0 (.lst [])) := Same.upd hE0
    have R2 : PrAt D (upd H2 E0 (.lst [])) p ls ll {} := (R1.same s2).same s3
    have hs2 := (R1.same s2).sd
    obtain ⟨as2, hL2, _⟩ := (R1.same s2).ln
    obtain ⟨cs, lf, few, eqA⟩ := start_left ask
    refine ⟨fun m σ H2 => ∃ (av : Option V) (ls ll : Addr) (S : Abs) (pl : Nat) (cs : List (List (List Int))) (Tl : List Int), WA D K ns a p r E0 av ls ll S pl cs Tl m σ H2,
      ⟨cs.length, none, ls, ll, {}, 0, cs, [], ⟨rfl, R2.at0 E0, wf_start, ⟨dr, s3 _ _ hrd⟩, hS.keep fun ob h => s3 _ _ (s2 _ _ (s1 _ _ h)), upd_same, (ne_of_none hs2 hE0).symm, (ne_of_none hL2 hE0).symm, lf, eqA.symm, by show 0 + 26 * cs.length ≤ 7800; omega, rfl⟩⟩, ?_⟩
    clear hs2 hL2 R2 R1 lf few eqA s3 s2 s1 keep2 keep1 hrd hE0 hS cs
    rintro m σ H3 ⟨av, ls, ll, S, pl, cs, Tl, ⟨rfl, R, W, ⟨dr, hrd⟩, hS, hT, n1, n2, lf, eqA, few, rfl⟩⟩
    -- while reader.has_more()
    refine ⟨_, rfl, r, dr, _, rfl, hrd, rf_no _ _ (by decide +kernel) (by decide +kernel), r, a, pl, ns, rfl, ⟨dr, hrd⟩, hS.to, _, rfl, ite2 (fun e => ?_) (fun e => ?_)⟩
    · have hl : pl < ns.length := by
        have q := of_decide_eq_true e
        omega
      have hd := List.drop_eq_getElem_cons hl
      rw [hd] at lf
      obtain ⟨c, t, cs', rfl, one, ask1, lf'⟩ := lf.cons
      rw [← hd] at one
      obtain ⟨hlen, W'⟩ := step_good W one
      rw [due_cons] at eqA
      refine ⟨fun σ' H' => ∃ (av : Option V) (ls ll : Addr) (S : Abs) (pl : Nat) (cs : List (List (List Int))) (Tl : List Int), WA D K ns a p r E0 av ls ll S pl cs Tl cs'.length σ' H', fun σ' H' h => ⟨cs'.length, by rw [List.length_cons]; omega, h⟩, ?_⟩
      refine ⟨_, rfl, _, rfl, E0, p, r, a, ls, ll, S, pl, ns, c, t, rfl, R, W, ⟨_, hT⟩, ⟨dr, hrd⟩, hS.to, one, ask1, fun pl' hpl' => ?_⟩
      intro EA H4 ls' ll' hEA h4 R4 Rd4 q1 q2 keep
      obtain ⟨dr4, hr4⟩ := Rd4
      obtain ⟨dx, hp⟩ := R.ob
      obtain ⟨as, hL, _⟩ := R.ln
      have hT4 : H4 E0 = some (.lst (Tl.map V.int)) := keep _ _ hT (ins_ne_lst hp hT).symm n1 n2 (ins_ne_lst hrd hT).symm
      have nEA : EA ≠ E0 := (ne_of_none hT hEA).symm
      have n1' : E0 ≠ ls' := by
        rcases q1 with q | q
        · rw [q]; exact n1
        · exact ne_of_none hT q
      have n2' : E0 ≠ ll' := by
        rcases q2 with q | q
        · rw [q]; exact n2
        · exact ne_of_none hT q
      have sz : sizeLine = 16777216 := sizeLine_eq
      rw [List.length_cons] at few
      have la : ((Rd05Neutral.step S (PyRd05.whole c)).2.map V.int).length = (Rd05Neutral.step S (PyRd05.whole c)).2.length := List.length_map ..
      have lt : (Tl.map V.int).length = Tl.length := List.length_map ..
      -- told.append(len(answer)); told.extend(answer)
      refine ⟨_, rfl, .inl ⟨rfl, _, SqL.of hT4⟩, _, rfl, EA, _, rfl, .inl (SqL.of h4), E0, _, _, rfl, rfl, hT4, by rw [lt]; omega, ?_⟩
      refine ⟨_, rfl, .inl ⟨rfl, _, SqL.of upd_same⟩, _, rfl, E0, EA, _, _, rfl, rfl, upd_same, (by rw [upd_ne nEA]; exact h4), by rw [la, List.length_append, lt, List.length_singleton]; omega, ?_⟩
      have R6 : ∀ ys zs : List V, PrAt (D.at E0) (upd (upd H4 E0 (.lst ys)) E0 (.lst zs)) p ls' ll' (Rd05Neutral.step S (PyRd05.whole c)).1 := fun ys zs => PrAt.tell (D := D.at E0) (PrAt.tell (D := D.at E0) (ys := ys) R4 hT4 n1' n2') upd_same n1' n2'
      have nr : r ≠ E0 := ins_ne_lst hr4 hT4
      refine ⟨_, ls', ll', _, pl', cs', Tl ++ ((((Rd05Neutral.step S (PyRd05.whole c)).2.length : Int)) :: (Rd05Neutral.step S (PyRd05.whole c)).2), ⟨rfl, R6 _ _, W', ⟨dr4, by rw [upd_ne nr, upd_ne nr]; exact hr4⟩, hS.keep fun ob h => ?_, ?_, n1', n2', by rw [hpl']; exact lf', ?_, ?_, rfl⟩⟩
      · have na : a ≠ E0 := frz_ne_lst h hT
        rw [upd_ne na, upd_ne na]
        exact keep _ _ h (frz_ne_ins h hp) (frz_ne_lst h R.sd) (frz_ne_lst h hL) (frz_ne_ins h hrd)
      · rw [upd_same, la, List.map_append, List.append_assoc]
        rfl
      · rw [List.append_assoc]
        exact eqA
      · rw [List.length_append, List.length_cons]
        omega
    · have hl : ns.length ≤ pl := by
        by_cases q : pl < ns.length
        · exact absurd (decide_eq_true (by omega)) e
        · omega
      rw [List.drop_eq_nil_of_le hl] at lf
      have hc := lf.nil
      subst hc
      rw [due_nil, List.append_nil] at eqA
      rw [eqA] at hT
      exact ⟨_, rfl, k E0 H3 hT⟩
end
end BlD
set_option Elab.async false
set_option linter.all false
set_option maxRecDepth 100000
set_option maxHeartbeats 4000000
namespace BlH
open PySem PySem.W PyProof.Rows L2
theorem ints_of_vals : ∀ {xs : List Int} {us : List Value}, Vals (xs.map V.int) us → IntsAre us xs
  | [], us, h => by
    have q := h.length
    cases us with
    | nil => exact .nil
    | cons u r => cases q
  | x :: xs, us, h => by
    cases us with
    | nil => exact absurd h.length (by simp)
    | cons u r =>
      cases h with
      | cons a b =>
        obtain ⟨t, rfl⟩ := a
        exact .cons x t (ints_of_vals b)
/-- what a call of answers is asked for -/
def Told (s₁ : Shared) (ns : List Int) (r : Result) (s' : Shared) : Prop :=
  (∃ (E : Addr) (its : Array Value) (n : Nat), r = .ok (.ret (.ref E)) ∧ s'.heap.get? E = some { cls := .type "list", data := .seq its n } ∧ IntsAre its.toList (PyRd05.answers ns)) ∧ OldK s₁.heap s'.heap ∧ s'.os = s₁.os ∧ AllBare s'.gens
/-- from an abstract heap that tracks at most the list of calls -/
theorem from_heap {P : Program} {w : World} {K : Frag} {mg mb : Str → Option Value} {k : Nat} {fa a : Addr} {fd : FuncData} {x : Str} {s₁ : Shared} {vs : List Value} {ns : List Int} {H : Hp}
    (KX : K.In s₁.heap) (hns : s₁.heap.Ns mainGlobals mg) (hb : s₁.heap.Ns builtinsNs mb) (hbb : ∀ x : Str, x ≠ "__name__" → mb x = bootBuiltins x) (hlim : s₁.heap.NoLimit) (hg : s₁.gens = #[])
    (ha : s₁.heap.get? a = some { cls := .type "list", data := .seq vs.toArray }) (hr : Room k callerA)
    (F : ∀ base : Heap, FnOk P w K mg base CX0 k fa fd [x] (BlD.spA K)) (hbind : ∀ (s : Shared) (u : Value), BindsTo s fd ⟨[u], []⟩ [(x, u)])
    (ask : PyRd05.answers_asked ns = true) (hO : Only H) (hS : BlD.FzL K H a (ns.map V.int)) (hok : HOk P w H s₁.heap) (hA : ∀ b u, H b = some u → b = a ∧ K.lookup a = none) :
    codeAny (model P w) callerA (.call (.ref fa) ⟨[.ref a], []⟩) (Told s₁ ns) s₁ := by
  have free : ∀ {b : Addr}, (∀ u, H b = some u → False) → H b = none := fun {b} f => by
    cases q : H b with
    | none => rfl
    | some u => exact (f u q).elim
  have nsK : ∀ {b : Addr} {m : Str → Option Value}, s₁.heap.Ns b m → (hidT s₁.heap H).Ns b m := fun {b m} ⟨o, es, ep, e, d, z⟩ =>
    ⟨o, es, ep, hidT_get e (free fun u q => by
      obtain ⟨q1, _⟩ := hA b u q
      rw [q1, ha] at e
      cases e
      have d' : Data.seq vs.toArray _ = Data.dict es ep := d
      cases d'), d, z⟩
  have hKb : K.In (hidT s₁.heap H) := fun b o e => hidT_get (KX b o e) (free fun u q => by
    obtain ⟨q1, q2⟩ := hA b u q
    rw [q1, q2] at e
    cases e)
  have hM : Mod K mg (hidT s₁.heap H) := ⟨hKb, nsK hns, ⟨mb, nsK hb, hbb⟩, let ⟨mc, h1, h2⟩ := hlim; ⟨mc, nsK h1, h2⟩⟩
  have noF : ∀ {b : Addr}, b ∈ ([] : List Addr) → False := fun z => absurd z (by simp)
  have env : Env0 P w K mg (hidT s₁.heap H) callerA [] s₁ H := ⟨rfl, hM, fun b o e => of_hidT e, Nat.le_of_eq (hidT_size _ _), trivial, fun b z => (noF z).elim, hok, .of_eq hg⟩
  have goal : BlD.spA K [.ref a] H (fun v H' => ∃ E, v = .ref E ∧ H' E = some (.lst ((PyRd05.answers ns).map V.int))) E0 := ⟨a, ns, rfl, hS, ask, fun E H' q => ⟨E, rfl, q⟩⟩
  refine codeAny_mono ((F _).run callerA [] s₁ H ⟨[.ref a], []⟩ [.ref a] [.ref a] _ _ hr env (hbind s₁ (.ref a)) (.cons rfl .nil) goal) fun r s' h => ?_
  match r, h with
  | .error e, h => exact h.elim
  | .ok .next, h => exact h.elim
  | .ok .brk, h => exact h.elim
  | .ok .cont, h => exact h.elim
  | .ok (.ret u), h =>
    obtain ⟨v, H', os, bare, un, hok', rv, E, rfl, hE⟩ := h
    obtain rfl : u = Value.ref E := rv
    obtain ⟨_, its, n, ri, e⟩ := hok' E _ hE
    refine ⟨⟨E, its.toArray, n, rfl, e, by simpa using ints_of_vals ri⟩, OldK.of_keep fun b o q => ?_, os, bare⟩
    rcases hO b with z | ⟨ob, xs, z⟩
    · exact un.keep b o q z (fun y => (noF y).elim) (fun y => (noF y).elim)
    · obtain ⟨e1, _⟩ := hok b _ z
      obtain ⟨e2, _⟩ := hok' b _ (un.frzs b ob _ z)
      rw [q] at e1
      cases e1
      exact e2
theorem told_call {P : Program} {w : World} {K : Frag} {mg mb : Str → Option Value} {k : Nat} {fa a : Addr} {fd : FuncData} {x : Str} {s₁ : Shared} {vs : List Value} {ns : List Int}
    (KX : K.In s₁.heap) (hns : s₁.heap.Ns mainGlobals mg) (hb : s₁.heap.Ns builtinsNs mb) (hbb : ∀ x : Str, x ≠ "__name__" → mb x = bootBuiltins x) (hlim : s₁.heap.NoLimit) (hg : s₁.gens = #[])
    (ha : s₁.heap.get? a = some { cls := .type "list", data := .seq vs.toArray }) (hi : IntsAre vs ns) (hl : ns.length ≤ sizeLine) (hr : Room k callerA)
    (F : ∀ base : Heap, FnOk P w K mg base CX0 k fa fd [x] (BlD.spA K)) (hbind : ∀ (s : Shared) (u : Value), BindsTo s fd ⟨[u], []⟩ [(x, u)])
    (ask : PyRd05.answers_asked ns = true) : codeAny (model P w) callerA (.call (.ref fa) ⟨[.ref a], []⟩) (Told s₁ ns) s₁ := by
  have rv := vals_ints hi
  cases hk : K.lookup a with
  | some o =>
    have e := (KX a o hk).symm.trans ha
    cases e
    exact from_heap (H := fun _ => none) KX hns hb hbb hlim hg ha hr F hbind ask (fun _ => .inl rfl)
      (.inr fun H2 => .inr ⟨_, vs.toArray, _, hk, rfl, rfl, rfl, by rw [List.size_toArray, ← rv.length, List.length_map]; exact hl, by simpa using rv⟩)
      (fun b u z => nomatch (show (none : Option HO) = some u from z)) (fun b u z => nomatch (show (none : Option HO) = some u from z))
  | none =>
    have at_a : ∀ {b : Addr} {u : HO}, (if b = a then some (HO.frz { cls := .type "list", data := .seq vs.toArray } (.lst (ns.map V.int))) else none) = some u → b = a ∧ u = HO.frz { cls := .type "list", data := .seq vs.toArray } (.lst (ns.map V.int)) := fun {b u} z => by
      by_cases q : b = a
      · rw [if_pos q] at z
        exact ⟨q, (Option.some.inj z).symm⟩
      · rw [if_neg q] at z
        cases z
    refine from_heap (H := fun b => if b = a then some (HO.frz { cls := .type "list", data := .seq vs.toArray } (.lst (ns.map V.int))) else none) KX hns hb hbb hlim hg ha hr F hbind ask (fun b => ?_)
      (.inl ⟨_, if_pos rfl⟩) (fun b u z => ?_) (fun b u z => ⟨(at_a z).1, hk⟩)
    · by_cases q : b = a
      · exact .inr ⟨_, _, if_pos q⟩
      · exact .inl (if_neg q)
    · obtain ⟨rfl, rfl⟩ := at_a z
      exact ⟨ha, by rw [List.length_map]; exact hl, vs, _, rv, ha⟩
/-- one argument, a list of whole numbers: what is asked of it, and where it lies -/
theorem calls_of {r : OpenSpec} {most : Nat} {lo hi : Int} (har : r.args = [.list 0 most (.int lo hi)]) {P : Params} {h : Heap} {args : List WData} {vals : List Value} (hpre : r.pre args = true) (hwl : WellAll P h vals args) :
    ∃ a vs ns, vals = [Value.ref a] ∧ args = [ofPy (PyData.list (ns.map PyData.int))] ∧ h.get? a = some { cls := .type "list", data := .seq vs.toArray } ∧ IntsAre vs ns := by
  have hsh := os_shapes args hpre
  rw [har] at hsh
  have hsh : WShape.hasAll [] args [.list .int] = true := hsh
  obtain ⟨d, rr, rfl, h1, h2⟩ := hasAllW_cons hsh
  obtain rfl := hasAllW_nil h2
  obtain ⟨xs, rfl, h3⟩ := hasW_list h1
  obtain ⟨ns, rfl⟩ := items_int h3
  have e : ofPy (PyData.list (ns.map PyData.int)) = .list (ns.map WData.int) := by
    rw [← ofPys_ints]
    rfl
  cases hwl with
  | cons w1 w2 =>
    cases w2
    cases w1 with
    | list ho hall => exact ⟨_, _, ns, rfl, by rw [e], ho, Att.ints_of_wellAll ns _ hall⟩
/-- THE HEAD -/
theorem walkS {k : Nat} {q : Program} {loose : List Str} {XP : (Str → Option Value) → Heap → Prop} {YP : World → Heap → Prop} {d : DefRec} {K : Params → Frag} {x : Str}
    (hdf : d.params.defaults = []) (hr : Room k callerA) (hY : ∀ (w : World) (h : Heap), YP w h → (K w.params).In h)
    (F : ∀ (w : World) (mg : Str → Option Value) (fa : Addr) (h : Heap), (K w.params).In h → h.Ns mainGlobals mg → mg d.name = some (.ref fa) →
      ∃ fd : FuncData, (∀ (s : Shared) (u : Value), BindsTo s fd ⟨[u], []⟩ [(x, u)]) ∧ ∀ base : Heap, FnOk PySem.Challenge.pw_blameline_s01_answers w (K w.params) mg base CX0 k fa fd [x] (BlD.spA (K w.params))) :
    WalkOS q loose XP YP PySem.Challenge.rw_blameline_s01_answers d [] (fun f vs => PySem.call f vs) := by
  intro w s₀ s₁ mg mb G Y fa o pm cd doc dV kV ho hd hcd hD hmg hg args vals as hpre hlay hrd hwl hlo
  obtain ⟨a, vs, ns, rfl, rfl, hobj, hints⟩ := calls_of (r := PySem.Challenge.rw_blameline_s01_answers) rfl hpre hwl
  obtain ⟨dec, _, most, _⟩ := os_dec_ints (os_pre_isSome hpre)
  have ask : PyRd05.answers_asked ns = true := os_pre_asked hpre dec
  have KX := hY w _ Y
  obtain ⟨fd, hb, hF⟩ := F w mg fa _ KX G.T.g hmg
  have sz : sizeLine = 16777216 := sizeLine_eq
  refine enter_call (codeAny_mono (told_call KX G.T.g G.T.b G.T.builtins G.T.nolimit hg hobj hints (by omega) hr hF hb ask) fun r s' hq => ?_)
  obtain ⟨⟨E, its, n, rfl, e, hI⟩, h2, h3, h4⟩ := hq
  refine ⟨.inl ⟨.ref E, _, _, rfl, osNone, readsW_ints e hI, osPost (os_post dec ?_), fun z => absurd z Bool.false_ne_true⟩, h2, h3, h4⟩
  exact os_same_ints rfl
end BlH
set_option Elab.async false
set_option linter.all false
set_option maxRecDepth 100000
set_option maxHeartbeats 4000000
namespace BlD
open PySem L2 BlM
/-! what the top has written -/
theorem all_mk {w : World} {K : PySem.W.Frag} {h : Heap} {mg : Str → Option Value} {fa CG CS CP CR fHas fWo fTru fGi fSi fNx fPi fBg fAl fAg fAs fSl fWd fFe fWg fBs fHl fHn fMs fIs fAn fCt fBb fRi fHm fTk fTr fG fS fL fC fA : Addr} (X : K.In h) (G : h.Ns mainGlobals mg) (hfa : mg "answers" = some (.ref fa))
    {odHas anHas odWo anWo odTru anTru odGi anGi odSi anSi odNx anNx odPi anPi odBg anBg odAl anAl odAg anAg odAs anAs odSl anSl odWd anWd odFe anFe odWg anWg odBs anBs odHl anHl odHn anHn odMs anMs odIs anIs odAn anAn odCt anCt odBb anBb odRi anRi odHm anHm odTk anTk odTr anTr odG anG odS anS odL anL odC anC odA anA : Option Addr} {slHas slWo slTru slGi slSi slNx slPi slBg slAl slAg slAs slSl slWd slFe slWg slBs slHl slHn slMs slIs slAn slCt slBb slRi slHm slTk slTr slG slS slL slC slA : Array (Option Value)}
    {ocHas kVHas dcHas pmHas cdHas ctHas ocWo kVWo dcWo pmWo cdWo ctWo ocTru kVTru dcTru pmTru cdTru ctTru ocGi kVGi dcGi pmGi cdGi ctGi ocSi kVSi dcSi pmSi cdSi ctSi ocNx kVNx dcNx pmNx cdNx ctNx ocPi kVPi dcPi pmPi cdPi ctPi ocBg kVBg dcBg pmBg cdBg ctBg ocAl kVAl dcAl pmAl cdAl ctAl ocAg kVAg dcAg pmAg cdAg ctAg ocAs kVAs dcAs pmAs cdAs ctAs ocSl kVSl dcSl pmSl cdSl ctSl ocWd kVWd dcWd pmWd cdWd ctWd ocFe kVFe dcFe pmFe cdFe ctFe ocWg kVWg dcWg pmWg cdWg ctWg ocBs kVBs dcBs pmBs cdBs ctBs ocHl kVHl dcHl pmHl cdHl ctHl ocHn kVHn dcHn pmHn cdHn ctHn ocMs kVMs dcMs pmMs cdMs ctMs ocIs kVIs dcIs pmIs cdIs ctIs ocAn kVAn dcAn pmAn cdAn ctAn ocCt kVCt dcCt pmCt cdCt ctCt ocBb kVBb dcBb pmBb cdBb ctBb ocRi kVRi dcRi pmRi cdRi ctRi ocHm kVHm dcHm pmHm cdHm ctHm ocTk kVTk dcTk pmTk cdTk ctTk ocTr kVTr dcTr pmTr cdTr ctTr ocG kVG dcG pmG cdG ctG ocS kVS dcS pmS cdS ctS ocL kVL dcL pmL cdL ctL ocC kVC dcC pmC cdC ctC ocA kVA dcA pmA cdA ctA : Value} {t_MOST_LETTERS t_MOST_LINES t_MOST_GIVEN_SIGNS t_MOST_SHOWN_SIGNS t_ALL_TRUE t_REFUSED t_FULL t_CLASH t_BEGIN t_LETTER t_GIVEN t_STEP t_LINE t_WIDTH t_EMPTY t_WRONG t_BLAME : Tok}
    (ncG : PySem.W.nsIn K mainGlobals "Given" = some (some (.ref CG)))
    (ncS : PySem.W.nsIn K mainGlobals "Step" = some (some (.ref CS)))
    (ncP : PySem.W.nsIn K mainGlobals "Proof" = some (some (.ref CP)))
    (ncR : PySem.W.nsIn K mainGlobals "Reader" = some (some (.ref CR)))
    (aHas : PySem.W.nsIn K mainGlobals "has_both_signs" = some (some (.ref fHas)))
    (lHas : K.lookup fHas = some ⟨ocHas, odHas, .func (PySem.W.fnOf "has_both_signs" "has_both_signs" (defArgs sHas) (defBody sHas) (defScope sHas) .none kVHas dcHas pmHas anHas cdHas ctHas), slHas⟩)
    (cHas : PySem.W.codeIn K cdHas "has_both_signs" = true)
    (kHas : PySem.W.keepIn K (.ref fHas) = true)
    (aWo : PySem.W.nsIn K mainGlobals "without" = some (some (.ref fWo)))
    (lWo : K.lookup fWo = some ⟨ocWo, odWo, .func (PySem.W.fnOf "without" "without" (defArgs sWo) (defBody sWo) (defScope sWo) .none kVWo dcWo pmWo anWo cdWo ctWo), slWo⟩)
    (cWo : PySem.W.codeIn K cdWo "without" = true)
    (kWo : PySem.W.keepIn K (.ref fWo) = true)
    (aTru : PySem.W.nsIn K mainGlobals "is_true" = some (some (.ref fTru)))
    (lTru : K.lookup fTru = some ⟨ocTru, odTru, .func (PySem.W.fnOf "is_true" "is_true" (defArgs sTru) (defBody sTru) (defScope sTru) .none kVTru dcTru pmTru anTru cdTru ctTru), slTru⟩)
    (cTru : PySem.W.codeIn K cdTru "is_true" = true)
    (kTru : PySem.W.keepIn K (.ref fTru) = true)
    (aGi : PySem.W.findIn K (.ref CG) "__init__" = some (some (.ref fGi)))
    (iGi : PySem.W.isFn K (.ref fGi) = true)
    (lGi : K.lookup fGi = some ⟨ocGi, odGi, .func (PySem.W.fnOf "__init__" "Given.__init__" (defArgs sGi) (defBody sGi) (defScope sGi) .none kVGi dcGi pmGi anGi cdGi ctGi), slGi⟩)
    (cGi : PySem.W.codeIn K cdGi "Given.__init__" = true)
    (kGi : PySem.W.keepIn K (.ref fGi) = true)
    (aSi : PySem.W.findIn K (.ref CS) "__init__" = some (some (.ref fSi)))
    (iSi : PySem.W.isFn K (.ref fSi) = true)
    (lSi : K.lookup fSi = some ⟨ocSi, odSi, .func (PySem.W.fnOf "__init__" "Step.__init__" (defArgs sSi) (defBody sSi) (defScope sSi) .none kVSi dcSi pmSi anSi cdSi ctSi), slSi⟩)
    (cSi : PySem.W.codeIn K cdSi "Step.__init__" = true)
    (kSi : PySem.W.keepIn K (.ref fSi) = true)
    (aNx : PySem.W.findIn K (.ref CS) "next_line" = some (some (.ref fNx)))
    (iNx : PySem.W.isFn K (.ref fNx) = true)
    (lNx : K.lookup fNx = some ⟨ocNx, odNx, .func (PySem.W.fnOf "next_line" "Step.next_line" (defArgs sNx) (defBody sNx) (defScope sNx) .none kVNx dcNx pmNx anNx cdNx ctNx), slNx⟩)
    (cNx : PySem.W.codeIn K cdNx "Step.next_line" = true)
    (kNx : PySem.W.keepIn K (.ref fNx) = true)
    (aPi : PySem.W.findIn K (.ref CP) "__init__" = some (some (.ref fPi)))
    (iPi : PySem.W.isFn K (.ref fPi) = true)
    (lPi : K.lookup fPi = some ⟨ocPi, odPi, .func (PySem.W.fnOf "__init__" "Proof.__init__" (defArgs sPi) (defBody sPi) (defScope sPi) .none kVPi dcPi pmPi anPi cdPi ctPi), slPi⟩)
    (cPi : PySem.W.codeIn K cdPi "Proof.__init__" = true)
    (kPi : PySem.W.keepIn K (.ref fPi) = true)
    (aBg : PySem.W.findIn K (.ref CP) "begin" = some (some (.ref fBg)))
    (iBg : PySem.W.isFn K (.ref fBg) = true)
    (lBg : K.lookup fBg = some ⟨ocBg, odBg, .func (PySem.W.fnOf "begin" "Proof.begin" (defArgs sBg) (defBody sBg) (defScope sBg) .none kVBg dcBg pmBg anBg cdBg ctBg), slBg⟩)
    (cBg : PySem.W.codeIn K cdBg "Proof.begin" = true)
    (kBg : PySem.W.keepIn K (.ref fBg) = true)
    (aAl : PySem.W.findIn K (.ref CP) "add_letter" = some (some (.ref fAl)))
    (iAl : PySem.W.isFn K (.ref fAl) = true)
    (lAl : K.lookup fAl = some ⟨ocAl, odAl, .func (PySem.W.fnOf "add_letter" "Proof.add_letter" (defArgs sAl) (defBody sAl) (defScope sAl) .none kVAl dcAl pmAl anAl cdAl ctAl), slAl⟩)
    (cAl : PySem.W.codeIn K cdAl "Proof.add_letter" = true)
    (kAl : PySem.W.keepIn K (.ref fAl) = true)
    (aAg : PySem.W.findIn K (.ref CP) "add_given" = some (some (.ref fAg)))
    (iAg : PySem.W.isFn K (.ref fAg) = true)
    (lAg : K.lookup fAg = some ⟨ocAg, odAg, .func (PySem.W.fnOf "add_given" "Proof.add_given" (defArgs sAg) (defBody sAg) (defScope sAg) .none kVAg dcAg pmAg anAg cdAg ctAg), slAg⟩)
    (cAg : PySem.W.codeIn K cdAg "Proof.add_given" = true)
    (kAg : PySem.W.keepIn K (.ref fAg) = true)
    (aAs : PySem.W.findIn K (.ref CP) "add_step" = some (some (.ref fAs)))
    (iAs : PySem.W.isFn K (.ref fAs) = true)
    (lAs : K.lookup fAs = some ⟨ocAs, odAs, .func (PySem.W.fnOf "add_step" "Proof.add_step" (defArgs sAs) (defBody sAs) (defScope sAs) .none kVAs dcAs pmAs anAs cdAs ctAs), slAs⟩)
    (cAs : PySem.W.codeIn K cdAs "Proof.add_step" = true)
    (kAs : PySem.W.keepIn K (.ref fAs) = true)
    (aSl : PySem.W.findIn K (.ref CP) "show_line" = some (some (.ref fSl)))
    (iSl : PySem.W.isFn K (.ref fSl) = true)
    (lSl : K.lookup fSl = some ⟨ocSl, odSl, .func (PySem.W.fnOf "show_line" "Proof.show_line" (defArgs sSl) (defBody sSl) (defScope sSl) .none kVSl dcSl pmSl anSl cdSl ctSl), slSl⟩)
    (cSl : PySem.W.codeIn K cdSl "Proof.show_line" = true)
    (kSl : PySem.W.keepIn K (.ref fSl) = true)
    (aWd : PySem.W.findIn K (.ref CP) "width" = some (some (.ref fWd)))
    (iWd : PySem.W.isFn K (.ref fWd) = true)
    (lWd : K.lookup fWd = some ⟨ocWd, odWd, .func (PySem.W.fnOf "width" "Proof.width" (defArgs sWd) (defBody sWd) (defScope sWd) .none kVWd dcWd pmWd anWd cdWd ctWd), slWd⟩)
    (cWd : PySem.W.codeIn K cdWd "Proof.width" = true)
    (kWd : PySem.W.keepIn K (.ref fWd) = true)
    (aFe : PySem.W.findIn K (.ref CP) "first_empty" = some (some (.ref fFe)))
    (iFe : PySem.W.isFn K (.ref fFe) = true)
    (lFe : K.lookup fFe = some ⟨ocFe, odFe, .func (PySem.W.fnOf "first_empty" "Proof.first_empty" (defArgs sFe) (defBody sFe) (defScope sFe) .none kVFe dcFe pmFe anFe cdFe ctFe), slFe⟩)
    (cFe : PySem.W.codeIn K cdFe "Proof.first_empty" = true)
    (kFe : PySem.W.keepIn K (.ref fFe) = true)
    (aWg : PySem.W.findIn K (.ref CP) "wrong_given" = some (some (.ref fWg)))
    (iWg : PySem.W.isFn K (.ref fWg) = true)
    (lWg : K.lookup fWg = some ⟨ocWg, odWg, .func (PySem.W.fnOf "wrong_given" "Proof.wrong_given" (defArgs sWg) (defBody sWg) (defScope sWg) .none kVWg dcWg pmWg anWg cdWg ctWg), slWg⟩)
    (cWg : PySem.W.codeIn K cdWg "Proof.wrong_given" = true)
    (kWg : PySem.W.keepIn K (.ref fWg) = true)
    (aBs : PySem.W.findIn K (.ref CP) "blamed_side" = some (some (.ref fBs)))
    (iBs : PySem.W.isFn K (.ref fBs) = true)
    (lBs : K.lookup fBs = some ⟨ocBs, odBs, .func (PySem.W.fnOf "blamed_side" "Proof.blamed_side" (defArgs sBs) (defBody sBs) (defScope sBs) .none kVBs dcBs pmBs anBs cdBs ctBs), slBs⟩)
    (cBs : PySem.W.codeIn K cdBs "Proof.blamed_side" = true)
    (kBs : PySem.W.keepIn K (.ref fBs) = true)
    (aHl : PySem.W.findIn K (.ref CP) "has_letter" = some (some (.ref fHl)))
    (iHl : PySem.W.isFn K (.ref fHl) = true)
    (lHl : K.lookup fHl = some ⟨ocHl, odHl, .func (PySem.W.fnOf "has_letter" "Proof.has_letter" (defArgs sHl) (defBody sHl) (defScope sHl) .none kVHl dcHl pmHl anHl cdHl ctHl), slHl⟩)
    (cHl : PySem.W.codeIn K cdHl "Proof.has_letter" = true)
    (kHl : PySem.W.keepIn K (.ref fHl) = true)
    (aHn : PySem.W.findIn K (.ref CP) "has_line" = some (some (.ref fHn)))
    (iHn : PySem.W.isFn K (.ref fHn) = true)
    (lHn : K.lookup fHn = some ⟨ocHn, odHn, .func (PySem.W.fnOf "has_line" "Proof.has_line" (defArgs sHn) (defBody sHn) (defScope sHn) .none kVHn dcHn pmHn anHn cdHn ctHn), slHn⟩)
    (cHn : PySem.W.codeIn K cdHn "Proof.has_line" = true)
    (kHn : PySem.W.keepIn K (.ref fHn) = true)
    (aMs : PySem.W.findIn K (.ref CP) "may_say" = some (some (.ref fMs)))
    (iMs : PySem.W.isFn K (.ref fMs) = true)
    (lMs : K.lookup fMs = some ⟨ocMs, odMs, .func (PySem.W.fnOf "may_say" "Proof.may_say" (defArgs sMs) (defBody sMs) (defScope sMs) .none kVMs dcMs pmMs anMs cdMs ctMs), slMs⟩)
    (cMs : PySem.W.codeIn K cdMs "Proof.may_say" = true)
    (kMs : PySem.W.keepIn K (.ref fMs) = true)
    (aIs : PySem.W.findIn K (.ref CP) "is_step" = some (some (.ref fIs)))
    (iIs : PySem.W.isFn K (.ref fIs) = true)
    (lIs : K.lookup fIs = some ⟨ocIs, odIs, .func (PySem.W.fnOf "is_step" "Proof.is_step" (defArgs sIs) (defBody sIs) (defScope sIs) .none kVIs dcIs pmIs anIs cdIs ctIs), slIs⟩)
    (cIs : PySem.W.codeIn K cdIs "Proof.is_step" = true)
    (kIs : PySem.W.keepIn K (.ref fIs) = true)
    (aAn : PySem.W.findIn K (.ref CP) "add_line" = some (some (.ref fAn)))
    (iAn : PySem.W.isFn K (.ref fAn) = true)
    (lAn : K.lookup fAn = some ⟨ocAn, odAn, .func (PySem.W.fnOf "add_line" "Proof.add_line" (defArgs sAn) (defBody sAn) (defScope sAn) .none kVAn dcAn pmAn anAn cdAn ctAn), slAn⟩)
    (cAn : PySem.W.codeIn K cdAn "Proof.add_line" = true)
    (kAn : PySem.W.keepIn K (.ref fAn) = true)
    (aCt : PySem.W.findIn K (.ref CP) "can_tell" = some (some (.ref fCt)))
    (iCt : PySem.W.isFn K (.ref fCt) = true)
    (lCt : K.lookup fCt = some ⟨ocCt, odCt, .func (PySem.W.fnOf "can_tell" "Proof.can_tell" (defArgs sCt) (defBody sCt) (defScope sCt) .none kVCt dcCt pmCt anCt cdCt ctCt), slCt⟩)
    (cCt : PySem.W.codeIn K cdCt "Proof.can_tell" = true)
    (kCt : PySem.W.keepIn K (.ref fCt) = true)
    (aBb : PySem.W.findIn K (.ref CP) "blamed_by" = some (some (.ref fBb)))
    (iBb : PySem.W.isFn K (.ref fBb) = true)
    (lBb : K.lookup fBb = some ⟨ocBb, odBb, .func (PySem.W.fnOf "blamed_by" "Proof.blamed_by" (defArgs sBb) (defBody sBb) (defScope sBb) .none kVBb dcBb pmBb anBb cdBb ctBb), slBb⟩)
    (cBb : PySem.W.codeIn K cdBb "Proof.blamed_by" = true)
    (kBb : PySem.W.keepIn K (.ref fBb) = true)
    (aRi : PySem.W.findIn K (.ref CR) "__init__" = some (some (.ref fRi)))
    (iRi : PySem.W.isFn K (.ref fRi) = true)
    (lRi : K.lookup fRi = some ⟨ocRi, odRi, .func (PySem.W.fnOf "__init__" "Reader.__init__" (defArgs sRi) (defBody sRi) (defScope sRi) .none kVRi dcRi pmRi anRi cdRi ctRi), slRi⟩)
    (cRi : PySem.W.codeIn K cdRi "Reader.__init__" = true)
    (kRi : PySem.W.keepIn K (.ref fRi) = true)
    (aHm : PySem.W.findIn K (.ref CR) "has_more" = some (some (.ref fHm)))
    (iHm : PySem.W.isFn K (.ref fHm) = true)
    (lHm : K.lookup fHm = some ⟨ocHm, odHm, .func (PySem.W.fnOf "has_more" "Reader.has_more" (defArgs sHm) (defBody sHm) (defScope sHm) .none kVHm dcHm pmHm anHm cdHm ctHm), slHm⟩)
    (cHm : PySem.W.codeIn K cdHm "Reader.has_more" = true)
    (kHm : PySem.W.keepIn K (.ref fHm) = true)
    (aTk : PySem.W.findIn K (.ref CR) "take" = some (some (.ref fTk)))
    (iTk : PySem.W.isFn K (.ref fTk) = true)
    (lTk : K.lookup fTk = some ⟨ocTk, odTk, .func (PySem.W.fnOf "take" "Reader.take" (defArgs sTk) (defBody sTk) (defScope sTk) .none kVTk dcTk pmTk anTk cdTk ctTk), slTk⟩)
    (cTk : PySem.W.codeIn K cdTk "Reader.take" = true)
    (kTk : PySem.W.keepIn K (.ref fTk) = true)
    (aTr : PySem.W.findIn K (.ref CR) "take_row" = some (some (.ref fTr)))
    (iTr : PySem.W.isFn K (.ref fTr) = true)
    (lTr : K.lookup fTr = some ⟨ocTr, odTr, .func (PySem.W.fnOf "take_row" "Reader.take_row" (defArgs sTr) (defBody sTr) (defScope sTr) .none kVTr dcTr pmTr anTr cdTr ctTr), slTr⟩)
    (cTr : PySem.W.codeIn K cdTr "Reader.take_row" = true)
    (kTr : PySem.W.keepIn K (.ref fTr) = true)
    (aG : PySem.W.nsIn K mainGlobals "answer_given" = some (some (.ref fG)))
    (lG : K.lookup fG = some ⟨ocG, odG, .func (PySem.W.fnOf "answer_given" "answer_given" (defArgs sG) (defBody sG) (defScope sG) .none kVG dcG pmG anG cdG ctG), slG⟩)
    (cG : PySem.W.codeIn K cdG "answer_given" = true)
    (kG : PySem.W.keepIn K (.ref fG) = true)
    (aS : PySem.W.nsIn K mainGlobals "answer_step" = some (some (.ref fS)))
    (lS : K.lookup fS = some ⟨ocS, odS, .func (PySem.W.fnOf "answer_step" "answer_step" (defArgs sS) (defBody sS) (defScope sS) .none kVS dcS pmS anS cdS ctS), slS⟩)
    (cS : PySem.W.codeIn K cdS "answer_step" = true)
    (kS : PySem.W.keepIn K (.ref fS) = true)
    (aL : PySem.W.nsIn K mainGlobals "answer_line" = some (some (.ref fL)))
    (lL : K.lookup fL = some ⟨ocL, odL, .func (PySem.W.fnOf "answer_line" "answer_line" (defArgs sL) (defBody sL) (defScope sL) .none kVL dcL pmL anL cdL ctL), slL⟩)
    (cL : PySem.W.codeIn K cdL "answer_line" = true)
    (kL : PySem.W.keepIn K (.ref fL) = true)
    (aC : PySem.W.nsIn K mainGlobals "answer_call" = some (some (.ref fC)))
    (lC : K.lookup fC = some ⟨ocC, odC, .func (PySem.W.fnOf "answer_call" "answer_call" (defArgs sC) (defBody sC) (defScope sC) .none kVC dcC pmC anC cdC ctC), slC⟩)
    (cC : PySem.W.codeIn K cdC "answer_call" = true)
    (kC : PySem.W.keepIn K (.ref fC) = true)
    (aA : PySem.W.nsIn K mainGlobals "answers" = some (some (.ref fA)))
    (lA : K.lookup fA = some ⟨ocA, odA, .func (PySem.W.fnOf "answers" "answers" (defArgs sA) (defBody sA) (defScope sA) .none kVA dcA pmA anA cdA ctA), slA⟩)
    (cA : PySem.W.codeIn K cdA "answers" = true)
    (kA : PySem.W.keepIn K (.ref fA) = true)
    (pgG : PySem.W.plainGet K CG Str.empty = true)
    (hdG : PySem.W.hasDictIn K CG = true)
    (poG : PySem.W.plainOver K CG = true)
    (saG : PySem.W.findIn K (.ref CG) "__setattr__" = some (some (.builtin "object.__setattr__")))
    (mkG : PySem.W.makesIn K CG = true)
    (kcG : PySem.W.keepIn K (.ref CG) = true)
    (nG_side : PySem.W.findIn K (.ref CG) "side" = some none)
    (nG_signs : PySem.W.findIn K (.ref CG) "signs" = some none)
    (pgS : PySem.W.plainGet K CS Str.empty = true)
    (hdS : PySem.W.hasDictIn K CS = true)
    (poS : PySem.W.plainOver K CS = true)
    (saS : PySem.W.findIn K (.ref CS) "__setattr__" = some (some (.builtin "object.__setattr__")))
    (mkS : PySem.W.makesIn K CS = true)
    (kcS : PySem.W.keepIn K (.ref CS) = true)
    (nS_i : PySem.W.findIn K (.ref CS) "i" = some none)
    (nS_j : PySem.W.findIn K (.ref CS) "j" = some none)
    (nS_x : PySem.W.findIn K (.ref CS) "x" = some none)
    (nS_signs : PySem.W.findIn K (.ref CS) "signs" = some none)
    (pgP : PySem.W.plainGet K CP Str.empty = true)
    (hdP : PySem.W.hasDictIn K CP = true)
    (poP : PySem.W.plainOver K CP = true)
    (saP : PySem.W.findIn K (.ref CP) "__setattr__" = some (some (.builtin "object.__setattr__")))
    (mkP : PySem.W.makesIn K CP = true)
    (kcP : PySem.W.keepIn K (.ref CP) = true)
    (nP_sides : PySem.W.findIn K (.ref CP) "sides" = some none)
    (nP_lines : PySem.W.findIn K (.ref CP) "lines" = some none)
    (pgR : PySem.W.plainGet K CR Str.empty = true)
    (hdR : PySem.W.hasDictIn K CR = true)
    (poR : PySem.W.plainOver K CR = true)
    (saR : PySem.W.findIn K (.ref CR) "__setattr__" = some (some (.builtin "object.__setattr__")))
    (mkR : PySem.W.makesIn K CR = true)
    (kcR : PySem.W.keepIn K (.ref CR) = true)
    (nR_calls : PySem.W.findIn K (.ref CR) "calls" = some none)
    (nR_place : PySem.W.findIn K (.ref CR) "place" = some none)
    (haG : PySem.W.findIn K (.ref CG) "__class__" = some (some (.builtin "object.__class__")))
    (hmG : PySem.W.mroIn K CG (.type "object") = some true)
    (haS : PySem.W.findIn K (.ref CS) "__class__" = some (some (.builtin "object.__class__")))
    (hmS : PySem.W.mroIn K CS (.type "object") = some true)
    (hn : PySem.W.specialIn K (.builtin "object.__class__") "__get__" = some (some (.builtin "getset_descriptor.__get__")))
    (htk : PySem.W.takesIn K (.builtin "object.__class__") = some true)
    (kiGG : PySem.W.kitOne K (.ref CG) (.ref CG) = some true)
    (kiGS : PySem.W.kitOne K (.ref CG) (.ref CS) = some false)
    (kiSG : PySem.W.kitOne K (.ref CS) (.ref CG) = some false)
    (kiSS : PySem.W.kitOne K (.ref CS) (.ref CS) = some true)
    (b_any : PySem.W.nsIn K mainGlobals "any" = some none)
    (b_all : PySem.W.nsIn K mainGlobals "all" = some none)
    (b_sorted : PySem.W.nsIn K mainGlobals "sorted" = some none)
    (b_set : PySem.W.nsIn K mainGlobals "set" = some none)
    (b_len : PySem.W.nsIn K mainGlobals "len" = some none)
    (b_max : PySem.W.nsIn K mainGlobals "max" = some none)
    (b_min : PySem.W.nsIn K mainGlobals "min" = some none)
    (b_range : PySem.W.nsIn K mainGlobals "range" = some none)
    (b_isinstance : PySem.W.nsIn K mainGlobals "isinstance" = some none)
    (k_MOST_LETTERS : PySem.W.nsIn K mainGlobals "MOST_LETTERS" = some (some (.int 24 t_MOST_LETTERS)))
    (k_MOST_LINES : PySem.W.nsIn K mainGlobals "MOST_LINES" = some (some (.int 256 t_MOST_LINES)))
    (k_MOST_GIVEN_SIGNS : PySem.W.nsIn K mainGlobals "MOST_GIVEN_SIGNS" = some (some (.int 48 t_MOST_GIVEN_SIGNS)))
    (k_MOST_SHOWN_SIGNS : PySem.W.nsIn K mainGlobals "MOST_SHOWN_SIGNS" = some (some (.int 24 t_MOST_SHOWN_SIGNS)))
    (k_ALL_TRUE : PySem.W.nsIn K mainGlobals "ALL_TRUE" = some (some (.int 16777215 t_ALL_TRUE)))
    (k_REFUSED : PySem.W.nsIn K mainGlobals "REFUSED" = some (some (.int (-1) t_REFUSED)))
    (k_FULL : PySem.W.nsIn K mainGlobals "FULL" = some (some (.int (-2) t_FULL)))
    (k_CLASH : PySem.W.nsIn K mainGlobals "CLASH" = some (some (.int (-3) t_CLASH)))
    (k_BEGIN : PySem.W.nsIn K mainGlobals "BEGIN" = some (some (.int 0 t_BEGIN)))
    (k_LETTER : PySem.W.nsIn K mainGlobals "LETTER" = some (some (.int 1 t_LETTER)))
    (k_GIVEN : PySem.W.nsIn K mainGlobals "GIVEN" = some (some (.int 2 t_GIVEN)))
    (k_STEP : PySem.W.nsIn K mainGlobals "STEP" = some (some (.int 3 t_STEP)))
    (k_LINE : PySem.W.nsIn K mainGlobals "LINE" = some (some (.int 4 t_LINE)))
    (k_WIDTH : PySem.W.nsIn K mainGlobals "WIDTH" = some (some (.int 5 t_WIDTH)))
    (k_EMPTY : PySem.W.nsIn K mainGlobals "EMPTY" = some (some (.int 6 t_EMPTY)))
    (k_WRONG : PySem.W.nsIn K mainGlobals "WRONG" = some (some (.int 7 t_WRONG)))
    (k_BLAME : PySem.W.nsIn K mainGlobals "BLAME" = some (some (.int 8 t_BLAME)))
    : ∃ fd : FuncData, (∀ (s : Shared) (v : Value), BindsTo s fd ⟨[v], []⟩ [("calls", v)]) ∧ ∀ base : Heap, FnOk PySem.Challenge.pw_blameline_s01_answers w K mg base CX0 6 fa fd ["calls"] (spA K) := by
  have e := hfa.symm.trans (PySem.W.mg_of X G aA)
  cases e
  have FHas := fun_mk (st := sHas) lHas cHas kHas
  have BHas := FHas.binds (ps := ["signs"]) fun _ _ _ _ _ _ us hl => match us, hl with | [_], _ => rfl
  have FWo := fun_mk (st := sWo) lWo cWo kWo
  have BWo := FWo.binds (ps := ["signs", "left_out"]) fun _ _ _ _ _ _ us hl => match us, hl with | [_, _], _ => rfl
  have FTru := fun_mk (st := sTru) lTru cTru kTru
  have BTru := FTru.binds (ps := ["x", "v"]) fun _ _ _ _ _ _ us hl => match us, hl with | [_, _], _ => rfl
  have FGi := fun_mk (st := sGi) lGi cGi kGi
  have BGi := FGi.binds (ps := ["self", "side", "signs"]) fun _ _ _ _ _ _ us hl => match us, hl with | [_, _, _], _ => rfl
  have FSi := fun_mk (st := sSi) lSi cSi kSi
  have BSi := FSi.binds (ps := ["self", "i", "j", "x", "signs"]) fun _ _ _ _ _ _ us hl => match us, hl with | [_, _, _, _, _], _ => rfl
  have FNx := fun_mk (st := sNx) lNx cNx kNx
  have BNx := FNx.binds (ps := ["self", "v"]) fun _ _ _ _ _ _ us hl => match us, hl with | [_, _], _ => rfl
  have FPi := fun_mk (st := sPi) lPi cPi kPi
  have BPi := FPi.binds (ps := ["self"]) fun _ _ _ _ _ _ us hl => match us, hl with | [_], _ => rfl
  have FBg := fun_mk (st := sBg) lBg cBg kBg
  have BBg := FBg.binds (ps := ["self"]) fun _ _ _ _ _ _ us hl => match us, hl with | [_], _ => rfl
  have FAl := fun_mk (st := sAl) lAl cAl kAl
  have BAl := FAl.binds (ps := ["self", "side"]) fun _ _ _ _ _ _ us hl => match us, hl with | [_, _], _ => rfl
  have FAg := fun_mk (st := sAg) lAg cAg kAg
  have BAg := FAg.binds (ps := ["self", "side", "signs"]) fun _ _ _ _ _ _ us hl => match us, hl with | [_, _, _], _ => rfl
  have FAs := fun_mk (st := sAs) lAs cAs kAs
  have BAs := FAs.binds (ps := ["self", "i", "j", "x"]) fun _ _ _ _ _ _ us hl => match us, hl with | [_, _, _, _], _ => rfl
  have FSl := fun_mk (st := sSl) lSl cSl kSl
  have BSl := FSl.binds (ps := ["self", "k", "most"]) fun _ _ _ _ _ _ us hl => match us, hl with | [_, _, _], _ => rfl
  have FWd := fun_mk (st := sWd) lWd cWd kWd
  have BWd := FWd.binds (ps := ["self"]) fun _ _ _ _ _ _ us hl => match us, hl with | [_], _ => rfl
  have FFe := fun_mk (st := sFe) lFe cFe kFe
  have BFe := FFe.binds (ps := ["self"]) fun _ _ _ _ _ _ us hl => match us, hl with | [_], _ => rfl
  have FWg := fun_mk (st := sWg) lWg cWg kWg
  have BWg := FWg.binds (ps := ["self", "v"]) fun _ _ _ _ _ _ us hl => match us, hl with | [_, _], _ => rfl
  have FBs := fun_mk (st := sBs) lBs cBs kBs
  have BBs := FBs.binds (ps := ["self", "v"]) fun _ _ _ _ _ _ us hl => match us, hl with | [_, _], _ => rfl
  have FHl := fun_mk (st := sHl) lHl cHl kHl
  have BHl := FHl.binds (ps := ["self", "x"]) fun _ _ _ _ _ _ us hl => match us, hl with | [_, _], _ => rfl
  have FHn := fun_mk (st := sHn) lHn cHn kHn
  have BHn := FHn.binds (ps := ["self", "k"]) fun _ _ _ _ _ _ us hl => match us, hl with | [_, _], _ => rfl
  have FMs := fun_mk (st := sMs) lMs cMs kMs
  have BMs := FMs.binds (ps := ["self", "side", "sign"]) fun _ _ _ _ _ _ us hl => match us, hl with | [_, _, _], _ => rfl
  have FIs := fun_mk (st := sIs) lIs cIs kIs
  have BIs := FIs.binds (ps := ["self", "i", "j", "x"]) fun _ _ _ _ _ _ us hl => match us, hl with | [_, _, _, _], _ => rfl
  have FAn := fun_mk (st := sAn) lAn cAn kAn
  have BAn := FAn.binds (ps := ["self", "line"]) fun _ _ _ _ _ _ us hl => match us, hl with | [_, _], _ => rfl
  have FCt := fun_mk (st := sCt) lCt cCt kCt
  have BCt := FCt.binds (ps := ["self", "v"]) fun _ _ _ _ _ _ us hl => match us, hl with | [_, _], _ => rfl
  have FBb := fun_mk (st := sBb) lBb cBb kBb
  have BBb := FBb.binds (ps := ["self", "line", "blamed", "v"]) fun _ _ _ _ _ _ us hl => match us, hl with | [_, _, _, _], _ => rfl
  have FRi := fun_mk (st := sRi) lRi cRi kRi
  have BRi := FRi.binds (ps := ["self", "calls"]) fun _ _ _ _ _ _ us hl => match us, hl with | [_, _], _ => rfl
  have FHm := fun_mk (st := sHm) lHm cHm kHm
  have BHm := FHm.binds (ps := ["self"]) fun _ _ _ _ _ _ us hl => match us, hl with | [_], _ => rfl
  have FTk := fun_mk (st := sTk) lTk cTk kTk
  have BTk := FTk.binds (ps := ["self"]) fun _ _ _ _ _ _ us hl => match us, hl with | [_], _ => rfl
  have FTr := fun_mk (st := sTr) lTr cTr kTr
  have BTr := FTr.binds (ps := ["self"]) fun _ _ _ _ _ _ us hl => match us, hl with | [_], _ => rfl
  have FG := fun_mk (st := sG) lG cG kG
  have BG := FG.binds (ps := ["proof", "reader"]) fun _ _ _ _ _ _ us hl => match us, hl with | [_, _], _ => rfl
  have FS := fun_mk (st := sS) lS cS kS
  have BS := FS.binds (ps := ["proof", "reader"]) fun _ _ _ _ _ _ us hl => match us, hl with | [_, _], _ => rfl
  have FL := fun_mk (st := sL) lL cL kL
  have BL := FL.binds (ps := ["proof", "reader"]) fun _ _ _ _ _ _ us hl => match us, hl with | [_, _], _ => rfl
  have FC := fun_mk (st := sC) lC cC kC
  have BC := FC.binds (ps := ["proof", "reader"]) fun _ _ _ _ _ _ us hl => match us, hl with | [_, _], _ => rfl
  have FA := fun_mk (st := sA) lA cA kA
  have BA := FA.binds (ps := ["calls"]) fun _ _ _ _ _ _ us hl => match us, hl with | [_], _ => rfl
  have T : Txt K mg ⟨0, CG, CS, CP, CR, fHas, _, fWo, _, fTru, _, fGi, _, fSi, _, fNx, _, fPi, _, fBg, _, fAl, _, fAg, _, fAs, _, fSl, _, fWd, _, fFe, _, fWg, _, fBs, _, fHl, _, fHn, _, fMs, _, fIs, _, fAn, _, fCt, _, fBb, _, fRi, _, fHm, _, fTk, _, fTr, _, fG, _, fS, _, fL, _, fC, _, fa, _⟩ := ⟨⟨pgG, hdG, poG, saG⟩, PySem.W.mg_of X G ncG, ⟨mkG, aGi, iGi, kcG⟩, nG_side, nG_signs, ⟨pgS, hdS, poS, saS⟩, PySem.W.mg_of X G ncS, ⟨mkS, aSi, iSi, kcS⟩, nS_i, nS_j, nS_x, nS_signs, ⟨pgP, hdP, poP, saP⟩, PySem.W.mg_of X G ncP, ⟨mkP, aPi, iPi, kcP⟩, nP_sides, nP_lines, ⟨pgR, hdR, poR, saR⟩, PySem.W.mg_of X G ncR, ⟨mkR, aRi, iRi, kcR⟩, nR_calls, nR_place, ⟨haG, hn, htk, hmG⟩, ⟨haS, hn, htk, hmS⟩, kiGG, kiGS, kiSG, kiSS, PySem.W.mg_none_of X G b_any, PySem.W.mg_none_of X G b_all, PySem.W.mg_none_of X G b_sorted, PySem.W.mg_none_of X G b_set, PySem.W.mg_none_of X G b_len, PySem.W.mg_none_of X G b_max, PySem.W.mg_none_of X G b_min, PySem.W.mg_none_of X G b_range, PySem.W.mg_none_of X G b_isinstance, ⟨_, PySem.W.mg_of X G k_MOST_LETTERS⟩, ⟨_, PySem.W.mg_of X G k_MOST_LINES⟩, ⟨_, PySem.W.mg_of X G k_MOST_GIVEN_SIGNS⟩, ⟨_, PySem.W.mg_of X G k_MOST_SHOWN_SIGNS⟩, ⟨_, PySem.W.mg_of X G k_ALL_TRUE⟩, ⟨_, PySem.W.mg_of X G k_REFUSED⟩, ⟨_, PySem.W.mg_of X G k_FULL⟩, ⟨_, PySem.W.mg_of X G k_CLASH⟩, ⟨_, PySem.W.mg_of X G k_BEGIN⟩, ⟨_, PySem.W.mg_of X G k_LETTER⟩, ⟨_, PySem.W.mg_of X G k_GIVEN⟩, ⟨_, PySem.W.mg_of X G k_STEP⟩, ⟨_, PySem.W.mg_of X G k_LINE⟩, ⟨_, PySem.W.mg_of X G k_WIDTH⟩, ⟨_, PySem.W.mg_of X G k_EMPTY⟩, ⟨_, PySem.W.mg_of X G k_WRONG⟩, ⟨_, PySem.W.mg_of X G k_BLAME⟩, FHas, BHas, PySem.W.mg_of X G aHas, FWo, BWo, PySem.W.mg_of X G aWo, FTru, BTru, PySem.W.mg_of X G aTru, FGi, BGi, FSi, BSi, FNx, BNx, ⟨aNx, iNx, kNx⟩, FPi, BPi, FBg, BBg, ⟨aBg, iBg, kBg⟩, FAl, BAl, ⟨aAl, iAl, kAl⟩, FAg, BAg, ⟨aAg, iAg, kAg⟩, FAs, BAs, ⟨aAs, iAs, kAs⟩, FSl, BSl, ⟨aSl, iSl, kSl⟩, FWd, BWd, ⟨aWd, iWd, kWd⟩, FFe, BFe, ⟨aFe, iFe, kFe⟩, FWg, BWg, ⟨aWg, iWg, kWg⟩, FBs, BBs, ⟨aBs, iBs, kBs⟩, FHl, BHl, ⟨aHl, iHl, kHl⟩, FHn, BHn, ⟨aHn, iHn, kHn⟩, FMs, BMs, ⟨aMs, iMs, kMs⟩, FIs, BIs, ⟨aIs, iIs, kIs⟩, FAn, BAn, ⟨aAn, iAn, kAn⟩, FCt, BCt, ⟨aCt, iCt, kCt⟩, FBb, BBb, ⟨aBb, iBb, kBb⟩, FRi, BRi, FHm, BHm, ⟨aHm, iHm, kHm⟩, FTk, BTk, ⟨aTk, iTk, kTk⟩, FTr, BTr, ⟨aTr, iTr, kTr⟩, FG, BG, PySem.W.mg_of X G aG, FS, BS, PySem.W.mg_of X G aS, FL, BL, PySem.W.mg_of X G aL, FC, BC, PySem.W.mg_of X G aC, FA, BA, PySem.W.mg_of X G aA⟩
  exact ⟨_, fun s v => .of_eq rfl, fun base => ok_a T⟩
end BlD
open PySem PySem.W PyProof.Rows
set_option maxRecDepth 100000 in
set_option maxHeartbeats 0 in
theorem PySem.Challenge.cw_blameline_s01_answers_holds : PySem.Challenge.rw_blameline_s01_answers.Holds := by
  w_on; k_headS; (case hw => exact ⟨[.list []], by decide +kernel, by decide +kernel⟩)
  k_fillS
  refine BlH.walkS (k := 6) (x := "calls") rfl ⟨rfl, by decide, by decide⟩ (fun w h Y => PySem.W.kIn_of Y) ?F
  case F =>
    intro w mg fa h KX G hmg
    refine' BlD.all_mk KX G hmg ?ncG ?ncS ?ncP ?ncR ?aHas ?lHas ?cHas ?kHas ?aWo ?lWo ?cWo ?kWo ?aTru ?lTru ?cTru ?kTru ?aGi ?iGi ?lGi ?cGi ?kGi ?aSi ?iSi ?lSi ?cSi ?kSi ?aNx ?iNx ?lNx ?cNx ?kNx ?aPi ?iPi ?lPi ?cPi ?kPi ?aBg ?iBg ?lBg ?cBg ?kBg ?aAl ?iAl ?lAl ?cAl ?kAl ?aAg ?iAg ?lAg ?cAg ?kAg ?aAs ?iAs ?lAs ?cAs ?kAs ?aSl ?iSl ?lSl ?cSl ?kSl ?aWd ?iWd ?lWd ?cWd ?kWd ?aFe ?iFe ?lFe ?cFe ?kFe ?aWg ?iWg ?lWg ?cWg ?kWg ?aBs ?iBs ?lBs ?cBs ?kBs ?aHl ?iHl ?lHl ?cHl ?kHl ?aHn ?iHn ?lHn ?cHn ?kHn ?aMs ?iMs ?lMs ?cMs ?kMs ?aIs ?iIs ?lIs ?cIs ?kIs ?aAn ?iAn ?lAn ?cAn ?kAn ?aCt ?iCt ?lCt ?cCt ?kCt ?aBb ?iBb ?lBb ?cBb ?kBb ?aRi ?iRi ?lRi ?cRi ?kRi ?aHm ?iHm ?lHm ?cHm ?kHm ?aTk ?iTk ?lTk ?cTk ?kTk ?aTr ?iTr ?lTr ?cTr ?kTr ?aG ?lG ?cG ?kG ?aS ?lS ?cS ?kS ?aL ?lL ?cL ?kL ?aC ?lC ?cC ?kC ?aA ?lA ?cA ?kA ?pgG ?hdG ?poG ?saG ?mkG ?kcG ?nG_side ?nG_signs ?pgS ?hdS ?poS ?saS ?mkS ?kcS ?nS_i ?nS_j ?nS_x ?nS_signs ?pgP ?hdP ?poP ?saP ?mkP ?kcP ?nP_sides ?nP_lines ?pgR ?hdR ?poR ?saR ?mkR ?kcR ?nR_calls ?nR_place ?haG ?hmG ?haS ?hmS ?hn ?htk ?kiGG ?kiGS ?kiSG ?kiSS ?b_any ?b_all ?b_sorted ?b_set ?b_len ?b_max ?b_min ?b_range ?b_isinstance ?k_MOST_LETTERS ?k_MOST_LINES ?k_MOST_GIVEN_SIGNS ?k_MOST_SHOWN_SIGNS ?k_ALL_TRUE ?k_REFUSED ?k_FULL ?k_CLASH ?k_BEGIN ?k_LETTER ?k_GIVEN ?k_STEP ?k_LINE ?k_WIDTH ?k_EMPTY ?k_WRONG ?k_BLAME
    (case ncG => k_is)
    (case ncS => k_is)
    (case ncP => k_is)
    (case ncR => k_is)
    (case aHas => k_is)
    (case lHas => k_is)
    (case cHas => k_is)
    (case kHas => k_is)
    (case aWo => k_is)
    (case lWo => k_is)
    (case cWo => k_is)
    (case kWo => k_is)
    (case aTru => k_is)
    (case lTru => k_is)
    (case cTru => k_is)
    (case kTru => k_is)
    (case aGi => k_is)
    (case iGi => k_is)
    (case lGi => k_is)
    (case cGi => k_is)
    (case kGi => k_is)
    (case aSi => k_is)
    (case iSi => k_is)
    (case lSi => k_is)
    (case cSi => k_is)
    (case kSi => k_is)
    (case aNx => k_is)
    (case iNx => k_is)
    (case lNx => k_is)
    (case cNx => k_is)
    (case kNx => k_is)
    (case aPi => k_is)
    (case iPi => k_is)
    (case lPi => k_is)
    (case cPi => k_is)
    (case kPi => k_is)
    (case aBg => k_is)
    (case iBg => k_is)
    (case lBg => k_is)
    (case cBg => k_is)
    (case kBg => k_is)
    (case aAl => k_is)
    (case iAl => k_is)
    (case lAl => k_is)
    (case cAl => k_is)
    (case kAl => k_is)
    (case aAg => k_is)
    (case iAg => k_is)
    (case lAg => k_is)
    (case cAg => k_is)
    (case kAg => k_is)
    (case aAs => k_is)
    (case iAs => k_is)
    (case lAs => k_is)
    (case cAs => k_is)
    (case kAs => k_is)
    (case aSl => k_is)
    (case iSl => k_is)
    (case lSl => k_is)
    (case cSl => k_is)
    (case kSl => k_is)
    (case aWd => k_is)
    (case iWd => k_is)
    (case lWd => k_is)
    (case cWd => k_is)
    (case kWd => k_is)
    (case aFe => k_is)
    (case iFe => k_is)
    (case lFe => k_is)
    (case cFe => k_is)
    (case kFe => k_is)
    (case aWg => k_is)
    (case iWg => k_is)
    (case lWg => k_is)
    (case cWg => k_is)
    (case kWg => k_is)
    (case aBs => k_is)
    (case iBs => k_is)
    (case lBs => k_is)
    (case cBs => k_is)
    (case kBs => k_is)
    (case aHl => k_is)
    (case iHl => k_is)
    (case lHl => k_is)
    (case cHl => k_is)
    (case kHl => k_is)
    (case aHn => k_is)
    (case iHn => k_is)
    (case lHn => k_is)
    (case cHn => k_is)
    (case kHn => k_is)
    (case aMs => k_is)
    (case iMs => k_is)
    (case lMs => k_is)
    (case cMs => k_is)
    (case kMs => k_is)
    (case aIs => k_is)
    (case iIs => k_is)
    (case lIs => k_is)
    (case cIs => k_is)
    (case kIs => k_is)
    (case aAn => k_is)
    (case iAn => k_is)
    (case lAn => k_is)
    (case cAn => k_is)
    (case kAn => k_is)
    (case aCt => k_is)
    (case iCt => k_is)
    (case lCt => k_is)
    (case cCt => k_is)
    (case kCt => k_is)
    (case aBb => k_is)
    (case iBb => k_is)
    (case lBb => k_is)
    (case cBb => k_is)
    (case kBb => k_is)
    (case aRi => k_is)
    (case iRi => k_is)
    (case lRi => k_is)
    (case cRi => k_is)
    (case kRi => k_is)
    (case aHm => k_is)
    (case iHm => k_is)
    (case lHm => k_is)
    (case cHm => k_is)
    (case kHm => k_is)
    (case aTk => k_is)
    (case iTk => k_is)
    (case lTk => k_is)
    (case cTk => k_is)
    (case kTk => k_is)
    (case aTr => k_is)
    (case iTr => k_is)
    (case lTr => k_is)
    (case cTr => k_is)
    (case kTr => k_is)
    (case aG => k_is)
    (case lG => k_is)
    (case cG => k_is)
    (case kG => k_is)
    (case aS => k_is)
    (case lS => k_is)
    (case cS => k_is)
    (case kS => k_is)
    (case aL => k_is)
    (case lL => k_is)
    (case cL => k_is)
    (case kL => k_is)
    (case aC => k_is)
    (case lC => k_is)
    (case cC => k_is)
    (case kC => k_is)
    (case aA => k_is)
    (case lA => k_is)
    (case cA => k_is)
    (case kA => k_is)
    (case pgG => k_is)
    (case hdG => k_is)
    (case poG => k_is)
    (case saG => k_is)
    (case mkG => k_is)
    (case kcG => k_is)
    (case nG_side => k_is)
    (case nG_signs => k_is)
    (case pgS => k_is)
    (case hdS => k_is)
    (case poS => k_is)
    (case saS => k_is)
    (case mkS => k_is)
    (case kcS => k_is)
    (case nS_i => k_is)
    (case nS_j => k_is)
    (case nS_x => k_is)
    (case nS_signs => k_is)
    (case pgP => k_is)
    (case hdP => k_is)
    (case poP => k_is)
    (case saP => k_is)
    (case mkP => k_is)
    (case kcP => k_is)
    (case nP_sides => k_is)
    (case nP_lines => k_is)
    (case pgR => k_is)
    (case hdR => k_is)
    (case poR => k_is)
    (case saR => k_is)
    (case mkR => k_is)
    (case kcR => k_is)
    (case nR_calls => k_is)
    (case nR_place => k_is)
    (case haG => k_is)
    (case hmG => k_is)
    (case haS => k_is)
    (case hmS => k_is)
    (case hn => k_is)
    (case htk => k_is)
    (case kiGG => kit_is)
    (case kiGS => kit_is)
    (case kiSG => kit_is)
    (case kiSS => kit_is)
    (case b_any => k_is)
    (case b_all => k_is)
    (case b_sorted => k_is)
    (case b_set => k_is)
    (case b_len => k_is)
    (case b_max => k_is)
    (case b_min => k_is)
    (case b_range => k_is)
    (case b_isinstance => k_is)
    (case k_MOST_LETTERS => k_is)
    (case k_MOST_LINES => k_is)
    (case k_MOST_GIVEN_SIGNS => k_is)
    (case k_MOST_SHOWN_SIGNS => k_is)
    (case k_ALL_TRUE => k_is)
    (case k_REFUSED => k_is)
    (case k_FULL => k_is)
    (case k_CLASH => k_is)
    (case k_BEGIN => k_is)
    (case k_LETTER => k_is)
    (case k_GIVEN => k_is)
    (case k_STEP => k_is)
    (case k_LINE => k_is)
    (case k_WIDTH => k_is)
    (case k_EMPTY => k_is)
    (case k_WRONG => k_is)
    (case k_BLAME => k_is)
#print axioms PySem.Challenge.cw_blameline_s01_answers_holds
